import PyProof.Rows.All
import Wide.All
import OpenK.AllK
import Wide.FinOn
import HandS.ForExc
import HandS.Comp
import HandS.More
import HandS.Star
import HandS.Gcd
import HandS.Defaults
import HandS.IsInst
import HandS.Wide
import HandS.ClsMeth
import HandS.Flow
import HandS.Style
import HandS.SortInts
import HandS.OwnEq
import HandS.FStr
import PyProof.Rows.ReprR
import HandS.MakeKw
import HandS.ExcInit
import HandS.ExcIs
import HandS.ExcField
import HandS.Dict
import PyProof.ReprRoads
import KE.KExcIs
import HandS.Lambda
import HandS.WordsExc
import HandS.HeadWalk
import KE.KCallOwn
import OpenK.KMeth
import HandS.RaiseMore
import HandS.Text
import HandS.Zip
import HandS.Conv
import PyProof.ReprLen
import HandS.IterVal
import KE.KOwnIter
import HandS.Iter
import KE.KOpsOwn
import HandS.Property
import HandS.StrMore
import HandS.Strs
import HandS.TupAny
import KE.GoesMore
import KE.GoesEnum
import KE.GoesZip
import PyProof.Rows.ReprOcc
import HandS.Walk
import PyProof.ListStr
import KE.OsRunLaw
import PySem.Challenge.RW_allzooms_k10_texts_of_roundings

set_option Elab.async false
set_option maxRecDepth 100000
set_option maxHeartbeats 4000000
set_option linter.all false
namespace AZ
open PySem L2
def top (i : Nat) : Stmt := PySem.Challenge.pw_allzooms_k10_texts_of_roundings.main.body.getD i (.Pass ⟨0, 0, 0, 0⟩)
abbrev s__law_pen : Stmt := top 24
abbrev s__law_draw : Stmt := top 25
abbrev s__law_pick : Stmt := top 26
abbrev s_is_integer : Stmt := top 13
abbrev s_Ratio___init__ : Stmt := inClass (top 18) 0
abbrev s_Ratio_of : Stmt := inClass (top 18) 1
abbrev s_Ratio___add__ : Stmt := inClass (top 18) 6
abbrev s_Ratio___sub__ : Stmt := inClass (top 18) 8
abbrev s_Ratio___mul__ : Stmt := inClass (top 18) 10
abbrev s_Ratio___lt__ : Stmt := inClass (top 18) 18
abbrev s_Ratio___le__ : Stmt := inClass (top 18) 19
abbrev s_Ratio___gt__ : Stmt := inClass (top 18) 20
abbrev s_Ratio___ge__ : Stmt := inClass (top 18) 21
abbrev s_Ratio___eq__ : Stmt := inClass (top 18) 22
abbrev s_Ratio_floor : Stmt := inClass (top 18) 25
abbrev s_Ratio_ceiling : Stmt := inClass (top 18) 26
abbrev s_is_number : Stmt := top 14
abbrev s_fraction_of : Stmt := top 21
abbrev s_Rounding_drawn_at : Stmt := inClass (top 22) 6
abbrev s_Rounding___call__ : Stmt := inClass (top 22) 7
abbrev s_Rounding_behind : Stmt := inClass (top 22) 9
abbrev s_Rounding___init__ : Stmt := inClass (top 22) 0
abbrev s_Ratio___neg__ : Stmt := inClass (top 18) 12
abbrev s_Ratio___rsub__ : Stmt := inClass (top 18) 9
abbrev s_Rounding___eq__ : Stmt := inClass (top 22) 13
abbrev s_Rounding___invert__ : Stmt := inClass (top 22) 12
abbrev s_Ratio___str__ : Stmt := inClass (top 18) 24
abbrev s_Rounding___str__ : Stmt := inClass (top 22) 14
abbrev s__law_frac : Stmt := top 27
abbrev s__law_kind : Stmt := top 32
abbrev s__law_rounding : Stmt := top 33
abbrev s_BadText___init__ : Stmt := inClass (top 7) 0
abbrev s_split_words : Stmt := top 10
abbrev s_whole_number : Stmt := top 11
abbrev s_told_number : Stmt := top 15
abbrev s_told_rounding : Stmt := top 20
abbrev s_Rounding_read : Stmt := inClass (top 22) 5
abbrev s__law_is_integer : Stmt := top 36
abbrev s__law_threshold : Stmt := top 37
abbrev s__law_less : Stmt := top 30
abbrev s__law_due : Stmt := top 38
abbrev s__law_bent : Stmt := top 39
abbrev s__law_heard : Stmt := top 35
abbrev s_law : Stmt := top 40
end AZ
section
-- what the head leaves keeps its premise: it stands in the goal while the head clears what it does not need
local macro_rules
  | `(tactic| refine $f:ident $args*) => do
    let n := f.getId.eraseMacroScopes
    if n.isStr && n.getString!.startsWith "holds_open" then
      let F := Lean.mkIdent `F
      let hc := Lean.mkIdent `hc
      `(tactic| (refine' $f $args*; (case' $hc:ident => revert $F:ident)))
    else Lean.Macro.throwUnsupported
namespace AZ
open PySem L2
def Wants (K : PySem.W.Frag) (mg : Str → Option Value) : Prop := ∀ C : Prop, (∀ {A__law_pen A__law_draw A__law_pick A_Ratio A_is_integer A_Ratio___init__ A_Ratio_of A_Ratio___add__ A_Ratio___sub__ A_Ratio___mul__ A_Ratio___lt__ A_Ratio___le__ A_Ratio___gt__ A_Ratio___ge__ A_Ratio___eq__ A_Ratio_floor A_Ratio_ceiling A_is_number A_fraction_of A_Rounding_drawn_at A_Rounding A_Ratio___rsub__ A_Rounding___call__ A_Rounding_behind A_Rounding___init__ A_Ratio___neg__ A_Rounding___eq__ A_Rounding___invert__ A_Ratio___str__ A_Rounding___str__ A__law_frac A__law_kind A__law_rounding A_BadText___init__ A_SnapError A_BadText A_split_words A_whole_number A_told_number A_told_rounding A_Rounding_read A__law_is_integer A__law_threshold A__law_less A__law_due A__law_bent A__law_heard A_law A_cc_law A_cp_law : Addr} {cd2_law cd_BadText___init__ cd_Ratio___add__ cd_Ratio___eq__ cd_Ratio___ge__ cd_Ratio___gt__ cd_Ratio___init__ cd_Ratio___le__ cd_Ratio___lt__ cd_Ratio___mul__ cd_Ratio___neg__ cd_Ratio___rsub__ cd_Ratio___str__ cd_Ratio___sub__ cd_Ratio_ceiling cd_Ratio_floor cd_Ratio_of cd_Rounding___call__ cd_Rounding___eq__ cd_Rounding___init__ cd_Rounding___invert__ cd_Rounding___str__ cd_Rounding_behind cd_Rounding_drawn_at cd_Rounding_read cd__law_bent cd__law_draw cd__law_due cd__law_frac cd__law_heard cd__law_is_integer cd__law_kind cd__law_less cd__law_pen cd__law_pick cd__law_rounding cd__law_threshold cd_fraction_of cd_is_integer cd_is_number cd_law cd_split_words cd_told_number cd_told_rounding cd_whole_number ct2_law ct_BadText___init__ ct_Ratio___add__ ct_Ratio___eq__ ct_Ratio___ge__ ct_Ratio___gt__ ct_Ratio___init__ ct_Ratio___le__ ct_Ratio___lt__ ct_Ratio___mul__ ct_Ratio___neg__ ct_Ratio___rsub__ ct_Ratio___str__ ct_Ratio___sub__ ct_Ratio_ceiling ct_Ratio_floor ct_Ratio_of ct_Rounding___call__ ct_Rounding___eq__ ct_Rounding___init__ ct_Rounding___invert__ ct_Rounding___str__ ct_Rounding_behind ct_Rounding_drawn_at ct_Rounding_read ct__law_bent ct__law_draw ct__law_due ct__law_frac ct__law_heard ct__law_is_integer ct__law_kind ct__law_less ct__law_pen ct__law_pick ct__law_rounding ct__law_threshold ct_fraction_of ct_is_integer ct_is_number ct_law ct_split_words ct_told_number ct_told_rounding ct_whole_number dc2_law dc_BadText___init__ dc_Ratio___add__ dc_Ratio___eq__ dc_Ratio___ge__ dc_Ratio___gt__ dc_Ratio___init__ dc_Ratio___le__ dc_Ratio___lt__ dc_Ratio___mul__ dc_Ratio___neg__ dc_Ratio___rsub__ dc_Ratio___str__ dc_Ratio___sub__ dc_Ratio_ceiling dc_Ratio_floor dc_Ratio_of dc_Rounding___call__ dc_Rounding___eq__ dc_Rounding___init__ dc_Rounding___invert__ dc_Rounding___str__ dc_Rounding_behind dc_Rounding_drawn_at dc_Rounding_read dc__law_bent dc__law_draw dc__law_due dc__law_frac dc__law_heard dc__law_is_integer dc__law_kind dc__law_less dc__law_pen dc__law_pick dc__law_rounding dc__law_threshold dc_fraction_of dc_is_integer dc_is_number dc_law dc_split_words dc_told_number dc_told_rounding dc_whole_number kV2_law kV_BadText___init__ kV_Ratio___add__ kV_Ratio___eq__ kV_Ratio___ge__ kV_Ratio___gt__ kV_Ratio___init__ kV_Ratio___le__ kV_Ratio___lt__ kV_Ratio___mul__ kV_Ratio___neg__ kV_Ratio___rsub__ kV_Ratio___str__ kV_Ratio___sub__ kV_Ratio_ceiling kV_Ratio_floor kV_Ratio_of kV_Rounding___call__ kV_Rounding___eq__ kV_Rounding___init__ kV_Rounding___invert__ kV_Rounding___str__ kV_Rounding_behind kV_Rounding_drawn_at kV_Rounding_read kV__law_bent kV__law_draw kV__law_due kV__law_frac kV__law_heard kV__law_is_integer kV__law_kind kV__law_less kV__law_pen kV__law_pick kV__law_rounding kV__law_threshold kV_fraction_of kV_is_integer kV_is_number kV_law kV_split_words kV_told_number kV_told_rounding kV_whole_number oc2_law oc_BadText___init__ oc_Ratio___add__ oc_Ratio___eq__ oc_Ratio___ge__ oc_Ratio___gt__ oc_Ratio___init__ oc_Ratio___le__ oc_Ratio___lt__ oc_Ratio___mul__ oc_Ratio___neg__ oc_Ratio___rsub__ oc_Ratio___str__ oc_Ratio___sub__ oc_Ratio_ceiling oc_Ratio_floor oc_Ratio_of oc_Rounding___call__ oc_Rounding___eq__ oc_Rounding___init__ oc_Rounding___invert__ oc_Rounding___str__ oc_Rounding_behind oc_Rounding_drawn_at oc_Rounding_read oc__law_bent oc__law_draw oc__law_due oc__law_frac oc__law_heard oc__law_is_integer oc__law_kind oc__law_less oc__law_pen oc__law_pick oc__law_rounding oc__law_threshold oc_fraction_of oc_is_integer oc_is_number oc_law oc_split_words oc_told_number oc_told_rounding oc_whole_number pm2_law pm_BadText___init__ pm_Ratio___add__ pm_Ratio___eq__ pm_Ratio___ge__ pm_Ratio___gt__ pm_Ratio___init__ pm_Ratio___le__ pm_Ratio___lt__ pm_Ratio___mul__ pm_Ratio___neg__ pm_Ratio___rsub__ pm_Ratio___str__ pm_Ratio___sub__ pm_Ratio_ceiling pm_Ratio_floor pm_Ratio_of pm_Rounding___call__ pm_Rounding___eq__ pm_Rounding___init__ pm_Rounding___invert__ pm_Rounding___str__ pm_Rounding_behind pm_Rounding_drawn_at pm_Rounding_read pm__law_bent pm__law_draw pm__law_due pm__law_frac pm__law_heard pm__law_is_integer pm__law_kind pm__law_less pm__law_pen pm__law_pick pm__law_rounding pm__law_threshold pm_fraction_of pm_is_integer pm_is_number pm_law pm_split_words pm_told_number pm_told_rounding pm_whole_number tc_Ratio___init__ tc_Rounding___init__ : Value} {an2_law an_BadText___init__ an_Ratio___add__ an_Ratio___eq__ an_Ratio___ge__ an_Ratio___gt__ an_Ratio___init__ an_Ratio___le__ an_Ratio___lt__ an_Ratio___mul__ an_Ratio___neg__ an_Ratio___rsub__ an_Ratio___str__ an_Ratio___sub__ an_Ratio_ceiling an_Ratio_floor an_Ratio_of an_Rounding___call__ an_Rounding___eq__ an_Rounding___init__ an_Rounding___invert__ an_Rounding___str__ an_Rounding_behind an_Rounding_drawn_at an_Rounding_read an__law_bent an__law_draw an__law_due an__law_frac an__law_heard an__law_is_integer an__law_kind an__law_less an__law_pen an__law_pick an__law_rounding an__law_threshold an_fraction_of an_is_integer an_is_number an_law an_split_words an_told_number an_told_rounding an_whole_number od2_law od_BadText___init__ od_Ratio___add__ od_Ratio___eq__ od_Ratio___ge__ od_Ratio___gt__ od_Ratio___init__ od_Ratio___le__ od_Ratio___lt__ od_Ratio___mul__ od_Ratio___neg__ od_Ratio___rsub__ od_Ratio___str__ od_Ratio___sub__ od_Ratio_ceiling od_Ratio_floor od_Ratio_of od_Rounding___call__ od_Rounding___eq__ od_Rounding___init__ od_Rounding___invert__ od_Rounding___str__ od_Rounding_behind od_Rounding_drawn_at od_Rounding_read od__law_bent od__law_draw od__law_due od__law_frac od__law_heard od__law_is_integer od__law_kind od__law_less od__law_pen od__law_pick od__law_rounding od__law_threshold od_fraction_of od_is_integer od_is_number od_law od_split_words od_told_number od_told_rounding od_whole_number td2_law td_Ratio___init__ td_Rounding___init__ : Option Addr} {sl2_law sl_BadText___init__ sl_Ratio___add__ sl_Ratio___eq__ sl_Ratio___ge__ sl_Ratio___gt__ sl_Ratio___init__ sl_Ratio___le__ sl_Ratio___lt__ sl_Ratio___mul__ sl_Ratio___neg__ sl_Ratio___rsub__ sl_Ratio___str__ sl_Ratio___sub__ sl_Ratio_ceiling sl_Ratio_floor sl_Ratio_of sl_Rounding___call__ sl_Rounding___eq__ sl_Rounding___init__ sl_Rounding___invert__ sl_Rounding___str__ sl_Rounding_behind sl_Rounding_drawn_at sl_Rounding_read sl__law_bent sl__law_draw sl__law_due sl__law_frac sl__law_heard sl__law_is_integer sl__law_kind sl__law_less sl__law_pen sl__law_pick sl__law_rounding sl__law_threshold sl_fraction_of sl_is_integer sl_is_number sl_law sl_split_words sl_told_number sl_told_rounding sl_whole_number ts2_law ts_Ratio___init__ ts_Rounding___init__ : Array (Option Value)} {tn_Ratio___init__ tn_Rounding___init__ : Nat} {tk0_Ratio___init__ tk0_mi_MOST_DIGITS : Tok} {dT_Ratio___init__ dT_Rounding___init__ pp_Ratio_of pp_Rounding_read : Addr} {fv_law rr_Ratio_of rr_Rounding_read : List Value} {fo_Ratio_sub ro_Ratio_sub : Option Value} {e0_BadText e0_SnapError : Option Value} {e1_BadText e1_SnapError : Option Value} {e2_BadText e2_SnapError : Option Value} {e3_BadText e3_SnapError : Option Value} {e5_BadText e5_SnapError : Option Value} {eN_BadText eN_SnapError : Addr} {ea_BadText ea_SnapError : Bool} {eb_BadText eb_SnapError : List Value} {ec_BadText ec_SnapError : Option Bool} {ed_BadText ed_SnapError : Option Addr} {en_BadText en_SnapError : List Str} {eq_BadText eq_SnapError : Str} {eu_BadText eu_SnapError : List Value} , (PySem.W.nsIn K mainGlobals "_law_pen" = some (some (.ref A__law_pen))) → (PySem.W.nsIn K mainGlobals "_law_draw" = some (some (.ref A__law_draw))) → (PySem.W.nsIn K mainGlobals "_law_pick" = some (some (.ref A__law_pick))) → (PySem.W.nsIn K mainGlobals "Ratio" = some (some (.ref A_Ratio))) → (PySem.W.nsIn K mainGlobals "is_integer" = some (some (.ref A_is_integer))) → (PySem.W.nsIn K mainGlobals "is_number" = some (some (.ref A_is_number))) → (PySem.W.nsIn K mainGlobals "fraction_of" = some (some (.ref A_fraction_of))) → (PySem.W.nsIn K mainGlobals "Rounding" = some (some (.ref A_Rounding))) → (PySem.W.nsIn K mainGlobals "_law_frac" = some (some (.ref A__law_frac))) → (PySem.W.nsIn K mainGlobals "_law_kind" = some (some (.ref A__law_kind))) → (PySem.W.nsIn K mainGlobals "_law_rounding" = some (some (.ref A__law_rounding))) → (PySem.W.nsIn K mainGlobals "SnapError" = some (some (.ref A_SnapError))) → (PySem.W.nsIn K mainGlobals "BadText" = some (some (.ref A_BadText))) → (PySem.W.nsIn K mainGlobals "split_words" = some (some (.ref A_split_words))) → (PySem.W.nsIn K mainGlobals "whole_number" = some (some (.ref A_whole_number))) → (PySem.W.nsIn K mainGlobals "told_number" = some (some (.ref A_told_number))) → (PySem.W.nsIn K mainGlobals "told_rounding" = some (some (.ref A_told_rounding))) → (PySem.W.nsIn K mainGlobals "_law_is_integer" = some (some (.ref A__law_is_integer))) → (PySem.W.nsIn K mainGlobals "_law_threshold" = some (some (.ref A__law_threshold))) → (PySem.W.nsIn K mainGlobals "_law_less" = some (some (.ref A__law_less))) → (PySem.W.nsIn K mainGlobals "_law_due" = some (some (.ref A__law_due))) → (PySem.W.nsIn K mainGlobals "_law_bent" = some (some (.ref A__law_bent))) → (PySem.W.nsIn K mainGlobals "_law_heard" = some (some (.ref A__law_heard))) → (PySem.W.nsIn K mainGlobals "law" = some (some (.ref A_law))) → (PySem.W.findIn K (.ref A_Ratio) "__init__" = some (some (.ref A_Ratio___init__))) → (PySem.W.findIn K (.ref A_Ratio) "__add__" = some (some (.ref A_Ratio___add__))) → (PySem.W.findIn K (.ref A_Ratio) "__sub__" = some (some (.ref A_Ratio___sub__))) → (PySem.W.findIn K (.ref A_Ratio) "__mul__" = some (some (.ref A_Ratio___mul__))) → (PySem.W.findIn K (.ref A_Ratio) "__lt__" = some (some (.ref A_Ratio___lt__))) → (PySem.W.findIn K (.ref A_Ratio) "__le__" = some (some (.ref A_Ratio___le__))) → (PySem.W.findIn K (.ref A_Ratio) "__gt__" = some (some (.ref A_Ratio___gt__))) → (PySem.W.findIn K (.ref A_Ratio) "__ge__" = some (some (.ref A_Ratio___ge__))) → (PySem.W.findIn K (.ref A_Ratio) "__eq__" = some (some (.ref A_Ratio___eq__))) → (PySem.W.findIn K (.ref A_Ratio) "floor" = some (some (.ref A_Ratio_floor))) → (PySem.W.findIn K (.ref A_Ratio) "ceiling" = some (some (.ref A_Ratio_ceiling))) → (PySem.W.findIn K (.ref A_Rounding) "drawn_at" = some (some (.ref A_Rounding_drawn_at))) → (PySem.W.findIn K (.ref A_Ratio) "__rsub__" = some (some (.ref A_Ratio___rsub__))) → (PySem.W.findIn K (.ref A_Rounding) "__call__" = some (some (.ref A_Rounding___call__))) → (PySem.W.findIn K (.ref A_Rounding) "behind" = some (some (.ref A_Rounding_behind))) → (PySem.W.findIn K (.ref A_Rounding) "__init__" = some (some (.ref A_Rounding___init__))) → (PySem.W.findIn K (.ref A_Ratio) "__neg__" = some (some (.ref A_Ratio___neg__))) → (PySem.W.findIn K (.ref A_Rounding) "__eq__" = some (some (.ref A_Rounding___eq__))) → (PySem.W.findIn K (.ref A_Rounding) "__invert__" = some (some (.ref A_Rounding___invert__))) → (PySem.W.findIn K (.ref A_Ratio) "__str__" = some (some (.ref A_Ratio___str__))) → (PySem.W.findIn K (.ref A_Rounding) "__str__" = some (some (.ref A_Rounding___str__))) → (PySem.W.findIn K (.ref A_BadText) "__init__" = some (some (.ref A_BadText___init__))) → (PySem.W.readsIn K A_Ratio (.type "type") = true) → (PySem.W.readsIn K A_Rounding (.type "type") = true) → (PySem.W.findCls K (.ref A_Ratio) (.type "type") "of" = some (.get (.builtin "staticmethod.__get__") (.ref pp_Ratio_of) .none (.ref A_Ratio))) → (PySem.W.findCls K (.ref A_Rounding) (.type "type") "read" = some (.get (.builtin "classmethod.__get__") (.ref pp_Rounding_read) .none (.ref A_Rounding))) → (PySem.W.recIn K pp_Ratio_of "staticmethod" = some (.ref A_Ratio_of :: rr_Ratio_of)) → (PySem.W.recIn K pp_Rounding_read "classmethod" = some (.ref A_Rounding_read :: rr_Rounding_read)) → (K.lookup A__law_pen = some ⟨oc__law_pen, od__law_pen, .func (PySem.W.fnOf "_law_pen" "_law_pen" (defArgs s__law_pen) (defBody s__law_pen) (defScope s__law_pen) .none kV__law_pen dc__law_pen pm__law_pen an__law_pen cd__law_pen ct__law_pen), sl__law_pen⟩) → (K.lookup A__law_draw = some ⟨oc__law_draw, od__law_draw, .func (PySem.W.fnOf "_law_draw" "_law_draw" (defArgs s__law_draw) (defBody s__law_draw) (defScope s__law_draw) .none kV__law_draw dc__law_draw pm__law_draw an__law_draw cd__law_draw ct__law_draw), sl__law_draw⟩) → (K.lookup A__law_pick = some ⟨oc__law_pick, od__law_pick, .func (PySem.W.fnOf "_law_pick" "_law_pick" (defArgs s__law_pick) (defBody s__law_pick) (defScope s__law_pick) .none kV__law_pick dc__law_pick pm__law_pick an__law_pick cd__law_pick ct__law_pick), sl__law_pick⟩) → (K.lookup A_is_integer = some ⟨oc_is_integer, od_is_integer, .func (PySem.W.fnOf "is_integer" "is_integer" (defArgs s_is_integer) (defBody s_is_integer) (defScope s_is_integer) .none kV_is_integer dc_is_integer pm_is_integer an_is_integer cd_is_integer ct_is_integer), sl_is_integer⟩) → (K.lookup A_Ratio___init__ = some ⟨oc_Ratio___init__, od_Ratio___init__, .func (PySem.W.fnOf "__init__" "Ratio.__init__" (defArgs s_Ratio___init__) (defBody s_Ratio___init__) (defScope s_Ratio___init__) (.ref dT_Ratio___init__) kV_Ratio___init__ dc_Ratio___init__ pm_Ratio___init__ an_Ratio___init__ cd_Ratio___init__ ct_Ratio___init__), sl_Ratio___init__⟩) → (K.lookup A_Ratio_of = some ⟨oc_Ratio_of, od_Ratio_of, .func (PySem.W.fnOf "of" "Ratio.of" (defArgs s_Ratio_of) (defBody s_Ratio_of) (defScope s_Ratio_of) .none kV_Ratio_of dc_Ratio_of pm_Ratio_of an_Ratio_of cd_Ratio_of ct_Ratio_of), sl_Ratio_of⟩) → (K.lookup A_Ratio___add__ = some ⟨oc_Ratio___add__, od_Ratio___add__, .func (PySem.W.fnOf "__add__" "Ratio.__add__" (defArgs s_Ratio___add__) (defBody s_Ratio___add__) (defScope s_Ratio___add__) .none kV_Ratio___add__ dc_Ratio___add__ pm_Ratio___add__ an_Ratio___add__ cd_Ratio___add__ ct_Ratio___add__), sl_Ratio___add__⟩) → (K.lookup A_Ratio___sub__ = some ⟨oc_Ratio___sub__, od_Ratio___sub__, .func (PySem.W.fnOf "__sub__" "Ratio.__sub__" (defArgs s_Ratio___sub__) (defBody s_Ratio___sub__) (defScope s_Ratio___sub__) .none kV_Ratio___sub__ dc_Ratio___sub__ pm_Ratio___sub__ an_Ratio___sub__ cd_Ratio___sub__ ct_Ratio___sub__), sl_Ratio___sub__⟩) → (K.lookup A_Ratio___mul__ = some ⟨oc_Ratio___mul__, od_Ratio___mul__, .func (PySem.W.fnOf "__mul__" "Ratio.__mul__" (defArgs s_Ratio___mul__) (defBody s_Ratio___mul__) (defScope s_Ratio___mul__) .none kV_Ratio___mul__ dc_Ratio___mul__ pm_Ratio___mul__ an_Ratio___mul__ cd_Ratio___mul__ ct_Ratio___mul__), sl_Ratio___mul__⟩) → (K.lookup A_Ratio___lt__ = some ⟨oc_Ratio___lt__, od_Ratio___lt__, .func (PySem.W.fnOf "__lt__" "Ratio.__lt__" (defArgs s_Ratio___lt__) (defBody s_Ratio___lt__) (defScope s_Ratio___lt__) .none kV_Ratio___lt__ dc_Ratio___lt__ pm_Ratio___lt__ an_Ratio___lt__ cd_Ratio___lt__ ct_Ratio___lt__), sl_Ratio___lt__⟩) → (K.lookup A_Ratio___le__ = some ⟨oc_Ratio___le__, od_Ratio___le__, .func (PySem.W.fnOf "__le__" "Ratio.__le__" (defArgs s_Ratio___le__) (defBody s_Ratio___le__) (defScope s_Ratio___le__) .none kV_Ratio___le__ dc_Ratio___le__ pm_Ratio___le__ an_Ratio___le__ cd_Ratio___le__ ct_Ratio___le__), sl_Ratio___le__⟩) → (K.lookup A_Ratio___gt__ = some ⟨oc_Ratio___gt__, od_Ratio___gt__, .func (PySem.W.fnOf "__gt__" "Ratio.__gt__" (defArgs s_Ratio___gt__) (defBody s_Ratio___gt__) (defScope s_Ratio___gt__) .none kV_Ratio___gt__ dc_Ratio___gt__ pm_Ratio___gt__ an_Ratio___gt__ cd_Ratio___gt__ ct_Ratio___gt__), sl_Ratio___gt__⟩) → (K.lookup A_Ratio___ge__ = some ⟨oc_Ratio___ge__, od_Ratio___ge__, .func (PySem.W.fnOf "__ge__" "Ratio.__ge__" (defArgs s_Ratio___ge__) (defBody s_Ratio___ge__) (defScope s_Ratio___ge__) .none kV_Ratio___ge__ dc_Ratio___ge__ pm_Ratio___ge__ an_Ratio___ge__ cd_Ratio___ge__ ct_Ratio___ge__), sl_Ratio___ge__⟩) → (K.lookup A_Ratio___eq__ = some ⟨oc_Ratio___eq__, od_Ratio___eq__, .func (PySem.W.fnOf "__eq__" "Ratio.__eq__" (defArgs s_Ratio___eq__) (defBody s_Ratio___eq__) (defScope s_Ratio___eq__) .none kV_Ratio___eq__ dc_Ratio___eq__ pm_Ratio___eq__ an_Ratio___eq__ cd_Ratio___eq__ ct_Ratio___eq__), sl_Ratio___eq__⟩) → (K.lookup A_Ratio_floor = some ⟨oc_Ratio_floor, od_Ratio_floor, .func (PySem.W.fnOf "floor" "Ratio.floor" (defArgs s_Ratio_floor) (defBody s_Ratio_floor) (defScope s_Ratio_floor) .none kV_Ratio_floor dc_Ratio_floor pm_Ratio_floor an_Ratio_floor cd_Ratio_floor ct_Ratio_floor), sl_Ratio_floor⟩) → (K.lookup A_Ratio_ceiling = some ⟨oc_Ratio_ceiling, od_Ratio_ceiling, .func (PySem.W.fnOf "ceiling" "Ratio.ceiling" (defArgs s_Ratio_ceiling) (defBody s_Ratio_ceiling) (defScope s_Ratio_ceiling) .none kV_Ratio_ceiling dc_Ratio_ceiling pm_Ratio_ceiling an_Ratio_ceiling cd_Ratio_ceiling ct_Ratio_ceiling), sl_Ratio_ceiling⟩) → (K.lookup A_is_number = some ⟨oc_is_number, od_is_number, .func (PySem.W.fnOf "is_number" "is_number" (defArgs s_is_number) (defBody s_is_number) (defScope s_is_number) .none kV_is_number dc_is_number pm_is_number an_is_number cd_is_number ct_is_number), sl_is_number⟩) → (K.lookup A_fraction_of = some ⟨oc_fraction_of, od_fraction_of, .func (PySem.W.fnOf "fraction_of" "fraction_of" (defArgs s_fraction_of) (defBody s_fraction_of) (defScope s_fraction_of) .none kV_fraction_of dc_fraction_of pm_fraction_of an_fraction_of cd_fraction_of ct_fraction_of), sl_fraction_of⟩) → (K.lookup A_Rounding_drawn_at = some ⟨oc_Rounding_drawn_at, od_Rounding_drawn_at, .func (PySem.W.fnOf "drawn_at" "Rounding.drawn_at" (defArgs s_Rounding_drawn_at) (defBody s_Rounding_drawn_at) (defScope s_Rounding_drawn_at) .none kV_Rounding_drawn_at dc_Rounding_drawn_at pm_Rounding_drawn_at an_Rounding_drawn_at cd_Rounding_drawn_at ct_Rounding_drawn_at), sl_Rounding_drawn_at⟩) → (K.lookup A_Rounding___call__ = some ⟨oc_Rounding___call__, od_Rounding___call__, .func (PySem.W.fnOf "__call__" "Rounding.__call__" (defArgs s_Rounding___call__) (defBody s_Rounding___call__) (defScope s_Rounding___call__) .none kV_Rounding___call__ dc_Rounding___call__ pm_Rounding___call__ an_Rounding___call__ cd_Rounding___call__ ct_Rounding___call__), sl_Rounding___call__⟩) → (K.lookup A_Rounding_behind = some ⟨oc_Rounding_behind, od_Rounding_behind, .func (PySem.W.fnOf "behind" "Rounding.behind" (defArgs s_Rounding_behind) (defBody s_Rounding_behind) (defScope s_Rounding_behind) .none kV_Rounding_behind dc_Rounding_behind pm_Rounding_behind an_Rounding_behind cd_Rounding_behind ct_Rounding_behind), sl_Rounding_behind⟩) → (K.lookup A_Rounding___init__ = some ⟨oc_Rounding___init__, od_Rounding___init__, .func (PySem.W.fnOf "__init__" "Rounding.__init__" (defArgs s_Rounding___init__) (defBody s_Rounding___init__) (defScope s_Rounding___init__) (.ref dT_Rounding___init__) kV_Rounding___init__ dc_Rounding___init__ pm_Rounding___init__ an_Rounding___init__ cd_Rounding___init__ ct_Rounding___init__), sl_Rounding___init__⟩) → (K.lookup A_Ratio___neg__ = some ⟨oc_Ratio___neg__, od_Ratio___neg__, .func (PySem.W.fnOf "__neg__" "Ratio.__neg__" (defArgs s_Ratio___neg__) (defBody s_Ratio___neg__) (defScope s_Ratio___neg__) .none kV_Ratio___neg__ dc_Ratio___neg__ pm_Ratio___neg__ an_Ratio___neg__ cd_Ratio___neg__ ct_Ratio___neg__), sl_Ratio___neg__⟩) → (K.lookup A_Ratio___rsub__ = some ⟨oc_Ratio___rsub__, od_Ratio___rsub__, .func (PySem.W.fnOf "__rsub__" "Ratio.__rsub__" (defArgs s_Ratio___rsub__) (defBody s_Ratio___rsub__) (defScope s_Ratio___rsub__) .none kV_Ratio___rsub__ dc_Ratio___rsub__ pm_Ratio___rsub__ an_Ratio___rsub__ cd_Ratio___rsub__ ct_Ratio___rsub__), sl_Ratio___rsub__⟩) → (K.lookup A_Rounding___eq__ = some ⟨oc_Rounding___eq__, od_Rounding___eq__, .func (PySem.W.fnOf "__eq__" "Rounding.__eq__" (defArgs s_Rounding___eq__) (defBody s_Rounding___eq__) (defScope s_Rounding___eq__) .none kV_Rounding___eq__ dc_Rounding___eq__ pm_Rounding___eq__ an_Rounding___eq__ cd_Rounding___eq__ ct_Rounding___eq__), sl_Rounding___eq__⟩) → (K.lookup A_Rounding___invert__ = some ⟨oc_Rounding___invert__, od_Rounding___invert__, .func (PySem.W.fnOf "__invert__" "Rounding.__invert__" (defArgs s_Rounding___invert__) (defBody s_Rounding___invert__) (defScope s_Rounding___invert__) .none kV_Rounding___invert__ dc_Rounding___invert__ pm_Rounding___invert__ an_Rounding___invert__ cd_Rounding___invert__ ct_Rounding___invert__), sl_Rounding___invert__⟩) → (K.lookup A_Ratio___str__ = some ⟨oc_Ratio___str__, od_Ratio___str__, .func (PySem.W.fnOf "__str__" "Ratio.__str__" (defArgs s_Ratio___str__) (defBody s_Ratio___str__) (defScope s_Ratio___str__) .none kV_Ratio___str__ dc_Ratio___str__ pm_Ratio___str__ an_Ratio___str__ cd_Ratio___str__ ct_Ratio___str__), sl_Ratio___str__⟩) → (K.lookup A_Rounding___str__ = some ⟨oc_Rounding___str__, od_Rounding___str__, .func (PySem.W.fnOf "__str__" "Rounding.__str__" (defArgs s_Rounding___str__) (defBody s_Rounding___str__) (defScope s_Rounding___str__) .none kV_Rounding___str__ dc_Rounding___str__ pm_Rounding___str__ an_Rounding___str__ cd_Rounding___str__ ct_Rounding___str__), sl_Rounding___str__⟩) → (K.lookup A__law_frac = some ⟨oc__law_frac, od__law_frac, .func (PySem.W.fnOf "_law_frac" "_law_frac" (defArgs s__law_frac) (defBody s__law_frac) (defScope s__law_frac) .none kV__law_frac dc__law_frac pm__law_frac an__law_frac cd__law_frac ct__law_frac), sl__law_frac⟩) → (K.lookup A__law_kind = some ⟨oc__law_kind, od__law_kind, .func (PySem.W.fnOf "_law_kind" "_law_kind" (defArgs s__law_kind) (defBody s__law_kind) (defScope s__law_kind) .none kV__law_kind dc__law_kind pm__law_kind an__law_kind cd__law_kind ct__law_kind), sl__law_kind⟩) → (K.lookup A__law_rounding = some ⟨oc__law_rounding, od__law_rounding, .func (PySem.W.fnOf "_law_rounding" "_law_rounding" (defArgs s__law_rounding) (defBody s__law_rounding) (defScope s__law_rounding) .none kV__law_rounding dc__law_rounding pm__law_rounding an__law_rounding cd__law_rounding ct__law_rounding), sl__law_rounding⟩) → (K.lookup A_BadText___init__ = some ⟨oc_BadText___init__, od_BadText___init__, .func (PySem.W.fnOf "__init__" "BadText.__init__" (defArgs s_BadText___init__) (defBody s_BadText___init__) (defScope s_BadText___init__) .none kV_BadText___init__ dc_BadText___init__ pm_BadText___init__ an_BadText___init__ cd_BadText___init__ ct_BadText___init__), sl_BadText___init__⟩) → (K.lookup A_split_words = some ⟨oc_split_words, od_split_words, .func (PySem.W.fnOf "split_words" "split_words" (defArgs s_split_words) (defBody s_split_words) (defScope s_split_words) .none kV_split_words dc_split_words pm_split_words an_split_words cd_split_words ct_split_words), sl_split_words⟩) → (K.lookup A_whole_number = some ⟨oc_whole_number, od_whole_number, .func (PySem.W.fnOf "whole_number" "whole_number" (defArgs s_whole_number) (defBody s_whole_number) (defScope s_whole_number) .none kV_whole_number dc_whole_number pm_whole_number an_whole_number cd_whole_number ct_whole_number), sl_whole_number⟩) → (K.lookup A_told_number = some ⟨oc_told_number, od_told_number, .func (PySem.W.fnOf "told_number" "told_number" (defArgs s_told_number) (defBody s_told_number) (defScope s_told_number) .none kV_told_number dc_told_number pm_told_number an_told_number cd_told_number ct_told_number), sl_told_number⟩) → (K.lookup A_told_rounding = some ⟨oc_told_rounding, od_told_rounding, .func (PySem.W.fnOf "told_rounding" "told_rounding" (defArgs s_told_rounding) (defBody s_told_rounding) (defScope s_told_rounding) .none kV_told_rounding dc_told_rounding pm_told_rounding an_told_rounding cd_told_rounding ct_told_rounding), sl_told_rounding⟩) → (K.lookup A_Rounding_read = some ⟨oc_Rounding_read, od_Rounding_read, .func (PySem.W.fnOf "read" "Rounding.read" (defArgs s_Rounding_read) (defBody s_Rounding_read) (defScope s_Rounding_read) .none kV_Rounding_read dc_Rounding_read pm_Rounding_read an_Rounding_read cd_Rounding_read ct_Rounding_read), sl_Rounding_read⟩) → (K.lookup A__law_is_integer = some ⟨oc__law_is_integer, od__law_is_integer, .func (PySem.W.fnOf "_law_is_integer" "_law_is_integer" (defArgs s__law_is_integer) (defBody s__law_is_integer) (defScope s__law_is_integer) .none kV__law_is_integer dc__law_is_integer pm__law_is_integer an__law_is_integer cd__law_is_integer ct__law_is_integer), sl__law_is_integer⟩) → (K.lookup A__law_threshold = some ⟨oc__law_threshold, od__law_threshold, .func (PySem.W.fnOf "_law_threshold" "_law_threshold" (defArgs s__law_threshold) (defBody s__law_threshold) (defScope s__law_threshold) .none kV__law_threshold dc__law_threshold pm__law_threshold an__law_threshold cd__law_threshold ct__law_threshold), sl__law_threshold⟩) → (K.lookup A__law_less = some ⟨oc__law_less, od__law_less, .func (PySem.W.fnOf "_law_less" "_law_less" (defArgs s__law_less) (defBody s__law_less) (defScope s__law_less) .none kV__law_less dc__law_less pm__law_less an__law_less cd__law_less ct__law_less), sl__law_less⟩) → (K.lookup A__law_due = some ⟨oc__law_due, od__law_due, .func (PySem.W.fnOf "_law_due" "_law_due" (defArgs s__law_due) (defBody s__law_due) (defScope s__law_due) .none kV__law_due dc__law_due pm__law_due an__law_due cd__law_due ct__law_due), sl__law_due⟩) → (K.lookup A__law_bent = some ⟨oc__law_bent, od__law_bent, .func (PySem.W.fnOf "_law_bent" "_law_bent" (defArgs s__law_bent) (defBody s__law_bent) (defScope s__law_bent) .none kV__law_bent dc__law_bent pm__law_bent an__law_bent cd__law_bent ct__law_bent), sl__law_bent⟩) → (K.lookup A__law_heard = some ⟨oc__law_heard, od__law_heard, .func (PySem.W.fnOf "_law_heard" "_law_heard" (defArgs s__law_heard) (defBody s__law_heard) (defScope s__law_heard) .none kV__law_heard dc__law_heard pm__law_heard an__law_heard cd__law_heard ct__law_heard), sl__law_heard⟩) → (K.lookup A_law = some ⟨oc_law, od_law, .func (PySem.W.fnOf "law" "law" (defArgs s_law) (defBody s_law) (defScope s_law) .none kV_law dc_law pm_law an_law cd_law ct_law), sl_law⟩) → (PySem.W.codeIn K cd__law_pen "_law_pen" = true) → (PySem.W.keepIn K (.ref A__law_pen) = true) → (PySem.W.nsIn K mainGlobals "list" = some none) → (PySem.W.codeIn K cd__law_draw "_law_draw" = true) → (PySem.W.keepIn K (.ref A__law_draw) = true) → (PySem.W.nsIn K mainGlobals "int" = some none) → (PySem.W.nsIn K mainGlobals "len" = some none) → (PySem.W.nsIn K mainGlobals "abs" = some none) → (PySem.W.codeIn K cd__law_pick "_law_pick" = true) → (PySem.W.keepIn K (.ref A__law_pick) = true) → (PySem.W.findIn K (.ref A_Ratio) "__class__" = some (some (.builtin "object.__class__"))) → (PySem.W.specialIn K (.builtin "object.__class__") "__get__" = some (some (.builtin "getset_descriptor.__get__"))) → (PySem.W.takesIn K (.builtin "object.__class__") = some true) → (PySem.W.mroIn K A_Ratio (.type "object") = some true) → (PySem.W.plainGet K A_Ratio Str.empty = true) → (PySem.W.hasDictIn K A_Ratio = true) → (PySem.W.plainOver K A_Ratio = true) → (PySem.W.findIn K (.ref A_Ratio) "__setattr__" = some (some (.builtin "object.__setattr__"))) → (PySem.W.subIn K (.ref A_Ratio) (.type "int") = some false) → (PySem.W.subIn K (.ref A_Ratio) (.type "bool") = some false) → (PySem.W.codeIn K cd_is_integer "is_integer" = true) → (PySem.W.keepIn K (.ref A_is_integer) = true) → (PySem.W.nsIn K mainGlobals "isinstance" = some none) → (PySem.W.nsIn K mainGlobals "bool" = some none) → (PySem.W.codeIn K cd_Ratio___init__ "Ratio.__init__" = true) → (PySem.W.keepIn K (.ref A_Ratio___init__) = true) → (K.lookup dT_Ratio___init__ = some ⟨tc_Ratio___init__, td_Ratio___init__, .seq (List.toArray [.int 1 tk0_Ratio___init__]) tn_Ratio___init__, ts_Ratio___init__⟩) → (PySem.W.nsIn K mainGlobals "gcd" = some (some (.builtin "math.gcd"))) → (PySem.W.findIn K (.ref A_Ratio) "over" = some none) → (PySem.W.findIn K (.ref A_Ratio) "under" = some none) → (PySem.W.codeIn K cd_Ratio_of "Ratio.of" = true) → (PySem.W.keepIn K (.ref A_Ratio_of) = true) → (PySem.W.makesIn K A_Ratio = true) → (PySem.W.isFn K (.ref A_Ratio___init__) = true) → (PySem.W.keepIn K (.ref A_Ratio) = true) → (PySem.W.isClsIn K A_Ratio = true) → (PySem.W.typeIn K (.ref A_Ratio) = some (.type "type")) → (PySem.W.subIn K (.type "int") (.ref A_Ratio) = some false) → (PySem.W.codeIn K cd_Ratio___add__ "Ratio.__add__" = true) → (PySem.W.keepIn K (.ref A_Ratio___add__) = true) → (PySem.W.specialIn K (.ref A_Ratio) "__getattribute__" = some (some (.builtin "type.__getattribute__"))) → (PySem.W.codeIn K cd_Ratio___sub__ "Ratio.__sub__" = true) → (PySem.W.keepIn K (.ref A_Ratio___sub__) = true) → (PySem.W.codeIn K cd_Ratio___mul__ "Ratio.__mul__" = true) → (PySem.W.keepIn K (.ref A_Ratio___mul__) = true) → (PySem.W.codeIn K cd_Ratio___lt__ "Ratio.__lt__" = true) → (PySem.W.keepIn K (.ref A_Ratio___lt__) = true) → (PySem.W.codeIn K cd_Ratio___le__ "Ratio.__le__" = true) → (PySem.W.keepIn K (.ref A_Ratio___le__) = true) → (PySem.W.codeIn K cd_Ratio___gt__ "Ratio.__gt__" = true) → (PySem.W.keepIn K (.ref A_Ratio___gt__) = true) → (PySem.W.codeIn K cd_Ratio___ge__ "Ratio.__ge__" = true) → (PySem.W.keepIn K (.ref A_Ratio___ge__) = true) → (PySem.W.codeIn K cd_Ratio___eq__ "Ratio.__eq__" = true) → (PySem.W.keepIn K (.ref A_Ratio___eq__) = true) → (PySem.W.codeIn K cd_Ratio_floor "Ratio.floor" = true) → (PySem.W.keepIn K (.ref A_Ratio_floor) = true) → (PySem.W.codeIn K cd_Ratio_ceiling "Ratio.ceiling" = true) → (PySem.W.keepIn K (.ref A_Ratio_ceiling) = true) → (PySem.W.codeIn K cd_is_number "is_number" = true) → (PySem.W.keepIn K (.ref A_is_number) = true) → (PySem.W.codeIn K cd_fraction_of "fraction_of" = true) → (PySem.W.keepIn K (.ref A_fraction_of) = true) → (PySem.W.codeIn K cd_Rounding_drawn_at "Rounding.drawn_at" = true) → (PySem.W.keepIn K (.ref A_Rounding_drawn_at) = true) → (PySem.W.isFn K (.ref A_Ratio_floor) = true) → (PySem.W.isFn K (.ref A_Ratio_ceiling) = true) → (PySem.W.plainGet K A_Rounding Str.empty = true) → (PySem.W.hasDictIn K A_Rounding = true) → (PySem.W.plainOver K A_Rounding = true) → (PySem.W.findIn K (.ref A_Rounding) "__setattr__" = some (some (.builtin "object.__setattr__"))) → (PySem.W.findIn K (.ref A_Rounding) "threshold" = some none) → (PySem.W.isFn K (.ref A_Ratio___sub__) = true) → (PySem.W.selfFirst K A_Ratio = true) → (PySem.W.findIn K (.type "int") "__sub__" = some fo_Ratio_sub) → (PySem.W.findIn K (.type "int") "__rsub__" = some ro_Ratio_sub) → (PySem.W.findIn K (.ref A_Rounding) "is_from" = some none) → (PySem.W.codeIn K cd_Rounding___call__ "Rounding.__call__" = true) → (PySem.W.keepIn K (.ref A_Rounding___call__) = true) → (PySem.W.isFn K (.ref A_Rounding_drawn_at) = true) → (PySem.W.codeIn K cd_Rounding_behind "Rounding.behind" = true) → (PySem.W.keepIn K (.ref A_Rounding_behind) = true) → (PySem.W.codeIn K cd_Rounding___init__ "Rounding.__init__" = true) → (PySem.W.keepIn K (.ref A_Rounding___init__) = true) → (K.lookup dT_Rounding___init__ = some ⟨tc_Rounding___init__, td_Rounding___init__, .seq (List.toArray [.bool true]) tn_Rounding___init__, ts_Rounding___init__⟩) → (PySem.W.isFn K (.ref A_Ratio___lt__) = true) → (PySem.W.notFirst K A_Ratio (.type "int") = true) → (PySem.W.isFn K (.ref A_Ratio___gt__) = true) → (PySem.W.isFn K (.ref A_Ratio___eq__) = true) → (PySem.W.codeIn K cd_Ratio___neg__ "Ratio.__neg__" = true) → (PySem.W.keepIn K (.ref A_Ratio___neg__) = true) → (PySem.W.codeIn K cd_Ratio___rsub__ "Ratio.__rsub__" = true) → (PySem.W.keepIn K (.ref A_Ratio___rsub__) = true) → (PySem.W.codeIn K cd_Rounding___eq__ "Rounding.__eq__" = true) → (PySem.W.keepIn K (.ref A_Rounding___eq__) = true) → (PySem.W.findIn K (.ref A_Rounding) "__class__" = some (some (.builtin "object.__class__"))) → (PySem.W.mroIn K A_Rounding (.type "object") = some true) → (PySem.W.codeIn K cd_Rounding___invert__ "Rounding.__invert__" = true) → (PySem.W.keepIn K (.ref A_Rounding___invert__) = true) → (PySem.W.makesIn K A_Rounding = true) → (PySem.W.isFn K (.ref A_Rounding___init__) = true) → (PySem.W.keepIn K (.ref A_Rounding) = true) → (PySem.W.isFn K (.ref A_Ratio___rsub__) = true) → (PySem.W.codeIn K cd_Ratio___str__ "Ratio.__str__" = true) → (PySem.W.keepIn K (.ref A_Ratio___str__) = true) → (PySem.W.nsIn K mainGlobals "str" = some none) → (PySem.W.codeIn K cd_Rounding___str__ "Rounding.__str__" = true) → (PySem.W.keepIn K (.ref A_Rounding___str__) = true) → (PySem.W.isFn K (.ref A_Ratio___str__) = true) → (PySem.W.findIn K (.ref A_Ratio) "__format__" = some (some (.builtin "object.__format__"))) → (PySem.W.codeIn K cd__law_frac "_law_frac" = true) → (PySem.W.keepIn K (.ref A__law_frac) = true) → (PySem.W.codeIn K cd__law_kind "_law_kind" = true) → (PySem.W.keepIn K (.ref A__law_kind) = true) → (PySem.W.codeIn K cd__law_rounding "_law_rounding" = true) → (PySem.W.keepIn K (.ref A__law_rounding) = true) → (PySem.W.codeIn K cd_BadText___init__ "BadText.__init__" = true) → (PySem.W.keepIn K (.ref A_BadText___init__) = true) → (PySem.W.readsIn K A_SnapError (.type "type") = true) → (PySem.W.specialIn K (.ref A_SnapError) "__getattribute__" = some (some (.builtin "type.__getattribute__"))) → (PySem.W.findCls K (.ref A_SnapError) (.type "type") "__init__" = some (.val (.builtin "ValueError.__init__"))) → (K.lookup A_BadText = some (excClassObj "BadText" eq_BadText A_BadText eN_BadText eb_BadText (.ref A_SnapError :: PySem.HandSPX.veTail) true en_BadText eu_BadText ea_BadText ec_BadText ed_BadText e0_BadText e1_BadText e2_BadText e3_BadText e5_BadText "ValueError.__new__")) → (PySem.W.findIn K (.ref A_BadText) "__setattr__" = some (some (.builtin "object.__setattr__"))) → (PySem.W.findIn K (.ref A_BadText) "__getattribute__" = some (some (.builtin "BaseException.__getattribute__"))) → (PySem.W.findIn K (.ref A_BadText) "__getattr__" = some none) → (PySem.W.findIn K (.ref A_BadText) "__class__" = some (some (.builtin "object.__class__"))) → (PySem.W.typeIn K (.ref A_BadText___init__) = some (.type "function")) → (PySem.W.keepIn K (.ref A_BadText) = true) → (PySem.W.findIn K (.ref A_BadText) "line" = some none) → (PySem.W.findIn K (.ref A_BadText) "word" = some none) → (PySem.W.codeIn K cd_split_words "split_words" = true) → (PySem.W.keepIn K (.ref A_split_words) = true) → (PySem.W.codeIn K cd_whole_number "whole_number" = true) → (PySem.W.keepIn K (.ref A_whole_number) = true) → (PySem.W.nsIn K mainGlobals "MOST_DIGITS" = some (some (.int 4000 tk0_mi_MOST_DIGITS))) → (PySem.W.codeIn K cd_told_number "told_number" = true) → (PySem.W.keepIn K (.ref A_told_number) = true) → (PySem.W.codeIn K cd_told_rounding "told_rounding" = true) → (PySem.W.keepIn K (.ref A_told_rounding) = true) → (PySem.W.codeIn K cd_Rounding_read "Rounding.read" = true) → (PySem.W.keepIn K (.ref A_Rounding_read) = true) → (PySem.W.codeIn K cd__law_is_integer "_law_is_integer" = true) → (PySem.W.keepIn K (.ref A__law_is_integer) = true) → (PySem.W.codeIn K cd__law_threshold "_law_threshold" = true) → (PySem.W.keepIn K (.ref A__law_threshold) = true) → (PySem.W.codeIn K cd__law_less "_law_less" = true) → (PySem.W.keepIn K (.ref A__law_less) = true) → (PySem.W.codeIn K cd__law_due "_law_due" = true) → (PySem.W.keepIn K (.ref A__law_due) = true) → (PySem.W.codeIn K cd__law_bent "_law_bent" = true) → (PySem.W.keepIn K (.ref A__law_bent) = true) → (PySem.W.codeIn K cd__law_heard "_law_heard" = true) → (PySem.W.keepIn K (.ref A__law_heard) = true) → (K.lookup A_SnapError = some (excClassObj "SnapError" eq_SnapError A_SnapError eN_SnapError eb_SnapError PySem.HandSPX.veTail true en_SnapError eu_SnapError ea_SnapError ec_SnapError ed_SnapError e0_SnapError e1_SnapError e2_SnapError e3_SnapError e5_SnapError "ValueError.__new__")) → (PySem.W.subIn K (.ref A_Rounding) (.type "str") = some false) → (K.lookup A_law = some ⟨oc2_law, od2_law, .func (PySem.W.fnOf "law" "law" (defArgs s_law) (defBody s_law) (defScope s_law) .none kV2_law dc2_law pm2_law an2_law (.ref A_cc_law) ct2_law), sl2_law⟩) → (K.lookup A_cc_law = some ⟨cd2_law, td2_law, .fields (List.toArray fv_law), ts2_law⟩) → (fv_law[11]? = some (.ref A_cp_law)) → (K.lookup A_cp_law = none) → (PySem.W.codeHdIn K A_cc_law A_cp_law = true) → (PySem.W.isFn K (.ref A_Rounding___eq__) = true) → (PySem.W.notFirst K A_Rounding (.type "int") = true) → (PySem.W.codeIn K cd_law "law" = true) → (PySem.W.keepIn K (.ref A_law) = true) → (PySem.W.nsIn K mainGlobals "range" = some none) → (PySem.W.specialIn K (.ref A_Rounding) "__getattribute__" = some (some (.builtin "type.__getattribute__"))) → (PySem.W.fnIn K A_Rounding_read = true) → (PySem.W.isFn K (.ref A_Rounding___str__) = true) → (PySem.W.findIn K (.ref A_Rounding) "__format__" = some (some (.builtin "object.__format__"))) → (PySem.W.findIn K (.ref A_Rounding) "__ne__" = some (some (.builtin "object.__ne__"))) → C) → C
open PySem PySem.W PyProof.Rows in
set_option maxRecDepth 100000 in
set_option maxHeartbeats 0 in
theorem pre (F : ∀ {q : Program} {loose : List Str} {XP : (Str → Option Value) → Heap → Prop} {YP : World → Heap → Prop} {r : DefRec} {K : Params → PySem.W.Frag}, r.params.defaults = [] → r.name = "law" → (∀ (w : World) (h : Heap), YP w h → (K w.params).In h) → ((PyProof.Rows.recsOf q).any fun e => e.name == "law") = true → (∀ (w : World) (mg : Str → Option Value) (h : Heap), (K w.params).In h → h.Ns mainGlobals mg → Wants (K w.params) mg) →
    PySem.W.WalkO q loose XP YP (PySem.Challenge.rw_allzooms_k10_texts_of_roundings).row.toRowW r [] (fun f vs => PySem.call f vs)) : PySem.Challenge.rw_allzooms_k10_texts_of_roundings.Holds := by
  w_on; o_law; k_headL; (case hw => w_witness2)
  intro F
  k_fill
  refine F rfl rfl (fun w h Y => PySem.W.kIn_of Y) (by decide +kernel) ?_
  as_aux_lemma =>
    intro w mg h KX G C k
    refine' k ?L__law_pen ?L__law_draw ?L__law_pick ?L_Ratio ?L_is_integer ?L_is_number ?L_fraction_of ?L_Rounding ?L__law_frac ?L__law_kind ?L__law_rounding ?L_SnapError ?L_BadText ?L_split_words ?L_whole_number ?L_told_number ?L_told_rounding ?L__law_is_integer ?L__law_threshold ?L__law_less ?L__law_due ?L__law_bent ?L__law_heard ?L_law ?L_Ratio___init__ ?L_Ratio___add__ ?L_Ratio___sub__ ?L_Ratio___mul__ ?L_Ratio___lt__ ?L_Ratio___le__ ?L_Ratio___gt__ ?L_Ratio___ge__ ?L_Ratio___eq__ ?L_Ratio_floor ?L_Ratio_ceiling ?L_Rounding_drawn_at ?L_Ratio___rsub__ ?L_Rounding___call__ ?L_Rounding_behind ?L_Rounding___init__ ?L_Ratio___neg__ ?L_Rounding___eq__ ?L_Rounding___invert__ ?L_Ratio___str__ ?L_Rounding___str__ ?L_BadText___init__ ?s_Ratio_of_r ?km_Rounding_read_r ?s_Ratio_of_a ?km_Rounding_read_a ?s_Ratio_of_q ?km_Rounding_read_q ?F__law_pen_l ?F__law_draw_l ?F__law_pick_l ?F_is_integer_l ?D_Ratio___init___l ?F_Ratio_of_l ?F_Ratio___add___l ?F_Ratio___sub___l ?F_Ratio___mul___l ?F_Ratio___lt___l ?F_Ratio___le___l ?F_Ratio___gt___l ?F_Ratio___ge___l ?F_Ratio___eq___l ?F_Ratio_floor_l ?F_Ratio_ceiling_l ?F_is_number_l ?F_fraction_of_l ?F_Rounding_drawn_at_l ?F_Rounding___call___l ?F_Rounding_behind_l ?D_Rounding___init___l ?F_Ratio___neg___l ?F_Ratio___rsub___l ?F_Rounding___eq___l ?F_Rounding___invert___l ?F_Ratio___str___l ?F_Rounding___str___l ?F__law_frac_l ?F__law_kind_l ?F__law_rounding_l ?F_BadText___init___l ?F_split_words_l ?F_whole_number_l ?F_told_number_l ?F_told_rounding_l ?F_Rounding_read_l ?F__law_is_integer_l ?F__law_threshold_l ?F__law_less_l ?F__law_due_l ?F__law_bent_l ?F__law_heard_l ?F_law_l ?F__law_pen_c ?F__law_pen_k ?n_list_a ?F__law_draw_c ?F__law_draw_k ?n_int_a ?n_len_a ?n_abs_a ?F__law_pick_c ?F__law_pick_k ?y_Ratio_a ?y_Ratio_n ?y_Ratio_t ?y_Ratio_m ?c_Ratio_p ?c_Ratio_h ?c_Ratio_o ?c_Ratio_s ?i_Ratio_is_int_a ?i_Ratio_is_bool_a ?F_is_integer_c ?F_is_integer_k ?n_isinstance_a ?n_bool_a ?D_Ratio___init___c ?D_Ratio___init___k ?D_Ratio___init___t ?m_gcd_a ?a_Ratio_over_a ?a_Ratio_under_a ?F_Ratio_of_c ?F_Ratio_of_k ?mk_Ratio_m ?mk_Ratio_f ?mk_Ratio_k ?i_int_is_Ratio_c ?i_int_is_Ratio_t ?i_int_is_Ratio_a ?F_Ratio___add___c ?F_Ratio___add___k ?s_Ratio_of_g ?F_Ratio___sub___c ?F_Ratio___sub___k ?F_Ratio___mul___c ?F_Ratio___mul___k ?F_Ratio___lt___c ?F_Ratio___lt___k ?F_Ratio___le___c ?F_Ratio___le___k ?F_Ratio___gt___c ?F_Ratio___gt___k ?F_Ratio___ge___c ?F_Ratio___ge___k ?F_Ratio___eq___c ?F_Ratio___eq___k ?F_Ratio_floor_c ?F_Ratio_floor_k ?F_Ratio_ceiling_c ?F_Ratio_ceiling_k ?F_is_number_c ?F_is_number_k ?F_fraction_of_c ?F_fraction_of_k ?F_Rounding_drawn_at_c ?F_Rounding_drawn_at_k ?h_Ratio_floor_f ?h_Ratio_ceiling_f ?c_Rounding_p ?c_Rounding_h ?c_Rounding_o ?c_Rounding_s ?a_Rounding_threshold_a ?b_Ratio_sub_f ?b_Ratio_sub_c ?b_Ratio_sub_t ?b_Ratio_sub_u ?a_Rounding_is_from_a ?F_Rounding___call___c ?F_Rounding___call___k ?h_Rounding_drawn_at_f ?F_Rounding_behind_c ?F_Rounding_behind_k ?D_Rounding___init___c ?D_Rounding___init___k ?D_Rounding___init___t ?q_Ratio_lt_f ?q_Ratio_lt_n ?q_Ratio_gt_f ?q_Ratio_eq_f ?F_Ratio___neg___c ?F_Ratio___neg___k ?F_Ratio___rsub___c ?F_Ratio___rsub___k ?F_Rounding___eq___c ?F_Rounding___eq___k ?y_Rounding_a ?y_Rounding_m ?F_Rounding___invert___c ?F_Rounding___invert___k ?mk_Rounding_m ?mk_Rounding_f ?mk_Rounding_k ?v_Ratio_sub_f ?F_Ratio___str___c ?F_Ratio___str___k ?n_str_a ?F_Rounding___str___c ?F_Rounding___str___k ?t_Ratio_f ?t_Ratio_g ?F__law_frac_c ?F__law_frac_k ?F__law_kind_c ?F__law_kind_k ?F__law_rounding_c ?F__law_rounding_k ?F_BadText___init___c ?F_BadText___init___k ?vi_SnapError_r ?vi_SnapError_g ?vi_SnapError_v ?ex_BadText_l ?ex_BadText_s ?ex_BadText_g ?ex_BadText_h ?ex_BadText_c ?ex_BadText_f ?ex_BadText_k ?a_BadText_line_a ?a_BadText_word_a ?F_split_words_c ?F_split_words_k ?F_whole_number_c ?F_whole_number_k ?mi_MOST_DIGITS_a ?F_told_number_c ?F_told_number_k ?F_told_rounding_c ?F_told_rounding_k ?F_Rounding_read_c ?F_Rounding_read_k ?F__law_is_integer_c ?F__law_is_integer_k ?F__law_threshold_c ?F__law_threshold_k ?F__law_less_c ?F__law_less_k ?F__law_due_c ?F__law_due_k ?F__law_bent_c ?F__law_bent_k ?F__law_heard_c ?F__law_heard_k ?sx_SnapError_l ?i_Rounding_is_str_a ?tab_law_l ?tab_law_c ?tab_law_v ?tab_law_o ?tab_law_h ?q_Rounding_eq_f ?q_Rounding_eq_n ?F_law_c ?F_law_k ?n_range_a ?km_Rounding_read_g ?km_Rounding_read_f ?t_Rounding_f ?t_Rounding_g ?z_Rounding_e
    (case L__law_pen => as_aux_lemma => k_is)
    (case L__law_draw => as_aux_lemma => k_is)
    (case L__law_pick => as_aux_lemma => k_is)
    (case L_Ratio => as_aux_lemma => k_is)
    (case L_is_integer => as_aux_lemma => k_is)
    (case L_is_number => as_aux_lemma => k_is)
    (case L_fraction_of => as_aux_lemma => k_is)
    (case L_Rounding => as_aux_lemma => k_is)
    (case L__law_frac => as_aux_lemma => k_is)
    (case L__law_kind => as_aux_lemma => k_is)
    (case L__law_rounding => as_aux_lemma => k_is)
    (case L_SnapError => as_aux_lemma => k_is)
    (case L_BadText => as_aux_lemma => k_is)
    (case L_split_words => as_aux_lemma => k_is)
    (case L_whole_number => as_aux_lemma => k_is)
    (case L_told_number => as_aux_lemma => k_is)
    (case L_told_rounding => as_aux_lemma => k_is)
    (case L__law_is_integer => as_aux_lemma => k_is)
    (case L__law_threshold => as_aux_lemma => k_is)
    (case L__law_less => as_aux_lemma => k_is)
    (case L__law_due => as_aux_lemma => k_is)
    (case L__law_bent => as_aux_lemma => k_is)
    (case L__law_heard => as_aux_lemma => k_is)
    (case L_law => as_aux_lemma => k_is)
    (case L_Ratio___init__ => as_aux_lemma => k_is)
    (case L_Ratio___add__ => as_aux_lemma => k_is)
    (case L_Ratio___sub__ => as_aux_lemma => k_is)
    (case L_Ratio___mul__ => as_aux_lemma => k_is)
    (case L_Ratio___lt__ => as_aux_lemma => k_is)
    (case L_Ratio___le__ => as_aux_lemma => k_is)
    (case L_Ratio___gt__ => as_aux_lemma => k_is)
    (case L_Ratio___ge__ => as_aux_lemma => k_is)
    (case L_Ratio___eq__ => as_aux_lemma => k_is)
    (case L_Ratio_floor => as_aux_lemma => k_is)
    (case L_Ratio_ceiling => as_aux_lemma => k_is)
    (case L_Rounding_drawn_at => as_aux_lemma => k_is)
    (case L_Ratio___rsub__ => as_aux_lemma => k_is)
    (case L_Rounding___call__ => as_aux_lemma => k_is)
    (case L_Rounding_behind => as_aux_lemma => k_is)
    (case L_Rounding___init__ => as_aux_lemma => k_is)
    (case L_Ratio___neg__ => as_aux_lemma => k_is)
    (case L_Rounding___eq__ => as_aux_lemma => k_is)
    (case L_Rounding___invert__ => as_aux_lemma => k_is)
    (case L_Ratio___str__ => as_aux_lemma => k_is)
    (case L_Rounding___str__ => as_aux_lemma => k_is)
    (case L_BadText___init__ => as_aux_lemma => k_is)
    (case s_Ratio_of_r => as_aux_lemma => k_is)
    (case km_Rounding_read_r => as_aux_lemma => k_is)
    (case s_Ratio_of_a => as_aux_lemma => k_is)
    (case km_Rounding_read_a => as_aux_lemma => k_is)
    (case s_Ratio_of_q => as_aux_lemma => k_is)
    (case km_Rounding_read_q => as_aux_lemma => k_is)
    (case F__law_pen_l => as_aux_lemma => k_is)
    (case F__law_draw_l => as_aux_lemma => k_is)
    (case F__law_pick_l => as_aux_lemma => k_is)
    (case F_is_integer_l => as_aux_lemma => k_is)
    (case D_Ratio___init___l => as_aux_lemma => k_is)
    (case F_Ratio_of_l => as_aux_lemma => k_is)
    (case F_Ratio___add___l => as_aux_lemma => k_is)
    (case F_Ratio___sub___l => as_aux_lemma => k_is)
    (case F_Ratio___mul___l => as_aux_lemma => k_is)
    (case F_Ratio___lt___l => as_aux_lemma => k_is)
    (case F_Ratio___le___l => as_aux_lemma => k_is)
    (case F_Ratio___gt___l => as_aux_lemma => k_is)
    (case F_Ratio___ge___l => as_aux_lemma => k_is)
    (case F_Ratio___eq___l => as_aux_lemma => k_is)
    (case F_Ratio_floor_l => as_aux_lemma => k_is)
    (case F_Ratio_ceiling_l => as_aux_lemma => k_is)
    (case F_is_number_l => as_aux_lemma => k_is)
    (case F_fraction_of_l => as_aux_lemma => k_is)
    (case F_Rounding_drawn_at_l => as_aux_lemma => k_is)
    (case F_Rounding___call___l => as_aux_lemma => k_is)
    (case F_Rounding_behind_l => as_aux_lemma => k_is)
    (case D_Rounding___init___l => as_aux_lemma => k_is)
    (case F_Ratio___neg___l => as_aux_lemma => k_is)
    (case F_Ratio___rsub___l => as_aux_lemma => k_is)
    (case F_Rounding___eq___l => as_aux_lemma => k_is)
    (case F_Rounding___invert___l => as_aux_lemma => k_is)
    (case F_Ratio___str___l => as_aux_lemma => k_is)
    (case F_Rounding___str___l => as_aux_lemma => k_is)
    (case F__law_frac_l => as_aux_lemma => k_is)
    (case F__law_kind_l => as_aux_lemma => k_is)
    (case F__law_rounding_l => as_aux_lemma => k_is)
    (case F_BadText___init___l => as_aux_lemma => k_is)
    (case F_split_words_l => as_aux_lemma => k_is)
    (case F_whole_number_l => as_aux_lemma => k_is)
    (case F_told_number_l => as_aux_lemma => k_is)
    (case F_told_rounding_l => as_aux_lemma => k_is)
    (case F_Rounding_read_l => as_aux_lemma => k_is)
    (case F__law_is_integer_l => as_aux_lemma => k_is)
    (case F__law_threshold_l => as_aux_lemma => k_is)
    (case F__law_less_l => as_aux_lemma => k_is)
    (case F__law_due_l => as_aux_lemma => k_is)
    (case F__law_bent_l => as_aux_lemma => k_is)
    (case F__law_heard_l => as_aux_lemma => k_is)
    (case F_law_l => as_aux_lemma => k_is)
    (case F__law_pen_c => as_aux_lemma => k_is)
    (case F__law_pen_k => as_aux_lemma => k_is)
    (case n_list_a => as_aux_lemma => k_is)
    (case F__law_draw_c => as_aux_lemma => k_is)
    (case F__law_draw_k => as_aux_lemma => k_is)
    (case n_int_a => as_aux_lemma => k_is)
    (case n_len_a => as_aux_lemma => k_is)
    (case n_abs_a => as_aux_lemma => k_is)
    (case F__law_pick_c => as_aux_lemma => k_is)
    (case F__law_pick_k => as_aux_lemma => k_is)
    (case y_Ratio_a => as_aux_lemma => k_is)
    (case y_Ratio_n => as_aux_lemma => k_is)
    (case y_Ratio_t => as_aux_lemma => k_is)
    (case y_Ratio_m => as_aux_lemma => k_is)
    (case c_Ratio_p => as_aux_lemma => k_is)
    (case c_Ratio_h => as_aux_lemma => k_is)
    (case c_Ratio_o => as_aux_lemma => k_is)
    (case c_Ratio_s => as_aux_lemma => k_is)
    (case i_Ratio_is_int_a => as_aux_lemma => k_is)
    (case i_Ratio_is_bool_a => as_aux_lemma => k_is)
    (case F_is_integer_c => as_aux_lemma => k_is)
    (case F_is_integer_k => as_aux_lemma => k_is)
    (case n_isinstance_a => as_aux_lemma => k_is)
    (case n_bool_a => as_aux_lemma => k_is)
    (case D_Ratio___init___c => as_aux_lemma => k_is)
    (case D_Ratio___init___k => as_aux_lemma => k_is)
    (case D_Ratio___init___t => as_aux_lemma => k_is)
    (case m_gcd_a => as_aux_lemma => k_is)
    (case a_Ratio_over_a => as_aux_lemma => k_is)
    (case a_Ratio_under_a => as_aux_lemma => k_is)
    (case F_Ratio_of_c => as_aux_lemma => k_is)
    (case F_Ratio_of_k => as_aux_lemma => k_is)
    (case mk_Ratio_m => as_aux_lemma => k_is)
    (case mk_Ratio_f => as_aux_lemma => k_is)
    (case mk_Ratio_k => as_aux_lemma => k_is)
    (case i_int_is_Ratio_c => as_aux_lemma => k_is)
    (case i_int_is_Ratio_t => as_aux_lemma => k_is)
    (case i_int_is_Ratio_a => as_aux_lemma => k_is)
    (case F_Ratio___add___c => as_aux_lemma => k_is)
    (case F_Ratio___add___k => as_aux_lemma => k_is)
    (case s_Ratio_of_g => as_aux_lemma => k_is)
    (case F_Ratio___sub___c => as_aux_lemma => k_is)
    (case F_Ratio___sub___k => as_aux_lemma => k_is)
    (case F_Ratio___mul___c => as_aux_lemma => k_is)
    (case F_Ratio___mul___k => as_aux_lemma => k_is)
    (case F_Ratio___lt___c => as_aux_lemma => k_is)
    (case F_Ratio___lt___k => as_aux_lemma => k_is)
    (case F_Ratio___le___c => as_aux_lemma => k_is)
    (case F_Ratio___le___k => as_aux_lemma => k_is)
    (case F_Ratio___gt___c => as_aux_lemma => k_is)
    (case F_Ratio___gt___k => as_aux_lemma => k_is)
    (case F_Ratio___ge___c => as_aux_lemma => k_is)
    (case F_Ratio___ge___k => as_aux_lemma => k_is)
    (case F_Ratio___eq___c => as_aux_lemma => k_is)
    (case F_Ratio___eq___k => as_aux_lemma => k_is)
    (case F_Ratio_floor_c => as_aux_lemma => k_is)
    (case F_Ratio_floor_k => as_aux_lemma => k_is)
    (case F_Ratio_ceiling_c => as_aux_lemma => k_is)
    (case F_Ratio_ceiling_k => as_aux_lemma => k_is)
    (case F_is_number_c => as_aux_lemma => k_is)
    (case F_is_number_k => as_aux_lemma => k_is)
    (case F_fraction_of_c => as_aux_lemma => k_is)
    (case F_fraction_of_k => as_aux_lemma => k_is)
    (case F_Rounding_drawn_at_c => as_aux_lemma => k_is)
    (case F_Rounding_drawn_at_k => as_aux_lemma => k_is)
    (case h_Ratio_floor_f => as_aux_lemma => k_is)
    (case h_Ratio_ceiling_f => as_aux_lemma => k_is)
    (case c_Rounding_p => as_aux_lemma => k_is)
    (case c_Rounding_h => as_aux_lemma => k_is)
    (case c_Rounding_o => as_aux_lemma => k_is)
    (case c_Rounding_s => as_aux_lemma => k_is)
    (case a_Rounding_threshold_a => as_aux_lemma => k_is)
    (case b_Ratio_sub_f => as_aux_lemma => k_is)
    (case b_Ratio_sub_c => as_aux_lemma => k_is)
    (case b_Ratio_sub_t => as_aux_lemma => k_is)
    (case b_Ratio_sub_u => as_aux_lemma => k_is)
    (case a_Rounding_is_from_a => as_aux_lemma => k_is)
    (case F_Rounding___call___c => as_aux_lemma => k_is)
    (case F_Rounding___call___k => as_aux_lemma => k_is)
    (case h_Rounding_drawn_at_f => as_aux_lemma => k_is)
    (case F_Rounding_behind_c => as_aux_lemma => k_is)
    (case F_Rounding_behind_k => as_aux_lemma => k_is)
    (case D_Rounding___init___c => as_aux_lemma => k_is)
    (case D_Rounding___init___k => as_aux_lemma => k_is)
    (case D_Rounding___init___t => as_aux_lemma => k_is)
    (case q_Ratio_lt_f => as_aux_lemma => k_is)
    (case q_Ratio_lt_n => as_aux_lemma => k_is)
    (case q_Ratio_gt_f => as_aux_lemma => k_is)
    (case q_Ratio_eq_f => as_aux_lemma => k_is)
    (case F_Ratio___neg___c => as_aux_lemma => k_is)
    (case F_Ratio___neg___k => as_aux_lemma => k_is)
    (case F_Ratio___rsub___c => as_aux_lemma => k_is)
    (case F_Ratio___rsub___k => as_aux_lemma => k_is)
    (case F_Rounding___eq___c => as_aux_lemma => k_is)
    (case F_Rounding___eq___k => as_aux_lemma => k_is)
    (case y_Rounding_a => as_aux_lemma => k_is)
    (case y_Rounding_m => as_aux_lemma => k_is)
    (case F_Rounding___invert___c => as_aux_lemma => k_is)
    (case F_Rounding___invert___k => as_aux_lemma => k_is)
    (case mk_Rounding_m => as_aux_lemma => k_is)
    (case mk_Rounding_f => as_aux_lemma => k_is)
    (case mk_Rounding_k => as_aux_lemma => k_is)
    (case v_Ratio_sub_f => as_aux_lemma => k_is)
    (case F_Ratio___str___c => as_aux_lemma => k_is)
    (case F_Ratio___str___k => as_aux_lemma => k_is)
    (case n_str_a => as_aux_lemma => k_is)
    (case F_Rounding___str___c => as_aux_lemma => k_is)
    (case F_Rounding___str___k => as_aux_lemma => k_is)
    (case t_Ratio_f => as_aux_lemma => k_is)
    (case t_Ratio_g => as_aux_lemma => k_is)
    (case F__law_frac_c => as_aux_lemma => k_is)
    (case F__law_frac_k => as_aux_lemma => k_is)
    (case F__law_kind_c => as_aux_lemma => k_is)
    (case F__law_kind_k => as_aux_lemma => k_is)
    (case F__law_rounding_c => as_aux_lemma => k_is)
    (case F__law_rounding_k => as_aux_lemma => k_is)
    (case F_BadText___init___c => as_aux_lemma => k_is)
    (case F_BadText___init___k => as_aux_lemma => k_is)
    (case vi_SnapError_r => as_aux_lemma => k_is)
    (case vi_SnapError_g => as_aux_lemma => k_is)
    (case vi_SnapError_v => as_aux_lemma => k_is)
    (case ex_BadText_l => as_aux_lemma => k_is)
    (case ex_BadText_s => as_aux_lemma => k_is)
    (case ex_BadText_g => as_aux_lemma => k_is)
    (case ex_BadText_h => as_aux_lemma => k_is)
    (case ex_BadText_c => as_aux_lemma => k_is)
    (case ex_BadText_f => as_aux_lemma => k_is)
    (case ex_BadText_k => as_aux_lemma => k_is)
    (case a_BadText_line_a => as_aux_lemma => k_is)
    (case a_BadText_word_a => as_aux_lemma => k_is)
    (case F_split_words_c => as_aux_lemma => k_is)
    (case F_split_words_k => as_aux_lemma => k_is)
    (case F_whole_number_c => as_aux_lemma => k_is)
    (case F_whole_number_k => as_aux_lemma => k_is)
    (case mi_MOST_DIGITS_a => as_aux_lemma => k_is)
    (case F_told_number_c => as_aux_lemma => k_is)
    (case F_told_number_k => as_aux_lemma => k_is)
    (case F_told_rounding_c => as_aux_lemma => k_is)
    (case F_told_rounding_k => as_aux_lemma => k_is)
    (case F_Rounding_read_c => as_aux_lemma => k_is)
    (case F_Rounding_read_k => as_aux_lemma => k_is)
    (case F__law_is_integer_c => as_aux_lemma => k_is)
    (case F__law_is_integer_k => as_aux_lemma => k_is)
    (case F__law_threshold_c => as_aux_lemma => k_is)
    (case F__law_threshold_k => as_aux_lemma => k_is)
    (case F__law_less_c => as_aux_lemma => k_is)
    (case F__law_less_k => as_aux_lemma => k_is)
    (case F__law_due_c => as_aux_lemma => k_is)
    (case F__law_due_k => as_aux_lemma => k_is)
    (case F__law_bent_c => as_aux_lemma => k_is)
    (case F__law_bent_k => as_aux_lemma => k_is)
    (case F__law_heard_c => as_aux_lemma => k_is)
    (case F__law_heard_k => as_aux_lemma => k_is)
    (case sx_SnapError_l => as_aux_lemma => k_is)
    (case i_Rounding_is_str_a => as_aux_lemma => k_is)
    (case tab_law_l => as_aux_lemma => k_is)
    (case tab_law_c => as_aux_lemma => k_is)
    (case tab_law_v => rfl)
    (case tab_law_o => rfl)
    (case tab_law_h => rfl)
    (case q_Rounding_eq_f => as_aux_lemma => k_is)
    (case q_Rounding_eq_n => as_aux_lemma => k_is)
    (case F_law_c => as_aux_lemma => k_is)
    (case F_law_k => as_aux_lemma => k_is)
    (case n_range_a => as_aux_lemma => k_is)
    (case km_Rounding_read_g => as_aux_lemma => k_is)
    (case km_Rounding_read_f => as_aux_lemma => k_is)
    (case t_Rounding_f => as_aux_lemma => k_is)
    (case t_Rounding_g => as_aux_lemma => k_is)
    (case z_Rounding_e => as_aux_lemma => k_is)
end AZ
end
set_option Elab.async false
set_option maxRecDepth 100000
set_option maxHeartbeats 4000000
set_option linter.all false
namespace AZ
open PySem L2
/-! ## fractions -/
theorem num_di (a b : Int) (hb : b ≠ 0) : (Rat.divInt a b).num = a.fdiv (if b < 0 then -(Int.gcd a b : Int) else (Int.gcd a b : Int)) := by
  rw [Rat.num_divInt, Int.gcd_comm]
  obtain ⟨x, hx⟩ : (Int.gcd a b : Int) ∣ a := Int.gcd_dvd_left ..
  have hg : (Int.gcd a b : Int) ≠ 0 := by
    intro h
    have h2 : Int.gcd a b = 0 := by omega
    exact hb (Int.gcd_eq_zero_iff.mp h2).2
  generalize (Int.gcd a b : Int) = g at hx hg
  subst hx
  by_cases h : b < 0
  · rw [if_pos h, Int.sign_eq_neg_one_of_neg h, show -1 * (g * x) = g * -x by grind, Int.mul_ediv_cancel_left _ hg, show g * x = -g * -x by grind, Int.mul_fdiv_cancel_left _ (by omega)]
  · have hp : 0 < b := by omega
    rw [if_neg h, Int.sign_eq_one_of_pos hp, Int.one_mul, Int.mul_ediv_cancel_left _ hg, Int.mul_fdiv_cancel_left _ hg]
theorem den_di (a b : Int) (hb : b ≠ 0) : ((Rat.divInt a b).den : Int) = b.fdiv (if b < 0 then -(Int.gcd a b : Int) else (Int.gcd a b : Int)) := by
  rw [Rat.den_divInt, if_neg hb, Int.gcd_comm, Int.natCast_ediv]
  obtain ⟨x, hx⟩ : (Int.gcd a b : Int) ∣ b := Int.gcd_dvd_right ..
  have hg : (Int.gcd a b : Int) ≠ 0 := by
    intro h
    have h2 : Int.gcd a b = 0 := by omega
    exact hb (Int.gcd_eq_zero_iff.mp h2).2
  generalize hgd : (Int.gcd a b : Int) = g at hx hg
  by_cases h : b < 0
  · rw [if_pos h, show (b.natAbs : Int) = -b by omega, hx, show -(g * x) = g * -x by grind, Int.mul_ediv_cancel_left _ hg, show g * x = -g * -x by grind, Int.mul_fdiv_cancel_left _ (by omega)]
  · rw [if_neg h, show (b.natAbs : Int) = b by omega, hx, Int.mul_ediv_cancel_left _ hg, Int.mul_fdiv_cancel_left _ hg]
theorem dpos (q : Rat) : (0:Int) < q.den := Int.natCast_pos.mpr q.den_pos
theorem dne (q : Rat) : (q.den : Int) ≠ 0 := Int.ne_of_gt (dpos q)
theorem rdq (q : Rat) : Rat.divInt q.num q.den = q := Rat.num_divInt_den q
theorem r_add (x y : Rat) : Rat.divInt (x.num * y.den + y.num * x.den) (x.den * y.den) = x + y := by
  rw [← Rat.divInt_add_divInt _ _ (dne x) (dne y), rdq, rdq]
theorem r_sub (x y : Rat) : Rat.divInt (x.num * y.den - y.num * x.den) (x.den * y.den) = x - y := by
  rw [← Rat.divInt_sub_divInt _ _ (dne x) (dne y), rdq, rdq]
theorem r_mul (x y : Rat) : Rat.divInt (x.num * y.num) (x.den * y.den) = x * y := by
  rw [← Rat.divInt_mul_divInt, rdq, rdq]
theorem r_neg (x : Rat) : Rat.divInt (-x.num) x.den = -x := by
  rw [← Rat.neg_divInt, rdq]
theorem r_div (x y : Rat) : Rat.divInt (x.num * y.den) (x.den * y.num) = x / y := by
  rw [← Rat.divInt_mul_divInt, rdq, Rat.div_def, ← Rat.inv_divInt, rdq]
theorem r_floor (q : Rat) : q.num.fdiv q.den = q.floor := by
  rw [Rat.floor_def, Int.fdiv_eq_ediv_of_nonneg _ (Int.le_of_lt (dpos q))]
theorem r_ceil (q : Rat) : -((-q.num).fdiv q.den) = q.ceil := by
  rw [Rat.ceil_eq_neg_floor_neg, ← r_floor, Rat.neg_num, Rat.neg_den]
theorem r_int (n : Int) : Rat.divInt n 1 = (n : Rat) := by
  rw [Rat.divInt_eq_div]; show (n : Rat) / ((1 : Int) : Rat) = n; rw [Rat.intCast_one]; grind
theorem gcd_pos (a b : Int) (hb : b ≠ 0) : 0 < Int.gcd a b := Nat.pos_of_ne_zero fun h => hb (Int.gcd_eq_zero_iff.mp h).2
theorem gcd_le (a b : Int) (hb : b ≠ 0) : Int.gcd a b ≤ b.natAbs := Nat.le_of_dvd (by omega) (Nat.gcd_dvd_right _ _)
/-- sizes -/
def Sz (n : Nat) (q : Rat) : Prop := q.num.natAbs < 2 ^ n ∧ q.den < 2 ^ n
theorem sz_di {a b : Int} {n : Nat} (hb : b ≠ 0) (h1 : a.natAbs < 2 ^ n) (h2 : b.natAbs < 2 ^ n) : Sz n (Rat.divInt a b) := by
  constructor
  · rw [Rat.num_divInt]
    refine Nat.lt_of_le_of_lt (Int.natAbs_ediv_le_natAbs _ _) ?_
    rw [Int.natAbs_mul, Int.natAbs_sign_of_ne_zero hb, Nat.one_mul]
    exact h1
  · rw [Rat.den_divInt, if_neg hb]
    exact Nat.lt_of_le_of_lt (Nat.div_le_self _ _) h2
theorem Sz.mono {n m : Nat} {q : Rat} (h : Sz n q) (e : n ≤ m) : Sz m q :=
  ⟨Nat.lt_of_lt_of_le h.1 (Nat.pow_le_pow_right (by decide) e), Nat.lt_of_lt_of_le h.2 (Nat.pow_le_pow_right (by decide) e)⟩
theorem mul_lt2 {x y a b : Nat} (h1 : x < 2 ^ a) (h2 : y < 2 ^ b) : x * y < 2 ^ (a + b) := by
  rw [Nat.pow_add]; exact Nat.mul_lt_mul'' h1 h2

/-! ## operators of own classes, by promises -/
section
variable {X : Cx}
/-- what binary operators ask of the class at C: the def at f -/
structure BinM (K : PySem.W.Frag) (C : Addr) (op : Operator) (f : Addr) : Prop where
  hs : PySem.W.findIn K (.ref C) (PySem.dunder op.info.2) = some (some (.ref f))
  hf : PySem.W.isFn K (.ref f) = true
  hc : PySem.W.selfFirst K C = true
  hr : ∃ rc, PySem.W.findIn K (.ref C) (dunderR op.info.2) = some rc ∧ (rc = none ∨ ∃ g : Addr, rc = some (.ref g))
  ht : ∃ fo ro, PySem.W.findIn K (.type "int") (PySem.dunder op.info.2) = some fo ∧ PySem.W.findIn K (.type "int") (dunderR op.info.2) = some ro
  hu : PySem.W.subIn K (.type "int") (.ref C) = some false
/-- the right side: an int or another one of C -/
def RightI (C : Addr) (H : Hp) (y : V) : Prop := (∃ j, y = .int j) ∨ ∃ b dy gs, y = .ref b ∧ H b = some (.ins C dy gs)
def rOwn (X : Cx) (op : Operator) : R2 := fun x y H Q => ∃ (a C dx : Addr) (fs : List (Str × V)) (f : Addr) (CX : CXT) (k : Nat) (sp : Sp) (E : XK),
  x = .ref a ∧ H a = some (.ins C dx fs) ∧ RightI C H y ∧ BinM X.K C op f ∧ FnR X.prog X.w X.K X.mg X.base CX k f sp ∧ Room k X.A ∧ Passes CX X E ∧ sp [x, y] H Q E
theorem cmpBack_of {pins : List (Addr × Obj)} {σ : St} {Q : VK} {v : Value} {s : Shared} (h : EP X pins σ Q v s) : PySem.W.CmpBack (EP X pins σ Q) v s := by
  cases v <;> first
  | exact h
  | (obtain ⟨z, _, _, rz, _⟩ := h
     exfalso
     cases z <;> simp [RelV] at rz)
theorem op_ownB (op : Operator) : OpR X (binaryOp op) (rOwn X op) := by
  intro pins s σ H x y v u Q I rx ry h
  obtain ⟨a, C, dx, fs, f, CX, k, sp, E, rfl, ha, hR, hM, F, hr, hx, hs⟩ := h
  obtain rfl : v = Value.ref a := rx
  have hc : wpAny (model X.prog X.w) X.A (call (.ref f) [.ref a, u]) (PySem.W.CmpBack (EP X pins σ Q)) X.xe s :=
    thn (wpAny_call (run_fnR (us := [.ref a, u]) (vs := [.ref a, y]) F hr hx I (.cons rfl (.cons ry .nil)) hs)) fun _ _ z => cmpBack_of z
  obtain ⟨mA, J, _⟩ := ins_get I.hok ha
  obtain ⟨od, J, _⟩ := J.look
  obtain ⟨m, hF⟩ := I.fr
  rcases hR with ⟨j, rfl⟩ | ⟨b, dy, gs, rfl, hb⟩
  · obtain ⟨t, rfl⟩ := ry
    obtain ⟨rc, hrc, hp⟩ := hM.hr
    obtain ⟨fo, ro, h1, h2⟩ := hM.ht
    exact PySem.W.ksp_binT hF I.ok.mod.kin J rfl hM.hc hM.hs hM.hf hrc hp h1 h2 hM.hu hc
  · obtain rfl : u = Value.ref b := ry
    obtain ⟨mB, J2, _⟩ := ins_get I.hok hb
    obtain ⟨od2, J2, _⟩ := J2.look
    exact PySem.W.binop_K hF I.ok.mod.kin J J2.type hM.hc hM.hs hM.hf hc
/-- comparisons -/
structure CmpM (K : PySem.W.Frag) (C : Addr) (op : CmpOp) (f : Addr) : Prop where
  hs : PySem.W.findIn K (.ref C) (cmpInfo op).2.1 = some (some (.ref f))
  hf : PySem.W.isFn K (.ref f) = true
  hn : PySem.W.notFirst K C (.type "int") = true
def rOwnC (X : Cx) (op : CmpOp) : R2 := fun x y H Q => ∃ (a C dx : Addr) (fs : List (Str × V)) (f : Addr) (CX : CXT) (k : Nat) (sp : Sp) (E : XK),
  x = .ref a ∧ H a = some (.ins C dx fs) ∧ RightI C H y ∧ CmpM X.K C op f ∧ FnR X.prog X.w X.K X.mg X.base CX k f sp ∧ Room k X.A ∧ Passes CX X E ∧ sp [x, y] H Q E
theorem op_ownC (op : CmpOp) (hop : ∀ a b, compareOp op a b = richCompare op a b := by intro _ _; rfl) : OpR X (compareOp op) (rOwnC X op) := by
  intro pins s σ H x y v u Q I rx ry h
  obtain ⟨a, C, dx, fs, f, CX, k, sp, E, rfl, ha, hR, hM, F, hr, hx, hs⟩ := h
  obtain rfl : v = Value.ref a := rx
  have hc : wpAny (model X.prog X.w) X.A (call (.ref f) [.ref a, u]) (PySem.W.CmpBack (EP X pins σ Q)) X.xe s :=
    thn (wpAny_call (run_fnR (us := [.ref a, u]) (vs := [.ref a, y]) F hr hx I (.cons rfl (.cons ry .nil)) hs)) fun _ _ z => cmpBack_of z
  obtain ⟨mA, J, _⟩ := ins_get I.hok ha
  obtain ⟨od, J, _⟩ := J.look
  obtain ⟨m, hF⟩ := I.fr
  rw [hop]
  rcases hR with ⟨j, rfl⟩ | ⟨b, dy, gs, rfl, hb⟩
  · obtain ⟨t, rfl⟩ := ry
    exact PySem.W.cmp_K (tb := .type "int") hr.units0 hF I.ok.mod.kin J (PySem.W.Looks.of_pure rfl) hM.hn hM.hs hM.hf hc
  · obtain rfl : u = Value.ref b := ry
    obtain ⟨mB, J2, _⟩ := ins_get I.hok hb
    obtain ⟨od2, J2, _⟩ := J2.look
    exact PySem.W.cmp_K (tb := .ref C) hr.units0 hF I.ok.mod.kin J J2.type (by simp [PySem.W.notFirst]) hM.hs hM.hf hc
/-- one-place operators -/
structure UnM (K : PySem.W.Frag) (C : Addr) (nm : Str) (f : Addr) : Prop where
  hs : PySem.W.findIn K (.ref C) nm = some (some (.ref f))
  hf : PySem.W.isFn K (.ref f) = true
def rOwnU (X : Cx) (nm : Str) : V → Hp → VK → Prop := fun x H Q => ∃ (a C dx : Addr) (fs : List (Str × V)) (f : Addr) (CX : CXT) (k : Nat) (sp : Sp) (E : XK),
  x = .ref a ∧ H a = some (.ins C dx fs) ∧ UnM X.K C nm f ∧ FnR X.prog X.w X.K X.mg X.base CX k f sp ∧ Room k X.A ∧ Passes CX X E ∧ sp [x] H Q E
theorem un_ownNeg : UnR X (unaryOp .USub) (rOwnU X "__neg__") := by
  intro pins s σ H x v Q I rx h
  obtain ⟨a, C, dx, fs, f, CX, k, sp, E, rfl, ha, hM, F, hr, hx, hs⟩ := h
  obtain rfl : v = Value.ref a := rx
  obtain ⟨mA, J, _⟩ := ins_get I.hok ha
  obtain ⟨od, J, _⟩ := J.look
  obtain ⟨m, hF⟩ := I.fr
  exact PySem.W.ksp_neg hF I.ok.mod.kin J hM.hs hM.hf (wpAny_call (run_fnR (us := [.ref a]) (vs := [.ref a]) F hr hx I (.cons rfl .nil) hs))
theorem un_ownInv : UnR X (unaryOp .Invert) (rOwnU X "__invert__") := by
  intro pins s σ H x v Q I rx h
  obtain ⟨a, C, dx, fs, f, CX, k, sp, E, rfl, ha, hM, F, hr, hx, hs⟩ := h
  obtain rfl : v = Value.ref a := rx
  obtain ⟨mA, J, _⟩ := ins_get I.hok ha
  obtain ⟨od, J, _⟩ := J.look
  obtain ⟨m, hF⟩ := I.fr
  exact PySem.W.ksp_inv hF I.ok.mod.kin J hM.hs hM.hf (wpAny_call (run_fnR (us := [.ref a]) (vs := [.ref a]) F hr hx I (.cons rfl .nil) hs))
/-! ## static methods, methods, defs by positional promises -/
structure SMet (K : PySem.W.Frag) (C : Addr) (m : Str) (g : Addr) : Prop where
  ex : ∃ (mc : Value) (p : Addr) (rest : List Value), ClX.CRead K C mc ∧ PySem.W.findCls K (.ref C) mc m = some (.get (.builtin "staticmethod.__get__") (.ref p) .none (.ref C)) ∧ PySem.W.recIn K p "staticmethod" = some (.ref g :: rest)
  kp : PySem.W.keepIn K (.ref g) = true
variable {CX : CXT} {k : Nat} {C g : Addr} {sp : Sp} {E : XK} {o e : Expr} {es : List Expr} {m x : Str} {p pos apos : Pos} {ta : TE} {t : TA}
def tSM (C : Addr) (sp : Sp) (E : XK) (ta : TE) (t : TA) : TE := fun σ H Q => ta σ H fun x H1 => x = .ref C ∧ t σ H1 fun vs H2 => sp vs H2 Q E
theorem pe_smeth {pl : Sem Bool} (he : PE X o ta) (c : SMet X.K C m g) (F : FnR X.prog X.w X.K X.mg X.base CX k g sp) (hr : Room k X.A) (hx : Passes CX X E) (ha : PA X (e :: es) t)
    (hst : starEach (e :: es) X.env = (false, eval e X.env) :: starEach es X.env := by rfl) (hpl : (backTo pos (starEach es X.env)).any (·.1) = false := by rfl)
    (ht : eval (.Call (.Attribute o m apos) (e :: es) [] pos) X.env = (eval o X.env >>= fun ov => standAt apos.atName >>= fun _ => holding [ov] (getMethod ov m pl) >>= fun r =>
      callWith pos r.1 r.2 (backTo pos (starEach (e :: es) X.env)) (backToKw pos (keywordEach [] X.env))) := by rfl) :
    PE X (.Call (.Attribute o m apos) (e :: es) [] pos) (tSM C sp E ta t) := by
  refine ⟨fun pins s σ H Q I h => ?_⟩
  refine PySem.W.methodCall_KW (pl := pl) (thn (he.run pins s σ H _ I h) fun u s1 ⟨x, H1, I1, rx, ex, q⟩ => ?_) ht
  subst ex
  obtain rfl : u = Value.ref C := rx
  obtain ⟨mc, p, rest, r, at_, rc⟩ := c.ex
  refine PySem.W.method_cls I1.kIn r.ga ?_
  refine PySem.W.cls_bind I1.kIn r.rd at_ (wpAny_call (PySem.W.sm_get (s := { s1 with toks := s1.toks + 1 }) I1.kIn rc (PySem.W.handed_on rfl ?_)))
  refine PySem.W.callWith_K (first := []) (h₀ := X.base) I1.ok.mod.kin c.kp (thn (ha.run pos pins _ σ H1 _ (I1.tok _) q) fun us s2 ⟨vs, H2, I2, r2, q2⟩ => ⟨I2.kIn, ?_⟩) hst hpl
  exact wpAny_call (run_fnR F hr hx I2 r2 q2)
/-- x(e, ..), x a def of the module -/
theorem pe_fnR (F : FnR X.prog X.w X.K X.mg X.base CX k g sp) (hr : Room k X.A) (hk : PySem.W.keepIn X.K (.ref g) = true) (hm : X.mg x = some (.ref g)) (hx : Passes CX X E) (ha : PA X (e :: es) t) (hg : Gl X x := by rfl) (hd : (x == ("__debug__" : Str)) = false := by decide)
    (he : starEach (e :: es) X.env = (false, eval e X.env) :: starEach es X.env := by rfl) (hst : (backTo pos (starEach es X.env)).any (·.1) = false := by rfl) :
    PE X (.Call (.Name x p) (e :: es) [] pos) (fun σ H Q => t σ H fun vs H1 => sp vs H1 Q E) := by
  refine ⟨fun pins s σ H Q I h => ?_⟩
  refine wpAny_Call_Name_kw (ld_glob I hg hm ?_ hd)
  refine PySem.W.callWith_K (h₀ := X.base) I.ok.mod.kin hk (thn (ha.run pos pins s σ H _ I h) fun us s1 ⟨vs, H1, I1, r, q⟩ => ⟨I1.kIn, ?_⟩) he hst
  exact wpAny_call (run_fnR F hr hx I1 r q)
/-- o.m(e, ..) -/
def tMR (C : Addr) (m : Str) (sp : Sp) (E : XK) (ta : TE) (t : TA) : TE := fun σ H Q => ta σ H fun x H1 => ∃ a dx fs, x = .ref a ∧ H1 a = some (.ins C dx fs) ∧ fs.lookup m = none ∧ t σ H1 fun vs H2 => sp (x :: vs) H2 Q E
theorem pe_mR {pl : Sem Bool} (he : PE X o ta) (c : Cls X.K C) (hm : Meth X.K C m g) (F : FnR X.prog X.w X.K X.mg X.base CX k g sp) (hr : Room k X.A) (hx : Passes CX X E) (ha : PA X (e :: es) t)
    (hst : starEach (e :: es) X.env = (false, eval e X.env) :: starEach es X.env := by rfl) (hpl : (backTo pos (starEach es X.env)).any (·.1) = false := by rfl)
    (ht : eval (.Call (.Attribute o m apos) (e :: es) [] pos) X.env = (eval o X.env >>= fun ov => standAt apos.atName >>= fun _ => holding [ov] (getMethod ov m pl) >>= fun r =>
      callWith pos r.1 r.2 (backTo pos (starEach (e :: es) X.env)) (backToKw pos (keywordEach [] X.env))) := by rfl) :
    PE X (.Call (.Attribute o m apos) (e :: es) [] pos) (tMR C m sp E ta t) := by
  refine ⟨fun pins s σ H Q I h => ?_⟩
  refine PySem.W.methodCall_KW (pl := pl) (thn (he.run pins s σ H _ I h) fun u s1 ⟨x, H1, I1, rx, a, dx, fs, ex, ea, l, q⟩ => ?_) ht
  subst ex
  obtain rfl : u = Value.ref a := rx
  refine getmeth_ok I1 ea c hm l ?_
  refine PySem.W.callWith_K (first := [.ref a]) (h₀ := X.base) I.ok.mod.kin hm.kp (thn (ha.run pos pins s1 σ H1 _ I1 q) fun us s2 ⟨vs, H2, I2, r, q2⟩ => ⟨I2.kIn, ?_⟩) hst hpl
  exact wpAny_call (run_fnR (us := .ref a :: us) (vs := .ref a :: vs) F hr hx I2 (.cons rfl r) q2)
/-- o.m() -/
theorem pe_mR0 {pl : Sem Bool} (he : PE X o ta) (c : Cls X.K C) (hm : Meth X.K C m g) (F : FnR X.prog X.w X.K X.mg X.base CX k g sp) (hr : Room k X.A) (hx : Passes CX X E)
    (ht : eval (.Call (.Attribute o m apos) [] [] pos) X.env = (eval o X.env >>= fun ov => standAt apos.atName >>= fun _ => holding [ov] (getMethod ov m pl) >>= fun r =>
      callWith pos r.1 r.2 (backTo pos (starEach [] X.env)) (backToKw pos (keywordEach [] X.env))) := by rfl) :
    PE X (.Call (.Attribute o m apos) [] [] pos) (tMR C m sp E ta tNil) := by
  refine ⟨fun pins s σ H Q I h => ?_⟩
  refine PySem.W.methodCall_KW (pl := pl) (thn (he.run pins s σ H _ I h) fun u s1 ⟨x, H1, I1, rx, a, dx, fs, ex, ea, l, q⟩ => ?_) ht
  subst ex
  obtain rfl : u = Value.ref a := rx
  refine getmeth_ok I1 ea c hm l ?_
  exact PySem.W.callWith_K0 (first := [.ref a]) I1.kIn hm.kp (wpAny_call (run_fnR (us := [.ref a]) (vs := [.ref a]) F hr hx I1 (.cons rfl .nil) q))
/-- // by a divisor of any sign below 2 ^ 9000 -/
def CDivZ (_ j : Int) : Prop := j ≠ 0 ∧ j.natAbs.log2 < 9000
theorem op_fdivZ : OpR X (binaryOp .FloorDiv) (rI CDivZ fun i j => .int (i.fdiv j)) := opI fun _ _ _ _ _ _ _ hc q => PyProof.Rows.floordiv_int hc.1 q (.inl (PyProof.noPylong_of_log2 hc.2))
theorem divZ {i j : Int} {b : Nat} (h : j ≠ 0) (hb : j.natAbs < 2 ^ b) (h0 : 0 < b) (h9 : b ≤ 9000) : CDivZ i j := ⟨h, Nat.lt_of_lt_of_le (PySem.Flt.log2_lt_of h0 hb) h9⟩
/-- what isinstance asks of an own class -/
structure TyC (K : PySem.W.Frag) (C : Addr) : Prop where
  ha : PySem.W.findIn K (.ref C) "__class__" = some (some (.builtin "object.__class__"))
  hn : PySem.W.specialIn K (.builtin "object.__class__") "__get__" = some (some (.builtin "getset_descriptor.__get__"))
  htk : PySem.W.takesIn K (.builtin "object.__class__") = some true
  hm : PySem.W.mroIn K C (.type "object") = some true
theorem TyC.ty {K : PySem.W.Frag} {C a dx : Addr} {H : Hp} {fs : List (Str × V)} (y : TyC K C) (c : Cls K C) (e : H a = some (.ins C dx fs)) : TyX K H (.ref a) (.ref C) := .base (.ins e c y.ha y.hn y.htk y.hm)
theorem kit_rt {K : PySem.W.Frag} {C : Addr} {S : String} {b : Bool} (m : PySem.W.kitMeta S = true) (h : PySem.W.subIn K (.ref C) (.type S) = some b) : PySem.W.kitOne K (.ref C) (.type S) = some b := by
  unfold PySem.W.kitOne PySem.W.kitCls
  rw [if_neg (by intro e; cases (beq_iff_eq.mp e))]
  dsimp only
  rw [if_pos m]
  exact h
theorem kit_tr {K : PySem.W.Frag} {C : Addr} {S : String} {b : Bool} (c : PySem.W.isClsIn K C = true) (t : PySem.W.typeIn K (.ref C) = some (.type "type")) (h : PySem.W.subIn K (.type S) (.ref C) = some b) : PySem.W.kitOne K (.type S) (.ref C) = some b := by
  unfold PySem.W.kitOne PySem.W.kitCls
  rw [if_neg (by intro e; cases (beq_iff_eq.mp e))]
  dsimp only
  rw [if_pos (by rw [show (PySem.W.clsIn K C).isSome = true from c, t]; rfl)]
  exact h
theorem kit_rr {K : PySem.W.Frag} {C : Addr} : PySem.W.kitOne K (.ref C) (.ref C) = some true := by simp [PySem.W.kitOne]
theorem ifF {c : Bool} {A B : Prop} (hc : c = false) (h : B) : if c = true then A else B := by subst hc; exact iteF h
theorem ifT {c : Bool} {A B : Prop} (hc : c = true) (h : A) : if c = true then A else B := by subst hc; exact iteT h
theorem if2 {c : Bool} {A B : Prop} (h1 : c = true → A) (h2 : c = false → B) : if c = true then A else B := by
  cases c with
  | true => exact iteT (h1 rfl)
  | false => exact iteF (h2 rfl)
/-! ## what stays beside a pen -/
def isL : HO → Bool
  | .lst _ => true
  | _ => false
/-- all but the list at p stays -/
def Up (p : Addr) (H H' : Hp) : Prop := ∀ b o, H b = some o → (b = p → isL o = false) → H' b = some o
theorem Up.refl (p : Addr) (H : Hp) : Up p H H := fun _ _ h _ => h
theorem Up.trans {p : Addr} {H H1 H2 : Hp} (a : Up p H H1) (b : Up p H1 H2) : Up p H H2 := fun c o h n => b c o (a c o h n) n
theorem Up.same {p : Addr} {H H' : Hp} (e : Same H H') : Up p H H' := fun b o h _ => e b o h
theorem Up.new {p q : Addr} {H : Hp} {o : HO} (h : H q = none) : Up p H (upd H q o) := fun b u e _ => by rw [upd_ne (ne_of_none e h)]; exact e
theorem Up.new' {p q : Addr} {H H1 : Hp} {o : HO} (e : Up p H H1) (h : H1 q = none) : Up p H (upd H1 q o) := e.trans (Up.new h)
theorem Up.put {p : Addr} {H : Hp} {xs : List V} {o : HO} (h : H p = some (.lst xs)) : Up p H (upd H p o) := fun b u e n => by
  by_cases hb : b = p
  · subst hb
    rw [h] at e
    cases e
    exact absurd (n rfl) (by simp [isL])
  · rw [upd_ne hb]; exact e
theorem Up.tup {p a : Addr} {H H' : Hp} {xs : List V} (e : Up p H H') (h : H a = some (.tup xs)) : H' a = some (.tup xs) := e _ _ h fun _ => rfl
theorem Up.ins {p a C dx : Addr} {H H' : Hp} {fs : List (Str × V)} (e : Up p H H') (h : H a = some (.ins C dx fs)) : H' a = some (.ins C dx fs) := e _ _ h fun _ => rfl
theorem Up.lst {p a : Addr} {H H' : Hp} {xs : List V} (e : Up p H H') (h : H a = some (.lst xs)) (n : a ≠ p) : H' a = some (.lst xs) := e _ _ h fun z => absurd z n
/-! ## rules by alternatives -/
theorem CallR.or' {f : Value} {r r' : List V → Hp → VK → Prop} (h : CallR X f r) (h' : CallR X f r') : CallR X f (fun xs H Q => r xs H Q ∨ r' xs H Q) := by
  intro pins s σ H xs us Q I rv q
  rcases q with q | q
  · exact h pins s σ H xs us Q I rv q
  · exact h' pins s σ H xs us Q I rv q
theorem UnR.or' {f : Value → Sem Value} {r r' : V → Hp → VK → Prop} (h : UnR X f r) (h' : UnR X f r') : UnR X f (fun x H Q => r x H Q ∨ r' x H Q) := by
  intro pins s σ H x v Q I rv q
  rcases q with q | q
  · exact h pins s σ H x v Q I rv q
  · exact h' pins s σ H x v Q I rv q
def orR (r r' : R2) : R2 := fun x y H Q => r x y H Q ∨ r' x y H Q
theorem op_or2 {f : Value → Value → Sem Value} {r r' : R2} (h : OpR X f r) (h' : OpR X f r') : OpR X f (orR r r') := OpR.or h h'
theorem uAdd : OpR X (binaryOp .Add) (orR (rI0 fun i j => .int (i + j)) (orR (rOwn X .Add) (orR rCat (rCatT X.K)))) := op_or2 op_add (op_or2 (op_ownB _) (op_or2 op_cat op_catT))
theorem uSub : OpR X (binaryOp .Sub) (orR (rI0 fun i j => .int (i - j)) (rOwn X .Sub)) := op_or2 op_sub (op_ownB _)
/-- * of two factors, one small or both together below a million bits -/
def CMulU (i j : Int) : Prop := CMul i j ∨ CMulW i j
theorem op_mulU : OpR X (binaryOp .Mult) (rI CMulU fun i j => .int (i * j)) := opI fun _ _ _ _ _ _ _ hc q => PyProof.Rows.mul_int q (hc.elim (fun h => h.ok) fun h => h.ok)
theorem mulL {i j : Int} (h : -(2 ^ 64) < i ∧ i < 2 ^ 64) : CMulU i j := .inl (.inl h)
theorem mulR {i j : Int} (h : -(2 ^ 64) < j ∧ j < 2 ^ 64) : CMulU i j := .inl (.inr h)
theorem uMul : OpR X (binaryOp .Mult) (orR (rI CMulU fun i j => .int (i * j)) (rOwn X .Mult)) := op_or2 op_mulU (op_ownB _)
/-! ## numbers that stir a pen -/
theorem fm0 {a b : Int} (h : 0 < b) : 0 ≤ a.fmod b ∧ a.fmod b < b := by
  rw [Int.fmod_eq_emod_of_nonneg _ (by omega)]
  exact ⟨Int.emod_nonneg _ (by omega), Int.emod_lt_of_pos _ h⟩
theorem stir1 {x m a b s : Int} (hm : 0 < m) (hm1 : m ≤ 2147483648) (ha : 0 ≤ a) (ha1 : a ≤ 1000000) (hb : 0 ≤ b) (hb1 : b ≤ 10000000) (h0 : 0 ≤ s) (h1 : s ≤ 100000) : (x.fmod m + a * s + b).natAbs < 2 ^ 64 := by
  obtain ⟨h2, h3⟩ := fm0 (a := x) hm
  have h4 : 0 ≤ a * s := Int.mul_nonneg ha h0
  have h5 : a * s ≤ 1000000 * 100000 := Int.mul_le_mul ha1 h1 h0 (by decide)
  omega
theorem stir2 {x m u a b s : Int} (hm : 0 < m) (hm1 : m ≤ 2147483648) (hu : 0 ≤ u) (hu1 : u ≤ 100000) (ha : 0 ≤ a) (ha1 : a ≤ 1000000) (hb : 0 ≤ b) (hb1 : b ≤ 10000000) (h0 : 0 ≤ s) (h1 : s ≤ 100000) : (x.fmod m * (2 * s + u) + a * s * s + b).natAbs < 2 ^ 64 := by
  obtain ⟨h2, h3⟩ := fm0 (a := x) hm
  have h4 : 0 ≤ a * s := Int.mul_nonneg ha h0
  have h5 : a * s ≤ 1000000 * 100000 := Int.mul_le_mul ha1 h1 h0 (by decide)
  have h6 : 0 ≤ a * s * s := Int.mul_nonneg h4 h0
  have h7 : a * s * s ≤ 1000000 * 100000 * 100000 := Int.mul_le_mul h5 h1 h0 (by decide)
  have h8 : 0 ≤ x.fmod m * (2 * s + u) := Int.mul_nonneg h2 (by omega)
  have h9 : x.fmod m * (2 * s + u) ≤ 2147483648 * 300000 := Int.mul_le_mul (by omega) (by omega) (by omega) (by decide)
  omega
theorem stir3 {x m : Int} (hm : 0 < m) (hm1 : m ≤ 2147483648) : ∀ y, CMulU (x.fmod m) y := fun y => by
  obtain ⟨h2, h3⟩ := fm0 (a := x) hm
  exact mulL (by omega)
theorem stir4 {a s : Int} (ha : 0 ≤ a) (ha1 : a ≤ 1000000) (h0 : 0 ≤ s) (h1 : s ≤ 100000) : ∀ y, CMulU (a * s) y := fun y => by
  have h4 : 0 ≤ a * s := Int.mul_nonneg ha h0
  have h5 : a * s ≤ 1000000 * 100000 := Int.mul_le_mul ha1 h1 h0 (by decide)
  exact mulL (by omega)
theorem nz {j : Int} (h : j ≠ 0) : j ≠ 0 := h
theorem small_div {i j : Int} (h0 : 0 < j) (h1 : j ≤ 100000000000) : CDivZ i j := divZ (b := 40) (by omega) (by omega) (by decide) (by decide)
theorem szN {n : Nat} {q : Rat} (h : Sz n q) : q.num.natAbs < 2 ^ n := h.1
theorem szD {n : Nat} {q : Rat} (h : Sz n q) : (q.den : Int).natAbs < 2 ^ n := h.2
theorem mul2 {i j : Int} (h1 : i.natAbs < 2 ^ 2000) (h2 : j.natAbs < 2 ^ 2000) : CMulU i j := .inr (wide_mul h1 h2 (by decide) (by decide) (by decide))
theorem den2 {x y : Rat} (h1 : Sz 2000 x) (h2 : Sz 2000 y) : ((x.den : Int) * (y.den : Int)).natAbs < 2 ^ 8000 := by
  rw [Int.natAbs_mul]
  exact Nat.lt_of_lt_of_le (mul_lt2 (szD h1) (szD h2)) (Nat.pow_le_pow_right (by decide) (by decide))
theorem den0 (x y : Rat) : (x.den : Int) * (y.den : Int) ≠ 0 := Int.mul_ne_zero (dne x) (dne y)
/-! ## menus: displays of tuples of constants -/
def tcs (c : List V) : TA := c.foldr (fun v t => tCons (tC v) t) tNil
theorem tcs_ok {σ : St} : ∀ {c : List V} {H : Hp} {Q : List V → Hp → Prop}, Q c H → tcs c σ H Q
  | [], _, _, q => q
  | v :: c, H, Q, q => tcs_ok (c := c) (H := H) (Q := fun xs H2 => Q (v :: xs) H2) q
def tMenu (cs : List (List V)) : TA := cs.foldr (fun c t => tCons (tTup (tcs c)) t) tNil
theorem tMenu_ok {σ : St} : ∀ {cs : List (List V)} {H : Hp} {Q : List V → Hp → Prop}, (∀ c ∈ cs, c.length ≤ 1000) →
    (∀ ps H', Same H H' → Paired (fun p c => H' p = some (.tup c)) ps cs → Q (ps.map V.ref) H') → tMenu cs σ H Q
  | [], H, Q, _, q => q [] H (Same.refl H) .nil
  | c :: cs, H, Q, hc, q => by
    show tTup (tcs c) σ H (fun x H1 => tMenu cs σ H1 fun xs H2 => Q (x :: xs) H2)
    refine tcs_ok (c := c) ⟨Nat.le_of_lt (small1000 (hc c (List.mem_cons_self ..))), fun p hp => ?_⟩
    refine tMenu_ok (fun c' h => hc c' (List.mem_cons_of_mem _ h)) fun ps H' e pr => ?_
    refine q (p :: ps) H' (fun b o h => e _ _ (by rw [upd_ne (ne_of_none h hp)]; exact h)) (.cons (e _ _ upd_same) pr)
theorem sameNew {H : Hp} {a : Addr} {o : HO} (h : H a = none) : Same H (upd H a o) := fun b u e => by rw [upd_ne (ne_of_none e h)]; exact e
theorem go_sa {te : TE} {g : TG} {u : TS} {D : Ends} {σ : St} {H : Hp} (h : te σ H fun x H1 => g x σ H1 (u D)) : tSeq (tAsg te g) u D σ H := h
theorem qb {Q : Bool → Hp → Prop} {b c : Bool} {H : Hp} (e : b = c) (h : Q c H) : Q b H := e ▸ h
theorem vb {Q : VK} {b c : Bool} {H : Hp} (e : b = c) (h : Q (.bl c) H) : Q (.bl b) H := e ▸ h
/-- an if whose test is false, whatever is wanted of it -/
theorem sif {tc : TT} {t w : TS} {D : Ends} {σ : St} {H : Hp} (h : ∀ Q : Bool → Hp → Prop, (∀ H2, Same H H2 → Q false H2) → tc σ H Q) (k : ∀ H2, Same H H2 → w D σ H2) : tSeq (tIfS tc t tNext) w D σ H :=
  h _ fun H2 e => iteF (k H2 e)
theorem lMenu_ok {σ : St} {cs : List (List V)} {H : Hp} {Q : VK} (hc : ∀ c ∈ cs, c.length ≤ 1000) (hl : cs.length ≤ 1000)
    (q : ∀ ps H1 a, Same H H1 → Paired (fun p c => H1 p = some (.tup c)) ps cs → H1 a = none → Q (.ref a) (upd H1 a (.lst (ps.map V.ref)))) : tLst (tMenu cs) σ H Q :=
  tMenu_ok hc fun ps H1 e pr => ⟨by rw [List.length_map, pr.length]; exact Nat.le_of_lt (small1000 hl), fun a ha => q ps H1 a e pr ha⟩
theorem paired_mem {α β : Type} {F : α → β → Prop} : ∀ {l : List α} {m : List β} {x : α}, Paired F l m → x ∈ l → ∃ y ∈ m, F x y
  | _, _, _, .nil, h => by cases h
  | _, _, x, .cons r t, h => by
    rcases List.mem_cons.mp h with e | h
    · subst e; exact ⟨_, List.mem_cons_self .., r⟩
    · obtain ⟨y, hy, f⟩ := paired_mem t h
      exact ⟨y, List.mem_cons_of_mem _ hy, f⟩
/-! ## lists of ints as data -/
theorem dp_ints {K : PySem.W.Frag} {H : Hp} : ∀ ns : List Int, DpAll K H (ns.map V.int) (ns.map PyData.int)
  | [] => .nil
  | n :: ns => .cons (.int n) (dp_ints ns)
theorem canAll_ints : ∀ ns : List Int, PyData.canLayAll0 (ns.map PyData.int) = true
  | [] => by simp [PyData.canLayAll0]
  | n :: ns => by simp [PyData.canLayAll0, PyData.canLay0, canAll_ints ns]
theorem depthAll_ints : ∀ ns : List Int, PyData.depthAll (ns.map PyData.int) ≤ 1
  | [] => by simp [PyData.depthAll]
  | n :: ns => by
    have h := depthAll_ints ns
    simp [PyData.depthAll, PyData.depth] at *
    omega
theorem shaped_ints (ns : List Int) : SeqAt.shaped (.list (ns.map PyData.int)) = true := by
  have h := depthAll_ints ns
  simp [SeqAt.shaped, PyData.canLay0, PyData.depth, canAll_ints]
  omega
theorem eqv_same : ∀ ns : List Int, PyData.eqv (.list (ns.map PyData.int)) (.list (ns.map PyData.int)) = true
  | [] => by simp [PyData.eqv, PyData.eqvAll]
  | n :: ns => by
    have h := eqv_same ns
    simp [PyData.eqv, PyData.eqvAll] at *
    exact h
theorem eqv_nil (ns : List Int) : PyData.eqv (.list (ns.map PyData.int)) (.list []) = ns.isEmpty := by
  cases ns <;> simp [PyData.eqv, PyData.eqvAll]
theorem uDiv : OpR X (binaryOp .FloorDiv) (orR (rI CDivZ fun i j => .int (i.fdiv j)) (rOwn X .FloorDiv)) := op_or2 op_fdivZ (op_ownB _)
theorem uMod : OpR X (binaryOp .Mod) (orR (rI (fun _ j => j ≠ 0) fun i j => .int (i.fmod j)) (rOwn X .Mod)) := op_or2 op_modN (op_ownB _)
theorem uLt : OpR X (compareOp .Lt) (orR (rI0 fun i j => .bl (decide (i < j))) (rOwnC X .Lt)) := op_or2 op_lt (op_ownC _)
theorem uLe : OpR X (compareOp .LtE) (orR (rI0 fun i j => .bl (decide (i ≤ j))) (rOwnC X .LtE)) := op_or2 op_le (op_ownC _)
theorem uGt : OpR X (compareOp .Gt) (orR (rI0 fun i j => .bl (decide (j < i))) (rOwnC X .Gt)) := op_or2 op_gt (op_ownC _)
theorem uGe : OpR X (compareOp .GtE) (orR (rI0 fun i j => .bl (decide (j ≤ i))) (rOwnC X .GtE)) := op_or2 op_ge (op_ownC _)
theorem uEq (hu : X.A.units + 64 < cLine) : OpR X (compareOp .Eq) (orR rEq (orR (rOwnC X .Eq) (rEqD X.K))) := op_or2 op_eq (op_or2 (op_ownC _) (op_eqD hu))
theorem uNe (hu : X.A.units + 64 < cLine) : OpR X (compareOp .NotEq) (orR rNe (rNeD X.K)) := op_or2 op_ne (op_neD hu)
theorem uNeg : UnR X (unaryOp .USub) (fun x H Q => rU (fun i => .int (-i)) x H Q ∨ rOwnU X "__neg__" x H Q) := UnR.or' un_neg un_ownNeg
/-- two promises of one def -/
theorem FnR.or {P : Program} {w : World} {K : PySem.W.Frag} {mg : Str → Option Value} {base : Heap} {CX : CXT} {k : Nat} {f : Addr} {sp sp' : Sp} (h : FnR P w K mg base CX k f sp) (h' : FnR P w K mg base CX k f sp') :
    FnR P w K mg base CX k f (fun vs H Q E => sp vs H Q E ∨ sp' vs H Q E) := fun A outer s H us vs Q E hr e0 r hs =>
  hs.elim (fun q => h A outer s H us vs Q E hr e0 r q) fun q => h' A outer s H us vs Q E hr e0 r q
theorem uIsi : CallR X (.builtin "isinstance") (fun xs H Q => rIsi X.K xs H Q ∨ rIsiT X.K xs H Q) := CallR.or' call_isi call_isiT
end
end AZ

set_option Elab.async false
set_option maxRecDepth 100000
set_option maxHeartbeats 4000000
set_option linter.all false
namespace AZ
open PySem PySem.Spec PySem.W PySem.Calls PyProof.Rows
section
variable {prog : Program} {w : World} {A : Around} {E : Value → Shared → Prop} {s : Shared} {K : Frag} {x C L f : Addr} {h₀ : Heap} {m : Str → Option Value} {ox : Obj} {od : Option Obj} {name : Str} {b tb : Value}
theorem ifBound_B {M : Model} {id : String} {args : List Value} {Q : Option Value → Shared → Prop} (X : K.In s.heap) (I : InstAt s.heap x ox C od) (hs : findIn K (.ref C) name = some (some (.builtin id)))
    (hb : ∀ self, bindSpecial (.builtin id) self = pure (.builtin id, [self])) (h : wpAny M A (call (.builtin id) (.ref x :: args)) (fun v => Q (some v)) E s) : wpAny M A (callSpecialIfBound? (.ref x) name args) Q E s := by
  simp only [callSpecialIfBound?, bindSpecialIfBound?]
  refine wpAny_holding (wpAny_bind (wpAny_bind (wpAny_bind (I.type.here ((looks_findIn X hs).here ?_)))))
  refine wpAny_bind (wpAny_askSetting (wpAny_ite ?_))
  have fin : wpAny M A (call (.builtin id) ([.ref x] ++ args) >>= fun v => pure (some v)) Q E s := wpAny_bind (wpAny_mono h (fun v s' h' => wpAny_pure h') fun _ _ h' => h')
  split
  · exact wpAny_bind ((Looks.of_pure (hb _)).here (wpAny_pure (by exact fin)))
  · exact wpAny_tryCatch (wpAny_bind ((Looks.of_pure (hb _)).here (wpAny_pure (by exact fin))))
theorem one_ne {Q : Value → Shared → Prop} (hu : A.units + 1 < cLine) (X : K.In s.heap) (I : InstAt s.heap x ox C od)
    (hne : findIn K (.ref C) "__ne__" = some (some (.builtin "object.__ne__"))) (hs : findIn K (.ref C) "__eq__" = some (some (.ref f))) (hf : isFn K (.ref f) = true) (hm : mroIn K C (.type "object") = some true)
    (h : wpAny (model prog w) A.in1 (call (.ref f) [.ref x, b]) (fun v s' => ∃ r, v = .bool r ∧ Q (.bool (!r)) s') E s) :
    wpAny (model prog w) A (tryCompare (.ref x) "__ne__" b) (fun r s' => ∃ v, r = some v ∧ Q v s') E s := by
  have hu' : A.in1.units < cLine := by
    show A.units + 1 < cLine
    exact hu
  unfold tryCompare
  refine wpAny_bind (ifBound_B X I hne PySem.F.cmp_object.ne.bind (wpAny_call (codeAny_call_builtin PySem.F.cmp_object.ne.plain PySem.F.cmpEntry_ne (check_slot PySem.F.cmpKind_ne PySem.F.cmpSplit_ne (I.type.andThen (looks_mroIn X hm)) (PySem.F.cmpArgs_ne _ _) ?_))))
  unfold Builtin.«object.__ne__»
  refine wpAny_bind (m := slotArgs "__ne__" 1 _) (wpAny_pure ?_)
  refine wpAny_bind (m := cRoomFor _ _) (wpAny_cRoomFor hu' ?_)
  refine wpAny_bind (m := callSpecialIfBound? (.ref x) (Str.ofString "__eq__") _) (ifBound_K X I hs hf (wpAny_mono h (fun r s' hr => ?_) fun _ _ y => y))
  obtain ⟨q, rfl, hq⟩ := hr
  refine wpAny_bind (wpAny_truthy_bool (wpAny_pure ?_))
  exact wpAny_pure ⟨_, rfl, hq⟩
theorem ne_K {Q : Value → Shared → Prop} (hu : A.units + 1 < cLine) (F : Fr h₀ L s.heap m) (X₀ : K.In h₀) (I : InstAt s.heap x ox C od) (hb : Looks (model prog w) s.heap (typeOf b) tb) (hn : notFirst K C tb = true)
    (hne : findIn K (.ref C) "__ne__" = some (some (.builtin "object.__ne__"))) (hs : findIn K (.ref C) "__eq__" = some (some (.ref f))) (hf : isFn K (.ref f) = true) (hm : mroIn K C (.type "object") = some true)
    (h : wpAny (model prog w) A.in1 (call (.ref f) [.ref x, b]) (fun v s' => ∃ r, v = .bool r ∧ Q (.bool (!r)) s') E s) : wpAny (model prog w) A (richCompare .NotEq (.ref x) b) Q E s := by
  have X := X₀.keeps F.keep
  have one := one_ne hu X I hne hs hf hm h
  unfold richCompare
  simp only [oneThing_ref]
  refine wpAny_holding (wpAny_bind (wpAny_cRoomFor (by omega) ?_))
  refine wpAny_bind (I.type.here (wpAny_bind (hb.here ?_)))
  split
  · rename_i q
    have e : subIn K tb (.ref C) = some false := by
      rcases Bool.or_eq_true_iff.mp hn with e | e
      · rw [beq_iff_eq.mp e] at q; simp at q
      · exact beq_iff_eq.mp e
    refine wpAny_bind ((looks_subIn X e).here ?_)
    simp only [Bool.false_eq_true, if_false]
    refine wpAny_bind (wpAny_mono one (fun r s' z => ?_) fun _ _ e => e)
    obtain ⟨v, rfl, hq⟩ := z
    exact wpAny_pure hq
  · refine wpAny_bind (wpAny_pure ?_)
    simp only [Bool.false_eq_true, if_false]
    refine wpAny_bind (wpAny_mono one (fun r s' z => ?_) fun _ _ e => e)
    obtain ⟨v, rfl, hq⟩ := z
    exact wpAny_pure hq
end
end AZ
namespace GQ
open PySem PySem.SeqAt
open AutoSeq1 (wpAny_loadPart')
open MeetsSeq MeetsSeq2 MeetsSeq3 SeqRoads2
section
variable {prog : Program} {w : World} {A : Around} {R : Result → Shared → Prop}
/-- where the walk over two tuples stands -/
def PairsAt (as bs : Array Value) (J : Nat → Shared → Prop) (left : List (Value × Value)) (z : Shared) : Prop := ∃ k, left = (as.toList.zip bs.toList).drop k ∧ k ≤ as.size ∧ J k z
theorem pairs_next {as bs : Array Value} {J : Nat → Shared → Prop} (e : as.size = bs.size) {p q : Value} {left : List (Value × Value)} {z : Shared} (h : PairsAt as bs J ((p, q) :: left) z) :
    ∃ k, ∃ (k1 : k < as.size) (k2 : k < bs.size), p = as[k] ∧ q = bs[k] ∧ left = (as.toList.zip bs.toList).drop (k + 1) ∧ J k z := by
  obtain ⟨k, el, _, hJ⟩ := h
  have len : (as.toList.zip bs.toList).length = as.size := by simp [e]
  by_cases hk : k < (as.toList.zip bs.toList).length
  · have k1 : k < as.size := len ▸ hk
    rw [List.drop_eq_getElem_cons hk] at el
    obtain ⟨e1, e2⟩ := List.cons.inj el
    have e3 := Prod.mk.inj (e1.trans (show _ = (as[k], bs[k]'(e ▸ k1)) by simp))
    exact ⟨k, k1, e ▸ k1, e3.1, e3.2, e2, hJ⟩
  · rw [List.drop_of_length_le (Nat.le_of_not_lt hk)] at el
    cases el
theorem pairs_done {as bs : Array Value} {J : Nat → Shared → Prop} (e : as.size = bs.size) {z : Shared} (h : PairsAt as bs J [] z) : J as.size z := by
  obtain ⟨k, el, hk, hJ⟩ := h
  have len : (as.toList.zip bs.toList).length = as.size := by simp [e]
  have : (as.toList.zip bs.toList).length ≤ k := by simpa using el.symm
  have hke : k = as.size := by omega
  exact hke ▸ hJ
theorem tup_ne {u v : Addr} {as bs : Array Value} {n1 n2 : Nat} {d1 d2 : Option Addr} {s1 s2 : Array (Option Value)} (e : as.size = bs.size) (J : Nat → Shared → Prop)
    (step : ∀ k (k1 : k < as.size) (k2 : k < bs.size) z, J k z → wpAny (model prog w) A.in1 (eqBool as[k] bs[k]) (fun r z' => r = true ∧ J (k + 1) z') (fun x z' => R (.error x) z') z)
    (last : ∀ z, J as.size z → R (.ok (.ret (.bool false))) z) {z : Shared} (hu : z.heap.get? u = some { cls := .type "tuple", dict := d1, data := .seq as n1, slots := s1 }) (hv : z.heap.get? v = some { cls := .type "tuple", dict := d2, data := .seq bs n2, slots := s2 }) (h : J 0 z) :
    wpAny (model prog w) A.in1 (Builtin.«tuple.__ne__» ⟨[.ref u, .ref v], []⟩) (FinOf prog w A R) (fun x z' => R (.error x) z') z := by
  have isTup := AutoSeq1.sub_tuple_tuple
  have start : PairsAt as bs J (as.toList.zip bs.toList) z := ⟨0, rfl, Nat.zero_le _, h⟩
  obtain ⟨hp, gs, dr, tk, os⟩ := z
  wp_walk using wpAny_loadPart' hu, wpAny_loadPart' hv, wpAny_forIn_list _ (fun left b z' => b.1 = none ∧ PairsAt as bs J left z') _
  case turn =>
    rintro ⟨p, q⟩ left b z' ⟨_, at_⟩
    obtain ⟨k, k1, k2, rfl, rfl, el, hJ⟩ := pairs_next e at_
    refine wpAny_bind (wpAny_mono (step k k1 k2 z' hJ) (fun r z2 hz => ?_) fun _ _ x => x)
    obtain ⟨rfl, hJ2⟩ := hz
    wp_walk
    exact ⟨rfl, k + 1, el, k1, hJ2⟩
  case fin =>
    rintro ⟨b1, b2⟩ z' ⟨hb, at_⟩
    obtain rfl : b1 = none := hb
    have hl := last z' (pairs_done e at_)
    wp_walk
    simpa [Builtin.Tuple.tupleCompareSizes, e] using hl
  case h => exact ⟨rfl, start⟩
end
section
variable {prog : Program} {w : World} {A : Around} {X : Value → Shared → Prop} {z : Shared}
theorem ne_tups {u v : Addr} {as bs : Array Value} {Q : Value → Shared → Prop} (e : as.size = bs.size) (room : A.units < cLine) (J : Nat → Shared → Prop) (hu : z.heap.IsTuple u as) (hv : z.heap.IsTuple v bs)
    (step : ∀ k (k1 : k < as.size) (k2 : k < bs.size) z, J k z → wpAny (model prog w) A.in1 (eqBool as[k] bs[k]) (fun r z' => r = true ∧ J (k + 1) z') X z)
    (last : ∀ z, J as.size z → Q (.bool false) z) (h : J 0 z) : wpAny (model prog w) A (richCompare .NotEq (.ref u) (.ref v)) Q X z := by
  obtain ⟨⟨c1, d1, a1, s1⟩, g1, rfl, n1, rfl⟩ := id hu
  obtain ⟨⟨c2, d2, a2, s2⟩, g2, rfl, n2, rfl⟩ := id hv
  exact wpAny_richCompare_same_room (op := .NotEq) ⟨_, g1, rfl⟩ ⟨_, g2, rfl⟩ F.slot_tuple_ne (call_here F.slot_tuple_ne ⟨_, g1, rfl⟩ F.entry_tuple_ne (F.args_tuple_ne_2 _ _)
    (tup_ne (R := wants (fun v s' => v ≠ .notImplemented ∧ Q v s') X) e J step (fun z' q => ⟨(fun x => nomatch x), last z' q⟩) g1 g2 h)) room
end
end GQ
namespace AZ
open PySem L2
section
variable {X : Cx} {n m : Nat} {D D' : Eqv}
/-- the callee of X, somewhere below X's running body -/
theorem run_fnS {CX : CXT} {f : Addr} {sp : Sp} {E : XK} {Q : VK} {us : List Value} {vs : List V} {A : Around} {pins : List (Addr × Obj)} {σ : St} {H : Hp} {s : Shared} (sb : Sub X n A) (F : FnR X.prog X.w X.K X.mg X.base CX n f sp) (hx : Passes CX X E) (I : Inv X pins σ H s) (r : Vals vs us) (h : sp vs H Q E) :
    codeAny (model X.prog X.w) A (.call (.ref f) ⟨us, []⟩) (fun r s' => match r with | .ok (.ret v) => EP X pins σ Q v s' | .ok _ => False | .error e => X.xe e s') s := by
  have e0 : Env0 X.prog X.w X.K X.mg X.base A X.stack s H := by
    have e := I.env0
    exact ⟨by rw [sb.fr]; exact e.frames, e.mod, e.bs, e.bsz, e.funs, e.frf, e.hok, e.bare⟩
  refine codeAny_mono (F A X.stack s H us vs Q E sb.room e0 r h) fun r s' hq => ?_
  cases r with
  | error e => exact hx pins σ H s e s' I hq
  | ok fl =>
    cases fl with
    | ret u => exact I.after hq
    | next => exact False.elim hq
    | brk => exact False.elim hq
    | cont => exact False.elim hq
/-- != of own classes that have == alone -/
structure NeM (K : PySem.W.Frag) (C f : Addr) : Prop where
  hne : PySem.W.findIn K (.ref C) "__ne__" = some (some (.builtin "object.__ne__"))
  hs : PySem.W.findIn K (.ref C) "__eq__" = some (some (.ref f))
  hf : PySem.W.isFn K (.ref f) = true
  hm : PySem.W.mroIn K C (.type "object") = some true
  hn : PySem.W.notFirst K C (.type "int") = true
def rOwnN (X : Cx) : R2 := fun x y H Q => ∃ (a C dx : Addr) (fs : List (Str × V)) (f : Addr) (CX : CXT) (k : Nat) (sp : Sp) (E : XK),
  x = .ref a ∧ H a = some (.ins C dx fs) ∧ RightI C H y ∧ NeM X.K C f ∧ FnR X.prog X.w X.K X.mg X.base CX k f sp ∧ Room (k + 1) X.A ∧ Passes CX X E ∧ sp [x, y] H (fun v H1 => ∃ r, v = .bl r ∧ Q (.bl (!r)) H1) E
theorem op_ownN : OpR X (compareOp .NotEq) (rOwnN X) := by
  intro pins s σ H x y v u Q I rx ry h
  obtain ⟨a, C, dx, fs, f, CX, k, sp, E, rfl, ha, hR, hM, F, hr, hx, hs⟩ := h
  obtain rfl : v = Value.ref a := rx
  have hc : wpAny (model X.prog X.w) X.A.in1 (call (.ref f) [.ref a, u]) (fun v s' => ∃ r, v = .bool r ∧ EP X pins σ Q (.bool (!r)) s') X.xe s :=
    thn (wpAny_call (run_fnS (us := [.ref a, u]) (vs := [.ref a, y]) ⟨hr.in1, rfl⟩ F hx I (.cons rfl (.cons ry .nil)) hs)) fun v s1 z => by
      obtain ⟨z, H1, I1, rz, r, rfl, q⟩ := z
      obtain rfl : v = Value.bool r := rz
      exact ⟨r, rfl, .bl (!r), H1, I1, rfl, q⟩
  obtain ⟨mA, J, _⟩ := ins_get I.hok ha
  obtain ⟨od, J, _⟩ := J.look
  obtain ⟨m, hF⟩ := I.fr
  have hu : X.A.units + 1 < cLine := by have := hr.units; omega
  show wpAny (model X.prog X.w) X.A (richCompare .NotEq (.ref a) u) (EP X pins σ Q) X.xe s
  rcases hR with ⟨j, rfl⟩ | ⟨b, dy, gs, rfl, hb⟩
  · obtain ⟨t, rfl⟩ := ry
    exact ne_K (tb := .type "int") hu hF I.ok.mod.kin J (PySem.W.Looks.of_pure rfl) hM.hn hM.hne hM.hs hM.hf hM.hm hc
  · obtain rfl : u = Value.ref b := ry
    obtain ⟨mB, J2, _⟩ := ins_get I.hok hb
    obtain ⟨od2, J2, _⟩ := J2.look
    exact ne_K (tb := .ref C) hu hF I.ok.mod.kin J J2.type (by simp [PySem.W.notFirst]) hM.hne hM.hs hM.hf hM.hm hc
/-- != of two tuples that are equal, item by item -/
def NcG (X : Cx) (n : Nat) (D : Eqv) : Prop :=
  ∀ (A : Around) (pins : List (Addr × Obj)) (s : Shared) (σ : St) (H : Hp) (x y : V) (u v : Value), Sub X n A → Inv X pins σ H s → RelV x u → RelV y v → D x y H →
    wpAny (model X.prog X.w) A (richCompare .NotEq u v) (fun r s' => r = .bool false ∧ ∃ H', Inv X pins σ H' s' ∧ Ext H H') X.xe s
theorem ncG_tup (hD : Mon D) (h : EqG X n D) : NcG X (n + 1) (DTup X.K D) := by
  intro A pins s σ H x y u v sb I rx ry d
  obtain ⟨a, b, xs, ys, rfl, rfl, ha, hb, p⟩ := d
  cases rx
  cases ry
  obtain ⟨its, r, e, z⟩ := I.tuple ha
  obtain ⟨its2, r2, e2, z2⟩ := I.tuple hb
  have hsz : its.toArray.size = its2.toArray.size := by rw [List.size_toArray, List.size_toArray, ← r.length, ← r2.length]; exact p.1
  exact GQ.ne_tups hsz sb.room.units0 (fun _ s' => LoopI X pins σ H s') e e2 (fun k k1 k2 z q => turnG hD h sb p r r2 k k1 k2 z q) (fun z q => ⟨rfl, q⟩) ⟨H, I, Ext.rfl'⟩
def rNeG (D : Eqv) : R2 := fun x y H Q => D x y H ∧ ∀ H', Ext H H' → Q (.bl false) H'
theorem op_neG (h : NcG X n D) (hr : Room n X.A) : OpR X (compareOp .NotEq) (rNeG D) := by
  intro pins s σ H x y v u Q I rx ry hq
  obtain ⟨d, q⟩ := hq
  show wpAny (model X.prog X.w) X.A (richCompare .NotEq v u) (EP X pins σ Q) X.xe s
  refine wpAny_mono (h X.A pins s σ H x y v u ⟨hr, rfl⟩ I rx ry d) (fun r s' z => ?_) fun _ _ x => x
  obtain ⟨hr', H', I', e⟩ := z
  subst hr'
  exact ⟨.bl false, H', I', rfl, q H' e⟩
/-- an own == promised by a comparison, as a way two values are equal -/
def DOwn (C : Addr) (R : Addr → V → Hp → Prop) : Eqv := fun x y H => ∃ a dx fs, x = .ref a ∧ H a = some (.ins C dx fs) ∧ RightI C H y ∧ R a y H
def spEqV (R : Addr → V → Hp → Prop) : Sp := fun vs H Q _ => ∃ a y, vs = [.ref a, y] ∧ R a y H ∧ ∀ H', Ext H H' → Q (.bl true) H'
theorem mon_own {C : Addr} {R : Addr → V → Hp → Prop} (hR : ∀ a b H H', Ext H H' → R a b H → R a b H') : Mon (DOwn C R) := fun x y H H' e d => by
  obtain ⟨a, dx, fs, hx, h1, h2, r⟩ := d
  exact ⟨a, dx, fs, hx, e _ _ h1, h2.elim .inl fun ⟨b, dy, gs, hy, h⟩ => .inr ⟨b, dy, gs, hy, e _ _ h⟩, hR a y H H' e r⟩
theorem eqBool_refV {prog : Program} {w : World} {A : Around} {E : Value → Shared → Prop} {s : Shared} {l : Addr} {y : Value} {Q : Bool → Shared → Prop} (hne : Value.ref l ≠ y) (h : wpAny (model prog w) A (richCompare .Eq (.ref l) y) (fun v s' => ∃ r, v = .bool r ∧ Q r s') E s) : wpAny (model prog w) A (eqBool (.ref l) y) Q E s := by
  unfold eqBool
  refine wpAny_holding ?_
  refine wpAny_ite_split (fun hab => absurd (eq_of_beq hab) hne) (fun _ => ?_)
  refine wpAny_bind (wpAny_mono h (fun v s' hv => ?_) fun _ _ x => x)
  obtain ⟨r, rfl, q⟩ := hv
  exact wpAny_truthy_bool q
theorem eqG_own {CX : CXT} {C f : Addr} {R : Addr → V → Hp → Prop} {E : XK} (F : FnR X.prog X.w X.K X.mg X.base CX n f (spEqV R)) (M : CmpM X.K C .Eq f) (hx : Passes CX X E) : EqG X n (DOwn C R) := by
  intro A pins s σ H x y u v sb I rx ry d
  obtain ⟨a, dx, fs, rfl, ha, hR, r⟩ := d
  obtain rfl : u = Value.ref a := rx
  have hsp : spEqV R [.ref a, y] H (fun v H' => v = .bl true ∧ Ext H H') E := ⟨a, y, rfl, r, fun H' e => ⟨rfl, e⟩⟩
  have hc : wpAny (model X.prog X.w) A (call (.ref f) [.ref a, v]) (PySem.W.CmpBack (fun v s' => ∃ r, v = .bool r ∧ (fun r s' => r = true ∧ ∃ H', Inv X pins σ H' s' ∧ Ext H H') r s')) X.xe s :=
    thn (wpAny_call (run_fnS (us := [.ref a, v]) (vs := [.ref a, y]) sb F hx I (.cons rfl (.cons ry .nil)) hsp)) fun v s1 z => by
      obtain ⟨z, H1, I1, rz, rfl, e⟩ := z
      obtain rfl : v = Value.bool true := rz
      exact ⟨true, rfl, rfl, H1, I1, e⟩
  by_cases hab : Value.ref a = v
  · subst hab
    exact SeqAt.EqAt.same (A := A) (s := s) (.ref a) X.prog X.w X.xe _ ⟨rfl, H, I, Ext.rfl'⟩
  refine eqBool_refV hab ?_
  obtain ⟨mA, J, _⟩ := ins_get I.hok ha
  obtain ⟨od, J, _⟩ := J.look
  obtain ⟨m, hF⟩ := I.fr
  rcases hR with ⟨j, rfl⟩ | ⟨b, dy, gs, rfl, hb⟩
  · obtain ⟨t, rfl⟩ := ry
    exact PySem.W.cmp_K (op := .Eq) (tb := .type "int") sb.room.units0 hF I.ok.mod.kin J (PySem.W.Looks.of_pure rfl) M.hn M.hs M.hf hc
  · obtain rfl : v = Value.ref b := ry
    obtain ⟨mB, J2, _⟩ := ins_get I.hok hb
    obtain ⟨od2, J2, _⟩ := J2.look
    exact PySem.W.cmp_K (op := .Eq) (tb := .ref C) sb.room.units0 hF I.ok.mod.kin J J2.type (by simp [PySem.W.notFirst]) M.hs M.hf hc
end
end AZ

set_option Elab.async false
set_option maxRecDepth 100000
set_option maxHeartbeats 4000000
set_option linter.all false
namespace AZ
open PySem PySem.Spec PySem.W PySem.Calls PyProof.Rows
section
variable {prog : Program} {w : World} {A : Around} {E : Value → Shared → Prop} {s : Shared} {K : Frag} {x C L f g dx : Addr} {h₀ : Heap} {m : Str → Option Value} {ox : Obj} {od : Option Obj} {name : Str} {b tb : Value} {i : Int} {t : Tok}
theorem intBin_dec {M : Model} {name : String} {fn : Int → Int → Sem Fin} {Q : Fin → Shared → Prop} (hx : s.heap.get? x = some (instObj C dx)) (q : Q (.done (.ret .notImplemented)) s) :
    wpAny M A (Builtin.Int.intBinary name fn false ⟨[.int i t, .ref x], []⟩) Q E s := by
  unfold Builtin.Int.intBinary
  refine wpAny_bind (m := slotArgs name 1 _) (wpAny_pure ?_)
  refine wpAny_bind (m := Builtin.Int.intOfSelf _) (wpAny_pure ?_)
  obtain ⟨hp, gs, d, tk, os⟩ := s
  have hx' : hp.get? x = some (instObj C dx) := hx
  unfold instObj at hx'
  wp_walk using AutoSeq1.wpAny_loadPart' hx'
  exact q
/-- what an int does beside an instance: it declines -/
structure IntDec (nm : String) : Prop where
  fills : fillsNumberSlot (.type "int") nm = pure true
  dec : ∀ {prog : Program} {w : World} {A : Around} {E : Value → Shared → Prop} {s : Shared} {x C dx : Addr} {i : Int} {t : Tok} {Q : Option Value → Shared → Prop}, s.heap.get? x = some (instObj C dx) → Q none s →
    wpAny (model prog w) A (tryMethod (.int i t) (PySem.dunder nm) (.ref x)) Q E s
theorem int_dec_sub : IntDec "sub" := by
  refine ⟨PyProof.Rows.fills_int_sub, fun {prog w A E s x C dx i t Q} hx q => ?_⟩
  refine wpAny_tryMethod_declines (T := "int") (id := "int.__sub__") (name := PySem.dunder "sub") (typeIs_int s i t) ?_ ?_
  · exact PyProof.Rows.slot_int_sub
  · refine wpAny_call_entry PyProof.Rows.slot_int_sub (typeIs_int s i t) PyProof.Rows.entry_int_sub ?_ (PyProof.Rows.args_int_sub _ _)
    unfold Builtin.«int.__sub__»
    exact intBin_dec hx ⟨_, rfl, rfl, q⟩
theorem int_dec_add : IntDec "add" := by
  refine ⟨PySem.F.fills_int_add, fun {prog w A E s x C dx i t Q} hx q => ?_⟩
  refine wpAny_tryMethod_declines (T := "int") (id := "int.__add__") (name := PySem.dunder "add") (typeIs_int s i t) ?_ ?_
  · exact PySem.F.slot_int_add
  · refine wpAny_call_entry PySem.F.slot_int_add (typeIs_int s i t) PySem.F.entry_int_add ?_ (PySem.F.args_int_add_2 _ _)
    unfold Builtin.«int.__add__»
    exact intBin_dec hx ⟨_, rfl, rfl, q⟩
theorem int_dec_mul : IntDec "mul" := by
  refine ⟨PySem.F.fills_int_mul, fun {prog w A E s x C dx i t Q} hx q => ?_⟩
  refine wpAny_tryMethod_declines (T := "int") (id := "int.__mul__") (name := PySem.dunder "mul") (typeIs_int s i t) ?_ ?_
  · exact PySem.F.slot_int_mul
  · refine wpAny_call_entry PySem.F.slot_int_mul (typeIs_int s i t) PySem.F.entry_int_mul ?_ (PySem.F.args_int_mul_2 _ _)
    unfold Builtin.«int.__mul__»
    exact intBin_dec hx ⟨_, rfl, rfl, q⟩
theorem refl1 {nm : String} {Q : Value → Shared → Prop} (D : IntDec nm) (X : K.In s.heap) (I : InstAt s.heap x ox C od) (hx : s.heap.get? x = some (instObj C dx)) (hc : selfFirst K C = true)
    (hs : findIn K (.ref C) (PySem.dunder nm) = some (some (.ref g))) (hr : findIn K (.ref C) (dunderR nm) = some (some (.ref f))) (hf : isFn K (.ref f) = true) (hu : subIn K (.ref C) (.type "int") = some false)
    (h : wpAny (model prog w) A (call (.ref f) [.ref x, .int i t]) (PySem.W.CmpBack Q) E s) : wpAny (model prog w) A (binaryOp1 nm (.int i t) (.ref x)) (fun r s' => ∃ v, r = some v ∧ Q v s') E s := by
  obtain ⟨cd, rest, hcd, hm⟩ := ksp_first hc
  have back := ksp_try X I hr hf h
  have dec : ∀ {Q : Option Value → Shared → Prop}, Q none s → wpAny (model prog w) A (tryMethod (.int i t) (PySem.dunder nm) (.ref x)) Q E s := fun q => D.dec hx q
  have L1 : Looks (model prog w) s.heap (typeOf (.int i t)) (.type "int") := Looks.of_pure rfl
  have L2 : Looks (model prog w) s.heap (typeOf (.ref x)) (.ref C) := I.type
  have L3 : Looks (model prog w) s.heap (fillsNumberSlot (.type "int") nm) true := Looks.of_pure D.fills
  have L4 : Looks (model prog w) s.heap (fillsNumberSlot (.ref C) nm) true := fills_K X hcd hm hs
  have L5 : Looks (model prog w) s.heap (isSubtype (.ref C) (.type "int")) false := looks_subIn X hu
  have L6 : Looks (model prog w) s.heap (numberSlotInPython (.type "int") nm) false := Looks.of_pure rfl
  generalize hR : (fun (r : Option Value) s' => ∃ v, r = some v ∧ Q v s') = R at back ⊢
  have hne : (Value.type "int" == Value.ref C) = false := Bool.eq_false_iff.mpr fun q => by cases beq_iff_eq.mp q
  generalize (fun (r : Option Value) s' => ∃ v, r = some v ∧ Q v s') = R at back ⊢
  unfold binaryOp1
  refine wpAny_bind (L1.here (wpAny_bind (L2.here (wpAny_bind (L3.here ?_)))))
  simp only [hne, Bool.false_eq_true, if_false]
  refine wpAny_bind (L4.here ?_)
  refine wpAny_bind (m := isSubtype (.ref C) (.type "int")) (L5.here ?_)
  refine wpAny_bind (m := numberSlotInPython (.type "int") nm) (L6.here ?_)
  refine wpAny_bind (m := tryMethod (.int i t) (PySem.dunder nm) (.ref x)) (dec ?_)
  refine wpAny_bind (m := tryMethod (.ref x) (dunderR nm) (.int i t)) (wpAny_mono back (fun r s' hr' => ?_) fun _ _ e => e)
  have hr2 := hr'
  rw [← hR] at hr2
  obtain ⟨v, rfl, hq⟩ := hr2
  exact wpAny_bind (m := rule "binop.reflected") (wpAny_rule (wpAny_pure hr'))
theorem refl_K {op : Operator} {sym : String} {nm : String} {Q : Value → Shared → Prop} (hi : op.info = (sym, nm)) (D : IntDec nm) (F : Fr h₀ L s.heap m) (X₀ : K.In h₀) (I : InstAt s.heap x ox C od) (hx : s.heap.get? x = some (instObj C dx)) (hc : selfFirst K C = true)
    (hs : findIn K (.ref C) (PySem.dunder nm) = some (some (.ref g))) (hr : findIn K (.ref C) (dunderR nm) = some (some (.ref f))) (hf : isFn K (.ref f) = true) (hu : subIn K (.ref C) (.type "int") = some false)
    (h : wpAny (model prog w) A (call (.ref f) [.ref x, .int i t]) (PySem.W.CmpBack Q) E s) : wpAny (model prog w) A (binaryOp op (.int i t) (.ref x)) Q E s := by
  have b1 := refl1 D (X₀.keeps F.keep) I hx hc hs hr hf hu h
  generalize hR : (fun (r : Option Value) s' => ∃ v, r = some v ∧ Q v s') = R at b1
  unfold binaryOp
  refine wpAny_holding ?_
  rw [hi]
  refine wpAny_bind (m := binaryOp1 nm (.int i t) (.ref x)) (wpAny_mono b1 (fun r s' hr' => ?_) fun _ _ e => e)
  rw [← hR] at hr'
  obtain ⟨v, rfl, hq⟩ := hr'
  exact wpAny_pure hq
end
end AZ
namespace AZ
open PySem L2
section
variable {X : Cx}
/-- an int, then the operator, then an instance: its own reflected one -/
structure ReflM (K : PySem.W.Frag) (C : Addr) (nm : Str) (rn : Str) (g f : Addr) : Prop where
  hs : PySem.W.findIn K (.ref C) nm = some (some (.ref g))
  hr : PySem.W.findIn K (.ref C) rn = some (some (.ref f))
  hf : PySem.W.isFn K (.ref f) = true
  hc : PySem.W.selfFirst K C = true
  hu : PySem.W.subIn K (.ref C) (.type "int") = some false
def rRefl (X : Cx) (nm : String) : R2 := fun x y H Q => ∃ (j : Int) (a C dx : Addr) (fs : List (Str × V)) (g f : Addr) (CX : CXT) (k : Nat) (sp : Sp) (E : XK),
  x = .int j ∧ y = .ref a ∧ H a = some (.ins C dx fs) ∧ ReflM X.K C (PySem.dunder nm) (dunderR nm) g f ∧ FnR X.prog X.w X.K X.mg X.base CX k f sp ∧ Room k X.A ∧ Passes CX X E ∧ sp [y, x] H Q E
theorem op_refl {op : Operator} {sym nm : String} (hi : op.info = (sym, nm)) (D : IntDec nm) : OpR X (binaryOp op) (rRefl X nm) := by
  intro pins s σ H x y v u Q I rx ry h
  obtain ⟨j, a, C, dx, fs, g, f, CX, k, sp, E, rfl, rfl, ha, hM, F, hr, hx, hs⟩ := h
  obtain ⟨t, rfl⟩ := id rx
  obtain rfl : u = Value.ref a := ry
  have hc : wpAny (model X.prog X.w) X.A (call (.ref f) [.ref a, .int j t]) (PySem.W.CmpBack (EP X pins σ Q)) X.xe s :=
    thn (wpAny_call (run_fnR (us := [.ref a, .int j t]) (vs := [.ref a, .int j]) F hr hx I (.cons rfl (.cons rx .nil)) hs)) fun _ _ z => cmpBack_of z
  obtain ⟨mA, J, _⟩ := ins_get I.hok ha
  have hobj := J.obj
  obtain ⟨od, J, _⟩ := J.look
  obtain ⟨m, hF⟩ := I.fr
  exact refl_K hi D hF I.ok.mod.kin J hobj hM.hc hM.hs hM.hr hM.hf hM.hu hc
end
end AZ

set_option Elab.async false
set_option maxRecDepth 100000
set_option maxHeartbeats 4000000
set_option linter.all false
namespace AZ
open PySem L2
section
variable {X : Cx}
/-- what str(x) and f'{x}' ask of the class at C: its own __str__ at f -/
structure StrM (K : PySem.W.Frag) (C f : Addr) : Prop where
  hs : PySem.W.findIn K (.ref C) "__str__" = some (some (.ref f))
  hf : PySem.W.isFn K (.ref f) = true
  hfm : PySem.W.findIn K (.ref C) "__format__" = some (some (.builtin "object.__format__"))
  hm : PySem.W.mroIn K C (.type "object") = some true
def rStrO (X : Cx) (d : Nat) (x : V) (H : Hp) (Q : VK) : Prop := ∃ (a C dx : Addr) (fs : List (Str × V)) (f : Addr) (CX : CXT) (k : Nat) (sp : Sp) (E : XK),
  x = .ref a ∧ H a = some (.ins C dx fs) ∧ StrM X.K C f ∧ FnR X.prog X.w X.K X.mg X.base CX k f sp ∧ Room (k + d) X.A ∧ Passes CX X E ∧ sp [x] H (fun v H1 => ∃ z, v = .str z ∧ Q (.str z) H1) E
theorem strBack_of {pins : List (Addr × Obj)} {σ : St} {Q : VK} {v : Value} {s : Shared} (h : EP X pins σ (fun v H1 => ∃ z, v = .str z ∧ Q (.str z) H1) v s) : PySem.W.StrBack (EP X pins σ Q) v s := by
  obtain ⟨z, H1, I1, rz, y, rfl, q⟩ := h
  obtain ⟨t, rfl⟩ := id rz
  exact ⟨.str y, H1, I1, rz, q⟩
theorem call_strO : CallR X (.type "str") (fun xs H Q => ∃ x, xs = [x] ∧ rStrO X 2 x H Q) := by
  intro pins s σ H xs us Q I rv q
  obtain ⟨x, rfl, a, C, dx, fs, f, CX, k, sp, E, rfl, ha, hM, F, hr, hx, hs⟩ := q
  cases rv with
  | cons r1 r2 =>
    cases r2
    cases r1
    have hc : wpAny (model X.prog X.w) X.A.in1.in1 (call (.ref f) [.ref a]) (PySem.W.StrBack (EP X pins σ Q)) X.xe s :=
      thn (wpAny_call (run_fnS (us := [.ref a]) (vs := [.ref a]) ⟨hr.in1.in1, rfl⟩ F hx I (.cons rfl .nil) hs)) fun v s3 z => strBack_of z
    obtain ⟨mA, J, _⟩ := ins_get I.hok ha
    obtain ⟨od, J, _⟩ := J.look
    exact PySem.W.kso_call hr.in1.in1.units0 I.kIn J hM.hs hM.hf hc
theorem uStr : CallR X (.type "str") (fun xs H Q => (∃ i, xs = [.int i] ∧ i.natAbs.log2 < 1920 ∧ Q (.str (toString i)) H) ∨ ∃ x, xs = [x] ∧ rStrO X 2 x H Q) := CallR.or' call_str_int call_strO
/-- {x}: a text, an int, an own one -/
def tFmtU (X : Cx) (te : TE) : TE := fun σ H Q => te σ H fun x H1 => ((∃ y : Str, x = .str y ∧ y.length ≤ sizeLine ∧ Q (.str y) H1) ∨ ∃ i : Int, x = .int i ∧ i.natAbs.log2 < 1920 ∧ Q (.str (toString i)) H1) ∨ rStrO X 1 x H1 Q
theorem pe_fmtU {e : Expr} {te : TE} {pos : Pos} (he : PE X e te) : PE X (.FormattedValue e (-1) none pos) (tFmtU X te) := by
  refine ⟨fun pins s σ H Q I h => ?_⟩
  refine wpAny_FormattedValue_plain (thn (he.run pins s σ H _ I h) fun v s1 hv => ?_)
  obtain ⟨x, H1, I1, r1, q⟩ := hv
  rcases q with (⟨y, rfl, hz, q⟩ | ⟨i, rfl, hz, q⟩) | ⟨a, C, dx, fs, f, CX, k, sp, E, rfl, ha, hM, F, hr, hx, hs⟩
  · obtain ⟨t, rfl⟩ := r1
    exact wpAny_formatField_str ⟨.str y, H1, I1, ⟨t, rfl⟩, q⟩ ⟨.str y, H1, I1.tok _, ⟨_, rfl⟩, q⟩ hz
  · obtain ⟨t, rfl⟩ := r1
    exact wpAny_formatField_int hz ⟨.str (toString i), H1, I1.tok _, ⟨_, rfl⟩, q⟩
  · obtain rfl : v = Value.ref a := r1
    have I2 := I1.tok (s1.toks + 1)
    have hc : wpAny (model X.prog X.w) X.A.in1 (call (.ref f) [.ref a]) (PySem.W.StrBack (EP X pins σ Q)) X.xe { s1 with toks := s1.toks + 1 } :=
      thn (wpAny_call (run_fnS (us := [.ref a]) (vs := [.ref a]) ⟨hr.in1, rfl⟩ F hx I2 (.cons rfl .nil) hs)) fun v s3 z => strBack_of z
    obtain ⟨mA, J, _⟩ := ins_get I1.hok ha
    obtain ⟨od, J, _⟩ := J.look
    exact PySem.W.kfo_fieldS hr.in1.units0 I1.kIn J hM.hfm hM.hm hM.hs hM.hf hc
end
end AZ

set_option Elab.async false
set_option maxRecDepth 100000
set_option maxHeartbeats 4000000
set_option linter.all false
namespace AZ
open PySem L2
/-- a def's promise where the last arguments are told by their names -/
def FnRk (P : Program) (w : World) (K : PySem.W.Frag) (mg : Str → Option Value) (base : Heap) (CX : CXT) (k : Nat) (f : Addr) (ks : List Str) (gV : List V → List V → List V) (sp : Sp) : Prop :=
  ∀ (A : Around) (outer : List Env) (s : Shared) (H : Hp) (us ws : List Value) (vs zs : List V) (Q : VK) (E : XK), Room k A → Env0 P w K mg base A outer s H → Vals vs us → Vals zs ws → sp (gV vs zs) H Q E →
    codeAny (model P w) A (.call (.ref f) ⟨us, ks.zip ws⟩) (CR CX outer P w H s Q E) s
theorem FnOk.rawk {P : Program} {w : World} {K : PySem.W.Frag} {mg : Str → Option Value} {base : Heap} {CX : CXT} {k : Nat} {f : Addr} {fd : FuncData} {ps ks : List Str} {sp : Sp} {g : List Value → List Value → List Value} {gV : List V → List V → List V}
    (F : FnOk P w K mg base CX k f fd ps sp) (hb : KBinds K fd ps ks g gV) (hK : ∀ {A : Around} {outer : List Env} {s : Shared} {H : Hp}, Env0 P w K mg base A outer s H → K.In s.heap) : FnRk P w K mg base CX k f ks gV sp := by
  intro A outer s H us ws vs zs Q E hr e0 r rz h
  have r2 := hb.rel r rz
  have hl : (g us ws).length = ps.length := by rw [← r2.length]; exact F.len _ _ _ _ h
  exact F.run A outer s H ⟨us, ks.zip ws⟩ (g us ws) (gV vs zs) Q E hr e0 (hb.to s us ws (hK e0) hl) r2 h
section
variable {X : Cx} {CX : CXT} {k : Nat} {C g : Addr} {sp : Sp} {E : XK} {o : Expr} {kws : List Keyword} {m : Str} {ks : List Str} {pos apos : Pos} {ta : TE} {t : TA} {gV : List V → List V → List V}
/-- o.m(k = e, ..) -/
def tMRk (C : Addr) (m : Str) (gV : List V → List V → List V) (sp : Sp) (E : XK) (ta : TE) (t : TA) : TE := fun σ H Q => ta σ H fun x H1 => ∃ a dx fs, x = .ref a ∧ H1 a = some (.ins C dx fs) ∧ fs.lookup m = none ∧ t σ H1 fun zs H2 => sp (gV [x] zs) H2 Q E
theorem pe_mRk {pl : Sem Bool} (he : PE X o ta) (c : Cls X.K C) (hm : Meth X.K C m g) (F : FnRk X.prog X.w X.K X.mg X.base CX k g ks gV sp) (hr : Room k X.A) (hx : Passes CX X E) (hkw : PK X kws t)
    (hall : (backToKw pos (keywordEach kws X.env)).all (·.1.isSome) = true := by rfl) (hks : (backToKw pos (keywordEach kws X.env)).filterMap (·.1) = ks := by rfl)
    (hpl : ((backTo pos (starEach [] X.env)).any (·.1) || (backToKw pos (keywordEach kws X.env)).any (·.1.isNone)) = false := by rfl)
    (ht : eval (.Call (.Attribute o m apos) [] kws pos) X.env = (eval o X.env >>= fun ov => standAt apos.atName >>= fun _ => holding [ov] (getMethod ov m pl) >>= fun r =>
      callWith pos r.1 r.2 (backTo pos (starEach [] X.env)) (backToKw pos (keywordEach kws X.env))) := by rfl) :
    PE X (.Call (.Attribute o m apos) [] kws pos) (tMRk C m gV sp E ta t) := by
  refine ⟨fun pins s σ H Q I h => ?_⟩
  refine PySem.W.methodCall_KW (pl := pl) (thn (he.run pins s σ H _ I h) fun u s1 ⟨x, H1, I1, rx, a, dx, fs, ex, ea, l, q⟩ => ?_) ht
  subst ex
  obtain rfl : u = Value.ref a := rx
  refine getmeth_ok I1 ea c hm l ?_
  refine PySem.W.callWith_KW0 (first := [.ref a]) (h₀ := X.base) I.ok.mod.kin hm.kp hall (thn (hkw.run pos pins s1 σ H1 _ I1 q) fun ws s2 ⟨zs, H2, I2, rz, q2⟩ => ⟨I2.kIn, ?_⟩) hpl
  rw [hks]
  refine wpAny_call (codeAny_mono (F X.A X.stack s2 H2 [.ref a] ws [.ref a] zs Q E hr I2.env0 (.cons rfl .nil) rz q2) fun r s' hq => ?_)
  cases r with
  | error e => exact hx pins σ H2 s2 e s' I2 hq
  | ok fl =>
    cases fl with
    | ret u => exact I2.after hq
    | next => exact False.elim hq
    | brk => exact False.elim hq
    | cont => exact False.elim hq
theorem uSubR : OpR X (binaryOp .Sub) (orR (rI0 fun i j => .int (i - j)) (orR (rOwn X .Sub) (rRefl X "sub"))) := op_or2 op_sub (op_or2 (op_ownB _) (op_refl rfl int_dec_sub))
theorem uNeR (hu : X.A.units + 64 < cLine) : OpR X (compareOp .NotEq) (orR rNe (orR (rOwnN X) (rNeD X.K))) := op_or2 op_ne (op_or2 op_ownN (op_neD hu))
theorem un_inv : UnR X (unaryOp .Invert) (rOwnU X "__invert__") := un_ownInv
end
end AZ

set_option Elab.async false
set_option maxRecDepth 100000
set_option maxHeartbeats 4000000
set_option linter.all false
/-! Own work: promises that know that no repr is under way (needed by repr of lists). -/
namespace AZ
open PySem L2 PyProof.Rows
abbrev NoG (A : Around) : Prop := A.guards = some []
theorem NoG.deeper {A : Around} (h : NoG A) (env : Env) : NoG (A.deeper env) := by
  obtain ⟨hd, d, fr, gs, u⟩ := A
  exact h
/-- a def's promise where no repr is under way -/
def FnG (P : Program) (w : World) (K : PySem.W.Frag) (mg : Str → Option Value) (base : Heap) (CX : CXT) (k : Nat) (f : Addr) (sp : Sp) : Prop :=
  ∀ (A : Around) (out : List Env) (z : Shared) (Hp0 : Hp) (us : List Value) (vs : List V) (Q : VK) (E : XK), NoG A → Room k A → Env0 P w K mg base A out z Hp0 → Vals vs us → sp vs Hp0 Q E →
    codeAny (model P w) A (.call (.ref f) ⟨us, []⟩) (CR CX out P w Hp0 z Q E) z
section
variable {P : Program} {w : World} {K : PySem.W.Frag} {mg : Str → Option Value} {base : Heap} {CX : CXT} {k : Nat} {f : Addr} {sp sp' : Sp}
theorem FnG.imp (F : FnG P w K mg base CX k f sp) (h : ∀ vs H Q E, sp' vs H Q E → sp vs H Q E) : FnG P w K mg base CX k f sp' :=
  fun A out z G us vs Q E ng room env vals prom => F A out z G us vs Q E ng room env vals (h _ _ _ _ prom)
theorem FnG.of (F : FnR P w K mg base CX k f sp) : FnG P w K mg base CX k f sp := fun A out z G us vs Q E _ => F A out z G us vs Q E
def valOf : Flow → Value
  | .ret v => v
  | _ => .none
/-- its end, from the end of its body -/
theorem ends_CR {N : List Str} {qual : Str} {scope : Scope} {cdv : Value} {A : Around} {out : List Env} {z : Shared} {G : Hp} {Q : VK} {E : XK} {fl : Flow} {z' : Shared}
    (q : SP (cxOf CX P w K mg base N qual scope f cdv A out z G E) [] { nx := fun _ H' => Q .non H', rt := Q } fl z') :
    CR CX out P w G z Q E (.ok (.ret (valOf fl))) z' := by
  cases fl with
  | ret v => obtain ⟨x, σ, G2, J, rel, q⟩ := q; exact ⟨x, G2, J.os, J.bare, J.base, J.hok, rel, q⟩
  | next => obtain ⟨σ, G2, J, q⟩ := q; exact ⟨.non, G2, J.os, J.bare, J.base, J.hok, rfl, q⟩
  | brk => obtain ⟨σ, G2, J, q⟩ := q; exact q.elim
  | cont => obtain ⟨σ, G2, J, q⟩ := q; exact q.elim
end
section
variable {P : Program} {w : World} {K : PySem.W.Frag} {mg : Str → Option Value} {base : Heap} {k : Nat} {f : Addr} {sp : Sp} {x qual : Str} {st : Stmt} {fd : FuncData} {N ps : List Str}
/-- a def by its body, known to run where no repr is under way -/
theorem fnG_of (F : Fun K x qual st f fd) (S : FnScope N ps (defScope st)) (len : ∀ vs H Q E, sp vs H Q E → vs.length = ps.length)
    (bd : ∀ (cdv : Value) (A : Around) (out : List Env) (z : Shared) (G : Hp) (vs : List V) (Q : VK) (E : XK), NoG (A.deeper (envOfC qual (defScope st) z.heap.objs.size f cdv)) →
      Room k (A.deeper (envOfC qual (defScope st) z.heap.objs.size f cdv)) → sp vs G Q E →
      ∃ t, PSs (cxOf CX0 P w K mg base N qual (defScope st) f cdv A out z G E).nox (defBody st) t ∧ t { nx := fun _ H' => Q .non H', rt := Q } (start N vs) G)
    (hb : Binds K fd ps []) : FnG P w K mg base CX0 (k + 1) f sp := by
  obtain ⟨oc, od, kV, doc, pm, an, cdv, ct, osl, rfl, look, rec⟩ := F.ex
  intro A out z G us vs Q E ng room env vals prom
  have keep : ∀ b o, base.get? b = some o → z.heap.get? b = some o := fun b o e => (env.bs b o e).1
  have kin := env.mod.kin.keeps keep
  have many : us.length = ps.length := vals.length.symm.trans (len _ _ _ _ prom)
  have bnd := hb z us kin (by rw [List.append_nil]; exact many)
  rw [List.append_nil] at bnd
  have kinds : ∀ y ∈ ps.zip us, (defScope st).names.lookup y.1 = some .local ∨
      ((defScope st).names.lookup y.1 = some .cell ∧ ((cellsFrom (z.heap.objs.size + 1) (defScope st).names []).lookup y.1).isSome = true) := by
    rintro ⟨n, v⟩ there
    exact (S.par n (List.of_mem_zip there).1).imp id fun c => ⟨c, PySem.W.cellsFrom_some _ _ _ (.inl c)⟩
  refine codeAny_call_function room.depth (kin _ _ look) rfl S.co S.gen rfl (PySem.W.codeRec_of kin rec) (bnd _ _ _ _ (wpAny_newFunctionEnv_cells S.kind kinds ?_))
  rintro env2 rfl z1 made
  refine ⟨(env.mod.nolimit.keeps keep).keeps made.toInCall.keep, codeAny_func ?_⟩
  obtain ⟨t, body, run⟩ := bd cdv A out z G vs Q E (ng.deeper _) (room.deeper _) prom
  exact wpAny_mono (body.nox.run [] z1 (start N vs) G _ (inv_start S room.hd env (len _ _ _ _ prom) vals made) run) (fun fl z2 q => ends_CR q) fun e z2 q => q
end
section
variable {X : Cx} {CX : CXT} {k : Nat} {g : Addr} {sp : Sp} {E : XK} {e : Expr} {es : List Expr} {x : Str} {p pos : Pos} {t : TA}
theorem run_fnG {pins : List (Addr × Obj)} {σ : L2.St} {H : Hp} {s : Shared} {Q : VK} {us : List Value} {vs : List V} (F : FnG X.prog X.w X.K X.mg X.base CX k g sp) (ng : NoG X.A) (hr : Room k X.A) (hx : Passes CX X E) (I : Inv X pins σ H s) (r : Vals vs us) (h : sp vs H Q E) :
    codeAny (model X.prog X.w) X.A (.call (.ref g) ⟨us, []⟩) (fun r s' => match r with | .ok (.ret v) => EP X pins σ Q v s' | .ok _ => False | .error e => X.xe e s') s :=
  codeAny_mono (F X.A X.stack s H us vs Q E ng hr I.env0 r h) fun r s' hq => match r, hq with
    | .error e, hq => hx pins σ H s e s' I hq
    | .ok (.ret _), hq => I.after hq
    | .ok .next, hq => hq.elim
    | .ok .brk, hq => hq.elim
    | .ok .cont, hq => hq.elim
/-- x(e, ..), x a def of the module that wants no repr under way -/
theorem pe_fnG (F : FnG X.prog X.w X.K X.mg X.base CX k g sp) (ng : NoG X.A) (hr : Room k X.A) (hk : PySem.W.keepIn X.K (.ref g) = true) (hm : X.mg x = some (.ref g)) (hx : Passes CX X E) (ha : PA X (e :: es) t) (hg : Gl X x := by rfl) (hd : (x == ("__debug__" : Str)) = false := by decide)
    (he : starEach (e :: es) X.env = (false, eval e X.env) :: starEach es X.env := by rfl) (hst : (backTo pos (starEach es X.env)).any (·.1) = false := by rfl) :
    PE X (.Call (.Name x p) (e :: es) [] pos) (fun σ H Q => t σ H fun vs H1 => sp vs H1 Q E) :=
  ⟨fun pins s σ H Q I h => wpAny_Call_Name_kw (ld_glob I hg hm (PySem.W.callWith_K (h₀ := X.base) I.ok.mod.kin hk
    (thn (ha.run pos pins s σ H _ I h) fun us s1 ⟨vs, H1, I1, r, q⟩ => ⟨I1.kIn, wpAny_call (run_fnG F ng hr hx I1 r q)⟩) he hst) hd)⟩
end
/-! ## the head: the law's promise at the heap behind the top -/
theorem guards_caller : NoG callerA := rfl
section
variable {P : Program} {w : World} {K : PySem.W.Frag} {mg mb : Str → Option Value} {k : Nat} {fa a : Addr} {sp : Sp} {z : Shared} {vs : List Value} {ns : List Int}
/-- what the law's end leaves -/
def EndsTrue (z : Shared) (r : Result) (z' : Shared) : Prop := r = .ok (.ret (.bool true)) ∧ OldK z.heap z'.heap ∧ z'.os = z.os ∧ AllBare z'.gens
/-- from one abstract heap that tracks at most the script -/
theorem headG (kin : K.In z.heap) (hns : z.heap.Ns mainGlobals mg) (hmb : z.heap.Ns builtinsNs mb) (boot : ∀ x : Str, x ≠ "__name__" → mb x = bootBuiltins x) (lim : z.heap.NoLimit) (nogen : z.gens = #[])
    (room : Room k callerA) (F : ∀ base : Heap, K.In base → base.Ns mainGlobals mg → FnG P w K mg base CX0 k fa sp) (prom : ∀ H : Hp, Only H → SqL K H a (ns.map V.int) → sp [.ref a] H (fun v _ => v = .bl true) E0)
    (H : Hp) (only : Only H) (seq : SqL K H a (ns.map V.int)) (hok : HOk P w H z.heap) (just : ∀ b, H b ≠ none → b = a ∧ K.lookup a = none) (obj : z.heap.get? a = some { cls := .type "list", data := .seq vs.toArray }) :
    codeAny (model P w) callerA (.call (.ref fa) ⟨[.ref a], []⟩) (EndsTrue z) z := by
  have free : ∀ b o, z.heap.get? b = some o → (b = a → K.lookup a ≠ none ∨ (∃ es ep, o.data = .dict es ep)) → (hidT z.heap H).get? b = some o := fun b o e n => hidT_get e (by
    cases q : H b with
    | none => rfl
    | some u =>
      obtain ⟨rfl, nk⟩ := just b (by rw [q]; exact fun t => nomatch t)
      rcases n rfl with n | ⟨es, ep, d⟩
      · exact absurd nk n
      · rw [obj] at e; cases e; cases d)
  have names : ∀ b m, z.heap.Ns b m → (hidT z.heap H).Ns b m := fun b m ⟨o, es, ep, e, d, r⟩ => ⟨o, es, ep, free b o e fun _ => .inr ⟨es, ep, d⟩, d, r⟩
  have kinB : K.In (hidT z.heap H) := fun b o e => free b o (kin b o e) fun eq => .inl (by rw [← eq, e]; exact fun t => nomatch t)
  obtain ⟨m2, l1, l2⟩ := lim
  have env : Env0 P w K mg (hidT z.heap H) callerA [] z H := {
    frames := rfl
    mod := ⟨kinB, names _ _ hns, ⟨mb, names _ _ hmb, boot⟩, ⟨m2, names _ _ l1, l2⟩⟩
    bs := fun _ _ e => of_hidT e
    bsz := Nat.le_of_eq (hidT_size ..)
    funs := trivial
    frf := fun _ t => nomatch t
    hok := hok
    bare := .of_eq nogen }
  refine codeAny_mono (F _ kinB (names _ _ hns) callerA [] z H [.ref a] [.ref a] _ _ guards_caller room env (.cons rfl .nil) (prom H only seq)) fun r z' q => ?_
  match r, q with
  | .error _, q => exact q.elim
  | .ok .next, q => exact q.elim
  | .ok .brk, q => exact q.elim
  | .ok .cont, q => exact q.elim
  | .ok (.ret u), ⟨v, H2, os, bare, un, hok2, rel, tr⟩ =>
    subst tr
    obtain rfl : u = Value.bool true := rel
    refine ⟨rfl, OldK.of_keep fun b o e => ?_, os, bare⟩
    rcases only b with n | ⟨ob, xs, n⟩
    · exact un.keep b o e n (fun t => nomatch t) (fun t => nomatch t)
    · have g1 := (hok b _ n).1
      rw [e] at g1
      cases g1
      exact (hok2 b _ (un.frzs b _ _ n)).1
theorem lawG (kin : K.In z.heap) (hns : z.heap.Ns mainGlobals mg) (hmb : z.heap.Ns builtinsNs mb) (boot : ∀ x : Str, x ≠ "__name__" → mb x = bootBuiltins x) (lim : z.heap.NoLimit) (nogen : z.gens = #[])
    (obj : z.heap.get? a = some { cls := .type "list", data := .seq vs.toArray }) (isI : IntsAre vs ns) (few : ns.length ≤ sizeLine)
    (room : Room k callerA) (F : ∀ base : Heap, K.In base → base.Ns mainGlobals mg → FnG P w K mg base CX0 k fa sp) (prom : ∀ H : Hp, Only H → SqL K H a (ns.map V.int) → sp [.ref a] H (fun v _ => v = .bl true) E0) :
    codeAny (model P w) callerA (.call (.ref fa) ⟨[.ref a], []⟩) (EndsTrue z) z := by
  cases own : K.lookup a with
  | some o =>
    have same := kin a o own
    rw [obj] at same
    cases same
    refine headG kin hns hmb boot lim nogen room F prom (fun _ => none) (fun _ => .inl rfl) (.inr ⟨_, vs.toArray, _, own, rfl, rfl, rfl, ?_, vals_ints isI⟩) (fun _ _ t => nomatch t) (fun _ t => absurd rfl t) obj
    rw [List.size_toArray, isI.length]; exact few
  | none =>
    have at_ : ∀ b u, (if b = a then some (HO.frz { cls := .type "list", data := .seq vs.toArray } (.lst (ns.map V.int))) else none) = some u → b = a ∧ u = .frz { cls := .type "list", data := .seq vs.toArray } (.lst (ns.map V.int)) := fun b u t => by
      split at t
      · rename_i h; exact ⟨h, (Option.some.inj t).symm⟩
      · cases t
    refine headG kin hns hmb boot lim nogen room F prom (fun b => if b = a then some (.frz { cls := .type "list", data := .seq vs.toArray } (.lst (ns.map V.int))) else none) (fun b => ?_) (.inl (.inr ⟨_, if_pos rfl⟩)) (fun b u t => ?_) (fun b t => ?_) obj
    · by_cases h : b = a
      · exact .inr ⟨_, _, if_pos h⟩
      · exact .inl (if_neg h)
    · obtain ⟨rfl, rfl⟩ := at_ b u t
      exact ⟨obj, by rw [List.length_map]; exact few, vs, _, vals_ints isI, obj⟩
    · by_cases h : b = a
      · exact ⟨h, own⟩
      · exact absurd (if_neg h) t
end
/-- the goal of the head, from the law's promise -/
theorem walkG {l : PySem.W.OpenLaw} {n k : Nat} {q : Program} {loose : List Str} {XP : (Str → Option Value) → Heap → Prop} {YP : World → Heap → Prop} {d : DefRec} {K : Params → PySem.W.Frag} {sp : PySem.W.Frag → Sp}
    (hn : l.most = some n) (hn2 : n ≤ sizeLine) (hdf : d.params.defaults = []) (room : Room k callerA) (hY : ∀ (w : World) (h : Heap), YP w h → (K w.params).In h)
    (F : ∀ (w : World) (mg : Str → Option Value) (fa : Addr) (h : Heap), (K w.params).In h → h.Ns mainGlobals mg → mg d.name = some (.ref fa) →
      ∀ base : Heap, (K w.params).In base → base.Ns mainGlobals mg → FnG l.prog w (K w.params) mg base CX0 k fa (sp (K w.params)))
    (prom : ∀ (K : PySem.W.Frag) (H : Hp) (a : Addr) (ns : List Int), ns.length ≤ n → Only H → SqL K H a (ns.map V.int) → sp K [.ref a] H (fun v _ => v = .bl true) E0) :
    PySem.W.WalkO q loose XP YP l.row.toRowW d [] (fun f vs => PySem.call f vs) :=
  Att.attach_call hn hdf fun w _ z mg mb fa o pm cd doc a vs ns G Y _ _ _ hmg obj isI few nogen =>
    lawG (hY w _ Y) G.T.g G.T.b G.T.builtins G.T.nolimit nogen obj isI (Nat.le_trans few hn2) room (fun base => F w mg fa _ (hY w _ Y) G.T.g hmg base) fun H o s => prom _ H a ns few o s
/-! ## static methods without arguments -/
section
variable {X : Cx} {CX : CXT} {k : Nat} {C g : Addr} {sp : Sp} {E : XK} {o : Expr} {m : Str} {pos apos : Pos} {ta : TE}
theorem pe_smeth0 {pl : Sem Bool} (he : PE X o ta) (c : SMet X.K C m g) (F : FnR X.prog X.w X.K X.mg X.base CX k g sp) (hr : Room k X.A) (hx : Passes CX X E)
    (ht : eval (.Call (.Attribute o m apos) [] [] pos) X.env = (eval o X.env >>= fun ov => standAt apos.atName >>= fun _ => holding [ov] (getMethod ov m pl) >>= fun r =>
      callWith pos r.1 r.2 (backTo pos (starEach [] X.env)) (backToKw pos (keywordEach [] X.env))) := by rfl) :
    PE X (.Call (.Attribute o m apos) [] [] pos) (fun σ H Q => ta σ H fun x H1 => x = .ref C ∧ sp [] H1 Q E) := by
  refine ⟨fun pins s σ H Q I h => ?_⟩
  refine PySem.W.methodCall_KW (pl := pl) (thn (he.run pins s σ H _ I h) fun u s1 ⟨x, H1, I1, rx, ex, q⟩ => ?_) ht
  subst ex
  obtain rfl : u = Value.ref C := rx
  obtain ⟨mc, p, rest, r, at_, rc⟩ := c.ex
  refine PySem.W.method_cls I1.kIn r.ga (PySem.W.cls_bind I1.kIn r.rd at_ (wpAny_call (PySem.W.sm_get (s := { s1 with toks := s1.toks + 1 }) I1.kIn rc (PySem.W.handed_on rfl ?_))))
  exact PySem.W.callWith_K0 (first := []) (I1.tok _).kIn c.kp (wpAny_call (run_fnR (us := []) (vs := []) F hr hx (I1.tok _) .nil q))
end
/-! ## repr -/
section
variable {X : Cx}
def rReprD (K : PySem.W.Frag) : List V → Hp → VK → Prop := fun xs H Q => ∃ (a : Addr) (d : PyData), xs = [.ref a] ∧ Dp K H (.ref a) d ∧ d.showable = true ∧ d.hasDict = false ∧ d.depth ≤ 60 ∧ d.shown.length ≤ sizeLine ∧ Q (.str d.shown) H
/-- repr of a list or tuple of data, none under way -/
theorem call_reprD (ng : NoG X.A) (hu : X.A.units + 64 < cLine) : CallR X (.builtin "repr") (rReprD X.K) := by
  intro pins s σ H xs us Q I rv q
  obtain ⟨a, d, rfl, hd, sh, nd, dp, sz, q⟩ := q
  obtain ⟨u, rfl, ru⟩ := vals1 rv
  obtain rfl : u = Value.ref a := ru
  obtain ⟨as, r⟩ := Dp.reads I d (.ref a) (.ref a) hd rfl
  exact repr_of_reads' r sh (PyData.noDict_hsm nd) ng (by omega) (fun _ _ e => e) (fun h' u tk hk => ⟨.str d.shown, H, I.kept hk, ⟨_, rfl⟩, q⟩) sz
theorem call_reprB : CallR X (.builtin "repr") (fun xs H Q => ∃ b, xs = [.bl b] ∧ Q (.str (if b then "True" else "False")) H) := by
  intro pins s σ H xs us Q I rv q
  obtain ⟨b, rfl, q⟩ := q
  obtain ⟨u, rfl, ru⟩ := vals1 rv
  obtain rfl : u = Value.bool b := ru
  exact PySem.P.repr_of_bool ⟨.str (if b then "True" else "False"), H, I.tok _, ⟨_, rfl⟩, q⟩
theorem call_reprI : CallR X (.builtin "repr") (fun xs H Q => ∃ i, xs = [.int i] ∧ i.natAbs.log2 < 1920 ∧ Q (.str (toString i)) H) := by
  intro pins s σ H xs us Q I rv q
  obtain ⟨i, rfl, hz, q⟩ := q
  obtain ⟨u, rfl, t, rfl⟩ := vals1 rv
  exact PySem.P.repr_of_int hz ⟨.str (toString i), H, I.tok _, ⟨_, rfl⟩, q⟩
theorem uRepr (ng : NoG X.A) (hu : X.A.units + 64 < cLine) : CallR X (.builtin "repr") (fun xs H Q => (∃ b, xs = [.bl b] ∧ Q (.str (if b then "True" else "False")) H) ∨ (∃ i, xs = [.int i] ∧ i.natAbs.log2 < 1920 ∧ Q (.str (toString i)) H) ∨ rReprD X.K xs H Q) :=
  CallR.or' call_reprB (CallR.or' call_reprI (call_reprD ng hu))
theorem uIsiK {K : PySem.W.Frag} (h : X.K = K) : CallR X (.builtin "isinstance") (fun xs H Q => rIsi K xs H Q ∨ rIsiT K xs H Q) := by
  subst h
  exact uIsi
/-- != of ints and the like, of own ones, of tuples with own ones, of data -/
theorem uNeX {n : Nat} {D : Eqv} (hD : Mon D) (h : EqG X n D) (hr : Room (n + 1) X.A) (hu : X.A.units + 64 < cLine) : OpR X (compareOp .NotEq) (orR rNe (orR (rOwnN X) (orR (rNeG (DTup X.K D)) (rNeD X.K)))) :=
  op_or2 op_ne (op_or2 op_ownN (op_or2 (op_neG (ncG_tup hD h) hr) (op_neD hu)))
end
/-- how one positional value and one by its name are bound -/
def g11 {α : Type} : List α → List α → List α
  | [a], [b] => [a, b]
  | _, _ => []
theorem kbinds11 {K : PySem.W.Frag} {fd : FuncData} {p q : Str} (h : ∀ a b : Value, bindArgs fd ⟨[a], [(q, b)]⟩ = pure [(p, a), (q, b)]) : KBinds K fd [p, q] [q] g11 g11 where
  to := fun s us ws _ hl => match us, ws, hl with
    | [a], [b], _ => .of_eq (h a b)
    | [], _, hl => by cases hl
    | [_], [], hl => by cases hl
    | [_], _ :: _ :: _, hl => by cases hl
    | _ :: _ :: _, _, hl => by cases hl
  rel := fun {vs us zs ws} r rz => match vs, us, zs, ws, r, rz with
    | [_], [_], [_], [_], .cons a .nil, .cons b .nil => .cons a (.cons b .nil)
    | [], [], _, _, .nil, _ => .nil
    | [_], [_], [], [], .cons _ .nil, .nil => .nil
    | [_], [_], _ :: _ :: _, _ :: _ :: _, .cons _ .nil, .cons _ (.cons _ _) => .nil
    | _ :: _ :: _, _ :: _ :: _, _, _, .cons _ (.cons _ _), _ => .nil
end AZ

set_option Elab.async false
set_option maxRecDepth 100000
set_option maxHeartbeats 4000000
set_option linter.all false
/-! Own work: != of lists with own items; own == beside other types; objects and classes called with keywords. -/
namespace GQ
open PySem PySem.SeqAt
open AutoSeq1 (wpAny_loadPart')
open MeetsSeq MeetsSeq2 MeetsSeq3 SeqRoads2
section
variable {prog : Program} {w : World} {A : Around} {R : Result → Shared → Prop}
theorem list_ne_from (l b : Addr) (N : Nat) (J : Nat → Shared → Prop) (walk : ListI prog w A (fun x z => R (.error x) z) l b N J) (last : ∀ z, J N z → R (.ok (.ret (.bool false))) z) :
    ∀ (m i : Nat), i + m = N → ∀ z, J i z → wpAny (model prog w) A.in1 (Builtin.«list.__eq__.loop» ⟨[.ref l, .ref b, rawInt i, rawInt 3], []⟩) (FinOf prog w A R) (fun x z' => R (.error x) z') z
  | 0, i, e, z, h => by
    obtain ⟨xs, ys, n1, n2, g1, g2, e1, e2, _⟩ := walk _ _ h
    obtain rfl : i = N := by omega
    have done := last z h
    obtain ⟨hp, gs, dr, tk, os⟩ := z
    have none1 : xs[((i : Nat) : Int).toNat]? = none := by simp; omega
    have none2 : ys[((i : Nat) : Int).toNat]? = none := by simp; omega
    wp_walk using wpAny_loadPart' g1, wpAny_loadPart' g2
    rw [none1, none2]
    wp_walk using wpAny_loadPart' g1, wpAny_loadPart' g2
    show R (.ok (.ret (.bool (xs.size != ys.size)))) _
    rw [e1, e2]
    simpa using done
  | m + 1, i, e, z, h => by
    obtain ⟨xs, ys, n1, n2, g1, g2, e1, e2, turn⟩ := walk _ _ h
    have k1 : i < xs.size := by omega
    have k2 : i < ys.size := by omega
    have step := turn k1 k2
    have next := list_ne_from l b N J walk last m (i + 1) (by omega)
    obtain ⟨hp, gs, dr, tk, os⟩ := z
    have some1 : xs[((i : Nat) : Int).toNat]? = some xs[i] := by simp [k1]
    have some2 : ys[((i : Nat) : Int).toNat]? = some ys[i] := by simp [k2]
    have more : ((i : Int) + 1) = ((i + 1 : Nat) : Int) := by omega
    wp_walk using wpAny_loadPart' g1, wpAny_loadPart' g2
    rw [some1, some2]
    refine wpAny_bind (wpAny_mono step (fun r z2 q => ?_) fun _ _ x => x)
    obtain ⟨rfl, q⟩ := q
    have nx := next z2 q
    obtain ⟨hp2, gs2, dr2, tk2, os2⟩ := z2
    wp_walk
    rw [more]
    exact ⟨plainId_quiet plain_eq_loop _, codeAny_builtin entry_eq_loop ((Around.under_plainId plain_eq_loop _).symm ▸ nx)⟩
theorem list_ne_all (l b : Addr) (N : Nat) (J : Nat → Shared → Prop) (walk : ListI prog w A (fun x z => R (.error x) z) l b N J) (last : ∀ z, J N z → R (.ok (.ret (.bool false))) z) {z : Shared} (h : J 0 z) :
    wpAny (model prog w) A.in1 (Builtin.«list.__ne__» ⟨[.ref l, .ref b], []⟩) (FinOf prog w A R) (fun x z' => R (.error x) z') z := by
  obtain ⟨xs, ys, n1, n2, g1, g2, e1, e2, _⟩ := walk _ _ h
  have nx := list_ne_from (A := A) (R := R) l b N J walk last N 0 (Nat.zero_add N) z h
  obtain ⟨hp, gs, dr, tk, os⟩ := z
  have isList := AutoSeq1.sub_list_list
  have same : ¬ (xs.size != ys.size) = true := by simp [e1, e2]
  wp_walk using wpAny_loadPart' g1, wpAny_loadPart' g2
  exact ⟨plainId_quiet plain_eq_loop _, codeAny_builtin entry_eq_loop ((Around.under_plainId plain_eq_loop _).symm ▸ nx)⟩
end
section
variable {prog : Program} {w : World} {A : Around} {X : Value → Shared → Prop} {z : Shared}
theorem ne_lists {l b : Addr} {N : Nat} {Q : Value → Shared → Prop} (room : A.units < cLine) (J : Nat → Shared → Prop) (walk : ListI prog w A X l b N J) (last : ∀ z, J N z → Q (.bool false) z) (h : J 0 z) :
    wpAny (model prog w) A (richCompare .NotEq (.ref l) (.ref b)) Q X z := by
  obtain ⟨xs, ys, n1, n2, g1, g2, _, _, _⟩ := walk _ _ h
  exact wpAny_richCompare_same_room (op := .NotEq) ⟨_, g1, rfl⟩ ⟨_, g2, rfl⟩ F.slot_list_ne (call_here F.slot_list_ne ⟨_, g1, rfl⟩ F.entry_list_ne (F.args_list_ne_2 _ _)
    (list_ne_all (R := wants (fun v s' => v ≠ .notImplemented ∧ Q v s') X) l b N J walk (fun z' q => ⟨(fun x => nomatch x), last z' q⟩) h)) room
end
end GQ
namespace AZ
open PySem L2
section
variable {X : Cx} {n : Nat} {D : Eqv}
theorem ncG_list (hD : Mon D) (h : EqG X n D) : NcG X (n + 1) (DList D) := by
  intro A pins s σ H x y u v sb I rx ry d
  obtain ⟨a, b, xs, ys, rfl, rfl, ha, hb, p⟩ := d
  cases rx
  cases ry
  refine GQ.ne_lists (N := xs.length) sb.room.units0 (fun _ s' => LoopI X pins σ H s') (fun i s' q => ?_) (fun s' q => ⟨rfl, q⟩) ⟨H, I, Ext.rfl'⟩
  obtain ⟨H1, I1, e1⟩ := id q
  obtain ⟨z, its, k, r, e⟩ := I1.hok a _ (e1 _ _ ha)
  obtain ⟨z2, its2, k2, r2, e2⟩ := I1.hok b _ (e1 _ _ hb)
  exact ⟨its.toArray, its2.toArray, k, k2, e, e2, by rw [List.size_toArray, ← r.length], by rw [List.size_toArray, ← r2.length, ← p.1], fun h1 h2 => turnG hD h sb p r r2 i h1 h2 s' q⟩
/-- own == where the right side is of a built-in type -/
def RightT (H : Hp) (y : V) (T : String) : Prop := (T = "str" ∧ ∃ z, y = .str z) ∨ (T = "tuple" ∧ ∃ b xs, y = .ref b ∧ H b = some (.tup xs))
def rOwnT (X : Cx) (op : CmpOp) : R2 := fun x y H Q => ∃ (T : String) (a C dx : Addr) (fs : List (Str × V)) (f : Addr) (CX : CXT) (k : Nat) (sp : Sp) (E : XK),
  x = .ref a ∧ H a = some (.ins C dx fs) ∧ RightT H y T ∧ PySem.W.notFirst X.K C (.type T) = true ∧ CmpM X.K C op f ∧ FnR X.prog X.w X.K X.mg X.base CX k f sp ∧ Room k X.A ∧ Passes CX X E ∧ sp [x, y] H Q E
theorem op_ownT (op : CmpOp) (hop : ∀ a b, compareOp op a b = richCompare op a b := by intro _ _; rfl) : OpR X (compareOp op) (rOwnT X op) := by
  intro pins s σ H x y v u Q I rx ry h
  obtain ⟨T, a, C, dx, fs, f, CX, k, sp, E, rfl, ha, hR, hT, hM, F, hr, hx, hs⟩ := h
  obtain rfl : v = Value.ref a := rx
  have hc : wpAny (model X.prog X.w) X.A (call (.ref f) [.ref a, u]) (PySem.W.CmpBack (EP X pins σ Q)) X.xe s :=
    thn (wpAny_call (run_fnR (us := [.ref a, u]) (vs := [.ref a, y]) F hr hx I (.cons rfl (.cons ry .nil)) hs)) fun _ _ z => cmpBack_of z
  obtain ⟨mA, J, _⟩ := ins_get I.hok ha
  obtain ⟨od, J, _⟩ := J.look
  obtain ⟨m, hF⟩ := I.fr
  rw [hop]
  rcases hR with ⟨rfl, z, rfl⟩ | ⟨rfl, b, xs, rfl, hb⟩
  · obtain ⟨t, rfl⟩ := ry
    exact PySem.W.cmp_K (tb := .type "str") hr.units0 hF I.ok.mod.kin J (PySem.W.Looks.of_pure rfl) hT hM.hs hM.hf hc
  · obtain rfl : u = Value.ref b := ry
    obtain ⟨its, r, e, _⟩ := I.tuple (SqT.of hb)
    obtain ⟨o, g, c, _⟩ := id e
    have look : PySem.W.Looks (model X.prog X.w) s.heap (typeOf (.ref b)) (.type "tuple") := fun A Q E z k q => wpAny_typeOf_ref (k _ _ g) (by rw [c]; exact q)
    exact PySem.W.cmp_K (tb := .type "tuple") hr.units0 hF I.ok.mod.kin J look hT hM.hs hM.hf hc
end
end AZ
namespace AZ
open PySem L2 PyProof.Rows
/-- an object called with keywords -/
theorem callOk_of {M : Model} {A : Around} {E : Value → Shared → Prop} {s : Shared} {a : Addr} {pos : Pos} {Q : Value → Shared → Prop} {args : List (Bool × Sem Value)} {kws : List (Option Str × Sem Value)} (plain : (args.any (·.1) || kws.any (·.1.isNone)) = false)
    (h : wpAny M A (evalArgs (.ref a) true args kws) (fun z s1 => (∃ C ox od, PySem.W.InstAt s1.heap a ox C od ∧ ox.data = .plain) ∧ wpAny M A (call (.ref a) z.pos z.kw) Q E s1) E s) : wpAny M A (callWith pos (.ref a) [] args kws) Q E s := by
  unfold callWith
  refine wpAny_bind (wpAny_holding (wpAny_mono h (fun z s1 q => wpAny_bind (wpAny_standAt ?_)) fun _ _ q => q))
  obtain ⟨⟨C, ox, od, at_, dat⟩, q⟩ := q
  simp only [plain]
  refine wpAny_bind ((PySem.W.kco_keeper (M := M) at_ dat).here (wpAny_bind (wpAny_mono (wpAny_operateT q) (fun r s2 q2 => ?_) fun _ _ q => q)))
  exact wpAny_bind (wpAny_holding (wpAny_point (wpAny_pure q2)))
section
variable {X : Cx} {CX : CXT} {k : Nat} {C g : Addr} {sp : Sp} {E : XK} {fe : Expr} {kws : List Keyword} {ks : List Str} {x : Str} {p pos : Pos} {tf : TE} {t : TA} {gV : List V → List V → List V}
/-- f(k = e, ..), f an expression that gives an instance of C -/
def tCallOk (X : Cx) (C : Addr) (gV : List V → List V → List V) (sp : Sp) (E : XK) (tf : TE) (t : TA) : TE := fun σ H Q => tf σ H fun y H1 => ∃ a, y = V.ref a ∧ t σ H1 fun zs H2 => StX.InsC X H2 a C ∧ sp (gV [V.ref a] zs) H2 Q E
theorem pe_callOk (hf : PE X fe tf) (c : StX.CallO X.K C g) (F : FnRk X.prog X.w X.K X.mg X.base CX k g ks gV sp) (hr : Room k X.A) (hx : Passes CX X E) (hkw : PK X kws t)
    (hall : (backToKw pos (keywordEach kws X.env)).all (·.1.isSome) = true := by rfl) (hks : (backToKw pos (keywordEach kws X.env)).filterMap (·.1) = ks := by rfl)
    (ht : eval (.Call fe [] kws pos) X.env = (do callWith pos (← eval fe X.env) [] (backTo pos (starEach [] X.env)) (backToKw pos (keywordEach kws X.env))) := by rfl)
    (hpl : ((backTo pos (starEach [] X.env)).any (·.1) || (backToKw pos (keywordEach kws X.env)).any (·.1.isNone)) = false := by rfl) : PE X (.Call fe [] kws pos) (tCallOk X C gV sp E tf t) := by
  refine ⟨fun pins s σ H Q I h => ?_⟩
  rw [ht]
  refine wpAny_bind (thn (hf.run pins s σ H _ I h) fun u s1 ⟨y, H1, I1, ry, a, ey, q⟩ => ?_)
  subst ey
  obtain rfl : u = Value.ref a := ry
  refine callOk_of hpl (evalArgs_kw2_nil hall (thn (hkw.run pos pins s1 σ H1 _ I1 q) fun ws s2 ⟨zs, H2, I2, rz, hi, q2⟩ => ?_))
  obtain ⟨ox, od, J, hd⟩ := StX.insC_at I2 hi
  refine ⟨⟨C, ox, od, J, hd⟩, ?_⟩
  rw [hks]
  refine wpAny_call (PySem.W.kco_code I2.kIn J hd c.at_ c.fn c.fi (codeAny_mono (F X.A X.stack s2 H2 [.ref a] ws [.ref a] zs Q E hr I2.env0 (.cons rfl .nil) rz q2) fun r s' hq => ?_))
  match r, hq with
  | .error e, hq => exact hx pins σ H2 s2 e s' I2 hq
  | .ok (.ret _), hq => exact I2.after hq
  | .ok .next, hq => exact hq.elim
  | .ok .brk, hq => exact hq.elim
  | .ok .cont, hq => exact hq.elim
/-- C(k = e, ..): a new instance and its dict, then __init__ -/
def tMakeRk (C : Addr) (gV : List V → List V → List V) (sp : Sp) (E : XK) (t : TA) : TE := fun σ H Q => t σ H fun zs H1 => ∀ x dx, H1 x = none → H1 dx = none → dx ≠ x →
  sp (gV [.ref x] zs) (upd (upd H1 dx (.own x)) x (.ins C dx [])) (fun v H2 => v = .non ∧ Q (.ref x) H2) E
theorem pe_makeRk (M : Mk X.K C g) (F : FnRk X.prog X.w X.K X.mg X.base CX k g ks gV sp) (hr : Room (k + 1) X.A) (hg : Gl X x) (hm : X.mg x = some (.ref C)) (hx : Passes CX X E) (hkw : PK X kws t)
    (hall : (backToKw pos (keywordEach kws X.env)).all (·.1.isSome) = true := by rfl) (hks : (backToKw pos (keywordEach kws X.env)).filterMap (·.1) = ks := by rfl) (hdb : (x == ("__debug__" : Str)) = false := by decide)
    (hpl : ((backTo pos (starEach [] X.env)).any (·.1) || (backToKw pos (keywordEach kws X.env)).any (·.1.isNone)) = false := by rfl) : PE X (.Call (.Name x p) [] kws pos) (tMakeRk C gV sp E t) := by
  refine ⟨fun pins s σ H Q I h => wpAny_Call_Name_kw (ld_glob I hg hm ?_ hdb)⟩
  refine PySem.W.callWith_KW0 (h₀ := X.base) I.ok.mod.kin M.kp hall (thn (hkw.run pos pins s σ H _ I h) fun ws s2 ⟨zs, H2, I2, rz, q⟩ => ⟨I2.kIn, ?_⟩) hpl
  rw [hks]
  have q2 := q (s2.heap.objs.size + 1) s2.heap.objs.size (I2.hok.fresh (Nat.le_succ _)) (I2.hok.fresh (Nat.le_refl _)) (Nat.ne_of_lt (Nat.lt_succ_self _))
  have J := Inv.made (C := C) I2
  refine wpAny_call (make_map (f := g) I2.kIn M.makes M.init (beq_iff_eq.mp M.fn) (codeAny_mono (F _ X.stack _ _ [.ref (s2.heap.objs.size + 1)] ws [.ref (s2.heap.objs.size + 1)] zs _ E (hr.make C [] (ks.zip ws)) (J.env0.make C [] (ks.zip ws)) (.cons rfl .nil) rz q2) fun r s' hq => ?_))
  match r, hq with
  | .error e, hq => exact hx pins σ _ _ e s' J hq
  | .ok (.ret _), hq =>
    obtain ⟨v, H3, J3, rv, ev, q3⟩ := J.after hq
    subst ev
    exact ⟨rv, ⟨V.ref (s2.heap.objs.size + 1), H3, J3, rfl, q3⟩⟩
  | .ok .next, hq => exact hq.elim
  | .ok .brk, hq => exact hq.elim
  | .ok .cont, hq => exact hq.elim
end
/-- how one positional value and two by their names, told the other way round, are bound -/
def g12 {α : Type} : List α → List α → List α
  | [a], [b, c] => [a, c, b]
  | _, _ => []
theorem vals_g12 : ∀ {vs zs : List V} {us ws : List Value}, Vals vs us → Vals zs ws → Vals (g12 vs zs) (g12 us ws)
  | _, _, _, _, .cons a .nil, .cons b (.cons c .nil) => .cons a (.cons c (.cons b .nil))
  | _, _, _, _, .nil, _ => .nil
  | _, _, _, _, .cons _ (.cons _ _), _ => .nil
  | _, _, _, _, .cons _ .nil, .nil => .nil
  | _, _, _, _, .cons _ .nil, .cons _ .nil => .nil
  | _, _, _, _, .cons _ .nil, .cons _ (.cons _ (.cons _ _)) => .nil
theorem FnOk.rawkn {P : Program} {w : World} {K : PySem.W.Frag} {mg : Str → Option Value} {base : Heap} {CX : CXT} {k n : Nat} {f : Addr} {fd : FuncData} {ps ks : List Str} {sp : Sp} {g : List Value → List Value → List Value} {gV : List V → List V → List V}
    (F : FnOk P w K mg base CX k f fd ps sp) (hb : KBn K fd ps n ks g gV) (hl : ∀ vs zs : List V, (gV vs zs).length = ps.length → vs.length = n ∧ zs.length = ks.length) : FnRk P w K mg base CX k f ks gV sp := by
  intro A outer s H us ws vs zs Q E hr e0 r rz h
  obtain ⟨l1, l2⟩ := hl vs zs (F.len _ _ _ _ h)
  exact F.run A outer s H ⟨us, ks.zip ws⟩ (g us ws) (gV vs zs) Q E hr e0 (hb.to s us ws (e0.mod.kin.keeps fun b o e => (e0.bs b o e).1) (r.length.symm.trans l1) (rz.length.symm.trans l2)) (hb.rel r rz) h
section
variable {X : Cx}
theorem uEqT (hu : X.A.units + 64 < cLine) : OpR X (compareOp .Eq) (orR rEq (orR (rOwnC X .Eq) (orR (rOwnT X .Eq) (rEqD X.K)))) := op_or2 op_eq (op_or2 (op_ownC _) (op_or2 (op_ownT _) (op_eqD hu)))
theorem uNeL {n : Nat} {D : Eqv} (hD : Mon D) (h : EqG X n D) (hr : Room (n + 1) X.A) (hu : X.A.units + 64 < cLine) : OpR X (compareOp .NotEq) (orR rNe (orR (rOwnN X) (orR (rNeG (DList D)) (rNeD X.K)))) :=
  op_or2 op_ne (op_or2 op_ownN (op_or2 (op_neG (ncG_list hD h) hr) (op_neD hu)))
end
section
variable {X : Cx} {k : Nat} {C g : Addr} {CX : CXT} {sp : Sp} {E : XK} {fe e : Expr} {es : List Expr} {pos : Pos} {tf : TE} {t : TA}
/-- calling an object, told without the context (for blocks) -/
def tCallOF (C : Addr) (sp : Sp) (E : XK) (tf : TE) (t : TA) : TE := fun σ H Q => tf σ H fun y H1 => ∃ a, y = V.ref a ∧ t σ H1 fun vs H2 => ((∃ dx vs, SlX.Slt H2 a C dx vs) ∨ ∃ dx fs, H2 a = some (.ins C dx fs)) ∧ sp (V.ref a :: vs) H2 Q E
theorem pe_callOF (hf : PE X fe tf) (c : StX.CallO X.K C g) (F : FnR X.prog X.w X.K X.mg X.base CX k g sp) (hr : Room k X.A) (hx : Passes CX X E) (ha : PA X (e :: es) t)
    (ht : eval (.Call fe (e :: es) [] pos) X.env = (do callWith pos (← eval fe X.env) [] (backTo pos (starEach (e :: es) X.env)) (backToKw pos (keywordEach [] X.env))) := by rfl)
    (he : starEach (e :: es) X.env = (false, eval e X.env) :: starEach es X.env := by rfl) (hpl : (backTo pos (starEach es X.env)).any (·.1) = false := by rfl) : PE X (.Call fe (e :: es) [] pos) (tCallOF C sp E tf t) :=
  StX.pe_callO hf c F hr hx ha ht he hpl
end
section
variable {X : Cx} {tg l : Expr} {tl : TE}
theorem pi_listK {K : PySem.W.Frag} (h : X.K = K) (hl : PE X l tl) : PI X tg l (iList K tl) := by
  subst h
  exact pi_list hl
end
end AZ

set_option Elab.async false
set_option maxRecDepth 100000
set_option maxHeartbeats 4000000
set_option linter.all false
/-! Own work: errors of own classes as values: made, read, asked for their class; repr of any showable datum. -/
namespace AZ
open PySem L2 PyProof.Rows
/-! ## showable data, dicts of texts or ints to ints too -/
def keyD : Key → PyData
  | .inl i => .int i
  | .inr x => .str x
def kvD (l : List (Key × Int)) : PyData := .dict (l.map fun p => (keyD p.1, .int p.2))
abbrev kvV (l : List (Key × Int)) : List (Key × V) := l.map fun p => (p.1, V.int p.2)
inductive Sh (K : PySem.W.Frag) (H : Hp) : V → PyData → Prop
  | dp {v : V} {d : PyData} : Dp K H v d → d.hasDict = false → Sh K H v d
  | dict {a : Addr} {l : List (Key × Int)} : H a = some (.dK (kvV l)) → Sh K H (.ref a) (kvD l)
theorem reads_keys {P : Program} {w : World} {h : Heap} : ∀ (l : List (Key × Int)) (es : List DictEntry) (vs : List (Key × Value)), KV (kvV l) vs → PySem.Pairs (mixKind P w) es vs →
    ReadsAll h (es.map (·.key)) (l.map fun p => keyD p.1) [] ∧ ReadsAll h (es.map (·.val)) (l.map fun p => PyData.int p.2) []
  | [], es, vs, r, p => by
    cases r
    cases p
    exact ⟨.nil, .nil⟩
  | q :: l, es, vs, r, p => by
    cases r with
    | @cons a b as bs r1 r2 =>
      cases p with
      | @cons e1 kv1 es1 kvs1 p1 p2 p3 =>
        obtain ⟨a1, a2⟩ := reads_keys l _ _ r2 p3
        obtain ⟨e0, t, e2⟩ := r1
        have p1' : keyIs b.1 e1.key = true := p1
        have hv : Reads h e1.val (.int q.2) [] := by
          rw [p2, e2]
          exact Reads.int _ _
        have hk : Reads h e1.key (keyD q.1) [] := by
          have e0' : q.1 = b.1 := e0
          rw [e0']
          rcases keyIs_shape p1' with ⟨i, t, e3, e4⟩ | ⟨x, t, e3, e4⟩
          · rw [e3, e4]; exact Reads.int _ _
          · rw [e3, e4]; exact Reads.str _ _
        exact ⟨.cons (as := []) hk a1, .cons (as := []) hv a2⟩
section
variable {X : Cx} {pins : List (Addr × Obj)} {σ : L2.St} {H : Hp} {s : Shared}
theorem Sh.reads {v : V} {d : PyData} {u : Value} (S : Sh X.K H v d) (I : Inv X pins σ H s) (r : RelV v u) : ∃ as, Reads s.heap u d as ∧ (d.hasDict = true → sysModules ∉ as) := by
  cases S with
  | dp h n =>
    obtain ⟨as, q⟩ := Dp.reads I d v u h r
    exact ⟨as, q, fun z => by rw [n] at z; cases z⟩
  | @dict a l e =>
    obtain rfl : u = Value.ref a := r
    obtain ⟨_, hd, vs, rel, ob, es, ep, g, ex, dd, _, pr, _⟩ := dk_of I.hok e
    obtain ⟨a1, a2⟩ := reads_keys l _ _ rel pr
    have b1 : ReadsAll s.heap (es.toList.map (·.key)) ((l.map fun p : Key × Int => (keyD p.1, PyData.int p.2)).map (·.1)) [] := by rw [List.map_map]; exact a1
    have b2 : ReadsAll s.heap (es.toList.map (·.val)) ((l.map fun p : Key × Int => (keyD p.1, PyData.int p.2)).map (·.2)) [] := by rw [List.map_map]; exact a2
    refine ⟨a :: [] ++ [], Reads.dict g ex.1 dd b1 b2, fun _ hm => ?_⟩
    simp at hm
    rw [← hm] at hd
    simp at hd
/-- what repr of a datum asks -/
structure Shn (d : PyData) : Prop where
  sh : d.showable = true
  dp : d.depth ≤ 60
  sz : d.shown.length ≤ 2000
theorem repr_any {v : V} {d : PyData} {u : Value} {A : Around} {E : Value → Shared → Prop} {Q : Value → Shared → Prop} (S : Sh X.K H v d) (n : Shn d) (I : Inv X pins σ H s) (r : RelV v u) (ng : NoG A) (hu : A.units + 64 < cLine)
    (k : ∀ s' t, Inv X pins σ H s' → Q (.str d.shown t) s') : wpAny (model X.prog X.w) A (pyReprObj u) Q E s := by
  have sz : d.shown.length ≤ sizeLine := Nat.le_trans n.sz (by decide)
  have refl : ∀ {a : Addr}, u = .ref a → wpAny (model X.prog X.w) A (pyReprObj u) Q E s := fun {a} e => by
    obtain ⟨as, q, hs⟩ := S.reads I r
    have hdp := n.dp
    subst e
    exact pyReprObj_of_reads q n.sh hs ng (by omega) (fun _ _ e => e) (fun h' u tk hk => k _ _ (I.kept hk)) sz
  cases S with
  | dict e => exact refl r
  | dp h nd =>
    cases h with
    | non => obtain rfl : u = Value.none := r; exact pyReprObj_none (k _ _ (I.tok _))
    | bl b => obtain rfl : u = Value.bool b := r; exact pyReprObj_bool (k _ _ (I.tok _))
    | int i =>
      obtain ⟨t, rfl⟩ := r
      exact pyReprObj_int (of_decide_eq_true n.sh) (k _ _ (I.tok _))
    | str x => obtain ⟨t, rfl⟩ := r; exact pyReprObj_str (k _ _ (I.tok _)) sz
    | lst _ _ => exact refl r
    | tup _ _ => exact refl r
/-- {x!r} -/
def tFmtA (K : PySem.W.Frag) (te : TE) : TE := fun σ H Q => te σ H fun x H1 => ∃ d, Sh K H1 x d ∧ Shn d ∧ Q (.str d.shown) H1
theorem pe_fmtA {e : Expr} {te : TE} {pos : Pos} (ng : NoG X.A) (hu : X.A.units + 64 < cLine) (he : PE X e te) : PE X (.FormattedValue e 114 none pos) (tFmtA X.K te) := by
  refine ⟨fun pins s σ H Q I h => ?_⟩
  refine wpAny_FormattedValue_repr (thn (he.run pins s σ H _ I h) fun v s1 hv => ?_)
  obtain ⟨x, H1, I1, r1, d, S, n, q⟩ := hv
  refine repr_any S n I1 r1 ng hu fun s2 t I2 => ?_
  exact wpAny_formatField_str ⟨.str d.shown, H1, I2, ⟨_, rfl⟩, q⟩ ⟨.str d.shown, H1, I2.tok _, ⟨_, rfl⟩, q⟩ (Nat.le_trans n.sz (by decide))
theorem call_reprS (ng : NoG X.A) (hu : X.A.units + 70 < cLine) : CallR X (.builtin "repr") (fun xs H Q => ∃ v d, xs = [v] ∧ Sh X.K H v d ∧ Shn d ∧ Q (.str d.shown) H) := by
  intro pins s σ H xs us Q I rv q
  obtain ⟨v, d, rfl, S, n, q⟩ := q
  obtain ⟨u, rfl, r⟩ := vals1 rv
  have sz : d.shown.length ≤ sizeLine := Nat.le_trans n.sz (by decide)
  have refl : ∀ {a : Addr}, u = .ref a → wpAny (model X.prog X.w) X.A (call (.builtin "repr") [u]) (EP X pins σ Q) X.xe s := fun {a} e => by
    obtain ⟨as, g, hs⟩ := S.reads I r
    have hdp := n.dp
    subst e
    exact repr_of_reads' g n.sh hs ng (by omega) (fun _ _ e => e) (fun h' u tk hk => ⟨.str d.shown, H, I.kept hk, ⟨_, rfl⟩, q⟩) sz
  have fin : ∀ tk, EP X pins σ Q (.str d.shown tk) { s with toks := s.toks + 1 } := fun tk => ⟨.str d.shown, H, I.tok _, ⟨_, rfl⟩, q⟩
  cases S with
  | dict e => exact refl r
  | dp h nd =>
    cases h with
    | non => obtain rfl : u = Value.none := r; exact PySem.P.repr_of_none (fin _)
    | bl b => obtain rfl : u = Value.bool b := r; exact PySem.P.repr_of_bool (fin _)
    | int i => obtain ⟨t, rfl⟩ := r; exact PySem.P.repr_of_int (of_decide_eq_true n.sh) (fin _)
    | str x => obtain ⟨t, rfl⟩ := r; exact PySem.P.repr_of_str (fin _) sz
    | lst _ _ => exact refl r
    | tup _ _ => exact refl r
end
/-! ## the base's __init__, through an own base without one -/
/-- what C.__init__(..) asks of the class at C: it is ValueError's -/
structure VInit (K : PySem.W.Frag) (C : Addr) : Prop where
  ex : ∃ mc : Value, ClX.CRead K C mc ∧ PySem.W.findCls K (.ref C) mc "__init__" = some (.val (.builtin "ValueError.__init__"))
section
variable {X : Cx} {e : Expr} {es : List Expr} {ta : TA} {S : Addr} {x : Str} {p1 p2 pos : Pos}
theorem pe_sinit {pl : Sem Bool} (V : VInit X.K S) (hg : Gl X x) (hm : X.mg x = some (.ref S)) (ha : PA X (e :: es) ta) (hdb : (x == ("__debug__" : Str)) = false := by decide)
    (hc : eval (.Call (.Attribute (.Name x p1) "__init__" p2) (e :: es) [] pos) X.env = (eval (.Name x p1) X.env >>= fun ov => standAt p2.atName >>= fun _ => holding [ov] (getMethod ov "__init__" pl) >>= fun r =>
      callWith pos r.1 r.2 (backTo pos (starEach (e :: es) X.env)) (backToKw pos (keywordEach [] X.env))) := by rfl)
    (he : starEach (e :: es) X.env = (false, eval e X.env) :: starEach es X.env := by rfl) (hpl : (backTo pos (starEach es X.env)).any (·.1) = false := by rfl) :
    PE X (.Call (.Attribute (.Name x p1) "__init__" p2) (e :: es) [] pos) (tVeI X.K ta) := by
  refine ⟨fun pins s σ H Q I h => ?_⟩
  obtain ⟨mc, r, at_⟩ := V.ex
  refine PySem.W.methodCall_KW (pl := pl) (ld_glob I hg hm ?_ hdb) hc
  refine PySem.W.method_cls I.kIn r.ga (PySem.W.cls_value I.kIn r.rd at_ (by decide +kernel) ?_)
  show wpAny _ _ (callWith pos (Value.builtin "ValueError.__init__") [] (backTo pos (starEach (e :: es) X.env)) []) _ _ _
  refine PyProof.Rows.callWith_method1 (thn (ha.run pos pins _ σ H _ (I.tok _) h) fun us s1 ⟨vs, H1, I1, r1, a, C, ws, ev, hl, T, ea, q⟩ => ?_) he hpl
  subst ev
  cases r1 with
  | @cons _ u0 _ ur ra rw' =>
    obtain rfl : u0 = Value.ref a := ra
    have hlen : ur.length ≤ sizeLine := Nat.le_trans (by rw [← Paired.length rw']; exact hl) (show 1000 ≤ sizeLine by decide)
    exact oinit_ok T I1 ea hlen fun s' J => ⟨.non, H1, J, rfl, q⟩
end
end AZ
/-! ## an own error class called with keywords -/
namespace PySem
namespace HKW
open Builtin Builtin.ObjectAttr HandSPX
section
variable {prog : Program} {w : World} {A : Around} {E : Value → Shared → Prop} {R : Result → Shared → Prop} {h : Heap} {g : Array GenState} {d : Drawn} {t : Nat} {os : OsState}
variable {nm q : Str} {C N : Addr} {bs bm bmB : List Value} {hdct : Bool} {sn : List Str} {sub : List Value} {ab : Bool} {col : Option Bool} {dd : Option Addr} {k0 k1 k2 k3 k5 : Option Value} {B newId initId : String}
/-- BaseException.__new__ lets by whatever is told by name -/
theorem check_kw {M : Model} (F : ExcBaseFacts B newId initId bmB) (hT : ∀ X : String, bm.contains (.type X) = bmB.contains (.type X)) {kws : List (Str × Value)} {Q : Unit → Shared → Prop}
    (hC : h.get? C = some (excClassObj nm q C N bs bm hdct sn sub ab col dd k0 k1 k2 k3 k5 newId)) (hq : Q () ⟨h, g, d, t, os⟩) : wpAny M A (checkBuiltinCall newId ⟨[.ref C], kws⟩) Q E ⟨h, g, d, t, os⟩ := by
  have isB : (Value.ref C :: bm).contains (.type B) = true := by rw [List.contains_cons, hT, F.hasB, Bool.or_true]
  have st := F.noStar
  simp only [checkBuiltinCall, F.newKind, F.newSplit, F.newRow]
  repeat (first | refine wpAny_loadPart_at hC ?_ | (refine wpAny_isSubtype_exc hC ?_; rw [isB]) | refine wpAny_staticBase_exc hC ?_ | refine wpAny_madeBy_exc hC ?_ | simp only [bne_self_eq_false, Bool.false_eq_true, if_false] | wp_step)
  exact hq
theorem new_kw (F : ExcBaseFacts B newId initId bmB) (hT : ∀ X : String, bm.contains (.type X) = bmB.contains (.type X)) {kws : List (Str × Value)}
    (hC : h.get? C = some (excClassObj nm q C N bs bm hdct sn sub ab col dd k0 k1 k2 k3 k5 newId))
    (hq : R (.ok (.ret (.ref (h.objs.size + 1)))) ⟨(h.push (W.kdv_tup [])).push (excO C h.objs.size), g, d, t, os⟩) :
    codeAny (model prog w) A (.builtin newId ⟨[.ref C], kws⟩) R ⟨h, g, d, t, os⟩ := by
  have fin := F.ends
  have isB : (Value.ref C :: bm).contains (.type B) = true := by rw [List.contains_cons, hT, F.hasB, Bool.or_true]
  have noA : (Value.ref C :: bm).contains (.type "AttributeError") = false := by rw [List.contains_cons, hT, F.noAttr]; rfl
  have noN : (Value.ref C :: bm).contains (.type "NameError") = false := by rw [List.contains_cons, hT, F.noName]; rfl
  refine codeAny_builtinAt F.entry ?_
  unfold Builtin.«BaseException.__new__»
  refine wpAt_bind ?_
  show wpAt _ _ _ (stack >>= _) _ _ _
  refine wpAt_bind (wpAt_stack fun p below => wpAt_of_wpAny ?_)
  wp_walk
  refine wpAt_of_wpAny ?_
  rw [F.owner]
  repeat (first | with_reducible refine wpAny_madeHere_exc F.canon hC ?_ | with_reducible refine wpAny_loadPart_at hC ?_ | (with_reducible refine wpAny_isSubtype_exc hC ?_; first | rw [isB] | rw [noA] | rw [noN]) | wp_step)
  show R _ _
  rw [Heap.size_push]
  exact hq
theorem tcall_kw (F : ExcBaseFacts B newId initId bmB) (hT : ∀ X : String, bm.contains (.type X) = bmB.contains (.type X)) {kws : List (Str × Value)} {fI : Addr} {Q : Fin → Shared → Prop}
    (hC : h.get? C = some (excClassObj nm q C N bs bm hdct sn sub ab col dd k0 k1 k2 k3 k5 newId))
    (hi : W.Looks (model prog w) h (typeLookup (.ref C) "__init__") (some (.ref fI))) (hb : ∀ self, W.Looks (model prog w) h (bindSpecial (.ref fI) self) (.ref fI, [self]))
    (hq : codeAny (model prog w) A (.call (.ref fI) ⟨[.ref (h.objs.size + 1)], kws⟩)
      (fun r s' => match r with | .ok (.ret v) => v = .none ∧ Q (.done (.ret (.ref (h.objs.size + 1)))) s' | .ok _ => False | .error e => E e s')
      ⟨(h.push (W.kdv_tup [])).push (excO C h.objs.size), g, d, t, os⟩) :
    wpAny (model prog w) A (Builtin.«type.__call__» ⟨[.ref C], kws⟩) Q E ⟨h, g, d, t, os⟩ := by
  repeat (first | with_reducible refine wpAny_loadPart_at hC ?_ | with_reducible refine wpAny_madeBy_exc hC ?_ | wp_step)
  refine codeAny_call_builtin_code (Code.quiet_builtin _ F.quiet) (check_kw F hT hC ?_)
  refine new_kw F hT hC ?_
  show wpAny _ _ _ _ _ _
  have kp : ∀ b o, h.get? b = some o → ((h.push (W.kdv_tup [])).push (excO C h.objs.size)).get? b = some o := fun b o e => Heap.get?_push_of_some _ (Heap.get?_push_of_some _ e)
  have hC2 := kp _ _ hC
  have gx : ((h.push (W.kdv_tup [])).push (excO C h.objs.size)).get? (h.objs.size + 1) = some (excO C h.objs.size) := by heap_get
  have own : (Value.ref C :: bm).contains (.ref C) = true := by simp
  have i2 := hi.keeps kp
  have b2 := (hb (.ref (h.objs.size + 1))).keeps kp
  unfold isInstance
  repeat (first | with_reducible refine wpAny_loadPart_at gx ?_ | (with_reducible refine wpAny_isSubtype_exc hC2 ?_; rw [own]) | wp_step)
  show wpAny _ _ (typeLookup (.ref C) _) _ _ _
  refine i2.at (wpAny_holding (wpAny_bind (b2.at (wpAny_bind (wpAny_call (codeAny_mono hq fun r s' z => ?_))))))
  rcases r with e | (v | _ | _ | _) <;> first | exact z | exact z.elim | skip
  obtain ⟨rfl, z⟩ := z
  first
    | exact wpAny_pure (wpAny_pure z)
    | (wp_walk; exact z)
theorem call_kw (F : ExcBaseFacts B newId initId bmB) (hT : ∀ X : String, bm.contains (.type X) = bmB.contains (.type X)) {kws : List (Str × Value)} {fI : Addr}
    (hC : h.get? C = some (excClassObj nm q C N bs bm hdct sn sub ab col dd k0 k1 k2 k3 k5 newId))
    (hi : W.Looks (model prog w) h (typeLookup (.ref C) "__init__") (some (.ref fI))) (hb : ∀ self, W.Looks (model prog w) h (bindSpecial (.ref fI) self) (.ref fI, [self]))
    (hq : codeAny (model prog w) (A.under (.builtin "type.__call__" ⟨[.ref C], kws⟩)) (.call (.ref fI) ⟨[.ref (h.objs.size + 1)], kws⟩) (W.InitBack (h.objs.size + 1) R)
      ⟨(h.push (W.kdv_tup [])).push (excO C h.objs.size), g, d, t, os⟩) :
    codeAny (model prog w) A (.call (.ref C) ⟨[], kws⟩) R ⟨h, g, d, t, os⟩ := by
  have f1 := tc_lookup
  have f2 := tc_bind (.ref C)
  have hTy : (⟨h, g, d, t, os⟩ : Shared).TypeIs (.ref C) "type" := ⟨_, hC, rfl⟩
  refine codeAny_of_tree ?_
  show wpAny _ _ (callAny (.ref C) _) _ _ _
  repeat (any_goals (first | assumption | with_reducible refine wpAny_loadPart_at hC ?_ | wp_step))
  refine ⟨rfl, codeAny_call_builtin_at (Code.quiet_builtin _ (by decide +kernel)) entry_typeCall (wpAny_check_type_call_sub hC (tcall_kw F hT hC hi hb ?_))⟩
  refine codeAny_mono hq fun r s' z => ?_
  rcases r with e | (v | _ | _ | _) <;> exact z
end
end HKW
end PySem
namespace AZ
open PySem L2 PyProof.Rows
/-! ## made as a value -/
/-- an error of the class C at a with these fields -/
def ErrAt (H : Hp) (a C : Addr) (fs : List (Str × V)) : Prop := ∃ dx, H a = some (exo a C (some dx)) ∧ H dx = some (exd dx fs)
def tMkE (C : Addr) (sp : Sp) (ta : TA) : TE := fun σ H Q => ta σ H fun vs H1 => vs.length ≤ 1000 ∧ ∀ a, H1 a = none → sp (.ref a :: vs) (upd H1 a (exo a C none)) (fun v H2 => v = .non ∧ Q (.ref a) H2) (fun _ _ _ => False)
section
variable {X : Cx} {CX : CXT} {k : Nat} {C fI : Addr} {sp : Sp} {pins : List (Addr × Obj)} {σ : L2.St} {H : Hp} {s : Shared} {Q : VK}
/-- C(us) -/
theorem mkE_run (T : OexC X.K C) (iC : PySem.W.findIn X.K (.ref C) "__init__" = some (some (.ref fI))) (tI : PySem.W.typeIn X.K (.ref fI) = some (.type "function")) (F : FnG X.prog X.w X.K X.mg X.base CX k fI sp) (ng : NoG X.A) (hr : Room (k + 1) X.A)
    (hx : Passes CX X (fun _ _ _ => False)) (I : Inv X pins σ H s) {vs : List V} {us : List Value} {as : Args} (r : Vals vs us) (hl : vs.length ≤ 1000)
    (q : ∀ a, H a = none → sp (.ref a :: vs) (upd H a (exo a C none)) (fun v H2 => v = .non ∧ Q (.ref a) H2) (fun _ _ _ => False)) :
    wpAny (model X.prog X.w) X.A (call (.ref C) us) (EP X pins σ Q) X.xe s := by
  obtain ⟨nm, qn, N, bs, bm, sn, sub, ab, col, dd, k0, k1, k2, k3, k5, hC, hbm⟩ := T.cls
  obtain ⟨hp, g, dr, tk, os⟩ := s
  have hsz : hp.objs.size ≤ hp.objs.size + 1 := Nat.le_succ _
  have hn : H (hp.objs.size + 1) = none := I.hok.fresh hsz
  have hq := q (hp.objs.size + 1) hn
  have kk : ∀ b o, hp.get? b = some o → ((hp.push (PySem.W.kdv_tup us)).push (PySem.HandSPX.excO C hp.objs.size)).get? b = some o := fun b o e => Heap.get?_push_of_some _ (Heap.get?_push_of_some _ e)
  have hget : ((hp.push (PySem.W.kdv_tup us)).push (PySem.HandSPX.excO C hp.objs.size)).get? (hp.objs.size + 1) = some (PySem.HandSPX.excO C hp.objs.size) := by heap_get
  have I2 : Inv X pins σ (upd H (hp.objs.size + 1) (exo (hp.objs.size + 1) C none)) ⟨(hp.push (PySem.W.kdv_tup us)).push (PySem.HandSPX.excO C hp.objs.size), g, dr, tk, os⟩ :=
    I.laid (t' := tk) (a := hp.objs.size + 1) (o := exo (hp.objs.size + 1) C none) (h' := (hp.push (PySem.W.kdv_tup us)).push (PySem.HandSPX.excO C hp.objs.size)) kk hsz (exo_ok hget)
  have hus : us.length ≤ sizeLine := Nat.le_trans (by rw [← Paired.length r]; exact hl) (show 1000 ≤ sizeLine by decide)
  refine wpAny_call (PySem.HandSPX.call_own PySem.F.excBase_ValueError (fun Y => PySem.HandSPX.refsVE_contains Y bm hbm) (I.kIn _ _ hC) (PySem.W.looks_findIn I.kIn iC) (fun self => PySem.W.bind_fn I.kIn self tI) hus ?_)
  refine codeAny_mono (F _ X.stack _ _ (.ref (hp.objs.size + 1) :: us) (.ref (hp.objs.size + 1) :: vs) _ _ ?_ (hr.make C us []) (I2.env0.make C us []) (.cons rfl r) hq) fun r s' hq' => ?_
  · exact ng
  · cases r with
    | error er => exact hx pins σ _ _ er s' I2 hq'
    | ok fl =>
      cases fl with
      | ret u =>
        obtain ⟨v, H2, J, rv, ev, q2⟩ := I2.after hq'
        subst ev
        exact ⟨rv, .ref _, H2, J, rfl, q2⟩
      | next => exact False.elim hq'
      | brk => exact False.elim hq'
      | cont => exact False.elim hq'
end
/-! ## promises of a def told by any binding, none of repr under way -/
def FnOG (P : Program) (w : World) (K : PySem.W.Frag) (mg : Str → Option Value) (base : Heap) (CX : CXT) (k : Nat) (f : Addr) (fd : FuncData) (ps : List Str) (sp : Sp) : Prop :=
  ∀ (A : Around) (out : List Env) (z : Shared) (G : Hp) (as : Args) (us : List Value) (vs : List V) (Q : VK) (E : XK), NoG A → Room k A → Env0 P w K mg base A out z G → BindsTo z fd as (ps.zip us) → us.length = ps.length → Vals vs us → sp vs G Q E →
    codeAny (model P w) A (.call (.ref f) as) (CR CX out P w G z Q E) z
/-- .. where the last ones are told by name -/
def FnGk (P : Program) (w : World) (K : PySem.W.Frag) (mg : Str → Option Value) (base : Heap) (CX : CXT) (k : Nat) (f : Addr) (ks : List Str) (gV : List V → List V → List V) (sp : Sp) : Prop :=
  ∀ (A : Around) (out : List Env) (z : Shared) (G : Hp) (us ws : List Value) (vs zs : List V) (Q : VK) (E : XK), NoG A → Room k A → Env0 P w K mg base A out z G → Vals vs us → Vals zs ws → sp (gV vs zs) G Q E →
    codeAny (model P w) A (.call (.ref f) ⟨us, ks.zip ws⟩) (CR CX out P w G z Q E) z
section
variable {P : Program} {w : World} {K : PySem.W.Frag} {mg : Str → Option Value} {base : Heap} {CX : CXT} {k : Nat} {f : Addr} {sp : Sp} {x qual : Str} {st : Stmt} {fd : FuncData} {N ps ks : List Str}
theorem kin0 {A : Around} {out : List Env} {z : Shared} {G : Hp} (env : Env0 P w K mg base A out z G) : K.In z.heap := env.mod.kin.keeps fun b o e => (env.bs b o e).1
/-- a def by its body; what it lets out goes by CX -/
theorem fnOG (F : Fun K x qual st f fd) (S : FnScope N ps (defScope st)) (len : ∀ vs H Q E, sp vs H Q E → vs.length = ps.length)
    (bd : ∀ (cdv : Value) (A : Around) (out : List Env) (z : Shared) (G : Hp) (vs : List V) (Q : VK) (E : XK), NoG (A.deeper (envOfC qual (defScope st) z.heap.objs.size f cdv)) →
      Room k (A.deeper (envOfC qual (defScope st) z.heap.objs.size f cdv)) → sp vs G Q E →
      ∃ t, PSs (cxOf CX P w K mg base N qual (defScope st) f cdv A out z G E) (defBody st) t ∧ t { nx := fun _ H' => Q .non H', rt := Q } (start N vs) G) : FnOG P w K mg base CX (k + 1) f fd ps sp := by
  obtain ⟨oc, od, kV, doc, pm, an, cdv, ct, osl, rfl, look, rec⟩ := F.ex
  intro A out z G as us vs Q E ng room env bnd many vals prom
  have keep : ∀ b o, base.get? b = some o → z.heap.get? b = some o := fun b o e => (env.bs b o e).1
  have kin := kin0 env
  have kinds : ∀ y ∈ ps.zip us, (defScope st).names.lookup y.1 = some .local ∨
      ((defScope st).names.lookup y.1 = some .cell ∧ ((cellsFrom (z.heap.objs.size + 1) (defScope st).names []).lookup y.1).isSome = true) := by
    rintro ⟨n, v⟩ there
    exact (S.par n (List.of_mem_zip there).1).imp id fun c => ⟨c, PySem.W.cellsFrom_some _ _ _ (.inl c)⟩
  refine codeAny_call_function room.depth (kin _ _ look) rfl S.co S.gen rfl (PySem.W.codeRec_of kin rec) (bnd _ _ _ _ (wpAny_newFunctionEnv_cells S.kind kinds ?_))
  rintro env2 rfl z1 made
  refine ⟨(env.mod.nolimit.keeps keep).keeps made.toInCall.keep, codeAny_func ?_⟩
  obtain ⟨t, body, run⟩ := bd cdv A out z G vs Q E (ng.deeper _) (room.deeper _) prom
  exact wpAny_mono (body.run [] z1 (start N vs) G _ (inv_start S room.hd env (len _ _ _ _ prom) vals made) run) (fun fl z2 q => by
    cases fl with
    | ret v => obtain ⟨y, σ, G2, J, rel, q⟩ := q; exact ⟨y, G2, J.os, J.bare, J.base, J.hok, rel, q⟩
    | next => obtain ⟨σ, G2, J, q⟩ := q; exact ⟨.non, G2, J.os, J.bare, J.base, J.hok, rfl, q⟩
    | brk => obtain ⟨σ, G2, J, q⟩ := q; exact q.elim
    | cont => obtain ⟨σ, G2, J, q⟩ := q; exact q.elim) fun e z2 q => q
theorem FnOG.pos (F : FnOG P w K mg base CX k f fd ps sp) (len : ∀ vs H Q E, sp vs H Q E → vs.length = ps.length) (hb : Binds K fd ps []) : FnG P w K mg base CX k f sp := by
  intro A out z G us vs Q E ng room env vals prom
  have many : us.length = ps.length := vals.length.symm.trans (len _ _ _ _ prom)
  have bnd := hb z us (kin0 env) (by rw [List.append_nil]; exact many)
  rw [List.append_nil] at bnd
  exact F A out z G ⟨us, []⟩ us vs Q E ng room env bnd many vals prom
theorem FnOG.key {n : Nat} {g : List Value → List Value → List Value} {gV : List V → List V → List V} (F : FnOG P w K mg base CX k f fd ps sp) (len : ∀ vs H Q E, sp vs H Q E → vs.length = ps.length) (hb : KBn K fd ps n ks g gV)
    (hl : ∀ vs zs : List V, (gV vs zs).length = ps.length → vs.length = n ∧ zs.length = ks.length) : FnGk P w K mg base CX k f ks gV sp := by
  intro A out z G us ws vs zs Q E ng room env r rz prom
  have ln := len _ _ _ _ prom
  obtain ⟨l1, l2⟩ := hl vs zs ln
  have rel := hb.rel r rz
  exact F A out z G ⟨us, ks.zip ws⟩ (g us ws) (gV vs zs) Q E ng room env (hb.to z us ws (kin0 env) (r.length.symm.trans l1) (rz.length.symm.trans l2)) (rel.length.symm.trans ln) rel prom
end
end AZ

set_option Elab.async false
set_option maxRecDepth 100000
set_option maxHeartbeats 4000000
set_option linter.all false
/-! Own work: errors as values: the rules for the text. -/
namespace AZ
open PySem L2 PyProof.Rows
/-- what is asked of an own error class: made as such, its __init__ at fI -/
structure ErrC (K : PySem.W.Frag) (C fI : Addr) : Prop where
  oex : OexC K C
  init : PySem.W.findIn K (.ref C) "__init__" = some (some (.ref fI))
  fn : PySem.W.typeIn K (.ref fI) = some (.type "function")
section
variable {X : Cx} {CX : CXT} {k : Nat} {C fI : Addr} {sp : Sp} {pins : List (Addr × Obj)} {σ : L2.St} {H : Hp} {s : Shared} {Q : VK} {x : Str} {e : Expr} {es : List Expr} {kws : List Keyword} {ks : List Str} {gV : List V → List V → List V} {p pos : Pos} {ta : TA}
/-- C(e, ..) as a value -/
theorem pe_mkE (T : ErrC X.K C fI) (F : FnG X.prog X.w X.K X.mg X.base CX k fI sp) (ng : NoG X.A) (hr : Room (k + 1) X.A) (hg : Gl X x) (hm : X.mg x = some (.ref C)) (hx : Passes CX X (fun _ _ _ => False)) (ha : PA X (e :: es) ta)
    (hdb : (x == ("__debug__" : Str)) = false := by decide) (he : starEach (e :: es) X.env = (false, eval e X.env) :: starEach es X.env := by rfl) (hpl : (backTo pos (starEach es X.env)).any (·.1) = false := by rfl) :
    PE X (.Call (.Name x p) (e :: es) [] pos) (tMkE C sp ta) :=
  ⟨fun pins s σ H Q I h => wpAny_Call_Name_kw (ld_glob I hg hm (PySem.W.callWith_K (h₀ := X.base) I.ok.mod.kin T.oex.kC (thn (ha.run pos pins s σ H _ I h) fun us s1 ⟨vs, H1, I1, r1, hz, q1⟩ =>
    ⟨I1.kIn, mkE_run (as := ⟨us, []⟩) T.oex T.init T.fn F ng hr hx I1 r1 hz q1⟩) he hpl) hdb)⟩
/-- C() -/
theorem pe_mkE0 (T : ErrC X.K C fI) (F : FnG X.prog X.w X.K X.mg X.base CX k fI sp) (ng : NoG X.A) (hr : Room (k + 1) X.A) (hg : Gl X x) (hm : X.mg x = some (.ref C)) (hx : Passes CX X (fun _ _ _ => False))
    (hdb : (x == ("__debug__" : Str)) = false := by decide) :
    PE X (.Call (.Name x p) [] [] pos) (tMkE C sp tNil) :=
  ⟨fun pins s σ H Q I ⟨hz, q1⟩ => wpAny_Call_Name_kw (ld_glob I hg hm (PySem.W.callWith_K0 (first := []) I.kIn T.oex.kC (mkE_run (as := ⟨[], []⟩) T.oex T.init T.fn F ng hr hx I .nil hz q1)) hdb)⟩
/-- C(k = e, ..) -/
def tMkEk (C : Addr) (gV : List V → List V → List V) (sp : Sp) (ta : TA) : TE := fun σ H Q => ta σ H fun zs H1 => ∀ a, H1 a = none → sp (gV [.ref a] zs) (upd H1 a (exo a C none)) (fun v H2 => v = .non ∧ Q (.ref a) H2) (fun _ _ _ => False)
theorem pe_mkEk (T : ErrC X.K C fI) (F : FnGk X.prog X.w X.K X.mg X.base CX k fI ks gV sp) (ng : NoG X.A) (hr : Room (k + 1) X.A) (hg : Gl X x) (hm : X.mg x = some (.ref C)) (hx : Passes CX X (fun _ _ _ => False)) (hkw : PK X kws ta)
    (hall : (backToKw pos (keywordEach kws X.env)).all (·.1.isSome) = true := by rfl) (hks : (backToKw pos (keywordEach kws X.env)).filterMap (·.1) = ks := by rfl) (hdb : (x == ("__debug__" : Str)) = false := by decide)
    (hpl : ((backTo pos (starEach [] X.env)).any (·.1) || (backToKw pos (keywordEach kws X.env)).any (·.1.isNone)) = false := by rfl) : PE X (.Call (.Name x p) [] kws pos) (tMkEk C gV sp ta) := by
  refine ⟨fun pins s σ H Q I h => wpAny_Call_Name_kw (ld_glob I hg hm ?_ hdb)⟩
  refine PySem.W.callWith_KW0 (h₀ := X.base) I.ok.mod.kin T.oex.kC hall (thn (hkw.run pos pins s σ H _ I h) fun ws s2 ⟨zs, H2, I2, rz, q⟩ => ⟨I2.kIn, ?_⟩) hpl
  rw [hks]
  obtain ⟨nm, qn, N, bs, bm, sn, sub, ab, col, dd, k0, k1, k2, k3, k5, hC, hbm⟩ := T.oex.cls
  obtain ⟨hp, g, dr, tk, os⟩ := s2
  have hn : H2 (hp.objs.size + 1) = none := I2.hok.fresh (Nat.le_succ _)
  have hq := q (hp.objs.size + 1) hn
  have kk : ∀ b o, hp.get? b = some o → ((hp.push (PySem.W.kdv_tup [])).push (PySem.HandSPX.excO C hp.objs.size)).get? b = some o := fun b o e => Heap.get?_push_of_some _ (Heap.get?_push_of_some _ e)
  have gx : ((hp.push (PySem.W.kdv_tup [])).push (PySem.HandSPX.excO C hp.objs.size)).get? (hp.objs.size + 1) = some (PySem.HandSPX.excO C hp.objs.size) := by heap_get
  have I3 : Inv X pins σ (upd H2 (hp.objs.size + 1) (exo (hp.objs.size + 1) C none)) ⟨(hp.push (PySem.W.kdv_tup [])).push (PySem.HandSPX.excO C hp.objs.size), g, dr, tk, os⟩ :=
    I2.laid (t' := tk) (a := hp.objs.size + 1) (o := exo (hp.objs.size + 1) C none) (h' := (hp.push (PySem.W.kdv_tup [])).push (PySem.HandSPX.excO C hp.objs.size)) kk (Nat.le_succ _) (exo_ok gx)
  refine wpAny_call (PySem.HKW.call_kw PySem.F.excBase_ValueError (fun Y => PySem.HandSPX.refsVE_contains Y bm hbm) (I2.kIn _ _ hC) (PySem.W.looks_findIn I2.kIn T.init) (fun self => PySem.W.bind_fn I2.kIn self T.fn) ?_)
  refine codeAny_mono (F _ X.stack _ _ [.ref (hp.objs.size + 1)] ws [.ref (hp.objs.size + 1)] zs _ _ ng (hr.make C [] (ks.zip ws)) (I3.env0.make C [] (ks.zip ws)) (.cons rfl .nil) rz hq) fun r s' hq' => ?_
  match r, hq' with
  | .error e, hq' => exact hx pins σ _ _ e s' I3 hq'
  | .ok (.ret _), hq' =>
    obtain ⟨v, H3, J3, rv, ev, q3⟩ := I3.after hq'
    subst ev
    exact ⟨rv, ⟨V.ref _, H3, J3, rfl, q3⟩⟩
  | .ok .next, hq' => exact hq'.elim
  | .ok .brk, hq' => exact hq'.elim
  | .ok .cont, hq' => exact hq'.elim
/-- e.f, of an error -/
def tXfE (C : Addr) (f : Str) (te : TE) : TE := fun σ H Q => te σ H fun y H1 => ∃ a fs v, y = .ref a ∧ ErrAt H1 a C fs ∧ fs.lookup f = some v ∧ Q v H1
theorem pe_xfE {n : Str} {te : TE} (T : XfC X.K C) (no : PySem.W.findIn X.K (.ref C) n = some none) (he : PE X e te) (hb : attributeBase e n X.env (eval e X.env) = eval e X.env := by rfl) : PE X (.Attribute e n pos) (tXfE C n te) := by
  refine ⟨fun pins s σ H Q I h => attr_of hb (thn (he.run pins s σ H _ I h) fun u s1 hh => ?_)⟩
  obtain ⟨y, H1, I1, ry, a, fs, v, ey, ⟨dx, ea, ed⟩, l, q⟩ := hh
  subst ey
  obtain rfl : u = Value.ref a := ry
  obtain ⟨t1, ho⟩ := exo_at I1.hok ea
  obtain ⟨mA, hns, hr⟩ := exd_at I1.hok ed
  obtain ⟨od, hod, hl⟩ := lookIn_ns hns
  obtain ⟨u, hu, ru⟩ := RelO.some_of (v := v) (o := mA n) (by rw [← l]; exact hr n)
  have J : PySem.W.InstAt s1.heap a _ C (some od) := ⟨ho, rfl, rfl, hod⟩
  exact HandSPX.exc_get I1.kIn J T.ga T.gg T.exC (PySem.W.findObj_own T.hdC no rfl (by rw [hl, hu])) (handed_of ru) ⟨v, H1, I1.tok _, ru, q⟩
/-- e.f, of an error of any class -/
def tXfA (K : PySem.W.Frag) (f : Str) (te : TE) : TE := fun σ H Q => te σ H fun y H1 => ∃ a C fs v, y = .ref a ∧ XfC K C ∧ PySem.W.findIn K (.ref C) f = some none ∧ ErrAt H1 a C fs ∧ fs.lookup f = some v ∧ Q v H1
theorem pe_xfA {n : Str} {te : TE} (he : PE X e te) (hb : attributeBase e n X.env (eval e X.env) = eval e X.env := by rfl) : PE X (.Attribute e n pos) (tXfA X.K n te) := by
  refine ⟨fun pins s σ H Q I h => attr_of hb (thn (he.run pins s σ H _ I h) fun u s1 hh => ?_)⟩
  obtain ⟨y, H1, I1, ry, a, C, fs, v, ey, T, no, ⟨dx, ea, ed⟩, l, q⟩ := hh
  subst ey
  obtain rfl : u = Value.ref a := ry
  obtain ⟨t1, ho⟩ := exo_at I1.hok ea
  obtain ⟨mA, hns, hr⟩ := exd_at I1.hok ed
  obtain ⟨od, hod, hl⟩ := lookIn_ns hns
  obtain ⟨u, hu, ru⟩ := RelO.some_of (v := v) (o := mA n) (by rw [← l]; exact hr n)
  have J : PySem.W.InstAt s1.heap a _ C (some od) := ⟨ho, rfl, rfl, hod⟩
  exact HandSPX.exc_get I1.kIn J T.ga T.gg T.exC (PySem.W.findObj_own T.hdC no rfl (by rw [hl, hu])) (handed_of ru) ⟨v, H1, I1.tok _, ru, q⟩
end
/-- promises of the __init__ of errors: the fields that they keep -/
def spErr0 (C : Addr) : Sp := fun vs H Q _ => ∃ a, vs = [.ref a] ∧ H a = some (exo a C none) ∧ Q .non H
def spErr1 (K : PySem.W.Frag) (C : Addr) (f : Str) : Sp := fun vs H Q _ => ∃ a v d, vs = [.ref a, v] ∧ H a = some (exo a C none) ∧ Sh K H v d ∧ Shn d ∧ ∀ H', (∀ x o, H x = some o → x ≠ a → H' x = some o) → ErrAt H' a C [(f, v)] → Q .non H'
def spErr2 (K : PySem.W.Frag) (C : Addr) (f g : Str) : Sp := fun vs H Q _ => ∃ a v u d e, vs = [.ref a, v, u] ∧ H a = some (exo a C none) ∧ Sh K H v d ∧ Shn d ∧ Sh K H u e ∧ Shn e ∧ ∀ H', (∀ x o, H x = some o → x ≠ a → H' x = some o) → ErrAt H' a C [(g, u), (f, v)] → Q .non H'
theorem shn_len {d : PyData} (n : Shn d) {x : Str} (h : x.length ≤ 4000) : (x ++ d.shown).length ≤ sizeLine := by
  have := n.sz
  have e : (x ++ d.shown).length = x.length + d.shown.length := Array.size_append ..
  rw [e]
  exact Nat.le_trans (by omega : x.length + d.shown.length ≤ 6000) (by decide)
theorem cat_len {x y : Str} {m n k : Nat} (h1 : x.length ≤ m) (h2 : y.length ≤ n) (h : m + n ≤ k) : (x ++ y).length ≤ k := by
  have e : (x ++ y).length = x.length + y.length := Array.size_append ..
  omega
end AZ

set_option Elab.async false
set_option maxRecDepth 100000
set_option maxHeartbeats 4000000
set_option linter.all false
/-! Own work: classes of errors below one base: what is asked of each, and which is which. -/
namespace AZ
open PySem L2 PyProof.Rows
open PySem.HandSPX (veTail)
/-- the base of all, at S -/
structure Sx (K : PySem.W.Frag) (S : Addr) (nm : Str) : Prop where
  lk : ∃ q N bs sn sub ab col dd k0 k1 k2 k3 k5, K.lookup S = some (excClassObj nm q S N bs veTail true sn sub ab col dd k0 k1 k2 k3 k5 "ValueError.__new__")
/-- an own error class at C directly below S, its __init__ at fI -/
structure Ex (K : PySem.W.Frag) (S C fI : Addr) (nm : Str) : Prop where
  lk : ∃ q N bs sn sub ab col dd k0 k1 k2 k3 k5, K.lookup C = some (excClassObj nm q C N bs (.ref S :: veTail) true sn sub ab col dd k0 k1 k2 k3 k5 "ValueError.__new__")
  sa : PySem.W.findIn K (.ref C) "__setattr__" = some (some (.builtin "object.__setattr__"))
  ga : PySem.W.findIn K (.ref C) "__getattribute__" = some (some (.builtin "BaseException.__getattribute__"))
  gg : PySem.W.findIn K (.ref C) "__getattr__" = some none
  ca : PySem.W.findIn K (.ref C) "__class__" = some (some (.builtin "object.__class__"))
  init : PySem.W.findIn K (.ref C) "__init__" = some (some (.ref fI))
  fn : PySem.W.typeIn K (.ref fI) = some (.type "function")
  kp : PySem.W.keepIn K (.ref C) = true
/-- what isinstance asks of object.__class__ -/
structure Gx (K : PySem.W.Frag) : Prop where
  hn : PySem.W.specialIn K (.builtin "object.__class__") "__get__" = some (some (.builtin "getset_descriptor.__get__"))
  tk : PySem.W.takesIn K (.builtin "object.__class__") = some true
section
variable {K : PySem.W.Frag} {S C D fI fJ : Addr} {nm nm' ns : Str}
theorem Ex.cls (x : Ex K S C fI nm) : ∃ cd, PySem.W.clsIn K C = some cd ∧ cd.mro = .ref C :: .ref S :: veTail ∧ cd.name = nm ∧ cd.hasDict = true := by
  obtain ⟨q, N, bs, sn, sub, ab, col, dd, k0, k1, k2, k3, k5, h⟩ := x.lk
  have e : PySem.W.clsIn K C = some { name := nm, bases := bs, mro := .ref C :: .ref S :: veTail, ns := N, qualname := q, hasDict := true, slotNames := sn, subclasses := sub, abstract := ab, collection := col, hasDel := false } := by
    unfold PySem.W.clsIn; rw [h]
  exact ⟨_, e, rfl, rfl, rfl⟩
theorem Sx.cls (x : Sx K S nm) : ∃ cd, PySem.W.clsIn K S = some cd ∧ cd.mro = .ref S :: veTail ∧ cd.name = nm := by
  obtain ⟨q, N, bs, sn, sub, ab, col, dd, k0, k1, k2, k3, k5, h⟩ := x.lk
  have e : PySem.W.clsIn K S = some { name := nm, bases := bs, mro := .ref S :: veTail, ns := N, qualname := q, hasDict := true, slotNames := sn, subclasses := sub, abstract := ab, collection := col, hasDel := false } := by
    unfold PySem.W.clsIn; rw [h]
  exact ⟨_, e, rfl, rfl⟩
theorem Ex.ty (x : Ex K S C fI nm) : PySem.W.typeIn K (.ref C) = some (.type "type") := by
  obtain ⟨q, N, bs, sn, sub, ab, col, dd, k0, k1, k2, k3, k5, h⟩ := x.lk
  show (K.lookup C).map (·.cls) = _
  rw [h]; rfl
theorem Sx.ty (x : Sx K S nm) : PySem.W.typeIn K (.ref S) = some (.type "type") := by
  obtain ⟨q, N, bs, sn, sub, ab, col, dd, k0, k1, k2, k3, k5, h⟩ := x.lk
  show (K.lookup S).map (·.cls) = _
  rw [h]; rfl
theorem Ex.mro (x : Ex K S C fI nm) (b : Value) : PySem.W.mroIn K C b = some ((.ref C :: .ref S :: veTail).contains b) := by
  obtain ⟨cd, h, m, _⟩ := x.cls
  unfold PySem.W.mroIn
  rw [h, Option.bind_some, m]; rfl
theorem Ex.ne (x : Ex K S C fI nm) (y : Ex K S D fJ nm') (h : nm ≠ nm') : C ≠ D := fun e => by
  obtain ⟨cd, h1, _, n1, _⟩ := x.cls
  obtain ⟨ce, h2, _, n2, _⟩ := y.cls
  rw [e, h2] at h1
  cases h1
  exact h (n1.symm.trans n2)
theorem Ex.neS (x : Ex K S C fI nm) (y : Sx K S ns) (h : nm ≠ ns) : C ≠ S := fun e => by
  obtain ⟨cd, h1, _, n1, _⟩ := x.cls
  obtain ⟨ce, h2, _, n2⟩ := y.cls
  rw [e, h2] at h1
  cases h1
  exact h (n1.symm.trans n2)
theorem Ex.exc (x : Ex K S C fI nm) : PySem.W.subIn K (.ref C) (.type "BaseException") = some true := (x.mro _).trans (by simp [veTail])
theorem Ex.oex (x : Ex K S C fI nm) : OexC K C where
  cls := by
    obtain ⟨q, N, bs, sn, sub, ab, col, dd, k0, k1, k2, k3, k5, h⟩ := x.lk
    exact ⟨nm, q, N, bs, .ref S :: veTail, sn, sub, ab, col, dd, k0, k1, k2, k3, k5, h, show PySem.HandSPX.refsVE veTail = true by decide +kernel⟩
  sa := x.sa
  exC := x.exc
  tyC := x.ty
  kC := x.kp
theorem Ex.err (x : Ex K S C fI nm) : ErrC K C fI := ⟨x.oex, x.init, x.fn⟩
theorem Ex.hd (x : Ex K S C fI nm) : PySem.W.hasDictIn K C = true := by
  obtain ⟨cd, h, _, _, d⟩ := x.cls
  unfold PySem.W.hasDictIn
  rw [h]
  simp [d]
theorem Ex.xf (x : Ex K S C fI nm) : XfC K C := ⟨x.ga, x.gg, x.exc, x.hd⟩
/-- isinstance among them -/
theorem Ex.kit_ne (x : Ex K S C fI nm) (y : Ex K S D fJ nm') (s : Sx K S ns) (h : nm ≠ nm') (h2 : nm' ≠ ns) : PySem.W.kitOne K (.ref C) (.ref D) = some false := by
  have e : C ≠ D := x.ne y h
  have e2 : D ≠ S := y.neS s h2
  unfold PySem.W.kitOne PySem.W.kitCls
  rw [if_neg (by intro q; exact e (Value.ref.inj (beq_iff_eq.mp q)))]
  obtain ⟨ce, hc, _⟩ := y.cls
  dsimp only
  rw [if_pos (by rw [hc, y.ty]; rfl)]
  show PySem.W.mroIn K C _ = _
  rw [x.mro]
  simp [veTail, Ne.symm e, e2]
theorem Ex.kit_s (x : Ex K S C fI nm) (s : Sx K S ns) (h2 : nm ≠ ns) : PySem.W.kitOne K (.ref C) (.ref S) = some true := by
  have e : C ≠ S := x.neS s h2
  unfold PySem.W.kitOne PySem.W.kitCls
  rw [if_neg (by intro q; exact e (Value.ref.inj (beq_iff_eq.mp q)))]
  obtain ⟨ce, hc, _⟩ := s.cls
  dsimp only
  rw [if_pos (by rw [hc, s.ty]; rfl)]
  show PySem.W.mroIn K C _ = _
  rw [x.mro]
  simp [veTail]
theorem Ex.kit_v (x : Ex K S C fI nm) : PySem.W.kitOne K (.ref C) (.type "ValueError") = some true := by
  unfold PySem.W.kitOne PySem.W.kitCls
  rw [if_neg (by intro q; cases (beq_iff_eq.mp q))]
  dsimp only
  rw [if_pos (by decide +kernel)]
  show PySem.W.mroIn K C _ = _
  rw [x.mro]
  simp [veTail]
end
/-- an error of the class C, with fields or without -/
def ErrO (H : Hp) (a C : Addr) : Prop := H a = some (exo a C none) ∨ ∃ fs, ErrAt H a C fs
theorem ErrAt.o {H : Hp} {a C : Addr} {fs : List (Str × V)} (h : ErrAt H a C fs) : ErrO H a C := Or.inr ⟨fs, h⟩
section
variable {X : Cx}
/-- isinstance(e, c), e an error -/
def rIsE1 (K : PySem.W.Frag) : List V → Hp → VK → Prop := fun xs H Q => ∃ (a S C fI : Addr) (nm : Str) (c : V) (u : Value) (b : Bool), xs = [.ref a, c] ∧ Gx K ∧ Ex K S C fI nm ∧ ErrO H a C ∧ ClsV c u ∧ PySem.W.kitOne K (.ref C) u = some b ∧ Q (.bl b) H
def rIsET (K : PySem.W.Frag) : List V → Hp → VK → Prop := fun xs H Q => ∃ (a tp S C fI : Addr) (nm : Str) (cs : List V) (us : List Value) (b : Bool), xs = [.ref a, .ref tp] ∧ H tp = some (.tup cs) ∧ Gx K ∧ Ex K S C fI nm ∧ ErrO H a C ∧ Paired ClsV cs us ∧ PySem.W.kitAny K (.ref C) us = some b ∧ Q (.bl b) H
theorem exo_inst {pins : List (Addr × Obj)} {σ : L2.St} {H : Hp} {s : Shared} {a C : Addr} (I : Inv X pins σ H s) (e : ErrO H a C) : ∃ ox od, PySem.W.InstAt s.heap a ox C od := by
  rcases e with e | ⟨fs, dx, e, ed⟩
  · obtain ⟨t1, ho⟩ := exo_at I.hok e
    exact ⟨_, none, ho, rfl, rfl, trivial⟩
  · obtain ⟨t1, ho⟩ := exo_at I.hok e
    obtain ⟨mA, hns, hr⟩ := exd_at I.hok ed
    obtain ⟨od, hod, hl⟩ := lookIn_ns hns
    exact ⟨_, some od, ho, rfl, rfl, hod⟩
theorem call_isE1 : CallR X (.builtin "isinstance") (rIsE1 X.K) := by
  intro pins s σ H xs us Q I r h
  obtain ⟨a, S, C, fI, nm, c, u, b, rfl, G, x, e, k, q, w⟩ := h
  obtain ⟨u1, u2, rfl, r1, r2⟩ := vals2 r
  obtain rfl : u1 = Value.ref a := r1
  have ec := k.eq r2
  subst ec
  obtain ⟨ox, od, J⟩ := exo_inst I e
  obtain ⟨cd, hc, _⟩ := x.cls
  exact PySem.W.kia_one (PySem.W.kitx_exc (by rw [hc]; rfl) x.ga x.gg x.exc x.ca G.hn G.tk ((x.mro _).trans (by simp [veTail]))) I.kIn J q (fun z => nomatch z) fun tk => ⟨.bl b, H, I.tok _, rfl, w⟩
theorem call_isET : CallR X (.builtin "isinstance") (rIsET X.K) := by
  intro pins s σ H xs us Q I r h
  obtain ⟨a, tp, S, C, fI, nm, cs, ws, b, rfl, hT, G, x, e, k, q, w⟩ := h
  obtain ⟨u1, u2, rfl, r1, r2⟩ := vals2 r
  obtain rfl : u1 = Value.ref a := r1
  cases (show u2 = Value.ref tp from r2)
  obtain ⟨ox, od, J⟩ := exo_inst I e
  obtain ⟨cd, hc, _⟩ := x.cls
  obtain ⟨_, its, rv, o, h1, h2, n, h3⟩ := (show ObjOk X.prog X.w H s.heap tp (.tup cs) from I.hok tp _ hT)
  have e3 := ClsV.all k rv
  subst e3
  obtain ⟨oc, od', dt, sl⟩ := o
  simp only at h2 h3
  subst h2 h3
  exact PySem.W.kia_tup (PySem.W.kitx_exc (by rw [hc]; rfl) x.ga x.gg x.exc x.ca G.hn G.tk ((x.mro _).trans (by simp [veTail]))) I.kIn J h1 q (fun z => nomatch z) fun tk => ⟨.bl b, H, I.tok _, rfl, w⟩
theorem uIsE : CallR X (.builtin "isinstance") (fun xs H Q => rIsE1 X.K xs H Q ∨ rIsET X.K xs H Q) := CallR.or' call_isE1 call_isET
end
/-! ## the bodies of their __init__ -/
abbrev tText (ts : List TE) : TE := fun σ H Q => tJs ts Str.empty σ H fun out H1 => Q (.str out) H1
section
variable {K : PySem.W.Frag} {S C fI a : Addr} {nm f g lit lit2 : Str} {H : Hp} {Q : VK} {σ : L2.St} {D : Ends} {v u : V} {e e2 : PyData}
theorem err0_body (X : Ex K S C fI nm) (ha : H a = some (exo a C none)) (h0 : σ[0]? = some (some (.ref a))) (k : D.nx σ H) : tDrop (tVeI K (tCons (tVar 0) (tCons (tC (.str lit)) tNil))) D σ H :=
  ⟨_, h0, a, C, _, rfl, by simp, X.oex, ha, k⟩
theorem err1_body (X : Ex K S C fI nm) (A : NoAttr K C f) (ha : H a = some (exo a C none)) (s : Sh K H v e) (n : Shn e) (h0 : σ[0]? = some (some (.ref a))) (h1 : σ[1]? = some (some v)) (hl : lit.length ≤ 1000)
    (k : ∀ H', (∀ x o, H x = some o → x ≠ a → H' x = some o) → ErrAt H' a C [(f, v)] → D.nx σ H') :
    tSeq (tDrop (tVeI K (tCons (tVar 0) (tCons (tText [tC (.str lit), tFmtA K (tVar 1)]) tNil)))) (tOst K f (tVar 0) (tVar 1)) D σ H := by
  refine ⟨_, h0, ⟨_, rfl, cat_len (m := 0) (n := 1000) (Nat.le_refl _) hl (by decide), _, h1, e, s, n, _, rfl, ?_, ?_⟩⟩
  · exact shn_len n (cat_len (m := 0) (n := 1000) (Nat.le_refl _) hl (by decide))
  · refine ⟨a, C, _, rfl, by simp, X.oex, ha, ?_⟩
    refine ⟨_, h1, _, h0, a, C, rfl, X.oex, A, Or.inl ⟨ha, fun dx hd ne => k _ (fun x o h nx => ?_) ⟨dx, upd_same, ?_⟩⟩⟩
    · rw [upd_ne nx, upd_ne (ne_of_none h hd)]; exact h
    · rw [upd_ne ne, upd_same]
theorem err2_body (X : Ex K S C fI nm) (A : NoAttr K C f) (B : NoAttr K C g) (ha : H a = some (exo a C none)) (s : Sh K H v e) (n : Shn e) (s2 : Sh K H u e2) (n2 : Shn e2) (h0 : σ[0]? = some (some (.ref a))) (h1 : σ[1]? = some (some v)) (h2 : σ[2]? = some (some u))
    (hl : lit.length ≤ 1000) (hl2 : lit2.length ≤ 900) (k : ∀ H', (∀ x o, H x = some o → x ≠ a → H' x = some o) → ErrAt H' a C [(g, u), (f, v)] → D.nx σ H') :
    tSeq (tDrop (tVeI K (tCons (tVar 0) (tCons (tText [tC (.str lit), tFmtA K (tVar 1), tC (.str lit2), tFmtA K (tVar 2)]) tNil)))) (tSeq (tOst K f (tVar 0) (tVar 1)) (tOst K g (tVar 0) (tVar 2))) D σ H := by
  have z1 : (Str.empty ++ lit).length ≤ 1000 := cat_len (m := 0) (n := 1000) (Nat.le_refl _) hl (by decide)
  have z2 : (Str.empty ++ lit ++ e.shown).length ≤ 3000 := cat_len z1 n.sz (by decide)
  have z3 : (Str.empty ++ lit ++ e.shown ++ lit2).length ≤ 3900 := cat_len z2 hl2 (by decide)
  refine ⟨_, h0, ⟨_, rfl, Nat.le_trans z1 (by decide), _, h1, e, s, n, _, rfl, Nat.le_trans z2 (by decide), ⟨_, rfl, Nat.le_trans z3 (by decide), _, h2, e2, s2, n2, _, rfl, shn_len n2 (Nat.le_trans z3 (by decide)), ?_⟩⟩⟩
  refine ⟨a, C, _, rfl, by simp, X.oex, ha, ?_⟩
  refine ⟨_, h1, _, h0, a, C, rfl, X.oex, A, Or.inl ⟨ha, fun dx hd ne => ?_⟩⟩
  have hne : a ≠ dx := Ne.symm ne
  refine ⟨_, h2, _, h0, a, C, rfl, X.oex, B, Or.inr ⟨dx, [(f, v)], upd_same, by rw [upd_ne ne, upd_same], by simp, ?_⟩⟩
  refine k _ (fun x o h nx => ?_) ⟨dx, by rw [upd_ne hne, upd_same], upd_same⟩
  have nd := ne_of_none h hd
  rw [upd_ne nd, upd_ne nx, upd_ne nd]; exact h
end
/-! ## bindings by name -/
section
variable {P : Program} {w : World} {K : PySem.W.Frag} {mg : Str → Option Value} {base : Heap} {CX : CXT} {k : Nat} {f : Addr} {sp : Sp} {fd : FuncData} {p q r : Str}
theorem FnOG.key11 (F : FnOG P w K mg base CX k f fd [p, q] sp) (len : ∀ vs H Q E, sp vs H Q E → vs.length = 2) (h : ∀ a b : Value, bindArgs fd ⟨[a], [(q, b)]⟩ = pure [(p, a), (q, b)]) : FnGk P w K mg base CX k f [q] g11 sp := by
  intro A out z G us ws vs zs Q E ng room env r rz prom
  have ln := len _ _ _ _ prom
  match vs, us, zs, ws, r, rz, ln, prom with
  | [_], [u], [_], [b], .cons r1 .nil, .cons r2 .nil, _, prom => exact F A out z G ⟨[u], [(q, b)]⟩ [u, b] _ Q E ng room env (.of_eq (h u b)) rfl (.cons r1 (.cons r2 .nil)) prom
  | [], [], _, _, .nil, _, ln, _ => cases ln
  | [_], [_], [], [], .cons _ .nil, .nil, ln, _ => cases ln
  | [_], [_], _ :: _ :: _, _ :: _ :: _, .cons _ .nil, .cons _ (.cons _ _), ln, _ => cases ln
  | _ :: _ :: _, _ :: _ :: _, _, _, .cons _ (.cons _ _), _, ln, _ => cases ln
theorem FnOG.key12 (F : FnOG P w K mg base CX k f fd [p, q, r] sp) (len : ∀ vs H Q E, sp vs H Q E → vs.length = 3) (h : ∀ a b c : Value, bindArgs fd ⟨[a], [(r, b), (q, c)]⟩ = pure [(p, a), (q, c), (r, b)]) : FnGk P w K mg base CX k f [r, q] g12 sp := by
  intro A out z G us ws vs zs Q E ng room env r0 rz prom
  have ln := len _ _ _ _ prom
  match vs, us, zs, ws, r0, rz, ln, prom with
  | [_], [u], [_, _], [b, c], .cons r1 .nil, .cons r2 (.cons r3 .nil), _, prom => exact F A out z G ⟨[u], [(r, b), (q, c)]⟩ [u, c, b] _ Q E ng room env (.of_eq (h u b c)) rfl (.cons r1 (.cons r3 (.cons r2 .nil))) prom
  | [], [], _, _, .nil, _, ln, _ => cases ln
  | [_], [_], [], [], .cons _ .nil, .nil, ln, _ => cases ln
  | [_], [_], [_], [_], .cons _ .nil, .cons _ .nil, ln, _ => cases ln
  | [_], [_], _ :: _ :: _ :: _, _ :: _ :: _ :: _, .cons _ .nil, .cons _ (.cons _ (.cons _ _)), ln, _ => cases ln
  | _ :: _ :: _, _ :: _ :: _, _, _, .cons _ (.cons _ _), _, ln, _ => cases ln
end
end AZ

set_option Elab.async false
set_option maxRecDepth 100000
set_option maxHeartbeats 4000000
set_option linter.all false
/-! Own work: what stays of data; rows of errors. -/
namespace AZ
open PySem L2 PyProof.Rows
section
variable {K : PySem.W.Frag} {H H' : Hp}
theorem sqL_same {a : Addr} {xs : List V} (e : Same H H') (h : SqL K H a xs) : SqL K H' a xs := h.elim (fun h => Or.inl (h.elim (fun q => Or.inl (e _ _ q)) fun ⟨o, q⟩ => Or.inr ⟨o, e _ _ q⟩)) Or.inr
theorem sqT_same {a : Addr} {xs : List V} (e : Same H H') (h : SqT K H a xs) : SqT K H' a xs := h.elim (fun h => Or.inl (h.elim (fun q => Or.inl (e _ _ q)) fun ⟨o, q⟩ => Or.inr ⟨o, e _ _ q⟩)) Or.inr
mutual
theorem dp_same (e : Same H H') : ∀ {v : V} {d : PyData}, Dp K H v d → Dp K H' v d
  | _, _, .non => .non
  | _, _, .bl b => .bl b
  | _, _, .int i => .int i
  | _, _, .str x => .str x
  | _, _, .lst h r => .lst (sqL_same e h) (dpAll_same e r)
  | _, _, .tup h r => .tup (sqT_same e h) (dpAll_same e r)
theorem dpAll_same (e : Same H H') : ∀ {vs : List V} {ds : List PyData}, DpAll K H vs ds → DpAll K H' vs ds
  | _, _, .nil => .nil
  | _, _, .cons h r => .cons (dp_same e h) (dpAll_same e r)
end
theorem Sh.same {v : V} {d : PyData} (e : Same H H') (h : Sh K H v d) : Sh K H' v d := match h with
  | .dp h n => .dp (dp_same e h) n
  | .dict h => .dict (e _ _ h)
theorem ErrAt.same {a C : Addr} {fs : List (Str × V)} (e : Same H H') (h : ErrAt H a C fs) : ErrAt H' a C fs := let ⟨dx, x, y⟩ := h; ⟨dx, e _ _ x, e _ _ y⟩
end
/-- a pair of an error of c, with these fields, and v -/
def PairAt (v : V) (H : Hp) (p : V) (c : Addr × List (Str × V)) : Prop := ∃ t e, p = .ref t ∧ H t = some (.tup [.ref e, v]) ∧ ErrAt H e c.1 c.2
theorem PairAt.same {v p : V} {H H' : Hp} {c : Addr × List (Str × V)} (e : Same H H') (h : PairAt v H p c) : PairAt v H' p c := let ⟨t, a, x, y, z⟩ := h; ⟨t, a, x, e _ _ y, z.same e⟩
/-- a list of such pairs -/
def RowsAt (v : V) (H : Hp) (l : Addr) (cs : List (Addr × List (Str × V))) : Prop := ∃ ps, H l = some (.lst ps) ∧ Paired (PairAt v H) ps cs
theorem rows_same {v : V} {H H' : Hp} (e : Same H H') : ∀ {ps : List V} {cs : List (Addr × List (Str × V))}, Paired (PairAt v H) ps cs → Paired (PairAt v H') ps cs
  | _, _, .nil => .nil
  | _, _, .cons h r => .cons (h.same e) (rows_same e r)
theorem RowsAt.same {v : V} {H H' : Hp} {l : Addr} {cs : List (Addr × List (Str × V))} (e : Same H H') (h : RowsAt v H l cs) : RowsAt v H' l cs := let ⟨ps, x, y⟩ := h; ⟨ps, e _ _ x, rows_same e y⟩
theorem paired_append {α β : Type} {R : α → β → Prop} : ∀ {xs : List α} {ys : List β} {us : List α} {ws : List β}, Paired R xs ys → Paired R us ws → Paired R (xs ++ us) (ys ++ ws)
  | _, _, _, _, .nil, h => h
  | _, _, _, _, .cons a b, h => .cons a (paired_append b h)
/-- the reading R makes such a pair -/
def PR (K : PySem.W.Frag) (σ : L2.St) (v : V) (e : V → Hp → Prop) (R : TE) (c : Addr × List (Str × V)) : Prop := ∀ H Q, e v H → (∀ p H', Same H H' → PairAt v H' p c → Q p H') → R σ H Q
section
variable {K : PySem.W.Frag} {S C fI : Addr} {nm f g : Str} {σ : L2.St} {i j : Nat} {v u : V} {e e2 : PyData} {Q : VK} {H : Hp}
theorem same_made {a : Addr} {o : HO} {H' : Hp} (n : H a = none) (k : ∀ x o', upd H a o x = some o' → x ≠ a → H' x = some o') : Same H H' := fun b u h => by
  have nb := ne_of_none h n
  exact k b u (by rw [upd_ne nb]; exact h) nb
/-- C(v) -/
theorem mk1 (h0 : σ[i]? = some (some v)) (s : Sh K H v e) (n : Shn e) (k : ∀ a H', Same H H' → ErrAt H' a C [(f, v)] → Q (.ref a) H') : tMkE C (spErr1 K C f) (tCons (tVar i) tNil) σ H Q :=
  ⟨_, h0, (by show 1 ≤ 1000; decide), fun a ha => ⟨a, v, e, rfl, upd_same, s.same (sameNew ha), n, fun H' kp er => ⟨rfl, k a H' (same_made ha kp) er⟩⟩⟩
theorem mk1k (h0 : σ[i]? = some (some v)) (s : Sh K H v e) (n : Shn e) (k : ∀ a H', Same H H' → ErrAt H' a C [(f, v)] → Q (.ref a) H') : tMkEk C g11 (spErr1 K C f) (tCons (tVar i) tNil) σ H Q :=
  ⟨_, h0, fun a ha => ⟨a, v, e, rfl, upd_same, s.same (sameNew ha), n, fun H' kp er => ⟨rfl, k a H' (same_made ha kp) er⟩⟩⟩
theorem fld1 {te : TE} {w : V} {fs : List (Str × V)} (X : Ex K S C fI nm) (A : NoAttr K C f) (l : fs.lookup f = some w) (h : te σ H fun y H1 => ∃ a, y = .ref a ∧ ErrAt H1 a C fs ∧ Q w H1) (mono : ∀ {P P' : VK}, (∀ y H1, P y H1 → P' y H1) → te σ H P → te σ H P') : tXfA K f te σ H Q :=
  mono (fun y H1 ⟨a, e, x, q⟩ => ⟨a, C, fs, w, e, X.xf, A, x, l, q⟩) h
theorem pair1 (X : Ex K S C fI nm) (A : NoAttr K C f) (h0 : σ[i]? = some (some v)) (n : Shn e) :
    PR K σ v (fun v H => Sh K H v e) (tTup (tCons (tMkE C (spErr1 K C f) (tCons (tVar i) tNil)) (tCons (tXfA K f (tMkEk C g11 (spErr1 K C f) (tCons (tVar i) tNil))) tNil))) (C, [(f, v)]) := fun H Q s k => by
  have two : ∀ a H1, Same H H1 → ErrAt H1 a C [(f, v)] → tXfA K f (tMkEk C g11 (spErr1 K C f) (tCons (tVar i) tNil)) σ H1 fun y H2 => [V.ref a, y].length ≤ sizeLine ∧ ∀ p, H2 p = none → Q (.ref p) (upd H2 p (.tup [V.ref a, y])) := fun a H1 e1 x1 => by
    show tMkEk C g11 (spErr1 K C f) (tCons (tVar i) tNil) σ H1 _
    refine mk1k h0 (s.same e1) n fun b H2 e2 x2 => ⟨b, C, _, v, rfl, X.xf, A, x2, by simp [List.lookup], ?_⟩
    exact ⟨(by show 2 ≤ sizeLine; decide), fun t ht => k _ _ ((e1.trans e2).trans (sameNew ht)) ⟨t, a, rfl, upd_same, (x1.same e2).same (sameNew ht)⟩⟩
  have r : tMkE C (spErr1 K C f) (tCons (tVar i) tNil) σ H fun x H1 => tXfA K f (tMkEk C g11 (spErr1 K C f) (tCons (tVar i) tNil)) σ H1 fun y H2 => [x, y].length ≤ sizeLine ∧ ∀ p, H2 p = none → Q (.ref p) (upd H2 p (.tup [x, y])) := mk1 h0 s n two
  exact r
/-- a list of one or two of them -/
theorem lst1 {R : TE} {c : Addr × List (Str × V)} {I : V → Hp → Prop} (h : PR K σ v I R c) (q : I v H) (k : ∀ l H', Same H H' → RowsAt v H' l [c] → Q (.ref l) H') : tLst (tCons R tNil) σ H Q :=
  h H _ q fun p H1 e1 x => ⟨(by show 1 ≤ sizeLine; decide), fun l hl => k l _ (e1.trans (sameNew hl)) ⟨[p], upd_same, .cons (x.same (sameNew hl)) .nil⟩⟩
theorem lst2 {R R' : TE} {c c' : Addr × List (Str × V)} {I : V → Hp → Prop} (im : ∀ {H H'}, Same H H' → I v H → I v H') (h : PR K σ v I R c) (h' : PR K σ v I R' c') (q : I v H) (k : ∀ l H', Same H H' → RowsAt v H' l [c, c'] → Q (.ref l) H') : tLst (tCons R (tCons R' tNil)) σ H Q :=
  h H _ q fun p H1 e1 x => h' H1 _ (im e1 q) fun p' H2 e2 x' => ⟨(by show 2 ≤ sizeLine; decide), fun l hl => k l _ ((e1.trans e2).trans (sameNew hl)) ⟨[p, p'], upd_same, .cons ((x.same e2).same (sameNew hl)) (.cons (x'.same (sameNew hl)) .nil)⟩⟩
/-- list + list -/
theorem cat_rows {r1 r2 r4 : R2} {t1 t2 : TE} {c1 c2 : List (Addr × List (Str × V))} {l : Addr} (h1 : ∀ Q', (∀ H', H' = H → Q' (.ref l) H') → t1 σ H Q') (hl : RowsAt v H l c1) (hz : c1.length + c2.length ≤ 1000)
    (h2 : ∀ Q', (∀ b H', Same H H' → RowsAt v H' b c2 → Q' (.ref b) H') → t2 σ H Q') (k : ∀ p H', Same H H' → RowsAt v H' p (c1 ++ c2) → Q (.ref p) H') : tOp (orR r1 (orR r2 (orR rCat r4))) t1 t2 σ H Q := by
  refine h1 _ fun H' eH => ?_
  subst eH
  refine h2 _ fun b H1 e1 x => Or.inr (Or.inr (Or.inl ?_))
  obtain ⟨ps, hp, pr⟩ := hl.same e1
  obtain ⟨qs, hq, qr⟩ := x
  refine ⟨l, b, ps, qs, rfl, rfl, hp, hq, ?_, fun p hpn => k p _ (e1.trans (sameNew hpn)) ⟨ps ++ qs, upd_same, rows_same (sameNew hpn) (paired_append pr qr)⟩⟩
  rw [pr.length, qr.length]
  exact Nat.le_trans hz (by decide)
theorem PR.imp {R : TE} {c : Addr × List (Str × V)} {I I' : V → Hp → Prop} (h : PR K σ v I R c) (k : ∀ H, I' v H → I v H) : PR K σ v I' R c := fun H Q q => h H Q (k H q)
/-- C(v, u) -/
theorem mk2 (h0 : σ[i]? = some (some v)) (h1 : σ[j]? = some (some u)) (s : Sh K H v e) (n : Shn e) (s2 : Sh K H u e2) (n2 : Shn e2) (k : ∀ a H', Same H H' → ErrAt H' a C [(g, u), (f, v)] → Q (.ref a) H') : tMkE C (spErr2 K C f g) (tCons (tVar i) (tCons (tVar j) tNil)) σ H Q :=
  ⟨_, h0, _, h1, (by show 2 ≤ 1000; decide), fun a ha => ⟨a, v, u, e, e2, rfl, upd_same, s.same (sameNew ha), n, s2.same (sameNew ha), n2, fun H' kp er => ⟨rfl, k a H' (same_made ha kp) er⟩⟩⟩
theorem mk2k (h0 : σ[i]? = some (some v)) (h1 : σ[j]? = some (some u)) (s : Sh K H v e) (n : Shn e) (s2 : Sh K H u e2) (n2 : Shn e2) (k : ∀ a H', Same H H' → ErrAt H' a C [(g, u), (f, v)] → Q (.ref a) H') : tMkEk C g12 (spErr2 K C f g) (tCons (tVar j) (tCons (tVar i) tNil)) σ H Q :=
  ⟨_, h1, _, h0, fun a ha => ⟨a, v, u, e, e2, rfl, upd_same, s.same (sameNew ha), n, s2.same (sameNew ha), n2, fun H' kp er => ⟨rfl, k a H' (same_made ha kp) er⟩⟩⟩
/-- its field f or g -/
theorem fld2f {te : TE} (X : Ex K S C fI nm) (A : NoAttr K C f) (hfg : (f == g) = false) (h : ∀ Q' : VK, (∀ a H', Same H H' → ErrAt H' a C [(g, u), (f, v)] → Q' (.ref a) H') → te σ H Q') (k : ∀ H', Same H H' → Q v H') : tXfA K f te σ H Q :=
  h _ fun a H' e1 x => ⟨a, C, _, v, rfl, X.xf, A, x, by simp [List.lookup, hfg], k H' e1⟩
theorem fld2g {te : TE} (X : Ex K S C fI nm) (A : NoAttr K C g) (h : ∀ Q' : VK, (∀ a H', Same H H' → ErrAt H' a C [(g, u), (f, v)] → Q' (.ref a) H') → te σ H Q') (k : ∀ H', Same H H' → Q u H') : tXfA K g te σ H Q :=
  h _ fun a H' e1 x => ⟨a, C, _, u, rfl, X.xf, A, x, by simp [List.lookup], k H' e1⟩
theorem pair2 (X : Ex K S C fI nm) (A : NoAttr K C f) (hfg : (f == g) = false) (h0 : σ[i]? = some (some v)) (h1 : σ[j]? = some (some u)) (n : Shn e) (n2 : Shn e2) :
    PR K σ v (fun v H => Sh K H v e ∧ Sh K H u e2) (tTup (tCons (tMkE C (spErr2 K C f g) (tCons (tVar i) (tCons (tVar j) tNil))) (tCons (tXfA K f (tMkEk C g12 (spErr2 K C f g) (tCons (tVar j) (tCons (tVar i) tNil)))) tNil))) (C, [(g, u), (f, v)]) := fun H Q s k => by
  have r : tMkE C (spErr2 K C f g) (tCons (tVar i) (tCons (tVar j) tNil)) σ H fun x H1 => tXfA K f (tMkEk C g12 (spErr2 K C f g) (tCons (tVar j) (tCons (tVar i) tNil))) σ H1 fun y H2 => [x, y].length ≤ sizeLine ∧ ∀ p, H2 p = none → Q (.ref p) (upd H2 p (.tup [x, y])) :=
    mk2 h0 h1 s.1 n s.2 n2 fun a H1 e1 x1 => fld2f X A hfg (fun Q' k' => mk2k h0 h1 (s.1.same e1) n (s.2.same e1) n2 k') fun H2 e2 =>
      ⟨(by show 2 ≤ sizeLine; decide), fun t ht => k _ _ ((e1.trans e2).trans (sameNew ht)) ⟨t, a, rfl, upd_same, (x1.same e2).same (sameNew ht)⟩⟩
  exact r
end
theorem _root_.L2.Room.units70 {k : Nat} {A : Around} (r : Room k A) : A.units + 70 < cLine := by have := r.un; omega
section
variable {X : Cx} {K : PySem.W.Frag}
theorem ix_seqK (h : X.K = K) : IxR X (rIx K) := by
  subst h
  exact ix_seq
theorem call_reprSK (h : X.K = K) (ng : NoG X.A) (hu : X.A.units + 70 < cLine) : CallR X (.builtin "repr") (fun xs H Q => ∃ v d, xs = [v] ∧ Sh K H v d ∧ Shn d ∧ Q (.str d.shown) H) := by
  subst h
  exact call_reprS ng hu
theorem uIsEK (h : X.K = K) : CallR X (.builtin "isinstance") (fun xs H Q => rIsE1 K xs H Q ∨ rIsET K xs H Q) := by
  subst h
  exact uIsE
end
end AZ

set_option Elab.async false
set_option maxRecDepth 100000
set_option maxHeartbeats 4000000
set_option linter.all false
/-! Own work: errors that are raised, where no repr is under way. -/
namespace AZ
open PySem L2 PyProof.Rows
abbrev CXx (P : Program) (w : World) : CXT := L2.CX P w
/-- C(e, ..) to be raised -/
def tMkX (C : Addr) (sp : Sp) (ta : TA) : L2.St → Hp → XK → Prop := fun σ H Q => ta σ H fun vs H1 => vs.length ≤ 1000 ∧ ∀ a, H1 a = none → sp (.ref a :: vs) (upd H1 a (exo a C none))
  (fun v H2 => v = .non ∧ ∃ (d : Addr) (fs : List (Str × V)), H2 a = some (exo a C (some d)) ∧ H2 d = some (exd d fs) ∧ H1 d = none ∧ Q (.ref C) (some d) (upd (del H2 a) d (.xd fs))) (fun _ _ _ => False)
section
variable {X : Cx} {CX : CXT} {k : Nat} {C fI : Addr} {sp : Sp} {x : Str} {e : Expr} {es : List Expr} {p pos : Pos} {ta : TA}
theorem pmk_err (T : ErrC X.K C fI) (F : FnG X.prog X.w X.K X.mg X.base CX k fI sp) (ng : NoG X.A) (hr : Room (k + 1) X.A) (hx : Passes CX X (fun _ _ _ => False)) (hg : Gl X x) (hm : X.mg x = some (.ref C)) (ha : PA X (e :: es) ta)
    (hdb : (x == ("__debug__" : Str)) = false := by decide) (he : starEach (e :: es) X.env = (false, eval e X.env) :: starEach es X.env := by rfl) (hpl : (backTo pos (starEach es X.env)).any (·.1) = false := by rfl) :
    PMk X (.Call (.Name x p) (e :: es) [] pos) (tMkX C sp ta) := by
  intro pins s σ H Q I h
  obtain ⟨nm, qn, N, bs, bm, sn, sub, ab, col, dd, k0, k1, k2, k3, k5, hC, hbm⟩ := T.oex.cls
  refine wpAny_Call_Name_kw (ld_glob I hg hm ?_ hdb)
  refine PySem.W.callWith_K (h₀ := X.base) I.ok.mod.kin T.oex.kC (thn (ha.run pos pins s σ H _ I h) fun us s1 ⟨vs, H1, I1, r1, hz, q1⟩ => ⟨I1.kIn, ?_⟩) he hpl
  show wpAny _ _ (call (.ref C) us) _ _ _
  obtain ⟨hp, g, dr, tk, os⟩ := s1
  have hsz : hp.objs.size ≤ hp.objs.size + 1 := Nat.le_succ _
  have hq := q1 (hp.objs.size + 1) (I1.hok.fresh hsz)
  have kk : ∀ b o, hp.get? b = some o → ((hp.push (PySem.W.kdv_tup us)).push (PySem.HandSPX.excO C hp.objs.size)).get? b = some o := fun b o e => Heap.get?_push_of_some _ (Heap.get?_push_of_some _ e)
  have gx : ((hp.push (PySem.W.kdv_tup us)).push (PySem.HandSPX.excO C hp.objs.size)).get? (hp.objs.size + 1) = some (PySem.HandSPX.excO C hp.objs.size) := by heap_get
  have I2 : Inv X pins σ (upd H1 (hp.objs.size + 1) (exo (hp.objs.size + 1) C none)) ⟨(hp.push (PySem.W.kdv_tup us)).push (PySem.HandSPX.excO C hp.objs.size), g, dr, tk, os⟩ :=
    I1.laid (t' := tk) (a := hp.objs.size + 1) (o := exo (hp.objs.size + 1) C none) (h' := (hp.push (PySem.W.kdv_tup us)).push (PySem.HandSPX.excO C hp.objs.size)) kk hsz (exo_ok gx)
  have hus : us.length ≤ sizeLine := Nat.le_trans (by rw [← Paired.length r1]; exact hz) (show 1000 ≤ sizeLine by decide)
  refine wpAny_call (PySem.HandSPX.call_own PySem.F.excBase_ValueError (fun Y => PySem.HandSPX.refsVE_contains Y bm hbm) (I1.kIn _ _ hC) (PySem.W.looks_findIn I1.kIn T.init) (fun self => PySem.W.bind_fn I1.kIn self T.fn) hus ?_)
  refine codeAny_mono (F _ X.stack _ _ (.ref (hp.objs.size + 1) :: us) (.ref (hp.objs.size + 1) :: vs) _ _ ng (hr.make C us []) (I2.env0.make C us []) (.cons rfl r1) hq) fun r s' hq' => ?_
  match r, hq' with
  | .error er, hq' => exact hx pins σ _ _ er s' I2 hq'
  | .ok (.ret u), ⟨v, H2, os2, bare2, un2, hok2, rv, ev, d, fs, ea, ed, hd1, q2⟩ =>
    subst ev
    obtain ⟨h2, g2, d2, t2, os'⟩ := s'
    exact ⟨rv, mk_end (raises_own T.oex.exC T.oex.tyC) I1 hsz kk un2 hok2 os2 bare2 ea ed hd1 q2⟩
  | .ok .next, hq' => exact hq'.elim
  | .ok .brk, hq' => exact hq'.elim
  | .ok .cont, hq' => exact hq'.elim
end
/-- the promise of an __init__ with one field, to the letter -/
def spErrX (K : PySem.W.Frag) (C : Addr) (f : Str) : Sp := fun vs H Q _ => ∃ a v d, vs = [.ref a, v] ∧ H a = some (exo a C none) ∧ Sh K H v d ∧ Shn d ∧ ∀ dx, H dx = none → dx ≠ a → Q .non (upd (upd H dx (exd dx [(f, v)])) a (exo a C (some dx)))
section
variable {K : PySem.W.Frag} {S C fI a : Addr} {nm f g lit lit2 : Str} {H : Hp} {Q : VK} {σ : L2.St} {D : Ends} {v u : V} {e e2 : PyData} {i : Nat}
theorem err1x_body (X : Ex K S C fI nm) (A : NoAttr K C f) (ha : H a = some (exo a C none)) (s : Sh K H v e) (n : Shn e) (h0 : σ[0]? = some (some (.ref a))) (h1 : σ[1]? = some (some v)) (hl : lit.length ≤ 1000)
    (k : ∀ dx, H dx = none → dx ≠ a → D.nx σ (upd (upd H dx (exd dx [(f, v)])) a (exo a C (some dx)))) :
    tSeq (tDrop (tVeI K (tCons (tVar 0) (tCons (tText [tC (.str lit), tFmtA K (tVar 1)]) tNil)))) (tOst K f (tVar 0) (tVar 1)) D σ H := by
  refine ⟨_, h0, ⟨_, rfl, cat_len (m := 0) (n := 1000) (Nat.le_refl _) hl (by decide), _, h1, e, s, n, _, rfl, ?_, ?_⟩⟩
  · exact shn_len n (cat_len (m := 0) (n := 1000) (Nat.le_refl _) hl (by decide))
  · refine ⟨a, C, _, rfl, by simp, X.oex, ha, ?_⟩
    exact ⟨_, h1, _, h0, a, C, rfl, X.oex, A, Or.inl ⟨ha, fun dx hd ne => k dx hd ne⟩⟩
/-- what is raised: a new dict with the field -/
theorem mkX1 {Q : XK} {te : TE} (h : ∀ Q' : VK, Q' v H → te σ H Q') (s : Sh K H v e) (n : Shn e) (k : ∀ dx, H dx = none → Q (.ref C) (some dx) (upd H dx (.xd [(f, v)]))) : tMkX C (spErrX K C f) (tCons te tNil) σ H Q := by
  refine h _ ⟨(by show 1 ≤ 1000; decide), fun a ha => ⟨a, v, e, rfl, upd_same, s.same (sameNew ha), n, fun dx hd ne => ⟨rfl, dx, [(f, v)], upd_same, ?_, ?_, ?_⟩⟩⟩
  · rw [upd_ne ne, upd_same]
  · rw [upd_ne ne] at hd; exact hd
  · have hd' : H dx = none := by rw [upd_ne ne] at hd; exact hd
    have eq : upd (del (upd (upd (upd H a (exo a C none)) dx (exd dx [(f, v)])) a (exo a C (some dx))) a) dx (.xd [(f, v)]) = upd H dx (.xd [(f, v)]) := by
      funext b
      by_cases hb : b = dx
      · rw [hb, upd_same, upd_same]
      · rw [upd_ne hb, upd_ne hb]
        by_cases hba : b = a
        · rw [hba, del_same, ha]
        · rw [del_ne hba, upd_ne hba, upd_ne hb, upd_ne hba]
    rw [eq]
    exact k dx hd'
end
/-! ## static methods and methods that want no repr under way -/
section
variable {X : Cx} {CX : CXT} {k : Nat} {C g : Addr} {sp : Sp} {E : XK} {o e : Expr} {es : List Expr} {m x : Str} {p pos apos : Pos} {ta : TE} {t : TA}
theorem pe_smethG {pl : Sem Bool} (he : PE X o ta) (c : SMet X.K C m g) (F : FnG X.prog X.w X.K X.mg X.base CX k g sp) (ng : NoG X.A) (hr : Room k X.A) (hx : Passes CX X E) (ha : PA X (e :: es) t)
    (hst : starEach (e :: es) X.env = (false, eval e X.env) :: starEach es X.env := by rfl) (hpl : (backTo pos (starEach es X.env)).any (·.1) = false := by rfl)
    (ht : eval (.Call (.Attribute o m apos) (e :: es) [] pos) X.env = (eval o X.env >>= fun ov => standAt apos.atName >>= fun _ => holding [ov] (getMethod ov m pl) >>= fun r =>
      callWith pos r.1 r.2 (backTo pos (starEach (e :: es) X.env)) (backToKw pos (keywordEach [] X.env))) := by rfl) :
    PE X (.Call (.Attribute o m apos) (e :: es) [] pos) (tSM C sp E ta t) := by
  refine ⟨fun pins s σ H Q I h => ?_⟩
  refine PySem.W.methodCall_KW (pl := pl) (thn (he.run pins s σ H _ I h) fun u s1 ⟨x, H1, I1, rx, ex, q⟩ => ?_) ht
  subst ex
  obtain rfl : u = Value.ref C := rx
  obtain ⟨mc, p, rest, r, at_, rc⟩ := c.ex
  refine PySem.W.method_cls I1.kIn r.ga (PySem.W.cls_bind I1.kIn r.rd at_ (wpAny_call (PySem.W.sm_get (s := { s1 with toks := s1.toks + 1 }) I1.kIn rc (PySem.W.handed_on rfl ?_))))
  refine PySem.W.callWith_K (first := []) (h₀ := X.base) I1.ok.mod.kin c.kp (thn (ha.run pos pins _ σ H1 _ (I1.tok _) q) fun us s2 ⟨vs, H2, I2, r2, q2⟩ => ⟨I2.kIn, ?_⟩) hst hpl
  exact wpAny_call (run_fnG F ng hr hx I2 r2 q2)
/-- an own comparison beside a value of any built-in type; all that it stands on is told outside -/
def rOwnCX (K : PySem.W.Frag) (C : Addr) (sp : Sp) (E : XK) : R2 := fun x y H Q => ∃ (a dx : Addr) (fs : List (Str × V)) (T : String), x = .ref a ∧ H a = some (.ins C dx fs) ∧ TyX K H y (.type T) ∧ PySem.W.notFirst K C (.type T) = true ∧ sp [x, y] H Q E
theorem op_ownCX {f : Addr} (op : CmpOp) (hs : PySem.W.findIn X.K (.ref C) (cmpInfo op).2.1 = some (some (.ref f))) (hf : PySem.W.isFn X.K (.ref f) = true) (F : FnG X.prog X.w X.K X.mg X.base CX k f sp) (ng : NoG X.A) (hr : Room k X.A) (hx : Passes CX X E)
    (hop : ∀ a b, compareOp op a b = richCompare op a b := by intro _ _; rfl) : OpR X (compareOp op) (rOwnCX X.K C sp E) := by
  intro pins s σ H x y v u Q I rx ry h
  obtain ⟨a, dx, fs, T, rfl, ha, ty, nf, q⟩ := h
  obtain rfl : v = Value.ref a := rx
  have hc : wpAny (model X.prog X.w) X.A (call (.ref f) [.ref a, u]) (PySem.W.CmpBack (EP X pins σ Q)) X.xe s :=
    thn (wpAny_call (run_fnG (us := [.ref a, u]) (vs := [.ref a, y]) F ng hr hx I (.cons rfl (.cons ry .nil)) q)) fun _ _ z => cmpBack_of z
  obtain ⟨mA, J, _⟩ := ins_get I.hok ha
  obtain ⟨od, J, _⟩ := J.look
  obtain ⟨m, hF⟩ := I.fr
  rw [hop]
  obtain ⟨Pz, Z, pz, _⟩ := kit_of I ry ty
  exact PySem.W.cmp_K (tb := .type T) hr.units0 hF I.ok.mod.kin J (Z.ty _ _ I.kIn pz) nf hs hf hc
end
end AZ

set_option Elab.async false
set_option maxRecDepth 100000
set_option maxHeartbeats 4000000
set_option linter.all false
/-! Own work: lambdas handed to a def, where no repr is under way. -/
namespace AZ
open PySem L2 PyProof.Rows LamX
section
variable {X : Cx} {pins : List (Addr × Obj)} {σ : L2.St} {H HZ : Hp} {s s1 : Shared}
/-- the def that was handed the lambda f calls it by its name a -/
theorem act_G {CXg : CXT} {Eg : XK} {Ng : List Str} {qg : Str} {sg : Scope} {g f c' : Addr} {cdg pm ctv : Value} {params : Arguments} {body : Expr} {scope : Scope} {k i : Nat} {a : Str} {pn : List (Addr × Obj)} {xe : Value → Shared → Prop} {W : WX} {E : XK} {tb : TE} {p1 p2 : Pos}
    (ng : NoG X.A) (I : Inv X pins σ H s) (L : LamS X.env.scope scope) (hf : s.heap.get? f = some (PySem.W.kla_obj "<lambda>" (X.env.qual ++ "<lambda>") params body scope (cloFrom X.env.cells scope.names []) pm c' ctv)) (hfn : H f = none) (hfr : f ∉ frs X.stack)
    (hbind : bindArgs (PySem.W.kla_fn "<lambda>" (X.env.qual ++ "<lambda>") params body scope (cloFrom X.env.cells scope.names []) pm (.ref c') ctv) ⟨[], []⟩ = pure [])
    (tk : Takes ((cxOf CXg X.prog X.w X.K X.mg X.base Ng qg sg g cdg X.A X.stack s H Eg).tr pn xe) W) (hr : Room (k + 1) (X.A.deeper (envOfC qg sg s.heap.objs.size g cdg)))
    (hbody : ∀ (A : Around) (outer : List Env) (s : Shared) (H : Hp), NoG (A.deeper (lamEnv X scope s.heap.objs.size f c')) → Room k (A.deeper (lamEnv X scope s.heap.objs.size f c')) → PE (lamCx X A outer s H E scope f c') body tb)
    (hN : Ng[i]? = some a) (hv : Vis sg a) (hd : (a == ("__debug__" : Str)) = false := by decide) (hcd : (a == ("__classdict__" : Str)) = false := by decide) :
    PE ((cxOf CXg X.prog X.w X.K X.mg X.base Ng qg sg g cdg X.A X.stack s H Eg).tr pn xe) (.Call (.Name a p1) [] [] p2)
      (fun σZ HZ Q => σZ[i]? = some (some (.ref f)) ∧ HZ c' = some (CodeO c' (X.env.qual ++ "<lambda>")) ∧ (∀ cls d H', E cls d H' → W cls d σZ H') ∧ tb σ HZ Q) := by
  refine ⟨fun pz sz σz Hz Q Iz ⟨slot, code, hW, read⟩ => ?_⟩
  refine wpAny_Call_Name_kw (thn ((pe_var (pos := p1) (i := i) hN hv hd hcd).run pz sz σz Hz (fun v G => v = .ref f ∧ G = Hz) Iz ⟨.ref f, slot, rfl, rfl⟩) fun u s2 ⟨v, G, J, rel, ev, eG⟩ => ?_)
  subst ev
  rw [eG] at J
  obtain rfl : u = Value.ref f := rel
  have there : s2.heap.get? f = some (PySem.W.kla_obj "<lambda>" (X.env.qual ++ "<lambda>") params body scope (cloFrom X.env.cells scope.names []) pm c' ctv) := J.base.keep f _ hf hfn hfr (fun z => nomatch (show f ∈ ([] : List Addr) from z))
  refine PySem.W.callWith_F0 ⟨_, _, _, _, there⟩ ?_
  have un : Un (frs X.stack) [] H Hz s.heap s2.heap := J.base
  obtain ⟨⟨oc, vs, t, c1, c2, c3⟩, _, _⟩ := J.hok c' _ code
  have run : codeAny (model X.prog X.w) (X.A.deeper (envOfC qg sg s.heap.objs.size g cdg)) (.call (.ref f) ⟨[], []⟩) (CR (L2.CX X.prog X.w) (envOfC qg sg s.heap.objs.size g cdg :: X.stack) X.prog X.w Hz s2 Q E) s2 := by
    refine PySem.W.kla_callFunE hr.depth there rfl L.co L.gen rfl ⟨c', oc, vs, t, rfl, c1, c2, c3⟩ ?_
    rw [hbind]
    refine wpAny_pure (wpAny_newFunctionEnv (fun y hy => (L.own y hy).2) (fun y hy => absurd hy (by simp)) (fun h₁ hns hsb => ⟨J.nolimit.fresh _ hsb, ?_⟩) L.kind)
    show codeAny _ _ (.expr body (lamEnv X scope s2.heap.objs.size f c')) _ _
    have kp : ∀ b o, s2.heap.get? b = some o → h₁.get? b = some o := fun b o e => hsb.extBut b o (Nat.ne_of_lt (Heap.lt_size e)) (Heap.get?_push_of_some _ e)
    have start : Inv (lamCx X (X.A.deeper (envOfC qg sg s.heap.objs.size g cdg)) (envOfC qg sg s.heap.objs.size g cdg :: X.stack) s2 Hz E scope f c') [] σ Hz { s2 with heap := h₁, toks := s2.toks + ([] : List (Str × Value)).length } :=
      lam_start2 I L J.env0 hr.hd un hns kp
    exact PySem.W.kla_codeExpr (wpAny_mono ((hbody _ _ s2 Hz ((ng.deeper _).deeper _) (hr.deeper _)).run [] _ _ Hz Q start read) (fun v s' ⟨w', H', J', rv, q⟩ => ⟨w', H', J'.os, J'.bare, J'.base, J'.hok, rv, q⟩) fun e s' hq => hq)
  refine wpAny_call (codeAny_mono run fun r s' hq => ?_)
  match r, hq with
  | .error e, hq => exact tk e s' (XE.of_call J (fun cls d H' h => hW cls d H' h) hq)
  | .ok (.ret u), hq => exact J.after hq
  | .ok .next, hq => exact hq.elim
  | .ok .brk, hq => exact hq.elim
  | .ok .cont, hq => exact hq.elim
/-- what a def does with the lambda that it is handed as its only argument -/
def GivesG (X : Cx) (Ng : List Str) (x : Str) (sg : Scope) (g : Addr) (cdg : Value) (bg : List Stmt) (a : Str) (q : Str) (TT : (XK → Hp → VK → Prop) → Hp → VK → Prop) : Prop :=
  ∀ (f c' : Addr) (s : Shared) (H : Hp) (Q : VK) (tl : XK → Hp → VK → Prop), NoG (X.A.deeper (envOfC x sg s.heap.objs.size g cdg)) →
    (∀ (W : WX) (pn : List (Addr × Obj)) (xe : Value → Shared → Prop) (E : XK) (p1 p2 : Pos), Takes ((cxOf C8.CX0 X.prog X.w X.K X.mg X.base Ng x sg g cdg X.A X.stack s H C8.E0).tr pn xe) W →
      PE ((cxOf C8.CX0 X.prog X.w X.K X.mg X.base Ng x sg g cdg X.A X.stack s H C8.E0).tr pn xe) (.Call (.Name a p1) [] [] p2) (fun σZ HZ Q => σZ[0]? = some (some (.ref f)) ∧ HZ c' = some (CodeO c' q) ∧ (∀ cls d H', E cls d H' → W cls d σZ H') ∧ tl E HZ Q)) →
    Room 1 (X.A.deeper (envOfC x sg s.heap.objs.size g cdg)) → H c' = some (CodeO c' q) → TT tl H Q →
    ∃ t, PSs (cxOf C8.CX0 X.prog X.w X.K X.mg X.base Ng x sg g cdg X.A X.stack s H C8.E0).nox bg t ∧ t { nx := fun _ H' => Q .non H', rt := Q } (L2.start Ng [.ref f]) H
end
section
variable {X : Cx}
/-- x(lambda: body) -/
theorem pe_lamG {T : List (Addr × Str)} {TT : (XK → Hp → VK → Prop) → Hp → VK → Prop} {x a : Str} {g c P : Addr} {k : Nat} {pg : Arguments} {bg : List Stmt} {sg : Scope} {dV kV doc pm cdv ct oc : Value} {an od : Option Addr} {osl : Array (Option Value)} {Ng : List Str}
    {params : Arguments} {body : Expr} {scope : Scope} {t : XK → TE} {p lpos pos : Pos} (ng : NoG X.A) (hg : Gl X x) (hm : X.mg x = some (.ref g)) (hk : PySem.W.keepIn X.K (.ref g) = true)
    (lk : X.K.lookup g = some ⟨oc, od, .func (PySem.W.fnOf x x pg bg sg dV kV doc pm an cdv ct), osl⟩) (hcg : PySem.W.codeIn X.K cdv x = true) (hb : L2.Binds X.K (PySem.W.fnOf x x pg bg sg dV kV doc pm an cdv ct) [a] []) (Sg : FnScope Ng [a] sg) (hNg : Ng[0]? = some a) (hva : Vis sg a)
    (hG : GivesG X Ng x sg g cdv bg a (X.env.qual ++ "<lambda>") TT)
    (TB : TabB X.base X.mg c P) (hcode : X.env.code = .ref c) (hmT : (P, X.env.qual ++ "<lambda>") ∈ T) (hu : ∀ p ∈ T, p.1 = P → p.2 = X.env.qual ++ "<lambda>") (hr : Room (k + 2) X.A) (L : LamS X.env.scope scope) (hdef : defaultsOf params X.env = ([], []))
    (hbind : ∀ (q : Str) (cl : List (Str × Addr)) (pm cv ctv : Value), bindArgs (PySem.W.kla_fn "<lambda>" q params body scope cl pm cv ctv) ⟨[], []⟩ = pure [])
    (hbody : ∀ (A : Around) (outer : List Env) (s : Shared) (H : Hp) (E : XK) (f c' : Addr), NoG (A.deeper (lamEnv X scope s.heap.objs.size f c')) → Room k (A.deeper (lamEnv X scope s.heap.objs.size f c')) → PE (lamCx X A outer s H E scope f c') body (t E))
    (hdb : (x == ("__debug__" : Str)) = false := by decide) (hd : (a == ("__debug__" : Str)) = false := by decide) (hcd : (a == ("__classdict__" : Str)) = false := by decide) :
    PE X (.Call (.Name x p) [.Lambda params body scope lpos] [] pos) (tLam T TT t) := by
  refine ⟨fun pins s σ H Q I ⟨tabs, h⟩ => ?_⟩
  refine wpAny_Call_Name_kw (ld_glob I hg hm (PySem.W.callWith_K (h₀ := X.base) I.ok.mod.kin hk ?_ (by rfl) (by rfl)) hdb)
  show wpAny _ _ (spliced ((false, eval (.Lambda params body scope lpos) X.env) :: backTo pos (starEach [] X.env))) _ _ s
  refine Calls.spliced_cons (lam_make2 I TB hcode hmT hu tabs hdef (L.has I.ok) fun f c' pm' ctv H1 s' I1 eN T1 hf hfn hfr hco => Calls.spliced_nil ⟨I1.kIn, ?_⟩)
  have run : codeAny (model X.prog X.w) X.A (.call (.ref g) ⟨[.ref f], []⟩) (CR C8.CX0 X.stack X.prog X.w H1 s' Q C8.E0) s' := by
    refine run_ofS (N := Ng) (ps := [a]) (us := [.ref f]) (vs := [.ref f]) lk hcg Sg hr I1.env0 (hb s' [.ref f] I1.kIn rfl) (.cons rfl .nil) rfl fun hr' => ?_
    obtain ⟨t', ht', hq'⟩ := hG f c' s' H1 Q (fun E H' Q' => t E σ H' Q') (ng.deeper _) (fun W pn xe E p1 p2 tk => act_G (i := 0) ng I1 L hf hfn hfr (hbind _ _ _ _ _) tk hr' (fun A outer s H n hr2 => hbody A outer s H E f c' n hr2) hNg hva hd hcd) (hr'.mono (by omega)) hco (h H1 eN T1)
    exact ⟨t', ht'.nox, hq'⟩
  refine wpAny_call (codeAny_mono run fun r s2 hq => ?_)
  match r, hq with
  | .error e, hq => exact (show False from hq).elim
  | .ok (.ret u), hq => exact I1.after hq
  | .ok .next, hq => exact hq.elim
  | .ok .brk, hq => exact hq.elim
  | .ok .cont, hq => exact hq.elim
end
end AZ

set_option Elab.async false
set_option maxRecDepth 100000
set_option maxHeartbeats 4000000
set_option linter.all false
/-! Own work: a caught error that lives on behind its except clause. -/
namespace AZ
open PySem L2 PyProof.Rows
/-- at a: an error of the class cls that was caught, its dict at d -/
def exk (a : Addr) (cls : Value) (d : Option Addr) : HO := .ext fun h => ∃ oe vs, h.get? a = some oe ∧ Zc cls d oe ∧ oe.data = .fields vs
theorem exk_ok {P : Program} {w : World} {H : Hp} {h : Heap} {a : Addr} {cls : Value} {d : Option Addr} {oe : Obj} {vs : Array Value} (e : h.get? a = some oe) (z : Zc cls d oe) (f : oe.data = .fields vs) : ObjOk P w H h a (exk a cls d) :=
  ⟨⟨oe, vs, e, z, f⟩, ⟨oe, e⟩, fun _ _ ⟨o, v, q, r⟩ k => ⟨o, v, k o q, r⟩⟩
theorem exk_at {P : Program} {w : World} {H : Hp} {h : Heap} {a : Addr} {cls : Value} {d : Option Addr} (hok : HOk P w H h) (e : H a = some (exk a cls d)) : ∃ oe vs, h.get? a = some oe ∧ Zc cls d oe ∧ oe.data = .fields vs := by
  have x : ObjOk P w H h a (.ext fun h => ∃ oe vs, h.get? a = some oe ∧ Zc cls d oe ∧ oe.data = .fields vs) := hok a _ e
  exact x.1
section
variable {X : Cx} {pins : List (Addr × Obj)} {σ : L2.St} {H : Hp} {s : Shared}
/-- an object that was not there at the entry is told from now on -/
theorem track {a : Addr} {o : HO} {ob : Obj} (J : Inv X pins σ H s) (na : H a = none) (n0 : X.s_0.heap.get? a = none) (hob : s.heap.get? a = some ob) (ok : ObjOk X.prog X.w (upd H a o) s.heap a o) (nL : a ≠ X.env.locals) (nc : ∀ v, ob.data ≠ .cell v)
    (np : ∀ p ∈ X.pn ++ pins, p.1 ≠ a) : Inv X pins σ (upd H a o) s := by
  have ne : ∀ {b : Addr} {u : HO}, H b = some u → b ≠ a := fun e => ne_of_none e na
  refine ⟨J.ok, J.os, J.bare, ⟨J.base.keep, J.base.slot, fun b o' e n hx => ?_, J.base.there, fun b xs e => ?_, fun b o' u e => ?_, fun b ps e => ?_⟩, J.loc, J.cell, ?_, fun y c e => ?_, fun p hp => ?_, fun b u e => ?_, J.len⟩
  · have hb : b ≠ a := fun z => by rw [z, n0] at e; cases e
    rw [upd_ne hb]; exact J.base.free b o' e n hx
  · have q := J.base.tups b xs e
    rw [upd_ne (ne q)]; exact q
  · have q := J.base.frzs b o' u e
    rw [upd_ne (ne q)]; exact q
  · obtain ⟨more, q⟩ := J.base.tbls b ps e
    exact ⟨more, by rw [upd_ne (ne q)]; exact q⟩
  · rw [upd_ne (Ne.symm nL)]; exact J.free
  · have hc : c ≠ a := fun z => by
      obtain ⟨v, oc, e1, e2⟩ := J.cell y c e
      rw [z, hob] at e1
      cases e1
      exact nc v e2
    rw [upd_ne hc]; exact J.freeC y c e
  · obtain ⟨e, n, nl, nf, dd⟩ := J.pin p hp
    exact ⟨e, by rw [upd_ne (np p hp)]; exact n, nl, nf, dd⟩
  · by_cases hb : b = a
    · subst hb
      rw [upd_same] at e
      cases e
      exact ok
    · rw [upd_ne hb] at e
      exact (J.hok b u e).stay (fun c v _ q => q) (fun c q => by rw [upd_ne (ne q)]; exact q) fun c xs q => by rw [upd_ne (ne q)]; exact q
end
/-- what the clause wishes of an error of the body: slot i is the clause's name; the error is told behind it -/
def wKeep (K : PySem.W.Frag) (c : Value) (i : Nat) (ts : Addr → Value → Option Addr → TS) (Wout : WX) (D : Ends) : WX := fun cls d σ H =>
  ∃ b, PySem.W.exmOne K cls c = some b ∧ (b = true → ∀ a, H a = none → ts a cls d { nx := fun σ' H' => H' a = none → D.nx (σ'.set i none) (upd H' a (exk a cls d)), rt := D.rt, bk := fun σ' H' => D.bk (σ'.set i none) H', ct := fun σ' H' => D.ct (σ'.set i none) H' } (σ.set i (some (.ref a))) H) ∧
    (b = false → Wout cls d σ H)
section
variable {X : Cx} {x n : Str} {c : Value} {i : Nat} {body suite : List Stmt} {b₀ : Stmt} {np pos pos' : Pos} {tb : WX → TS} {ts : Addr → Value → Option Addr → TS} {Wout : WX}
theorem ps_try_keep (hs : X.stack = X.env :: X.outer) (hf : X.env.frame = some X.env.locals) (hex : X.ex = []) (hN : X.N.Nodup) (hi : X.N[i]? = some n) (hln : X.env.kindOf n = some .local) (hc : Names X x c) (tk : Takes X Wout)
    (hb : ∀ (W : WX) (pn : List (Addr × Obj)) (xe : Value → Shared → Prop), Takes (X.tr pn xe) W → PassesOwn (model X.prog X.w) X.A X.env xe → PSs (X.tr pn xe) body (tb W))
    (hsu : ∀ (a : Addr) (oe : Obj) (cls : Value) (d : Option Addr) (pn : List (Addr × Obj)), Zc cls d oe → (∃ vs, oe.data = .fields vs) → PSs (X.suite a ((a, oe) :: pn)) (b₀ :: suite) (ts a cls d)) :
    PS X (.Try body [.ExceptHandler (some (.Name x np)) (some n) (b₀ :: suite) pos'] [] [] pos) (fun D σ H => tb (wKeep X.K c i ts Wout D) D σ H) := by
  refine ⟨fun pins s σ H D I h => wpAny_Try_except ?_⟩
  have ok := I.ok
  have frA : X.A.frames = some (X.env :: X.outer) := by rw [ok.frames, hs]
  have isL : Loc X.env.scope n := .inl hln
  refine wpAny_mono ((hb (wKeep X.K c i ts Wout D) (X.pn ++ pins) (fun e s₁ => wpAny (model X.prog X.w) X.A (noteFrame e X.env) (fun _ s₂ => wpAny (model X.prog X.w) X.A (setFlight e none) (fun _ s₃ =>
    wpAny (model X.prog X.w) X.A (handleBy e X.env [.ExceptHandler (some (.Name x np)) (some n) (b₀ :: suite) pos']) (SP X pins D) X.xe s₃) X.xe s₂) X.xe s₁) (fun u s' caught => ?_) PassesOwn.looking).run [] s σ H D (I.toTry _) h) (fun f s1 ends => ?_) fun e s1 z => z
  · obtain ⟨a, B, sI, pins', σ', H', cls, d, rfl, J0, nb, up, sky, na, os, ag, b, hb1, yes, no⟩ := caught
    have J : Inv X pins σ' H' sI := J0.ofTry ok
    have sky' : Sky B (X.env :: X.outer) a (Zc cls d) X.env.locals s'.heap := by rw [← hs]; exact sky
    show wpAny _ _ (noteFrame (.ref a) X.env) _ _ _
    refine Sky.land Zc.steady frA hf sky' fun h3 fl3 up3 => ?_
    have J3 : Inv X pins σ' H' { s' with heap := h3 } := J.landed nb fl3.1 (up.trans up3) os ag
    obtain ⟨oe3, vs3, he3, hz3, hd3⟩ := fl3.there
    have inNo : ∀ {h : Heap} {o : Obj} {vs : Array Value}, h.FunFrames B (X.env :: X.outer) → h.get? a = some o → o.data = .fields vs → a ∉ frs (X.env :: X.outer) := fun {h o vs} ff e dd hm => by
      obtain ⟨_, o', e', hnf⟩ := ff.mem hm
      rw [e] at e'; cases e'
      exact hnf _ dd
    have nfr := inNo fl3.2.2.1 he3 hd3
    have nL : a ≠ X.env.locals := fun z => nfr (List.mem_filterMap.mpr ⟨X.env, List.mem_cons_self, by rw [hf, z]⟩)
    have nF : a ∉ X.fs := fun hm => by
      obtain ⟨e, he, q⟩ := List.mem_filterMap.mp hm
      exact nfr (List.mem_filterMap.mpr ⟨e, List.mem_cons_of_mem _ he, q⟩)
    -- what stood there at the entry, and what is pinned, stands in the ground: a does not
    have nB : B.get? a = none := fl3.2.1
    have inB : ∀ {b : Addr} {o : Obj}, sI.heap.get? b = some o → b ∉ frs X.stack → b ≠ a := fun {b o} e h1 z => by
      have q := nb b o e h1
      rw [z, nB] at q; cases q
    have aStk : a ∉ frs X.stack := by rw [hs]; exact nfr
    have n0 : X.s_0.heap.get? a = none := by
      cases e : X.s_0.heap.get? a with
      | none => rfl
      | some o =>
        obtain ⟨o', e'⟩ := J.base.there a o e (by rw [hex]; exact fun z => nomatch z)
        exact absurd rfl (inB e' aStk)
    have npin : ∀ p ∈ X.pn ++ pins, p.1 ≠ a := fun p hp => by
      obtain ⟨e, _, nl, nf, _⟩ := J.pin p hp
      refine inB e fun hm => ?_
      rcases List.mem_cons.mp (J.stkSub _ hm) with z | z
      · exact nl z
      · exact nf z
    have S3 := J3.suite he3 hd3 na nL nF
    refine wpAny_handleBy_cons (codeAny_handlers_test ?_) (by intro q; cases q)
    have LT : PySem.W.Looks (model X.prog X.w) h3 (typeOf (.ref a)) cls := fun A Q E s k q => wpAny_typeOf_ref (k _ _ he3) (by rw [hz3.1]; exact q)
    have LM := PySem.W.exm_one (M := model X.prog X.w) J3.kIn LT hb1
    have test : ∀ {Q : Value → Shared → Prop} {E : Value → Shared → Prop}, Q c { s' with heap := h3 } → wpAny (model X.prog X.w) (X.A.mark (some (.ref a))) (eval (.Name x np) X.env) Q E { s' with heap := h3 } := fun {Q E} q => by
      obtain ⟨hg, hdbg, hm | ⟨hm, hv, hnn⟩⟩ := hc
      · exact ld_glob (X := X.suite a ((a, oe3) :: (X.pn ++ pins))) S3 hg hm q hdbg
      · exact ld_blt (X := X.suite a ((a, oe3) :: (X.pn ++ pins))) S3 hg hm hv q hnn hdbg
    refine test (LM.here ?_)
    cases b with
    | true =>
      refine codeAny_handlers_suite_as (HandSPX.lands_againZ fl3 fun h4 fl4 up4 => ?_)
      have J4 : Inv X pins σ' H' { s' with heap := h4 } := J.landed nb fl4.1 ((up.trans up3).trans up4) os ag
      obtain ⟨oe4, vs4, he4, hz4, hd4⟩ := fl4.there
      have S4 := J4.suite he4 hd4 na nL nF
      refine store_ok (X := X.suite a ((a, oe4) :: (X.pn ++ pins))) (v := .ref a) S4 hN hi isL rfl (fun s5 S5 => ?_) (.inr hln)
      refine wpAny_mono ((hsu a oe4 cls d (X.pn ++ pins) hz4 ⟨_, hd4⟩).run [] s5 _ H' _ S5 (yes rfl a na)) (fun f s6 ends => ?_) fun _ _ z => False.elim z
      have fin : ∀ {σ6 : L2.St} {H6 : Hp} {Q : Shared → Prop}, Inv (X.suite a ((a, oe4) :: (X.pn ++ pins))) [] σ6 H6 s6 → (∀ s7, Inv X pins (σ6.set i none) H6 s7 → H6 a = none ∧ Inv X pins (σ6.set i none) (upd H6 a (exk a cls d)) s7 → Q s7) →
          wpAny (model X.prog X.w) X.A (do bindName X.env n .none; unbindBehindTheSuite X.env n pos') (fun _ s7 => Q s7) X.xe s6 := fun {σ6 H6 Q} S6 hq => gone_ok (X := X.suite a ((a, oe4) :: (X.pn ++ pins))) S6 hN hi hln fun s7 S7 => by
        obtain ⟨e7, n7, _, _, c7⟩ := S7.pin (a, oe4) (List.mem_append_left _ List.mem_cons_self)
        have J7 := S7.unsuite ok
        exact hq s7 J7 ⟨n7, track J7 n7 n0 e7 (exk_ok e7 hz4 hd4) nL (fun v z => by rw [hd4] at z; cases z) npin⟩
      cases f with
      | next =>
        obtain ⟨σ6, H6, S6, q6⟩ := ends
        exact fin S6 fun s7 J7 ⟨n7, t7⟩ => ⟨_, _, t7, q6 n7⟩
      | brk =>
        obtain ⟨σ6, H6, S6, q6⟩ := ends
        exact fin S6 fun s7 J7 _ => ⟨_, _, J7, q6⟩
      | cont =>
        obtain ⟨σ6, H6, S6, q6⟩ := ends
        exact fin S6 fun s7 J7 _ => ⟨_, _, J7, q6⟩
      | ret u =>
        obtain ⟨v6, σ6, H6, S6, r6, q6⟩ := ends
        exact fin S6 fun s7 J7 _ => ⟨_, _, _, J7, r6, q6⟩
    | false =>
      show wpAny _ X.A (handleBy (.ref a) X.env []) _ _ _
      refine wpAny_handleBy_nil ?_
      obtain ⟨_, _, _, oe, vs, T, oT, ts', he, hz, hd, h1, hr⟩ := id fl3
      unfold PySem.passOn
      refine wpAny_bind (wpAny_field he hd h1 ?_)
      rw [if_neg (show ¬ ((Value.ref T == Value.none) = true) from by simp)]
      have out : wpAny (model X.prog X.w) X.A (setFlight (.ref a) X.env.frame) (fun _ s4 => wpAny (model X.prog X.w) X.A (throw (.ref a) : Sem Flow) (SP X pins D) X.xe s4) X.xe { s' with heap := h3 } := by
        rw [hf]
        refine HandSPX.setFlight_upZ fl3 fun h4 hh4 up4 => wpAny_throw (tk _ _ ?_)
        exact ⟨a, B, sI, pins, σ', H', cls, d, rfl, J, nb, (up.trans up3).trans up4, .inr (.inr (by rw [hs]; exact hh4)), na, os, ag, no rfl⟩
      first
        | exact wpAny_bind (wpAny_pure (wpAny_bind out))
        | exact wpAny_bind out
  · cases f with
    | next =>
      obtain ⟨σ', H', J', q⟩ := ends
      exact wpAny_execs_nil ⟨σ', H', J'.ofTry ok, q⟩
    | brk =>
      obtain ⟨σ', H', J', q⟩ := ends
      exact ⟨σ', H', J'.ofTry ok, q⟩
    | cont =>
      obtain ⟨σ', H', J', q⟩ := ends
      exact ⟨σ', H', J'.ofTry ok, q⟩
    | ret u =>
      obtain ⟨v, σ', H', J', r, q⟩ := ends
      exact ⟨v, σ', H', J'.ofTry ok, r, q⟩
end
/-! ## the caught error is asked -/
def ErrK (H : Hp) (a C : Addr) (fs : List (Str × V)) : Prop := ∃ dx, H a = some (exk a (.ref C) (some dx)) ∧ H dx = some (.xd fs)
theorem ErrK.inst {X : Cx} {pins : List (Addr × Obj)} {σ : L2.St} {H : Hp} {s : Shared} {a C : Addr} {fs : List (Str × V)} (h : ErrK H a C fs) (I : Inv X pins σ H s) : ∃ (ox od : Obj) (mA : Str → Option Value), PySem.W.InstAt s.heap a ox C (some od) ∧ (∀ f, RelO (fs.lookup f) (mA f)) ∧ ∀ f, PySem.W.lookIn f od = some (mA f) := by
  obtain ⟨dx, ea, ed⟩ := h
  obtain ⟨oe, vs, ho, hz, hd⟩ := exk_at I.hok ea
  have hx : ObjOk X.prog X.w H s.heap dx (.xd fs) := I.hok dx _ ed
  obtain ⟨mA, hns, hr⟩ := hx
  obtain ⟨od, hod, hl⟩ := lookIn_ns hns
  exact ⟨oe, od, mA, ⟨ho, hz.1, by unfold PySem.W.notCls; rw [hd] <;> rfl, by rw [hz.2]; exact hod⟩, hr, hl⟩
section
variable {X : Cx} {e : Expr} {pos : Pos}
def tXfK (K : PySem.W.Frag) (f : Str) (te : TE) : TE := fun σ H Q => te σ H fun y H1 => ∃ a C fs v, y = .ref a ∧ XfC K C ∧ PySem.W.findIn K (.ref C) f = some none ∧ ErrK H1 a C fs ∧ fs.lookup f = some v ∧ Q v H1
theorem pe_xfK {n : Str} {te : TE} (he : PE X e te) (hb : attributeBase e n X.env (eval e X.env) = eval e X.env := by rfl) : PE X (.Attribute e n pos) (tXfK X.K n te) := by
  refine ⟨fun pins s σ H Q I h => attr_of hb (thn (he.run pins s σ H _ I h) fun u s1 hh => ?_)⟩
  obtain ⟨y, H1, I1, ry, a, C, fs, v, ey, T, no, ek, l, q⟩ := hh
  subst ey
  obtain rfl : u = Value.ref a := ry
  obtain ⟨ox, od, mA, J, hr, hl⟩ := ek.inst I1
  obtain ⟨u, hu, ru⟩ := RelO.some_of (v := v) (o := mA n) (by rw [← l]; exact hr n)
  exact HandSPX.exc_get I1.kIn J T.ga T.gg T.exC (PySem.W.findObj_own T.hdC no rfl (by rw [hl, hu])) (handed_of ru) ⟨v, H1, I1.tok _, ru, q⟩
def rIsEK (K : PySem.W.Frag) : List V → Hp → VK → Prop := fun xs H Q => ∃ (a S C fI : Addr) (nm : Str) (c : V) (u : Value) (b : Bool) (fs : List (Str × V)), xs = [.ref a, c] ∧ Gx K ∧ Ex K S C fI nm ∧ ErrK H a C fs ∧ ClsV c u ∧ PySem.W.kitOne K (.ref C) u = some b ∧ Q (.bl b) H
theorem call_isEK : CallR X (.builtin "isinstance") (rIsEK X.K) := by
  intro pins s σ H xs us Q I r h
  obtain ⟨a, S, C, fI, nm, c, u, b, fs, rfl, G, x, e, k, q, w⟩ := h
  obtain ⟨u1, u2, rfl, r1, r2⟩ := vals2 r
  obtain rfl : u1 = Value.ref a := r1
  have ec := k.eq r2
  subst ec
  obtain ⟨ox, od, mA, J, _, _⟩ := e.inst I
  obtain ⟨cd, hc, _⟩ := x.cls
  exact PySem.W.kia_one (PySem.W.kitx_exc (by rw [hc]; rfl) x.ga x.gg x.exc x.ca G.hn G.tk ((x.mro _).trans (by simp [PySem.HandSPX.veTail]))) I.kIn J q (fun z => nomatch z) fun tk => ⟨.bl b, H, I.tok _, rfl, w⟩
end
end AZ

set_option Elab.async false
set_option maxRecDepth 100000
set_option maxHeartbeats 4000000
set_option linter.all false
/-! Own work: the law's promise at the heap behind the top, with empty tables of code objects, no repr under way. -/
namespace AZ
open PySem L2 PyProof.Rows LamX
section
variable {P : Program} {w : World} {K : PySem.W.Frag} {mg mb : Str → Option Value} {k : Nat} {fa a : Addr} {cs : List (Addr × Addr)} {sp : Sp} {z : Shared} {vs : List Value} {ns : List Int}
/-- what the head knows of the tables -/
structure Tbs (K : PySem.W.Frag) (h : Heap) (cs : List (Addr × Addr)) : Prop where
  emp : ∀ p ∈ cs, h.get? p.2 = some { cls := .none, data := .fields #[] }
  out : ∀ p ∈ cs, K.lookup p.2 = none
  hd : ∀ p ∈ cs, PySem.W.CodeHd h p.1 p.2
theorem headT (kin : K.In z.heap) (hns : z.heap.Ns mainGlobals mg) (hmb : z.heap.Ns builtinsNs mb) (boot : ∀ x : Str, x ≠ "__name__" → mb x = bootBuiltins x) (lim : z.heap.NoLimit) (nogen : z.gens = #[]) (tb : Tbs K z.heap cs)
    (hbm : ∃ (bm : Addr) (ob : Obj), mg "__builtins__" = some (.ref bm) ∧ bm ≠ builtinsNs ∧ z.heap.get? bm = some ob ∧ ob.cls = .type "module" ∧ ob.dict = some builtinsNs ∧ ob.data = .plain)
    (room : Room k callerA) (F : ∀ base : Heap, K.In base → base.Ns mainGlobals mg → (∀ p ∈ cs, TabB base mg p.1 p.2) → FnG P w K mg base CX0 k fa sp)
    (prom : ∀ H : Hp, (∀ p ∈ cs, H p.2 = some (.tbl #[])) → SqL K H a (ns.map V.int) → sp [.ref a] H (fun v _ => v = .bl true) E0)
    (H : Hp) (at_ : ∀ p ∈ cs, H p.2 = some (.tbl #[])) (only : ∀ b, H b = none ∨ b ∈ cs.map (·.2) ∨ ∃ o xs, H b = some (.frz o (.lst xs))) (seq : SqL K H a (ns.map V.int)) (hok : HOk P w H z.heap)
    (just : ∀ b, H b ≠ none → (b = a ∧ K.lookup a = none) ∨ b ∈ cs.map (·.2)) (obj : z.heap.get? a = some { cls := .type "list", data := .seq vs.toArray }) :
    codeAny (model P w) callerA (.call (.ref fa) ⟨[.ref a], []⟩) (EndsTrue z) z := by
  have isT : ∀ {b : Addr}, b ∈ cs.map (·.2) → z.heap.get? b = some { cls := .none, data := .fields #[] } := fun {b} hb => by
    obtain ⟨p, hp, e⟩ := List.mem_map.mp hb
    rw [← e]; exact tb.emp p hp
  -- what is neither the script nor a table stands in the base
  have low : ∀ {b : Addr} {o : Obj}, z.heap.get? b = some o → (∀ us n, o.data ≠ .seq us n) → o.data ≠ .fields #[] → (hidT z.heap H).get? b = some o := fun {b o} e h1 h2 => hidT_get e (by
    cases q : H b with
    | none => rfl
    | some u =>
      rcases just b (by rw [q]; exact fun t => nomatch t) with ⟨rfl, _⟩ | hb
      · rw [obj] at e; cases e; exact (h1 _ _ rfl).elim
      · rw [isT hb] at e; cases e; exact (h2 rfl).elim)
  have names : ∀ b m, z.heap.Ns b m → (hidT z.heap H).Ns b m := fun b m ⟨o, es, ep, e, d, r⟩ => ⟨o, es, ep, low e (fun us n q => by rw [d] at q; cases q) (fun q => by rw [d] at q; cases q), d, r⟩
  have kinB : K.In (hidT z.heap H) := fun b o e => hidT_get (kin b o e) (by
    cases q : H b with
    | none => rfl
    | some u =>
      rcases just b (by rw [q]; exact fun t => nomatch t) with ⟨rfl, nk⟩ | hb
      · rw [nk] at e; cases e
      · obtain ⟨p, hp, ep⟩ := List.mem_map.mp hb
        rw [← ep, tb.out p hp] at e; cases e)
  obtain ⟨m2, l1, l2⟩ := lim
  have modB : L2.Mod K mg (hidT z.heap H) := ⟨kinB, names _ _ hns, ⟨mb, names _ _ hmb, boot⟩, ⟨m2, names _ _ l1, l2⟩⟩
  have tabs : ∀ p ∈ cs, TabB (hidT z.heap H) mg p.1 p.2 := fun p hp => by
    have empty := tb.emp p hp
    obtain ⟨oG, esG, epG, eG, dG, _⟩ := hns
    refine ⟨?_, ?_, fun q => ?_⟩
    · obtain ⟨o, us, file, tf, flags, tg, inF, text, tt, e1, r1, r2, r3, r4, r5, r6, r7, r8, hne⟩ := tb.hd p hp
      refine ⟨o, us, file, tf, flags, tg, inF, text, tt, low e1 (fun us' n q => ?_) (fun q => ?_), r1, r2, r3, r4, r5, r6, r7, r8, hne⟩
      · rw [r2] at q; cases q
      · rw [r2] at q
        cases q
        simp at r3
    · obtain ⟨bm, ob, b1, b2, b3, b4, b5, b6⟩ := hbm
      refine ⟨bm, ob, b1, b2, fun q => ?_, fun q => ?_, low b3 (fun us' n q => ?_) (fun q => ?_), b4, b5, b6⟩
      · rw [q, eG] at b3; cases b3; rw [dG] at b6; cases b6
      · rw [q, empty] at b3; cases b3; cases b6
      · rw [b6] at q; cases q
      · rw [b6] at q; cases q
    · rw [q, empty] at eG; cases eG; cases dG
  have env : Env0 P w K mg (hidT z.heap H) callerA [] z H := {
    frames := rfl
    mod := modB
    bs := fun _ _ e => of_hidT e
    bsz := Nat.le_of_eq (hidT_size ..)
    funs := trivial
    frf := fun _ t => nomatch t
    hok := hok
    bare := .of_eq nogen }
  refine codeAny_mono (F _ kinB (names _ _ hns) tabs callerA [] z H [.ref a] [.ref a] _ _ guards_caller room env (.cons rfl .nil) (prom H at_ seq)) fun r z' q => ?_
  match r, q with
  | .error _, q => exact q.elim
  | .ok .next, q => exact q.elim
  | .ok .brk, q => exact q.elim
  | .ok .cont, q => exact q.elim
  | .ok (.ret u), ⟨v, H2, os, bare, un, hok2, rel, tr⟩ =>
    subst tr
    obtain rfl : u = Value.bool true := rel
    have stays : ∀ b o, b ∉ cs.map (·.2) → z.heap.get? b = some o → z'.heap.get? b = some o := fun b o nb e => by
      rcases only b with n | n | ⟨ob, xs, n⟩
      · exact un.keep b o e n (fun t => nomatch t) (fun t => nomatch t)
      · exact absurd n nb
      · have g1 := (hok b _ n).1
        rw [e] at g1
        cases g1
        exact (hok2 b _ (un.frzs b _ _ n)).1
    have grown : ∀ p ∈ cs, ∃ more : Array Value, z'.heap.get? p.2 = some { cls := .none, data := .fields more } := fun p hp => by
      obtain ⟨more, q⟩ := un.tbls p.2 #[] (at_ p hp)
      exact ⟨_, hok2 p.2 _ q⟩
    refine ⟨rfl, ⟨fun b o e => ?_, fun b o e => ?_⟩, os, bare⟩
    · by_cases hb : b ∈ cs.map (·.2)
      · obtain ⟨p, hp, ep⟩ := List.mem_map.mp hb
        obtain ⟨more, hm⟩ := grown p hp
        have empty := tb.emp p hp
        rw [← ep] at e ⊢
        rw [empty] at e
        cases e
        exact .inr (.inl ⟨((tb.hd p hp).tab empty).isCodeTable, rfl, #[], more, rfl, by rw [Array.empty_append]; exact hm⟩)
      · exact .inl (stays b o hb e)
    · by_cases hb : b ∈ cs.map (·.2)
      · obtain ⟨p, hp, ep⟩ := List.mem_map.mp hb
        obtain ⟨more, hm⟩ := grown p hp
        rw [← ep]
        exact ⟨_, hm⟩
      · exact ⟨o, stays b o hb e⟩
theorem lawT (kin : K.In z.heap) (hns : z.heap.Ns mainGlobals mg) (hmb : z.heap.Ns builtinsNs mb) (boot : ∀ x : Str, x ≠ "__name__" → mb x = bootBuiltins x) (lim : z.heap.NoLimit) (nogen : z.gens = #[]) (tb : Tbs K z.heap cs)
    (hbm : ∃ (bm : Addr) (ob : Obj), mg "__builtins__" = some (.ref bm) ∧ bm ≠ builtinsNs ∧ z.heap.get? bm = some ob ∧ ob.cls = .type "module" ∧ ob.dict = some builtinsNs ∧ ob.data = .plain)
    (obj : z.heap.get? a = some { cls := .type "list", data := .seq vs.toArray }) (isI : IntsAre vs ns) (few : ns.length ≤ sizeLine)
    (room : Room k callerA) (F : ∀ base : Heap, K.In base → base.Ns mainGlobals mg → (∀ p ∈ cs, TabB base mg p.1 p.2) → FnG P w K mg base CX0 k fa sp)
    (prom : ∀ H : Hp, (∀ p ∈ cs, H p.2 = some (.tbl #[])) → SqL K H a (ns.map V.int) → sp [.ref a] H (fun v _ => v = .bl true) E0) :
    codeAny (model P w) callerA (.call (.ref fa) ⟨[.ref a], []⟩) (EndsTrue z) z := by
  have isT : ∀ {b : Addr}, b ∈ cs.map (·.2) → z.heap.get? b = some { cls := .none, data := .fields #[] } := fun {b} hb => by
    obtain ⟨p, hp, e⟩ := List.mem_map.mp hb
    rw [← e]; exact tb.emp p hp
  have aT : a ∉ cs.map (·.2) := fun h => by
    have q := isT h
    rw [obj] at q
    have q' : Data.seq vs.toArray _ = Data.fields #[] := congrArg Obj.data (Option.some.inj q)
    cases q'
  have mem : ∀ p ∈ cs, p.2 ∈ cs.map (·.2) := fun p hp => List.mem_map.mpr ⟨p, hp, rfl⟩
  cases own : K.lookup a with
  | some o =>
    have same := kin a o own
    rw [obj] at same
    cases same
    refine headT kin hns hmb boot lim nogen tb hbm room F prom (fun b => if b ∈ cs.map (·.2) then some (.tbl #[]) else none) (fun p hp => if_pos (mem p hp)) (fun b => ?_) (.inr ⟨_, vs.toArray, _, own, rfl, rfl, rfl, ?_, vals_ints isI⟩) (fun b u t => ?_) (fun b t => ?_) obj
    · by_cases hb : b ∈ cs.map (·.2)
      · exact .inr (.inl hb)
      · exact .inl (if_neg hb)
    · rw [List.size_toArray, isI.length]; exact few
    · by_cases hb : b ∈ cs.map (·.2)
      · have t' := (if_pos hb).symm.trans t
        cases t'
        exact isT hb
      · have t' := (if_neg hb).symm.trans t
        cases t'
    · by_cases hb : b ∈ cs.map (·.2)
      · exact .inr hb
      · exact absurd (if_neg hb) t
  | none =>
    refine headT kin hns hmb boot lim nogen tb hbm room F prom (fun b => if b = a then some (.frz { cls := .type "list", data := .seq vs.toArray } (.lst (ns.map V.int))) else if b ∈ cs.map (·.2) then some (.tbl #[]) else none)
      (fun p hp => (if_neg (show ¬ p.2 = a from fun q => aT (by rw [← q]; exact mem p hp))).trans (if_pos (mem p hp))) (fun b => ?_) (.inl (.inr ⟨_, if_pos rfl⟩)) (fun b u t => ?_) (fun b t => ?_) obj
    · by_cases h : b = a
      · exact .inr (.inr ⟨_, _, if_pos h⟩)
      · by_cases hb : b ∈ cs.map (·.2)
        · exact .inr (.inl hb)
        · exact .inl ((if_neg h).trans (if_neg hb))
    · by_cases h : b = a
      · have t' := (if_pos h).symm.trans t
        cases t'
        rw [h]
        exact ⟨obj, by rw [List.length_map]; exact few, vs, _, vals_ints isI, obj⟩
      · have t1 := (if_neg h).symm.trans t
        by_cases hb : b ∈ cs.map (·.2)
        · have t' := (if_pos hb).symm.trans t1
          cases t'
          exact isT hb
        · have t' := (if_neg hb).symm.trans t1
          cases t'
    · by_cases h : b = a
      · exact .inl ⟨h, own⟩
      · by_cases hb : b ∈ cs.map (·.2)
        · exact .inr hb
        · exact absurd ((if_neg h).trans (if_neg hb)) t
end
/-- the table of the def that stands at f (its code object at c, the table at P), by the written part -/
structure TabK (K : PySem.W.Frag) (f c P : Addr) : Prop where
  fn : ∃ (o : Obj) (fd : FuncData), K.lookup f = some o ∧ o.data = .func fd ∧ fd.code = .ref c
  code : ∃ (e : Value) (dd : Option Addr) (vs : Array Value) (sl : Array (Option Value)), K.lookup c = some ⟨e, dd, .fields vs, sl⟩ ∧ vs[11]? = some (.ref P)
  out : K.lookup P = none
  hd : PySem.W.codeHdIn K c P = true
/-- the goal of the head, from the law's promise; tn: the defs that make lambdas -/
theorem walkT {l : PySem.W.OpenLaw} {n k : Nat} {q : Program} {loose : List Str} {XP : (Str → Option Value) → Heap → Prop} {YP : World → Heap → Prop} {d : DefRec} {K : Params → PySem.W.Frag} {sp : PySem.W.Frag → List (Addr × Addr) → Sp}
    (hn : l.most = some n) (hn2 : n ≤ sizeLine) (hdf : d.params.defaults = []) (room : Room k callerA) (hY : ∀ (w : World) (h : Heap), YP w h → (K w.params).In h)
    (F : ∀ (w : World) (mg : Str → Option Value) (fa : Addr) (h : Heap), (K w.params).In h → h.Ns mainGlobals mg → mg d.name = some (.ref fa) →
      ∃ cs : List (Addr × Addr), (∀ p ∈ cs, ∃ (x : Str) (f : Addr), ((recsOf q).any fun e => e.name == x) = true ∧ mg x = some (.ref f) ∧ TabK (K w.params) f p.1 p.2) ∧
        (∀ base : Heap, (K w.params).In base → base.Ns mainGlobals mg → (∀ p ∈ cs, TabB base mg p.1 p.2) → FnG l.prog w (K w.params) mg base CX0 k fa (sp (K w.params) cs)))
    (prom : ∀ (K : PySem.W.Frag) (cs : List (Addr × Addr)) (H : Hp) (a : Addr) (ns : List Int), ns.length ≤ n → (∀ p ∈ cs, H p.2 = some (.tbl #[])) → SqL K H a (ns.map V.int) → sp K cs [.ref a] H (fun v _ => v = .bl true) E0) :
    PySem.W.WalkO q loose XP YP l.row.toRowW d [] (fun f vs => PySem.call f vs) := by
  refine Att.attach_callB hn hdf fun w s₀ z mg mb fa o pm cd doc a vs ns G Y ho hd hcd hmg obj isI few bits nogen => ?_
  have KX := hY w _ Y
  obtain ⟨cs, tc, hF⟩ := F w mg fa _ KX G.T.g hmg
  refine lawT KX G.T.g G.T.b G.T.builtins G.T.nolimit nogen ⟨fun p hp => ?_, fun p hp => ?_, fun p hp => ?_⟩ G.T.bmain obj isI (Nat.le_trans few hn2) room hF fun H at_ s => prom _ cs H a ns few at_ s
  · obtain ⟨x, f, hx, hm, t⟩ := tc p hp
    obtain ⟨o1, fd1, k1, k2, k3⟩ := t.fn
    obtain ⟨e1, dd1, vs1, sl1, k4, k5⟩ := t.code
    obtain ⟨dL, hmem, hn1⟩ := List.any_eq_true.mp hx
    have hn3 : dL.name = x := beq_iff_eq.mp hn1
    obtain ⟨a', o', fd', c', P', h1, h2, h3, h4, h5, h6⟩ := G.T.tab dL hmem
    rw [hn3, hm] at h1
    cases h1
    rw [KX _ _ k1] at h2
    cases h2
    rw [k2] at h3
    cases h3
    rw [k3] at h4
    cases h4
    obtain ⟨⟨oc, vc, e2, _, e3, e4⟩, hP⟩ := h6
    rw [KX _ _ k4] at e2
    cases e2
    cases e3
    rw [k5] at e4
    cases e4
    exact hP
  · obtain ⟨x, f, hx, hm, t⟩ := tc p hp
    exact t.out
  · obtain ⟨x, f, hx, hm, t⟩ := tc p hp
    exact PySem.W.codeHd_of_K KX t.hd
end AZ

set_option Elab.async false
set_option maxRecDepth 100000
set_option maxHeartbeats 4000000
set_option linter.all false
/-! Own work: promises of defs that raise; values that are no numbers. -/
namespace AZ
open PySem L2 PyProof.Rows LamX
section
variable {P : Program} {w : World} {K : PySem.W.Frag} {mg : Str → Option Value} {base : Heap} {k : Nat} {f : Addr} {sp : Sp} {x qual : Str} {st : Stmt} {fd : FuncData} {N ps : List Str}
/-- a def that may raise, by its body -/
theorem fnX_of (F : Fun K x qual st f fd) (S : FnScope N ps (defScope st)) (len : ∀ vs H Q E, sp vs H Q E → vs.length = ps.length)
    (bd : ∀ (cdv : Value) (A : Around) (out : List Env) (z : Shared) (G : Hp) (vs : List V) (Q : VK) (E : XK), NoG (A.deeper (envOfC qual (defScope st) z.heap.objs.size f cdv)) →
      Room k (A.deeper (envOfC qual (defScope st) z.heap.objs.size f cdv)) → Takes (cxOf (CXx P w) P w K mg base N qual (defScope st) f cdv A out z G E) (fun cls d _ H => E cls d H) → sp vs G Q E →
      ∃ t, PSs (cxOf (CXx P w) P w K mg base N qual (defScope st) f cdv A out z G E) (defBody st) t ∧ t { nx := fun _ H' => Q .non H', rt := Q } (start N vs) G) (hb : Binds K fd ps []) : FnG P w K mg base (CXx P w) (k + 1) f sp :=
  (fnOG (CX := CXx P w) F S len fun cdv A out z G vs Q E ng hr h => bd cdv A out z G vs Q E ng hr (takes_of rfl rfl rfl rfl) h).pos len hb
end
/-- what a call hands on of what its callee raises -/
theorem on {X : Cx} {E : XK} (tk : Takes X (fun cls d _ H => E cls d H)) : Passes (CXx X.prog X.w) X E := passes_call tk fun _ _ _ _ h => h
/-- no number: its type is not the class at C, it is no integer, and it is shown -/
structure Odd (K : PySem.W.Frag) (C : Addr) (H : Hp) (v : V) (e : PyData) : Prop where
  ty : ∃ T, TyX K H v (.type T) ∧ PySem.W.kitOne K (.type T) (.ref C) = some false ∧ PySem.W.notFirst K C (.type T) = true ∧ ∃ b1 b2, PySem.W.kitOne K (.type T) (.type "int") = some b1 ∧ PySem.W.kitOne K (.type T) (.type "bool") = some b2 ∧ (b1 && !b2) = false
  sh : Sh K H v e
  shn : Shn e
/-- what is raised for v -/
def Rai (CB : Addr) (v : V) (H : Hp) (E : XK) : Prop := ∀ dx, H dx = none → E (.ref CB) (some dx) (upd H dx (.xd [("value", v)]))
def spOfX (K : PySem.W.Frag) (C CB : Addr) : Sp := fun vs H _ E => ∃ v e, vs = [v] ∧ Odd K C H v e ∧ Rai CB v H E
def spCmpX (K : PySem.W.Frag) (C CB : Addr) : Sp := fun vs H _ E => ∃ a v e dx fs, vs = [.ref a, v] ∧ H a = some (.ins C dx fs) ∧ Odd K C H v e ∧ Rai CB v H E
end AZ

set_option Elab.async false
set_option maxRecDepth 100000
set_option maxHeartbeats 4000000
set_option linter.all false
/-! Own work: an int compared with an instance: the instance's own comparison, turned about; == and != beside values of other types; is True, is False. -/
namespace AZ
open PySem PySem.Spec PySem.W PySem.Calls PyProof.Rows
section
variable {prog : Program} {w : World} {A : Around} {E : Value → Shared → Prop} {s : Shared} {K : Frag} {x C L f g dx : Addr} {h₀ : Heap} {m : Str → Option Value} {ox : Obj} {od : Option Obj} {name : Str} {b tb : Value} {i : Int} {t : Tok}
/-- what an int's comparison does beside an instance: it declines -/
def IntDecC (op : CmpOp) : Prop := ∀ {prog : Program} {w : World} {A : Around} {E : Value → Shared → Prop} {s : Shared} {x C dx : Addr} {i : Int} {t : Tok} {Q : Option Value → Shared → Prop}, s.heap.get? x = some (instObj C dx) → Q none s →
  wpAny (model prog w) A (tryCompare (.int i t) (cmpInfo op).2.1 (.ref x)) Q E s
theorem decC_lt : IntDecC .Lt := fun {prog w A E s x C dx i t Q} hx q => by
  refine wpAny_tryCompare_declines (T := "int") (id := "int.__lt__") (typeIs_int s i t) PySem.F.slot_int_lt (wpAny_call_entry PySem.F.slot_int_lt (typeIs_int s i t) PySem.F.entry_int_lt ?_ (PySem.F.args_int_lt_2 _ _))
  unfold Builtin.«int.__lt__»
  exact intBin_dec hx ⟨_, rfl, rfl, q⟩
theorem decC_le : IntDecC .LtE := fun {prog w A E s x C dx i t Q} hx q => by
  refine wpAny_tryCompare_declines (T := "int") (id := "int.__le__") (typeIs_int s i t) PySem.F.slot_int_le (wpAny_call_entry PySem.F.slot_int_le (typeIs_int s i t) PySem.F.entry_int_le ?_ (PySem.F.args_int_le_2 _ _))
  unfold Builtin.«int.__le__»
  exact intBin_dec hx ⟨_, rfl, rfl, q⟩
theorem decC_gt : IntDecC .Gt := fun {prog w A E s x C dx i t Q} hx q => by
  refine wpAny_tryCompare_declines (T := "int") (id := "int.__gt__") (typeIs_int s i t) PySem.F.slot_int_gt (wpAny_call_entry PySem.F.slot_int_gt (typeIs_int s i t) PySem.F.entry_int_gt ?_ (PySem.F.args_int_gt_2 _ _))
  unfold Builtin.«int.__gt__»
  exact intBin_dec hx ⟨_, rfl, rfl, q⟩
theorem decC_ge : IntDecC .GtE := fun {prog w A E s x C dx i t Q} hx q => by
  refine wpAny_tryCompare_declines (T := "int") (id := "int.__ge__") (typeIs_int s i t) PySem.F.slot_int_ge (wpAny_call_entry PySem.F.slot_int_ge (typeIs_int s i t) PySem.F.entry_int_ge ?_ (PySem.F.args_int_ge_2 _ _))
  unfold Builtin.«int.__ge__»
  exact intBin_dec hx ⟨_, rfl, rfl, q⟩
theorem decC_eq : IntDecC .Eq := fun {prog w A E s x C dx i t Q} hx q => by
  refine wpAny_tryCompare_declines (T := "int") (id := "int.__eq__") (typeIs_int s i t) PySem.F.slot_int_eq (wpAny_call_entry PySem.F.slot_int_eq (typeIs_int s i t) PySem.F.entry_int_eq ?_ (PySem.F.args_int_eq_2 _ _))
  unfold Builtin.«int.__eq__»
  exact intBin_dec hx ⟨_, rfl, rfl, q⟩
theorem decC_ne : IntDecC .NotEq := fun {prog w A E s x C dx i t Q} hx q => by
  refine wpAny_tryCompare_declines (T := "int") (id := "int.__ne__") (typeIs_int s i t) PySem.F.slot_int_ne (wpAny_call_entry PySem.F.slot_int_ne (typeIs_int s i t) PySem.F.entry_int_ne ?_ (PySem.F.args_int_ne_2 _ _))
  unfold Builtin.«int.__ne__»
  exact intBin_dec hx ⟨_, rfl, rfl, q⟩
/-- int, comparison, instance -/
theorem cmp_refl {op : CmpOp} {Q : Value → Shared → Prop} (D : IntDecC op) (hu : A.units < cLine) (F : Fr h₀ L s.heap m) (X₀ : K.In h₀) (I : InstAt s.heap x ox C od) (hx : s.heap.get? x = some (instObj C dx)) (hs2 : subIn K (.ref C) (.type "int") = some false)
    (one : wpAny (model prog w) A (tryCompare (.ref x) (cmpInfo op).2.2 (.int i t)) (fun r s' => ∃ v, r = some v ∧ Q v s') E s) (hth : oneThing? op (.int i t) (.ref x) = none := by rfl) : wpAny (model prog w) A (richCompare op (.int i t) (.ref x)) Q E s := by
  have X := X₀.keeps F.keep
  have L1 : Looks (model prog w) s.heap (typeOf (.int i t)) (.type "int") := Looks.of_pure rfl
  unfold richCompare
  rw [hth]
  refine wpAny_holding (wpAny_bind (wpAny_cRoomFor hu ?_))
  refine wpAny_bind (L1.here (wpAny_bind (I.type.here ?_)))
  have hne : (Value.type "int" != Value.ref C) = true := by
    show (!(Value.type "int" == Value.ref C)) = true
    rw [show (Value.type "int" == Value.ref C) = false from Bool.eq_false_iff.mpr fun q => by cases beq_iff_eq.mp q]
    rfl
  rw [if_pos hne]
  refine wpAny_bind ((looks_subIn X hs2).here ?_)
  simp only [Bool.false_eq_true, if_false]
  refine wpAny_bind (D hx ?_)
  simp only [Bool.not_false, if_true]
  refine wpAny_bind (wpAny_mono one (fun r s' z => ?_) fun _ _ e => e)
  obtain ⟨v, rfl, hq⟩ := z
  exact wpAny_pure hq
end
end AZ
namespace AZ
open PySem L2 PyProof.Rows
theorem sub_of_kit {K : PySem.W.Frag} {C : Addr} (h : PySem.W.kitOne K (.ref C) (.type "int") = some false) : PySem.W.subIn K (.ref C) (.type "int") = some false := by
  unfold PySem.W.kitOne PySem.W.kitCls at h
  rw [if_neg (by intro q; cases (beq_iff_eq.mp q))] at h
  dsimp only at h
  rw [if_pos (by decide +kernel)] at h
  exact h
section
variable {X : Cx}
/-- int < own and the like: the own one, turned about; opr: the own operator that is asked -/
def rReflC (X : Cx) (opr : CmpOp) : R2 := fun x y H Q => ∃ (j : Int) (a C dx : Addr) (fs : List (Str × V)) (f : Addr) (CX : CXT) (k : Nat) (sp : Sp) (E : XK),
  x = .int j ∧ y = .ref a ∧ H a = some (.ins C dx fs) ∧ CmpM X.K C opr f ∧ PySem.W.kitOne X.K (.ref C) (.type "int") = some false ∧ FnR X.prog X.w X.K X.mg X.base CX k f sp ∧ Room k X.A ∧ Passes CX X E ∧ sp [y, x] H Q E
theorem op_reflC {op : CmpOp} (opr : CmpOp) (he : (cmpInfo op).2.2 = (cmpInfo opr).2.1) (D : IntDecC op) (hop : ∀ a b, compareOp op a b = richCompare op a b := by intro _ _; rfl) (hth : ∀ (i : Int) (t : Tok) (x : Addr), oneThing? op (.int i t) (.ref x) = none := by intro _ _ _; rfl) : OpR X (compareOp op) (rReflC X opr) := by
  intro pins s σ H x y v u Q I rx ry h
  obtain ⟨j, a, C, dx, fs, f, CX, k, sp, E, rfl, rfl, ha, hM, ki, F, hr, hx, hs⟩ := h
  obtain ⟨t, rfl⟩ := id rx
  obtain rfl : u = Value.ref a := ry
  have hc : wpAny (model X.prog X.w) X.A (call (.ref f) [.ref a, .int j t]) (PySem.W.CmpBack (EP X pins σ Q)) X.xe s :=
    thn (wpAny_call (run_fnR (us := [.ref a, .int j t]) (vs := [.ref a, .int j]) F hr hx I (.cons rfl (.cons rx .nil)) hs)) fun _ _ z => cmpBack_of z
  obtain ⟨mA, J, _⟩ := ins_get I.hok ha
  have hobj := J.obj
  obtain ⟨od, J, _⟩ := J.look
  obtain ⟨m, hF⟩ := I.fr
  rw [hop]
  refine cmp_refl D hr.units0 hF I.ok.mod.kin J hobj (sub_of_kit ki) ?_ (hth j t a)
  rw [he]
  unfold tryCompare
  refine wpAny_bind (PySem.W.ifBound_K I.kIn J hM.hs hM.hf (wpAny_mono hc (fun v s' hv => ?_) fun _ _ e => e))
  cases v <;> first | exact hv.elim | exact wpAny_pure ⟨_, rfl, hv⟩
/-- int != own -/
def rReflN (X : Cx) : R2 := fun x y H Q => ∃ (j : Int) (a C dx : Addr) (fs : List (Str × V)) (f : Addr) (CX : CXT) (k : Nat) (sp : Sp) (E : XK),
  x = .int j ∧ y = .ref a ∧ H a = some (.ins C dx fs) ∧ NeM X.K C f ∧ PySem.W.kitOne X.K (.ref C) (.type "int") = some false ∧ FnR X.prog X.w X.K X.mg X.base CX k f sp ∧ Room (k + 1) X.A ∧ Passes CX X E ∧ sp [y, x] H (fun v H1 => ∃ r, v = .bl r ∧ Q (.bl (!r)) H1) E
theorem op_reflN : OpR X (compareOp .NotEq) (rReflN X) := by
  intro pins s σ H x y v u Q I rx ry h
  obtain ⟨j, a, C, dx, fs, f, CX, k, sp, E, rfl, rfl, ha, hM, ki, F, hr, hx, hs⟩ := h
  obtain ⟨t, rfl⟩ := id rx
  obtain rfl : u = Value.ref a := ry
  have hc : wpAny (model X.prog X.w) X.A.in1 (call (.ref f) [.ref a, .int j t]) (fun v s' => ∃ r, v = .bool r ∧ EP X pins σ Q (.bool (!r)) s') X.xe s :=
    thn (wpAny_call (run_fnS (us := [.ref a, .int j t]) (vs := [.ref a, .int j]) ⟨hr.in1, rfl⟩ F hx I (.cons rfl (.cons rx .nil)) hs)) fun v s1 z => by
      obtain ⟨z, H1, I1, rz, r, rfl, q⟩ := z
      obtain rfl : v = Value.bool r := rz
      exact ⟨r, rfl, .bl (!r), H1, I1, rfl, q⟩
  obtain ⟨mA, J, _⟩ := ins_get I.hok ha
  have hobj := J.obj
  obtain ⟨od, J, _⟩ := J.look
  obtain ⟨m, hF⟩ := I.fr
  have hu : X.A.units + 1 < cLine := by have := hr.units; omega
  show wpAny (model X.prog X.w) X.A (richCompare .NotEq (.int j t) (.ref a)) (EP X pins σ Q) X.xe s
  exact cmp_refl (op := .NotEq) decC_ne (by omega) hF I.ok.mod.kin J hobj (sub_of_kit ki) (one_ne hu I.kIn J hM.hne hM.hs hM.hf hM.hm hc) (by rfl)
/-- own != a value of another built-in type -/
def rOwnNX (K : PySem.W.Frag) (C : Addr) (sp : Sp) (E : XK) : R2 := fun x y H Q => ∃ (a dx : Addr) (fs : List (Str × V)) (T : String), x = .ref a ∧ H a = some (.ins C dx fs) ∧ TyX K H y (.type T) ∧ PySem.W.notFirst K C (.type T) = true ∧ sp [x, y] H (fun v H1 => ∃ r, v = .bl r ∧ Q (.bl (!r)) H1) E
theorem op_ownNX {C f : Addr} {CX : CXT} {k : Nat} {sp : Sp} {E : XK} (hM : NeM X.K C f) (F : FnR X.prog X.w X.K X.mg X.base CX k f sp) (hr : Room (k + 1) X.A) (hx : Passes CX X E) : OpR X (compareOp .NotEq) (rOwnNX X.K C sp E) := by
  intro pins s σ H x y v u Q I rx ry h
  obtain ⟨a, dx, fs, T, rfl, ha, ty, nf, hs⟩ := h
  obtain rfl : v = Value.ref a := rx
  have hc : wpAny (model X.prog X.w) X.A.in1 (call (.ref f) [.ref a, u]) (fun v s' => ∃ r, v = .bool r ∧ EP X pins σ Q (.bool (!r)) s') X.xe s :=
    thn (wpAny_call (run_fnS (us := [.ref a, u]) (vs := [.ref a, y]) ⟨hr.in1, rfl⟩ F hx I (.cons rfl (.cons ry .nil)) hs)) fun v s1 z => by
      obtain ⟨z, H1, I1, rz, r, rfl, q⟩ := z
      obtain rfl : v = Value.bool r := rz
      exact ⟨r, rfl, .bl (!r), H1, I1, rfl, q⟩
  obtain ⟨mA, J, _⟩ := ins_get I.hok ha
  obtain ⟨od, J, _⟩ := J.look
  obtain ⟨m, hF⟩ := I.fr
  obtain ⟨Pz, Z, pz, _⟩ := kit_of I ry ty
  have hu : X.A.units + 1 < cLine := by have := hr.units; omega
  show wpAny (model X.prog X.w) X.A (richCompare .NotEq (.ref a) u) (EP X pins σ Q) X.xe s
  exact ne_K (tb := .type T) hu hF I.ok.mod.kin J (Z.ty _ _ I.kIn pz) nf hM.hne hM.hs hM.hf hM.hm hc
/-- e is True, e is False -/
theorem op_isB : OpR X (compareOp .Is) (fun x y H Q => ∃ a b, x = .bl a ∧ y = .bl b ∧ Q (.bl (a == b)) H) := by
  intro pins s σ H x y v u Q I rx ry h
  obtain ⟨a, b, rfl, rfl, q⟩ := h
  obtain rfl : v = Value.bool a := rx
  obtain rfl : u = Value.bool b := ry
  have e : compareOp .Is (.bool a) (.bool b) = (do return .bool (← isSame (.bool a) (.bool b))) := rfl
  rw [e]
  refine wpAny_bind ?_
  have e2 : isSame (.bool a) (.bool b) = pure (a == b) := by cases a <;> cases b <;> rfl
  rw [e2]
  exact wpAny_pure (wpAny_pure ⟨.bl (a == b), H, I, rfl, q⟩)
end
end AZ

set_option Elab.async false
set_option maxRecDepth 100000
set_option maxHeartbeats 4000000
set_option linter.all false
/-! Own work: defs that make lambdas; comparisons of all kinds. -/
namespace AZ
open PySem L2 PyProof.Rows LamX
section
variable {P : Program} {w : World} {K : PySem.W.Frag} {mg : Str → Option Value} {base : Heap} {k : Nat} {f : Addr} {sp : Sp} {x qual : Str} {st : Stmt} {fd : FuncData} {N ps : List Str}
/-- a def by its body, its code object known -/
theorem fnC_of (F : Fun K x qual st f fd) (S : FnScope N ps (defScope st)) (len : ∀ vs H Q E, sp vs H Q E → vs.length = ps.length)
    (bd : ∀ (cdv : Value) (A : Around) (out : List Env) (z : Shared) (G : Hp) (vs : List V) (Q : VK) (E : XK), (∀ o fd', K.lookup f = some o → o.data = .func fd' → fd'.code = cdv) → NoG (A.deeper (envOfC qual (defScope st) z.heap.objs.size f cdv)) →
      Room k (A.deeper (envOfC qual (defScope st) z.heap.objs.size f cdv)) → sp vs G Q E →
      ∃ t, PSs (cxOf CX0 P w K mg base N qual (defScope st) f cdv A out z G E).nox (defBody st) t ∧ t { nx := fun _ H' => Q .non H', rt := Q } (start N vs) G)
    (hb : Binds K fd ps []) : FnG P w K mg base CX0 (k + 1) f sp := by
  obtain ⟨oc, od, kV, doc, pm, an, cdv, ct, osl, rfl, look, rec⟩ := F.ex
  intro A out z G us vs Q E ng room env vals prom
  have keep : ∀ b o, base.get? b = some o → z.heap.get? b = some o := fun b o e => (env.bs b o e).1
  have kin := kin0 env
  have many : us.length = ps.length := vals.length.symm.trans (len _ _ _ _ prom)
  have bnd := hb z us kin (by rw [List.append_nil]; exact many)
  rw [List.append_nil] at bnd
  have kinds : ∀ y ∈ ps.zip us, (defScope st).names.lookup y.1 = some .local ∨
      ((defScope st).names.lookup y.1 = some .cell ∧ ((cellsFrom (z.heap.objs.size + 1) (defScope st).names []).lookup y.1).isSome = true) := by
    rintro ⟨n, v⟩ there
    exact (S.par n (List.of_mem_zip there).1).imp id fun c => ⟨c, PySem.W.cellsFrom_some _ _ _ (.inl c)⟩
  refine codeAny_call_function room.depth (kin _ _ look) rfl S.co S.gen rfl (PySem.W.codeRec_of kin rec) (bnd _ _ _ _ (wpAny_newFunctionEnv_cells S.kind kinds ?_))
  rintro env2 rfl z1 made
  refine ⟨(env.mod.nolimit.keeps keep).keeps made.toInCall.keep, codeAny_func ?_⟩
  obtain ⟨t, body, run⟩ := bd cdv A out z G vs Q E (fun o fd' h1 h2 => by rw [look] at h1; cases h1; cases h2; rfl) (ng.deeper _) (room.deeper _) prom
  exact wpAny_mono (body.nox.run [] z1 (start N vs) G _ (inv_start S room.hd env (len _ _ _ _ prom) vals made) run) (fun fl z2 q => ends_CR q) fun e z2 q => q
end
theorem TabK.code_eq {K : PySem.W.Frag} {f c P : Addr} {cdv : Value} (t : TabK K f c P) (h : ∀ o fd', K.lookup f = some o → o.data = .func fd' → fd'.code = cdv) : cdv = .ref c := by
  obtain ⟨o, fd', h1, h2, h3⟩ := t.fn
  rw [← h o fd' h1 h2, h3]
/-! ## what stays beside a growing table -/
theorem Tabs.up {T : List (Addr × Str)} {H H' : Hp} {p : Addr} (t : Tabs T H) (e : Up p H H') : Tabs T H' := fun q hq => by
  obtain ⟨ps, h1, h2, h3⟩ := t q hq
  refine ⟨ps, e _ _ h1 fun _ => rfl, h2, fun pos cv hc => ?_⟩
  obtain ⟨c, e1, e2⟩ := h3 pos cv hc
  exact ⟨c, e1, e _ _ e2 fun _ => rfl⟩
theorem ExtN.same {H H' : Hp} (e : Same H H') : ExtN H H' := fun b o h _ => e b o h
section
variable {K : PySem.W.Frag} {H H' : Hp}
theorem sqL_ext {a : Addr} {xs : List V} (e : ExtN H H') (h : SqL K H a xs) : SqL K H' a xs := h.elim (fun h => Or.inl (h.elim (fun q => Or.inl (e _ _ q fun _ z => nomatch z)) fun ⟨o, q⟩ => Or.inr ⟨o, e _ _ q fun _ z => nomatch z⟩)) Or.inr
theorem sqT_ext {a : Addr} {xs : List V} (e : ExtN H H') (h : SqT K H a xs) : SqT K H' a xs := h.elim (fun h => Or.inl (h.elim (fun q => Or.inl (e _ _ q fun _ z => nomatch z)) fun ⟨o, q⟩ => Or.inr ⟨o, e _ _ q fun _ z => nomatch z⟩)) Or.inr
mutual
theorem dp_ext (e : ExtN H H') : ∀ {v : V} {d : PyData}, Dp K H v d → Dp K H' v d
  | _, _, .non => .non
  | _, _, .bl b => .bl b
  | _, _, .int i => .int i
  | _, _, .str x => .str x
  | _, _, .lst h r => .lst (sqL_ext e h) (dpAll_ext e r)
  | _, _, .tup h r => .tup (sqT_ext e h) (dpAll_ext e r)
theorem dpAll_ext (e : ExtN H H') : ∀ {vs : List V} {ds : List PyData}, DpAll K H vs ds → DpAll K H' vs ds
  | _, _, .nil => .nil
  | _, _, .cons h r => .cons (dp_ext e h) (dpAll_ext e r)
end
theorem Sh.ext {v : V} {d : PyData} (e : ExtN H H') (h : Sh K H v d) : Sh K H' v d := match h with
  | .dp h n => .dp (dp_ext e h) n
  | .dict h => .dict (e _ _ h fun _ z => nomatch z)
end
/-- the promise of a def that tells what its argument, a call, raises: ("ratio", repr of the value) -/
def TTh (K : PySem.W.Frag) (CB : Addr) : (XK → Hp → VK → Prop) → Hp → VK → Prop := fun tl H Q => ∃ v e, Sh K H v e ∧ Shn e ∧ (∀ Q', tl (fun cls dd H' => cls = .ref CB ∧ ∃ dx, dd = some dx ∧ H dx = none ∧ H' = upd H dx (.xd [("value", v)])) H Q') ∧
  ∀ t H', Same H H' → H' t = some (.tup [.str "ratio", .str e.shown]) → Q (.ref t) H'
theorem Sx.hd {K : PySem.W.Frag} {S : Addr} {nm : Str} (x : Sx K S nm) : PySem.W.hasDictIn K S = true := by
  obtain ⟨q, N, bs, sn, sub, ab, col, dd, k0, k1, k2, k3, k5, h⟩ := x.lk
  have e : PySem.W.clsIn K S = some { name := nm, bases := bs, mro := .ref S :: PySem.HandSPX.veTail, ns := N, qualname := q, hasDict := true, slotNames := sn, subclasses := sub, abstract := ab, collection := col, hasDel := false } := by
    unfold PySem.W.clsIn; rw [h]
  unfold PySem.W.hasDictIn
  rw [e]
  simp
theorem Sx.mro {K : PySem.W.Frag} {S : Addr} {nm : Str} (x : Sx K S nm) (b : Value) : PySem.W.mroIn K S b = some ((.ref S :: PySem.HandSPX.veTail).contains b) := by
  obtain ⟨cd, h, m, _⟩ := x.cls
  unfold PySem.W.mroIn
  rw [h, Option.bind_some, m]; rfl
/-- an except clause of the base lets all below it in -/
theorem Ex.exm {K : PySem.W.Frag} {S C fI : Addr} {nm ns : Str} (x : Ex K S C fI nm) (s : Sx K S ns) : PySem.W.exmOne K (.ref C) (.ref S) = some true :=
  PySem.W.exm_ref ((s.mro _).trans (by simp [PySem.HandSPX.veTail])) s.hd s.ty ((x.mro _).trans (by simp [PySem.HandSPX.veTail]))
end AZ

set_option Elab.async false
set_option maxRecDepth 100000
set_option maxHeartbeats 4000000
set_option linter.all false
/-! Own work: the truth of own values; comparisons with an int on either side. -/
namespace AZ
open PySem PySem.Spec PySem.W PySem.Calls PyProof.Rows
section
variable {prog : Program} {w : World} {A : Around} {E : Value → Shared → Prop} {s : Shared} {K : Frag} {x C L f : Addr} {h₀ : Heap} {m : Str → Option Value} {ox : Obj} {od : Option Obj}
theorem bool_own {Q : Value → Shared → Prop} (F : Fr h₀ L s.heap m) (X₀ : K.In h₀) (I : InstAt s.heap x ox C od) (hs : findIn K (.ref C) "__bool__" = some (some (.ref f))) (hf : isFn K (.ref f) = true)
    (h : wpAny (model prog w) A.in1.in1 (call (.ref f) [.ref x]) (PySem.W.BoolBack fun b => Q (.bool b)) E s) : wpAny (model prog w) A (call (.type "bool") [.ref x]) Q E s := by
  refine callType_codes (T := "bool") (Bi := Builtin.«object.__init__») (Q₁ := fun r s₁ => ∃ b, r = .bool b ∧ Q r s₁) PySem.F.called_bool (PySem.F.typeCall_bool_1 _) PySem.F.entry_object_init ?_ ?_
  · refine codeAny_of_tree ?_
    show wpAny _ A.in1.in1 (do checkBuiltinCall "bool.__new__" ⟨[.type "bool", .ref x], []⟩; again (.builtin "bool.__new__" ⟨[.type "bool", .ref x], []⟩)) _ _ s
    refine wpAny_bind (wpAny_of_eq (PySem.F.newCall_bool_1 _) (wpAny_pure ⟨plainId_quiet (by decide +kernel) _, codeAny_builtin PySem.F.entry_bool_new ?_⟩))
    rw [Around.under_plainId (by decide +kernel) _]
    have tr : wpAny (model prog w) A.in1.in1 (truthy (.ref x)) (fun b s₁ => Q (.bool b) s₁) E s := truthy_K F X₀ I hs hf h
    have f1 := PySem.F.conv_sub_bool
    unfold Builtin.«bool.__new__»
    refine wpAny_bind (wpAny_pure ?_)
    refine wpAny_bind (wpAny_of_eq f1 ?_)
    refine wpAny_bind (wpAny_pure ?_)
    exact wpAny_bind (wpAny_mono tr (fun b s₁ hb => wpAny_pure ⟨_, rfl, hb⟩) fun _ _ y => y)
  · rintro obj s₁ ⟨b, rfl, hq⟩
    exact ⟨PySem.typeIs_bool _ _, PySem.F.args_object_init_2 _ _, object_init_meets PySem.F.called_bool.init.lookup PySem.F.called_bool.made (by decide) prog w A.in1 _ s₁ ⟨PySem.typeIs_bool _ _, rfl, hq⟩⟩
end
end AZ
namespace AZ
open PySem L2 PyProof.Rows
/-- what the truth of an instance asks of the class at C: its own __bool__ at f -/
structure BoolM (K : PySem.W.Frag) (C f : Addr) : Prop where
  hs : PySem.W.findIn K (.ref C) "__bool__" = some (some (.ref f))
  hf : PySem.W.isFn K (.ref f) = true
section
variable {X : Cx} {a : Expr} {ta : TE} {pos : Pos}
theorem boolBack_of {pins : List (Addr × Obj)} {σ : L2.St} {Q : Bool → Hp → Prop} {v : Value} {s : Shared} {R : Bool → Shared → Prop} (k : ∀ b s' H', Inv X pins σ H' s' → Q b H' → R b s') (h : EP X pins σ (fun v H1 => ∃ z, v = .bl z ∧ Q z H1) v s) : PySem.W.BoolBack R v s := by
  obtain ⟨z, H1, I1, rz, y, rfl, q⟩ := h
  obtain rfl : v = Value.bool y := rz
  exact k _ _ _ I1 q
def rBoolO (X : Cx) (d : Nat) (x : V) (H : Hp) (Q : Bool → Hp → Prop) : Prop := ∃ (a C dx : Addr) (fs : List (Str × V)) (f : Addr) (CX : CXT) (k : Nat) (sp : Sp) (E : XK),
  x = .ref a ∧ H a = some (.ins C dx fs) ∧ BoolM X.K C f ∧ FnR X.prog X.w X.K X.mg X.base CX k f sp ∧ Room (k + d) X.A ∧ Passes CX X E ∧ sp [x] H (fun v H1 => ∃ z, v = .bl z ∧ Q z H1) E
/-- bool(x) -/
theorem call_boolO : CallR X (.type "bool") (fun xs H Q => ∃ x, xs = [x] ∧ rBoolO X 2 x H fun b H1 => Q (.bl b) H1) := by
  intro pins s σ H xs us Q I rv q
  obtain ⟨x, rfl, a, C, dx, fs, f, CX, k, sp, E, rfl, ha, hM, F, hr, hx, hs⟩ := q
  cases rv with
  | cons r1 r2 =>
    cases r2
    cases r1
    have hc : wpAny (model X.prog X.w) X.A.in1.in1 (call (.ref f) [.ref a]) (PySem.W.BoolBack fun b => EP X pins σ Q (.bool b)) X.xe s :=
      thn (wpAny_call (run_fnS (us := [.ref a]) (vs := [.ref a]) ⟨hr.in1.in1, rfl⟩ F hx I (.cons rfl .nil) hs)) fun v s3 z => boolBack_of (fun b s' H' I' q => ⟨.bl b, H', I', rfl, q⟩) z
    obtain ⟨mA, J, _⟩ := ins_get I.hok ha
    obtain ⟨od, J, _⟩ := J.look
    obtain ⟨m, hF⟩ := I.fr
    exact bool_own hF I.ok.mod.kin J hM.hs hM.hf hc
theorem uBool : CallR X (.type "bool") (fun xs H Q => ((∃ i, xs = [.int i] ∧ Q (.bl (i != 0)) H) ∨ ∃ k, xs = [.bl k] ∧ Q (.bl k) H) ∨ ∃ x, xs = [x] ∧ rBoolO X 2 x H fun b H1 => Q (.bl b) H1) := CallR.or' call_bool1 call_boolO
/-- not x, x an own value -/
theorem pe_notO (ha : PE X a ta) : PE X (.UnaryOp .Not a pos) (fun σ H Q => ta σ H fun x H1 => rBoolO X 0 x H1 fun b H2 => Q (.bl (!b)) H2) := by
  refine ⟨fun pins s σ H Q I h => ?_⟩
  refine UnaryOp_ (thn (ha.run pins s σ H _ I h) fun v s1 ⟨x, H1, I1, r1, a, C, dx, fs, f, CX, k, sp, E, ex, e, hM, F, hr, hx, hs⟩ => ?_)
  subst ex
  obtain rfl : v = Value.ref a := r1
  have hc : wpAny (model X.prog X.w) X.A (call (.ref f) [.ref a]) (PySem.W.BoolBack fun b => EP X pins σ Q (.bool (!b))) X.xe s1 :=
    thn (wpAny_call (run_fnR (us := [.ref a]) (vs := [.ref a]) F hr hx I1 (.cons rfl .nil) hs)) fun v s3 z => boolBack_of (fun b s' H' I' q => ⟨.bl (!b), H', I', rfl, q⟩) z
  obtain ⟨mA, J, _⟩ := ins_get I1.hok e
  obtain ⟨od, J, _⟩ := J.look
  obtain ⟨m, hF⟩ := I1.fr
  exact not_of (PySem.W.truthy_K hF I1.ok.mod.kin J hM.hs hM.hf hc)
theorem uLtR : OpR X (compareOp .Lt) (orR (rI0 fun i j => .bl (decide (i < j))) (orR (rOwnC X .Lt) (rReflC X .Gt))) := op_or2 op_lt (op_or2 (op_ownC _) (op_reflC .Gt rfl decC_lt))
theorem uLeR : OpR X (compareOp .LtE) (orR (rI0 fun i j => .bl (decide (i ≤ j))) (orR (rOwnC X .LtE) (rReflC X .GtE))) := op_or2 op_le (op_or2 (op_ownC _) (op_reflC .GtE rfl decC_le))
theorem uGtR : OpR X (compareOp .Gt) (orR (rI0 fun i j => .bl (decide (j < i))) (orR (rOwnC X .Gt) (rReflC X .Lt))) := op_or2 op_gt (op_or2 (op_ownC _) (op_reflC .Lt rfl decC_gt))
theorem uGeR : OpR X (compareOp .GtE) (orR (rI0 fun i j => .bl (decide (j ≤ i))) (orR (rOwnC X .GtE) (rReflC X .LtE))) := op_or2 op_ge (op_or2 (op_ownC _) (op_reflC .LtE rfl decC_ge))
end
end AZ

set_option Elab.async false
set_option maxRecDepth 100000
set_option maxHeartbeats 4000000
set_option linter.all false
/-! Own work: list comprehensions out of which errors come. -/
namespace AZ
open PySem L2 PySem.Spec PyProof.Rows
section
variable {M : Model} {A : Around} {E : Value → Shared → Prop} {s : Shared} {env : Env}
/-- what must hold behind a block that may raise, its environment told -/
def xPost (M : Model) (A : Around) (E : Value → Shared → Prop) (use : Option (Value → Sem Unit)) (Q : Value → Shared → Prop) (L : Value) (ce : Env) : Result → Shared → Prop
  | .ok f, t => compPost M A E use Q L ce.locals (.ok f) t
  | .error u, t => ∃ m, t.heap.Ns ce.locals m ∧ ∀ g, Heap.SameBut ce.locals t.heap g → wpAny M A (passOn "comprehension.variables-let-go" u ce : Sem Value) (fun _ _ => False) E { t with heap := g }
theorem compr_x {ex : Expr} {sc : Scope} {pos : Pos} {mk fst : Sem Value} {g : Comprehension} {gs : List Comprehension} {cl : List (Str × Addr)} {use : Option (Value → Sem Unit)} {Q : Value → Shared → Prop}
    (e1 : clausesOf ex = g :: gs) (e2 : ∀ x, foldedSetIterable g.iter env x = pure x) (e3 : closureFor sc env = pure cl) (e4 : sc.kind = .function) (e5 : ∀ x ∈ sc.names, x.2 = .local → sc.names.lookup x.1 = some .local)
    (run : wpAny M A fst (fun x t1 => wpAny M A (pyIter x) (fun it t2 => wpAny M A mk (fun L t3 =>
      wpAny M A (newFunctionEnv sc env.globals cl [] env.qual none .none (some env))
        (fun ce t4 => codeAny M A (.compStart ex 0 it L { ce with scope := relabel sc env }) (xPost M A E use Q L { ce with scope := relabel sc env }) t4) E t3) E t2) E t1) E s) :
    wpAny M A (comprehension ex sc env pos mk false fst use) Q E s := by
  unfold comprehension
  rw [e3, e1]
  refine wpAny_bind (thn run fun x t1 r1 => wpAny_bind (wpAny_standAt (wpAny_bind (wpAny_of_eq (e2 x) (wpAny_bind (wpAny_holding (thn r1 fun it t2 r2 => ?_)))))))
  refine wpAny_standIf (wpAny_bind (thn r2 fun L t3 r3 => wpAny_bind (wpAny_pure (wpAny_bind (thn r3 fun ce t4 r4 => ?_)))))
  have kind : Scope.kind (Env.scope { ce with scope := relabel sc env }) = .function := e4
  have loc : ∀ x ∈ (sc.names.filter fun x => (x.2 == .local || x.2 == .cell) && x.1 != (".0" : Str)).reverse, x.2 = .local → Env.kindOf { ce with scope := relabel sc env } x.1 = some .local :=
    fun x hx hl => lookup_relabel_local (e5 x (List.mem_filter.mp (List.mem_reverse.mp hx)).1 hl)
  have loc' : ∀ x ∈ (sc.names.filter fun x => (x.2 == .local || x.2 == .cell) && x.1 != (".0" : Str)).reverse.drop 1 ++ (sc.names.filter fun x => (x.2 == .local || x.2 == .cell) && x.1 != (".0" : Str)).reverse.take 1,
      x.2 = .local → Env.kindOf { ce with scope := relabel sc env } x.1 = some .local :=
    fun x hx hl => (List.mem_append.mp hx).elim (fun z => loc x (List.mem_of_mem_drop z) hl) fun z => loc x (List.mem_of_mem_take z) hl
  dsimp only
  refine wpAny_holding (wpAny_bind (wpAny_attempt (wpAny_holding (wpAny_run (codeAny_mono r4 fun r t5 hr => ?_)))))
  match r, hr with
  | .error u, hr =>
    obtain ⟨m, hn, hr⟩ := hr
    exact wpAny_bind (wpAny_holding (wpAny_comp_letGo (cenv := { ce with scope := relabel sc env }) kind _ t5 m loc hn fun h' _ _ sb => wpAny_mono (hr h' sb) (fun _ _ z => z.elim) fun _ _ z => z))
  | .ok f, hr =>
    cases use with
    | none =>
      obtain ⟨m, hn, hr⟩ := hr
      exact wpAny_bind (wpAny_holding (wpAny_comp_letGo (cenv := { ce with scope := relabel sc env }) kind _ t5 m loc hn fun h' _ _ sb => wpAny_pure (hr h' sb)))
    | some u =>
      refine wpAny_bind (wpAny_rule (wpAny_bind (wpAny_holding (thn hr fun _ t6 hr' => ?_))))
      obtain ⟨m, hn, hr'⟩ := hr'
      exact wpAny_bind (wpAny_comp_letGo (cenv := { ce with scope := relabel sc env }) kind _ t6 m loc' hn fun h' _ _ sb => wpAny_pure (hr' h' sb))
end
theorem note_frame {x : Value} {e1 e2 : Env} (h : e1.frame = e2.frame) : noteFrame x e1 = noteFrame x e2 := by
  unfold noteFrame PySem.frameOf
  rw [h]
theorem ff_but {B B' h h' : Heap} {C : Addr} (k : ∀ b, b ≠ C → h'.get? b = h.get? b) (n : ∀ b, B.get? b = none → B'.get? b = none) : ∀ {l : List Env}, h.FunFrames B l → C ∉ frs l → h'.FunFrames B' l
  | [], _, _ => trivial
  | env :: l, ⟨k1, ⟨L, o, hf, hB, ho, hd⟩, r⟩, nc => by
    have q : ∀ b, b ∈ frs (env :: l) → b ≠ C := fun b hb z => nc (z ▸ hb)
    refine ⟨k1, ⟨L, o, hf, n L hB, ?_, hd⟩, ff_but k n r fun z => ?_⟩
    · rw [k L (q L (List.mem_filterMap.mpr ⟨env, List.mem_cons_self, hf⟩))]; exact ho
    · obtain ⟨e, he, z⟩ := List.mem_filterMap.mp z
      exact nc (List.mem_filterMap.mpr ⟨e, List.mem_cons_of_mem _ he, z⟩)
/-- the block's context, with a wish about errors -/
abbrev blkX (X : Cx) (s : Shared) (H : Hp) (scope : Scope) (ce : Env) (fp : List Addr) (xe : Value → Shared → Prop) : Cx := { X.blk s H scope ce fp with xe := xe }
section
variable {X : Cx} {pins : List (Addr × Obj)} {σ : L2.St} {H3 : Hp} {s3 : Shared} {E : XK}
/-- what a call in the block lets out goes out of the def, too -/
theorem blk_passes (tk : L2.Takes X (fun cls d _ H => E cls d H)) (hs : X.stack = X.env :: X.outer) (hf : X.env.frame = some X.env.locals) {scope : Scope} {ce : Env} {fp : List Addr} {L : Value} {use : Option (Value → Sem Unit)} {Qf : Value → Shared → Prop}
    (I3 : Inv X pins σ H3 s3) (f3 : ∀ b ∈ fp, FpOk X pins H3 b) (cL : ce.locals = s3.heap.objs.size) (cF : ce.frame = X.env.frame) :
    Passes (CXx X.prog X.w) (blkX X s3 H3 scope ce fp (notedBy (model X.prog X.w) X.A ce fun e s' => xPost (model X.prog X.w) X.A X.xe use Qf L ce (.error e) s')) E := by
  intro pins' σ' H s u s' I c
  have J : Inv X pins σ H s := I3.call' (ch := fp) I.os I.base I.hok I.bare fun b hb => ⟨(f3 b hb).2.2.2.1, (f3 b hb).2.1, (f3 b hb).2.2.2.2.1, (f3 b hb).2.2.2.2.2⟩
  obtain ⟨a, B, H', cls, d, rfl, fl, hok, ub, na, os, ag, hE⟩ := c
  obtain ⟨m, hn, _⟩ := I.loc
  have nC : H ce.locals = none := I.free
  have hn : s.heap.Ns ce.locals m := hn
  obtain ⟨oC, esC, epC, gC, rC⟩ := hn
  generalize hC : ce.locals = C at *
  have cle : s3.heap.objs.size ≤ C := Nat.le_of_eq cL.symm
  have nfC : C ∉ frs X.stack := fun z => by
    rcases List.mem_cons.mp (I3.stkSub C z) with z | z
    · exact Nat.lt_irrefl _ (Nat.lt_of_lt_of_le I3.lt (z ▸ cle))
    · exact I3.nofs cle z
  have BC : B.get? C = some oC := ub.keep C oC gC nC nfC
  have nC' : H' C = none := ub.free C oC gC nC
  have hfr : X.A.frames = some (X.env :: X.outer) := by rw [J.ok.frames, hs]
  show wpAny (model X.prog X.w) X.A (noteFrame (.ref a) ce) _ _ s'
  rw [note_frame cF]
  have fl' := fl
  rw [hs] at fl'
  refine HandSPX.looks_onZ L2.Zc.steady hfr hf fl' fun h1 hld up1 => ?_
  rw [← hs] at hld
  obtain ⟨k1, k2, k3, oe, vs, T, oT, ts, he, hz, hd, g1, hnT, hTe, hT, hdT, g3⟩ := hld
  show ∃ m, Heap.Ns h1 ce.locals m ∧ _
  rw [hC]
  refine ⟨m, ⟨oC, esC, epC, k1 C oC BC, rC⟩, fun h2 sb => ?_⟩
  have aC : a ≠ C := fun z => by rw [z, BC] at k2; cases k2
  have TC : T ≠ C := fun z => by rw [z, BC] at hnT; cases hnT
  have e2 : ∀ b, b ≠ C → h2.get? b = h1.get? b := fun b hb => sb.2 b hb
  -- the ground without the block's variables
  generalize hB : PySem.W.hideAll B [C] = B'
  have ofB : ∀ b o, B'.get? b = some o → B.get? b = some o := fun b o e => by rw [← hB] at e; exact PySem.W.of_hideAll _ e
  have toB : ∀ b o, b ≠ C → B.get? b = some o → B'.get? b = some o := fun b o hb e => by rw [← hB]; exact PySem.W.hideAll_get _ e (by simp [hb])
  have noC : B'.get? C = none := by rw [← hB]; exact PySem.W.hideAll_none _ (by simp)
  have nB : ∀ b, B.get? b = none → B'.get? b = none := fun b e => by
    cases q : B'.get? b with
    | none => rfl
    | some o => rw [ofB b o q] at e; cases e
  have st2 : B'.StaysIn h2 := fun b o e => by
    have hb : b ≠ C := fun z => by rw [z, noC] at e; cases e
    rw [e2 b hb]
    exact k1 b o (ofB b o e)
  have ff2 : h2.FunFrames B' X.stack := ff_but e2 nB k3 nfC
  have tz : HandSPX.TracedZ h2 B' a (L2.Zc cls d) (rawInt X.env.locals) := ⟨oe, vs, T, oT, ts, (e2 a aC).trans he, hz, hd, g1, nB T hnT, hTe, (e2 T TC).trans hT, hdT, g3⟩
  unfold PySem.passOn
  refine wpAny_bind (wpAny_field ((e2 a aC).trans he) hd g1 ?_)
  rw [if_neg (by simp)]
  refine wpAny_bind ?_
  refine HandSPX.setFlight_anyZ (base := B') (l := X.stack) (fl := rawInt X.env.locals) (fr := ce.frame) st2 ff2 tz fun h4 q1 q2 q3 up4 => wpAny_throw (tk _ _ ?_)
  have ef : ce.frame = some X.env.locals := cF.trans hf
  rw [ef] at q3
  have slots : ∀ b ∈ frs X.stack, ∀ o, s.heap.get? b = some o → ∃ sl, h4.get? b = some { o with slots := sl } := fun b hb o e => by
    obtain ⟨_, o', e', hnd⟩ := J.stack.mem hb
    rw [e] at e'; cases e'
    obtain ⟨sl, x1⟩ := ub.slot b o e hb
    obtain ⟨sl2, x2⟩ := up1 b _ x1 hnd
    have x3 : h2.get? b = some _ := (e2 b fun z => nfC (z ▸ hb)).trans x2
    obtain ⟨sl3, x4⟩ := up4 b _ x3 hnd
    exact ⟨sl3, x4⟩
  obtain ⟨G, G1, G2⟩ := L2.restrict h4 fun b => (B'.get? b).isSome || decide (b ∈ frs X.stack)
  have gB : ∀ b o, B'.get? b = some o → G.get? b = some o := fun b o e => by
    rw [G1 b (by simp [e])]
    exact q1 b o e
  have gF : ∀ b, b ∈ frs X.stack → G.get? b = h4.get? b := fun b hb => G1 b (by simp [hb])
  have og : ∀ b o, G.get? b = some o → h4.get? b = some o ∧ ((B'.get? b).isSome = true ∨ b ∈ frs X.stack) := fun b o e => by
    cases q : ((B'.get? b).isSome || decide (b ∈ frs X.stack)) with
    | false => rw [G2 b q] at e; cases e
    | true =>
      rw [G1 b q] at e
      exact ⟨e, by simpa [Bool.or_eq_true] using q⟩
  have ne1 : ∀ b, b ∉ [C] → b ≠ C := fun b hb z => hb (by simp [z])
  have fo := I3.fpOk (b := C) (H' := H) cle nC
  refine ⟨a, B', { s with heap := G, gens := s'.gens, drawn := s'.drawn, toks := s'.toks }, pins, σ, H', cls, d, rfl, ?_, fun b o e hb => ?_, Heap.UpToSlots.of_keeps fun b o e => (og b o e).1, .inr (.inr ⟨q1, nB a k2, q2, q3⟩), na, os, ag, hE⟩
  · refine J.call (ch := [C]) ⟨fun b o e n hb hc => gB b o (toB b o (ne1 b hc) (ub.keep b o e n hb)), fun b o e n hb hc => ?_, fun b o e n _ => ub.free b o e n, fun b o e hc => ?_, ub.tups, ub.frzs, ub.tbls⟩ ?_ ag fun b hb => ?_
    · rw [gF b hb]
      exact slots b hb o e
    · by_cases hb : b ∈ frs X.stack
      · obtain ⟨sl, q⟩ := slots b hb o e
        exact ⟨_, by rw [gF b hb]; exact q⟩
      · obtain ⟨o', q⟩ := ub.there b o e hb
        exact ⟨o', gB b o' (toB b o' (ne1 b hc) q)⟩
    · exact fun b v e => (hok b v e).stay (fun c x hc r => gB c x (toB c x (fun z => by
        rw [z] at hc
        rcases hc with hc | hc
        · rw [← hc, nC'] at e; cases e
        · rw [nC'] at hc; cases hc) r)) (fun _ r => r) fun _ _ r => r
    · have : b = C := by simpa using hb
      subst this
      exact ⟨fo.2.2.2.1, fo.2.1, fo.2.2.2.2.1, fo.2.2.2.2.2⟩
  · obtain ⟨e', h⟩ := og b o e
    rcases h with h | h
    · obtain ⟨o', q⟩ := Option.isSome_iff_exists.mp h
      have z := q1 b o' q
      rw [e'] at z; cases z
      exact q
    · exact absurd h hb
end
section
variable {X : Cx}
/-- the promise about a part of the block: wherever what calls let out is let out -/
def BlkPE (X : Cx) (E : XK) (scope : Scope) (elt : Expr) (te : TE) : Prop := ∀ (s : Shared) (H : Hp) (C : Addr) (cl : List (Str × Addr)) (fp : List Addr) (xe : Value → Shared → Prop),
  Passes (CXx X.prog X.w) (blkX X s H scope (compEnvC scope cl C X.env) fp xe) E → PE (blkX X s H scope (compEnvC scope cl C X.env) fp xe) elt te
theorem lcx_core {E : XK} {pins : List (Addr × Obj)} {s : Shared} {σ : L2.St} {H : Hp} {Q : VK} {elt tg iter : Expr} {scope : Scope} {own : List (Str × Nat)} {pos pos' : Pos} {wi : TI} {g : TG} {te : TE} {use : Option (Value → Sem Unit)} {Qf : Value → Shared → Prop}
    (tk : L2.Takes X (fun cls d _ H => E cls d H)) (hst : X.stack = X.env :: X.outer) (hfl : X.env.frame = some X.env.locals)
    (hc : X.calm = true) (hN : X.N.Nodup) (I : Inv X pins σ H s) (hi : PI X tg iter wi) (ok : BlkOk X.N X.env.scope scope own)
    (hg : ∀ (s : Shared) (H : Hp) (C : Addr) (cl : List (Str × Addr)) (fp : List Addr) (xe : Value → Shared → Prop), PG (blkX X s H scope (compEnvC scope cl C X.env) fp xe) tg g)
    (he : BlkPE X E scope elt te) (hs : ∀ x, foldedSetIterable iter X.env x = pure x)
    (h : tLc wi g tYes te (own.map (·.2)) σ H Q)
    (hRR : ∀ D C t m H', Inv X pins σ H' t → Q (.ref D) H' → t.heap.Ns C m → FpOk X pins H' C → compPost (model X.prog X.w) X.A X.xe use Qf (.ref D) C (.ok .next) t) :
    wpAny (model X.prog X.w) X.A (comprehension (.ListComp elt [⟨tg, iter, [], 0⟩] scope pos) scope X.env pos' (newList []) false (eval iter X.env) use) Qf X.xe s := by
  have cells : ∀ y ∈ scope.names, y.2 = .free → ∃ c, X.env.cells.lookup y.1 = some c := fun y hy e => (ok.free y hy e).elim (fun k => I.ok.has _ (.inl k)) fun k => I.ok.has _ (.inr k)
  refine compr_x (use := use) rfl hs (closure_ok cells) ok.kind (fun y hy e => by rw [ok.uniq y hy, e]) (thn (hi.run pins s σ H _ I h) fun xv s1 hx => thn hx fun itv s2 h2 => ?_)
  obtain ⟨it, fp, tn, J, H2, rfl, I2, T, st2, f2, q⟩ := h2
  refine wpAny_newObj_type (newEnv_comp ?_) (by show 0 ≤ sizeLine; decide)
  generalize hD : s2.heap.objs.size = D
  obtain ⟨W, ⟨m0, w0⟩, turn⟩ := q D (I2.hok.fresh (Nat.le_of_eq hD))
  generalize hs3 : ({ s2 with heap := s2.heap.push { cls := .type "list", data := .seq ([] : List Value).toArray } } : Shared) = s3
  have heap3 : s3.heap = s2.heap.push { cls := .type "list", data := .seq ([] : List Value).toArray } := by rw [← hs3]
  have I3 : Inv X pins σ (upd H2 D (.lst [])) s3 := by
    rw [← hs3]
    refine I2.laid (t' := s2.toks) (fun b o e => Heap.get?_push_of_some _ e) (Nat.le_of_eq hD) ⟨Nat.zero_le _, [], 0, .nil, ?_⟩
    rw [← hD]; exact Heap.get?_push_size _ rfl
  have f3 : ∀ b ∈ fp, FpOk X pins (upd H2 D (.lst [])) b ∧ b < s3.heap.objs.size := fun b hb => by
    obtain ⟨o, e, _⟩ := T.obj _ _ st2 b hb
    have hlt := Heap.lt_size e
    refine ⟨⟨?_, (f2 b hb).2⟩, by rw [heap3, Heap.size_push]; exact Nat.lt_succ_of_lt hlt⟩
    rw [upd_ne (by rw [← hD]; exact Nat.ne_of_lt hlt)]; exact (f2 b hb).1
  have st3 : tn 0 s3.heap := T.keep _ _ _ st2 fun b _ o e => by rw [heap3]; exact Heap.get?_push_of_some _ e
  have I4 := block_start I3 ok hN f3
  have pg := hg s3 (upd H2 D (.lst [])) s3.heap.objs.size (cellsFrom (s3.heap.objs.size + 1) scope.names (cloFrom X.env.cells scope.names [])) fp
  have pe := he s3 (upd H2 D (.lst [])) s3.heap.objs.size (cellsFrom (s3.heap.objs.size + 1) scope.names (cloFrom X.env.cells scope.names [])) fp
  generalize hce : compEnvC scope (cellsFrom (s3.heap.objs.size + 1) scope.names (cloFrom X.env.cells scope.names [])) s3.heap.objs.size X.env = ce at I4 pg pe
  have cL : ce.locals = s3.heap.objs.size := by subst hce; rfl
  have cF : ce.frame = X.env.frame := by subst hce; rfl
  have ps := blk_passes (scope := scope) (L := .ref D) (use := use) (Qf := Qf) tk hst hfl I3 (fun b hb => (f3 b hb).1) cL cF
  generalize hxe : (notedBy (model X.prog X.w) X.A ce fun e s' => xPost (model X.prog X.w) X.A X.xe use Qf (.ref D) ce (.error e) s') = xe at ps
  have pg := pg xe
  have pe := pe xe ps
  generalize hH3 : upd H2 D (.lst []) = H3 at I3 I4 pg pe w0 f3 ps
  generalize hs4 : ({ s3 with heap := pushCells (s3.heap.push { cls := .type "dict", data := .dict #[] }) scope.names } : Shared) = s4 at I4
  have I4 : Inv (blkX X s3 H3 scope ce fp xe) [] (wipe σ (own.map (·.2))) H3 s4 := ⟨⟨I4.ok.mod, I4.ok.kind, I4.ok.glob, I4.ok.blt, I4.ok.above, I4.ok.inj, I4.ok.has, I4.ok.cab, I4.ok.hd, I4.ok.frames, I4.ok.stk, I4.ok.exf, I4.ok.bs, I4.ok.bsz, I4.ok.noex, I4.ok.exfs, I4.ok.funs, I4.ok.frf⟩, I4.os, I4.bare, I4.base, I4.loc, I4.cell, I4.free, I4.freeC, I4.pin, I4.hok, I4.len⟩
  have st4 : tn 0 s4.heap := T.keep _ _ _ st3 fun b _ o e => by rw [← hs4]; exact pushCells_keeps _ _ _ _ (Heap.get?_push_of_some _ e)
  have stat : ∀ {σ' : L2.St} {H' : Hp} {s' : Shared}, Inv (blkX X s3 H3 scope ce fp xe) [] σ' H' s' → (∀ b ∈ fp, H' b = none) → ∀ b ∈ fp, FpOk (blkX X s3 H3 scope ce fp xe) [] H' b := fun I' hn b hb =>
    ⟨hn b hb, (I'.ok.exf b hb).1, I'.ok.exfs b hb, .inl hb, fun x c e => (I'.ok.exf b hb).2 x c e, fun p hp => absurd (show p ∈ ([] : List (Addr × Obj)) ++ [] from hp) (by simp)⟩
  have loop : codeAny (model X.prog X.w) X.A (.compLoop (.ListComp elt [⟨tg, iter, [], 0⟩] scope pos) 0 (.ref it) (.ref D) ce) (xPost (model X.prog X.w) X.A X.xe use Qf (.ref D) ce) s4 := by
    refine compLoop_any (fun n s' => ∃ i H', Inv (blkX X s3 H3 scope ce fp xe) [] (wipe σ (own.map (·.2))) H' s' ∧ tn i s'.heap ∧ (∀ b ∈ fp, H' b = none) ∧ W i n H') ?_ m0 ⟨0, H3, I4, st4, fun b hb => (f3 b hb).1.1, w0⟩
    rintro n s5 ⟨i, H5, I5, st5, n5, w5⟩
    rw [hxe]
    rcases turn i n H5 w5 with ⟨stop, qq⟩ | ⟨go, Nx, hNx, step⟩
    · refine thnF (T.done (blkX X s3 H3 scope ce fp xe) rfl rfl rfl hc i [] s5 _ H5 (fun _ _ => False) I5 (stat I5 n5) st5 stop) fun r s6 ⟨hr, I6⟩ => ?_
      subst hr
      have I7 : Inv X pins σ H5 s6 := I3.call' (ch := fp) I6.os I6.base I6.hok I6.bare fun b hb => ⟨(f3 b hb).1.2.2.2.1, (f3 b hb).1.2.1, (f3 b hb).1.2.2.2.2.1, (f3 b hb).1.2.2.2.2.2⟩
      have nC : H5 ce.locals = none := I6.free
      obtain ⟨m, hn, _⟩ := I6.loc
      exact hRR D ce.locals s6 m H5 I7 qq hn (I3.fpOk (Nat.le_of_eq cL.symm) nC)
    · refine thnF (T.item (blkX X s3 H3 scope ce fp xe) rfl rfl rfl hc i [] s5 _ H5 (fun _ _ => False) I5 (stat I5 n5) st5 go) fun r s6 ⟨u, hr, h6⟩ => ?_
      subst hr
      refine thnF h6 fun _ s7 ⟨x, H7, I7, r7, y7, st7, n7⟩ => ?_
      have I7' := I7.pinned (stat I7 n7) (T.obj _ _ st7)
      refine thn (pg.run _ s7 _ H7 x u _ I7' r7 (step x H7 y7)) fun _ s8 ⟨σ8, H8, I8, hw8, q8⟩ => ?_
      refine thn ((pts_nil (X := blkX X s3 H3 scope ce fp xe)).run _ s8 σ8 H8 _ I8 q8) fun b s9 ⟨H9, I9, q9⟩ => ?_
      have fin : ∀ {s' : Shared} {H' : Hp}, Inv (blkX X s3 H3 scope ce fp xe) ([] ++ pinsAt fp s7.heap) σ8 H' s' → Nx H' → ∃ m, m < n ∧ ∃ i H', Inv (blkX X s3 H3 scope ce fp xe) [] (wipe σ (own.map (·.2))) H' s' ∧ tn i s'.heap ∧ (∀ b ∈ fp, H' b = none) ∧ W i m H' := fun {s' H'} I' nx => by
        obtain ⟨m', hm, w'⟩ := hNx H' nx
        have pin' : ∀ b ∈ fp, ∀ o, s7.heap.get? b = some o → s'.heap.get? b = some o ∧ H' b = none := fun b hb o e =>
          (fun z => ⟨z.1, z.2.1⟩) (I'.pin (b, o) (List.mem_append_right _ (List.mem_append_right _ (mem_pinsAt hb e))))
        refine ⟨m', hm, i + 1, H', (I'.unpinned (pins := [])).weak (by rw [← hw8, wipe_length]) (fun j v e => (wipe_some (hw8 ▸ e)).1), T.keep _ _ _ st7 fun b hb o e => (pin' b hb o e).1, fun b hb => ?_, w'⟩
        obtain ⟨o, e, _⟩ := T.obj _ _ st7 b hb
        exact (pin' b hb o e).2
      match b, q9 with
      | false, q9 => exact fin I9 q9
      | true, q9 =>
        refine thn (pe.run _ s9 σ8 H9 _ I9 q9) fun z s10 ⟨yv, H10, I10, r10, acc, hD10, hz10, nx⟩ => ?_
        exact app_ok (X := blkX X s3 H3 scope ce fp xe) I10 hD10 hz10 r10 fun s11 I11 => fin I11 nx
  have fst := codeAny_compStart_list loop (T.self X.A 0 _ _ _ st4 loop)
  rw [← hce] at fst
  exact fst
/-- as a value -/
theorem pe_lcx {E : XK} {elt tg iter : Expr} {scope : Scope} {own : List (Str × Nat)} {pos : Pos} {wi : TI} {g : TG} {te : TE} (tk : L2.Takes X (fun cls d _ H => E cls d H)) (hst : X.stack = X.env :: X.outer) (hfl : X.env.frame = some X.env.locals)
    (hc : X.calm = true) (hN : X.N.Nodup) (hi : PI X tg iter wi) (ok : BlkOk X.N X.env.scope scope own)
    (hg : ∀ (s : Shared) (H : Hp) (C : Addr) (cl : List (Str × Addr)) (fp : List Addr) (xe : Value → Shared → Prop), PG (blkX X s H scope (compEnvC scope cl C X.env) fp xe) tg g)
    (he : BlkPE X E scope elt te) (hs : ∀ x, foldedSetIterable iter X.env x = pure x := by intro _; rfl) :
    PE X (.ListComp elt [⟨tg, iter, [], 0⟩] scope pos) (tLc wi g tYes te (own.map (·.2))) := by
  refine ⟨fun pins s σ H Q I h => ?_⟩
  rw [eval_ListComp]
  refine lcx_core tk hst hfl hc hN I hi ok hg he hs h fun D C t m H' I' q hn ⟨f0, f1, f2, f3, f4, f5⟩ => ⟨m, hn, fun h'' sb => ?_⟩
  exact ⟨.ref D, H', I'.turned (t' := t.toks) (fun b o hb e => (sb.2 b hb).trans e) f0 f1 f3 f4 f5, rfl, q⟩
end
end AZ
/-! ## more of promises that may raise -/
namespace AZ
open PySem L2 PyProof.Rows
section
variable {P : Program} {w : World} {K : PySem.W.Frag} {mg : Str → Option Value} {base : Heap} {CX : CXT} {k j : Nat} {f : Addr} {sp sp' : Sp} {x qual : Str} {st : Stmt} {fd : FuncData} {N ps : List Str}
theorem FnG.toX (F : FnG P w K mg base CX0 k f sp) : FnG P w K mg base CX k f sp := fun A out z G us vs Q E ng room env vals prom =>
  codeAny_mono (F A out z G us vs Q E ng room env vals prom) fun r s' q => match r, q with
    | .error _, q => q.elim
    | .ok (.ret _), q => q
    | .ok .next, q => q.elim
    | .ok .brk, q => q.elim
    | .ok .cont, q => q.elim
theorem FnG.up (F : FnG P w K mg base CX j f sp) (h : j ≤ k) : FnG P w K mg base CX k f sp := fun A out z G us vs Q E ng room env vals prom => F A out z G us vs Q E ng (room.mono h) env vals prom
theorem FnG.or (F : FnG P w K mg base CX k f sp) (F' : FnG P w K mg base CX k f sp') : FnG P w K mg base CX k f (fun vs H Q E => sp vs H Q E ∨ sp' vs H Q E) := fun A out z G us vs Q E ng room env vals prom =>
  prom.elim (F A out z G us vs Q E ng room env vals) (F' A out z G us vs Q E ng room env vals)
/-- a def that may raise, by its body, for any binding -/
theorem fnXO_of (F : Fun K x qual st f fd) (S : FnScope N ps (defScope st)) (len : ∀ vs H Q E, sp vs H Q E → vs.length = ps.length)
    (bd : ∀ (cdv : Value) (A : Around) (out : List Env) (z : Shared) (G : Hp) (vs : List V) (Q : VK) (E : XK), NoG (A.deeper (envOfC qual (defScope st) z.heap.objs.size f cdv)) →
      Room k (A.deeper (envOfC qual (defScope st) z.heap.objs.size f cdv)) → Takes (cxOf (CXx P w) P w K mg base N qual (defScope st) f cdv A out z G E) (fun cls d _ H => E cls d H) → sp vs G Q E →
      ∃ t, PSs (cxOf (CXx P w) P w K mg base N qual (defScope st) f cdv A out z G E) (defBody st) t ∧ t { nx := fun _ H' => Q .non H', rt := Q } (start N vs) G) : FnOG P w K mg base (CXx P w) (k + 1) f fd ps sp :=
  fnOG (CX := CXx P w) F S len fun cdv A out z G vs Q E ng hr h => bd cdv A out z G vs Q E ng hr (takes_of rfl rfl rfl rfl) h
def g01 : List V → List V → List V
  | [], zs => zs
  | _ :: _, _ => []
theorem FnOG.key01 {p : Str} (F : FnOG P w K mg base CX k f fd [p] sp) (len : ∀ vs H Q E, sp vs H Q E → vs.length = 1) (h : ∀ a : Value, bindArgs fd ⟨[], [(p, a)]⟩ = pure [(p, a)]) : FnGk P w K mg base CX k f [p] g01 sp := by
  intro A out z G us ws vs zs Q E ng room env r rz prom
  have ln := len _ _ _ _ prom
  match vs, us, zs, ws, r, rz, ln, prom with
  | [], [], [_], [b], .nil, .cons r2 .nil, _, prom => exact F A out z G ⟨[], [(p, b)]⟩ [b] _ Q E ng room env (.of_eq (h b)) rfl (.cons r2 .nil) prom
  | [], [], [], [], .nil, .nil, ln, _ => cases ln
  | [], [], _ :: _ :: _, _ :: _ :: _, .nil, .cons _ (.cons _ _), ln, _ => cases ln
  | _ :: _, _ :: _, _, _, .cons _ _, _, ln, _ => cases ln
end
/-- where nothing is let out, whatever is called -/
theorem passF {X : Cx} : Passes (CXx X.prog X.w) X (fun _ _ _ => False) := fun _ _ _ _ _ _ _ c => by
  obtain ⟨a, B, H', cls, d, _, _, _, _, _, _, _, z⟩ := c
  exact z.elim
section
variable {X : Cx} {tg e : Expr} {w1 w2 : TI}
theorem PI.or (h1 : PI X tg e w1) (h2 : PI X tg e w2) : PI X tg e (fun σ H R => w1 σ H R ∨ w2 σ H R) := ⟨fun pins s σ H R I h => h.elim (h1.run pins s σ H R I) (h2.run pins s σ H R I)⟩
theorem pi_seq {tl : TE} (h : PE X e tl) : PI X tg e (fun σ H R => iList X.K tl σ H R ∨ iTup X.K tl σ H R) := PI.or (pi_list h) (pi_tup h)
end
section
variable {X : Cx} {CX : CXT} {k : Nat} {C g : Addr} {sp : Sp} {E : XK} {o : Expr} {kws : List Keyword} {m : Str} {ks : List Str} {pos apos : Pos} {ta : TE} {t : TA} {gV : List V → List V → List V}
/-- C.m(k = e), m a static method -/
def tSMk (C : Addr) (gV : List V → List V → List V) (sp : Sp) (E : XK) (ta : TE) (t : TA) : TE := fun σ H Q => ta σ H fun x H1 => x = .ref C ∧ t σ H1 fun zs H2 => sp (gV [] zs) H2 Q E
theorem pe_smethGk {pl : Sem Bool} (he : PE X o ta) (c : SMet X.K C m g) (F : FnGk X.prog X.w X.K X.mg X.base CX k g ks gV sp) (ng : NoG X.A) (hr : Room k X.A) (hx : Passes CX X E) (hkw : PK X kws t)
    (hall : (backToKw pos (keywordEach kws X.env)).all (·.1.isSome) = true := by rfl) (hks : (backToKw pos (keywordEach kws X.env)).filterMap (·.1) = ks := by rfl)
    (hpl : ((backTo pos (starEach [] X.env)).any (·.1) || (backToKw pos (keywordEach kws X.env)).any (·.1.isNone)) = false := by rfl)
    (ht : eval (.Call (.Attribute o m apos) [] kws pos) X.env = (eval o X.env >>= fun ov => standAt apos.atName >>= fun _ => holding [ov] (getMethod ov m pl) >>= fun r =>
      callWith pos r.1 r.2 (backTo pos (starEach [] X.env)) (backToKw pos (keywordEach kws X.env))) := by rfl) :
    PE X (.Call (.Attribute o m apos) [] kws pos) (tSMk C gV sp E ta t) := by
  refine ⟨fun pins s σ H Q I h => ?_⟩
  refine PySem.W.methodCall_KW (pl := pl) (thn (he.run pins s σ H _ I h) fun u s1 ⟨x, H1, I1, rx, ex, q⟩ => ?_) ht
  subst ex
  obtain rfl : u = Value.ref C := rx
  obtain ⟨mc, p, rest, r, at_, rc⟩ := c.ex
  refine PySem.W.method_cls I1.kIn r.ga (PySem.W.cls_bind I1.kIn r.rd at_ (wpAny_call (PySem.W.sm_get (s := { s1 with toks := s1.toks + 1 }) I1.kIn rc (PySem.W.handed_on rfl ?_))))
  refine PySem.W.callWith_KW0 (first := []) (h₀ := X.base) I1.ok.mod.kin c.kp hall (thn (hkw.run pos pins _ σ H1 _ (I1.tok _) q) fun ws s2 ⟨zs, H2, I2, rz, q2⟩ => ⟨I2.kIn, ?_⟩) hpl
  rw [hks]
  refine wpAny_call (codeAny_mono (F X.A X.stack s2 H2 [] ws [] zs Q E ng hr I2.env0 .nil rz q2) fun r s' hq => ?_)
  match r, hq with
  | .error e, hq => exact hx pins σ H2 s2 e s' I2 hq
  | .ok (.ret _), hq => exact I2.after hq
  | .ok .next, hq => exact hq.elim
  | .ok .brk, hq => exact hq.elim
  | .ok .cont, hq => exact hq.elim
end
end AZ

set_option Elab.async false
set_option maxRecDepth 100000
set_option maxHeartbeats 4000000
set_option linter.all false
/-! Own work: tests that are conditional expressions. -/
namespace AZ
open PySem L2 PyProof.Rows
section
variable {X : Cx} {c a b : Expr} {pos : Pos} {tA ta tb : TT}
def tIfT (tc ta tb : TT) : TT := fun σ H Q => tc σ H fun d H1 => if d = true then ta σ H1 Q else tb σ H1 Q
theorem pt_ifE (hc : PT X c tA) (ha : PT X a ta) (hb : PT X b tb) : PT X (.IfExp c a b pos) (tIfT tA ta tb) := by
  refine ⟨fun pins s σ H Q I h => ?_⟩
  show wpAny (model X.prog X.w) X.A (PySem.isTrue (.IfExp c a b pos) X.env _) _ _ _
  rw [PySem.isTrue]
  refine wpAny_bind (thn (hc.run pins s σ H _ I h) fun d s1 ⟨H1, I1, q1⟩ => ?_)
  cases d with
  | true => exact ha.run pins s1 σ H1 Q I1 q1
  | false => exact hb.run pins s1 σ H1 Q I1 q1
end
end AZ

set_option Elab.async false
set_option maxRecDepth 100000
set_option maxHeartbeats 4000000
set_option linter.all false
/-! Own work: own comparisons and fields within a comprehension's block, told without the context. -/
namespace GQ
open PySem PySem.SeqAt
open AutoSeq1 (wpAny_loadPart')
open MeetsSeq MeetsSeq2 MeetsSeq3 SeqRoads2
section
variable {prog : Program} {w : World} {A : Around} {R : Result → Shared → Prop}
theorem list_eq_diff {l b : Addr} {xs ys : Array Value} {n1 n2 : Nat} {d1 d2 : Option Addr} {s1 s2 : Array (Option Value)} {z : Shared} (g1 : z.heap.get? l = some { cls := .type "list", dict := d1, data := .seq xs n1, slots := s1 }) (g2 : z.heap.get? b = some { cls := .type "list", dict := d2, data := .seq ys n2, slots := s2 })
    (ne : xs.size ≠ ys.size) (last : R (.ok (.ret (.bool false))) z) : wpAny (model prog w) A.in1 (Builtin.«list.__eq__» ⟨[.ref l, .ref b], []⟩) (FinOf prog w A R) (fun x z' => R (.error x) z') z := by
  obtain ⟨hp, gs, dr, tk, os⟩ := z
  have isList := AutoSeq1.sub_list_list
  have diff : (xs.size != ys.size) = true := by simp [ne]
  wp_walk using wpAny_loadPart' g1, wpAny_loadPart' g2
  exact last
end
section
variable {prog : Program} {w : World} {A : Around} {R : Result → Shared → Prop}
theorem list_ne_diff {l b : Addr} {xs ys : Array Value} {n1 n2 : Nat} {d1 d2 : Option Addr} {s1 s2 : Array (Option Value)} {z : Shared} (g1 : z.heap.get? l = some { cls := .type "list", dict := d1, data := .seq xs n1, slots := s1 }) (g2 : z.heap.get? b = some { cls := .type "list", dict := d2, data := .seq ys n2, slots := s2 })
    (ne : xs.size ≠ ys.size) (last : R (.ok (.ret (.bool true))) z) : wpAny (model prog w) A.in1 (Builtin.«list.__ne__» ⟨[.ref l, .ref b], []⟩) (FinOf prog w A R) (fun x z' => R (.error x) z') z := by
  obtain ⟨hp, gs, dr, tk, os⟩ := z
  have isList := AutoSeq1.sub_list_list
  have diff : (xs.size != ys.size) = true := by simp [ne]
  wp_walk using wpAny_loadPart' g1, wpAny_loadPart' g2
  exact last
end
section
variable {prog : Program} {w : World} {A : Around} {X : Value → Shared → Prop} {z : Shared}
theorem ne_lists_diff {l b : Addr} {xs ys : Array Value} {n1 n2 : Nat} {d1 d2 : Option Addr} {s1 s2 : Array (Option Value)} {Q : Value → Shared → Prop} (room : A.units < cLine) (g1 : z.heap.get? l = some { cls := .type "list", dict := d1, data := .seq xs n1, slots := s1 }) (g2 : z.heap.get? b = some { cls := .type "list", dict := d2, data := .seq ys n2, slots := s2 })
    (ne : xs.size ≠ ys.size) (last : Q (.bool true) z) : wpAny (model prog w) A (richCompare .NotEq (.ref l) (.ref b)) Q X z :=
  wpAny_richCompare_same_room (op := .NotEq) ⟨_, g1, rfl⟩ ⟨_, g2, rfl⟩ F.slot_list_ne (call_here F.slot_list_ne ⟨_, g1, rfl⟩ F.entry_list_ne (F.args_list_ne_2 _ _)
    (list_ne_diff (R := wants (fun v s' => v ≠ .notImplemented ∧ Q v s') X) g1 g2 ne ⟨(fun x => nomatch x), last⟩)) room
theorem eq_lists_diff {l b : Addr} {xs ys : Array Value} {n1 n2 : Nat} {d1 d2 : Option Addr} {s1 s2 : Array (Option Value)} {Q : Value → Shared → Prop} (room : A.units < cLine) (g1 : z.heap.get? l = some { cls := .type "list", dict := d1, data := .seq xs n1, slots := s1 }) (g2 : z.heap.get? b = some { cls := .type "list", dict := d2, data := .seq ys n2, slots := s2 })
    (ne : xs.size ≠ ys.size) (last : Q (.bool false) z) : wpAny (model prog w) A (richCompare .Eq (.ref l) (.ref b)) Q X z :=
  wpAny_richCompare_same_room (op := .Eq) ⟨_, g1, rfl⟩ ⟨_, g2, rfl⟩ F.slot_list_eq (call_here F.slot_list_eq ⟨_, g1, rfl⟩ F.entry_list_eq (F.args_list_eq_2 _ _)
    (list_eq_diff (R := wants (fun v s' => v ≠ .notImplemented ∧ Q v s') X) g1 g2 ne ⟨(fun x => nomatch x), last⟩)) room
end
end GQ
namespace AZ
open PySem L2 PyProof.Rows
section
variable {X : Cx}
/-- two lists of unlike lengths are not equal, whatever they hold -/
def rEqDiff : R2 := fun x y H Q => ∃ (a b : Addr) (xs ys : List V), x = .ref a ∧ y = .ref b ∧ H a = some (.lst xs) ∧ H b = some (.lst ys) ∧ xs.length ≠ ys.length ∧ Q (.bl false) H
theorem op_eqDiff (hu : X.A.units < cLine) : OpR X (compareOp .Eq) rEqDiff := by
  intro pins s σ H x y v u Q I rx ry h
  obtain ⟨a, b, xs, ys, rfl, rfl, ha, hb, ne, q⟩ := h
  cases rx
  cases ry
  obtain ⟨z, its, k, r, e⟩ := I.hok a _ ha
  obtain ⟨z2, its2, k2, r2, e2⟩ := I.hok b _ hb
  exact GQ.eq_lists_diff hu e e2 (by rw [List.size_toArray, List.size_toArray, ← r.length, ← r2.length]; exact ne) ⟨.bl false, H, I, rfl, q⟩
def rNeDiff : R2 := fun x y H Q => ∃ (a b : Addr) (xs ys : List V), x = .ref a ∧ y = .ref b ∧ H a = some (.lst xs) ∧ H b = some (.lst ys) ∧ xs.length ≠ ys.length ∧ Q (.bl true) H
theorem op_neDiff (hu : X.A.units < cLine) : OpR X (compareOp .NotEq) rNeDiff := by
  intro pins s σ H x y v u Q I rx ry h
  obtain ⟨a, b, xs, ys, rfl, rfl, ha, hb, ne, q⟩ := h
  cases rx
  cases ry
  obtain ⟨z, its, k, r, e⟩ := I.hok a _ ha
  obtain ⟨z2, its2, k2, r2, e2⟩ := I.hok b _ hb
  exact GQ.ne_lists_diff hu e e2 (by rw [List.size_toArray, List.size_toArray, ← r.length, ← r2.length]; exact ne) ⟨.bl true, H, I, rfl, q⟩
end
section
variable {X : Cx} {K : PySem.W.Frag}
/-- tuple(x), told without the context -/
def rTupK (K : PySem.W.Frag) : List V → Hp → VK → Prop := fun xs H Q => ∃ p ys, xs = [.ref p] ∧ ((SqL K H p ys ∧ ∀ l, H l = none → Q (.ref l) (upd H l (.tup ys))) ∨ (SqT K H p ys ∧ Q (.ref p) H))
theorem call_tupleK (h : X.K = K) : CallR X (.type "tuple") (rTupK K) := by
  subst h
  exact call_tuple_of
end
section
variable {X : Cx} {K : PySem.W.Frag} {C f : Addr} {k : Nat} {CX : CXT} {sp : Sp} {E : XK}
theorem opBy {F : Value → Value → Sem Value} {r r' : R2} (h : OpR X F r) (e : ∀ x y H Q, r' x y H Q → r x y H Q) : OpR X F r' := fun pins s σ H x y v u Q I rx ry q => h pins s σ H x y v u Q I rx ry (e _ _ _ _ q)
def rCF (C : Addr) (sp : Sp) (E : XK) : R2 := fun x y H Q => ∃ (a dx : Addr) (fs : List (Str × V)), x = .ref a ∧ H a = some (.ins C dx fs) ∧ RightI C H y ∧ sp [x, y] H Q E
def rRF (C : Addr) (sp : Sp) (E : XK) : R2 := fun x y H Q => ∃ (j : Int) (a dx : Addr) (fs : List (Str × V)), x = .int j ∧ y = .ref a ∧ H a = some (.ins C dx fs) ∧ sp [y, x] H Q E
def rNF (C : Addr) (sp : Sp) (E : XK) : R2 := fun x y H Q => ∃ (a dx : Addr) (fs : List (Str × V)), x = .ref a ∧ H a = some (.ins C dx fs) ∧ RightI C H y ∧ sp [x, y] H (fun v H1 => ∃ r, v = .bl r ∧ Q (.bl (!r)) H1) E
theorem op_ownCF {op : CmpOp} (M : CmpM X.K C op f) (F : FnR X.prog X.w X.K X.mg X.base CX k f sp) (hr : Room k X.A) (hx : Passes CX X E) (hop : ∀ a b, compareOp op a b = richCompare op a b := by intro _ _; rfl) : OpR X (compareOp op) (rCF C sp E) :=
  opBy (op_ownC op hop) fun _ _ _ _ ⟨a, dx, fs, h1, h2, h3, h4⟩ => ⟨a, C, dx, fs, f, CX, k, sp, E, h1, h2, h3, M, F, hr, hx, h4⟩
theorem op_reflCF {op : CmpOp} (opr : CmpOp) (he : (cmpInfo op).2.2 = (cmpInfo opr).2.1) (D : IntDecC op) (M : CmpM X.K C opr f) (ki : PySem.W.kitOne X.K (.ref C) (.type "int") = some false) (F : FnR X.prog X.w X.K X.mg X.base CX k f sp) (hr : Room k X.A) (hx : Passes CX X E)
    (hop : ∀ a b, compareOp op a b = richCompare op a b := by intro _ _; rfl) (hth : ∀ (i : Int) (t : Tok) (x : Addr), oneThing? op (.int i t) (.ref x) = none := by intro _ _ _; rfl) : OpR X (compareOp op) (rRF C sp E) :=
  opBy (op_reflC opr he D hop hth) fun _ _ _ _ ⟨j, a, dx, fs, h1, h2, h3, h4⟩ => ⟨j, a, C, dx, fs, f, CX, k, sp, E, h1, h2, h3, M, ki, F, hr, hx, h4⟩
theorem op_ownNF (M : NeM X.K C f) (F : FnR X.prog X.w X.K X.mg X.base CX k f sp) (hr : Room (k + 1) X.A) (hx : Passes CX X E) : OpR X (compareOp .NotEq) (rNF C sp E) :=
  opBy op_ownN fun _ _ _ _ ⟨a, dx, fs, h1, h2, h3, h4⟩ => ⟨a, C, dx, fs, f, CX, k, sp, E, h1, h2, h3, M, F, hr, hx, h4⟩
end
section
variable {X : Cx} {K : PySem.W.Frag} {o : Expr} {to : TE} {f : Str} {pos : Pos}
theorem pe_fldK (h : X.K = K) (ho : PE X o to) (hb : attributeBase o f X.env (eval o X.env) = eval o X.env) : PE X (.Attribute o f pos) (tFld K to f) := by
  subst h
  exact pe_fld ho hb
end
end AZ

set_option Elab.async false
set_option maxRecDepth 100000
set_option maxHeartbeats 4000000
set_option linter.all false
/-! Own work: x in c, c of a class with __contains__. -/
namespace AZ
open PySem L2 PyProof.Rows
section
variable {X : Cx} {C f : Addr} {k : Nat} {CX : CXT} {sp : Sp} {E : XK}
structure InM (K : PySem.W.Frag) (C f : Addr) : Prop where
  hs : PySem.W.findIn K (.ref C) "__contains__" = some (some (.ref f))
  hf : PySem.W.isFn K (.ref f) = true
def rInO (C : Addr) (sp : Sp) (E : XK) : R2 := fun x y H Q => ∃ (a dx : Addr) (fs : List (Str × V)), y = .ref a ∧ H a = some (.ins C dx fs) ∧ sp [y, x] H (fun v H1 => ∃ b, v = .bl b ∧ Q (.bl b) H1) E
theorem op_inO (M : InM X.K C f) (F : FnG X.prog X.w X.K X.mg X.base CX k f sp) (ng : NoG X.A) (hr : Room k X.A) (hx : Passes CX X E) : OpR X (compareOp .In) (rInO C sp E) := by
  intro pins s σ H x y v u Q I rx ry h
  obtain ⟨a, dx, fs, rfl, ha, q⟩ := h
  obtain rfl : u = Value.ref a := ry
  have hc : wpAny (model X.prog X.w) X.A (call (.ref f) [.ref a, v]) (fun r s' => wpAny (model X.prog X.w) X.A (truthy r) (fun b s2 => EP X pins σ Q (.bool b) s2) X.xe s') X.xe s :=
    thn (wpAny_call (run_fnG (us := [.ref a, v]) (vs := [.ref a, x]) F ng hr hx I (.cons rfl (.cons rx .nil)) q)) fun r s1 z => by
      obtain ⟨z, H1, I1, rz, b, rfl, q⟩ := z
      obtain rfl : r = Value.bool b := rz
      exact wpAny_truthy_bool ⟨.bl b, H1, I1, rfl, q⟩
  obtain ⟨mA, J, _⟩ := ins_get I.hok ha
  obtain ⟨od, J, _⟩ := J.look
  obtain ⟨m, hF⟩ := I.fr
  exact PySem.W.in_K hF I.ok.mod.kin J M.hs M.hf hc
end
end AZ

set_option Elab.async false
set_option maxRecDepth 100000
set_option maxHeartbeats 4000000
set_option linter.all false
/-! Own work: promises of defs with defaults, called by place, with some left out, or by name. -/
namespace AZ
open PySem L2 PyProof.Rows
theorem binds_seq {K : PySem.W.Frag} {T : Addr} {o : Obj} {its : List Value} {n : Nat} {s : Shared} {fd : FuncData} {as : Args} {bs : List (Str × Value)} {k : Option (Array Value) → Sem (List (Str × Value))}
    (kin : K.In s.heap) (l : List.lookup T K = some o) (hd : o.data = .seq its.toArray n) (h1 : bindArgs fd as = seqItems? (.ref T) >>= k) (h2 : k (some its.toArray) = pure bs) : BindsTo s fd as bs := by
  intro M A E Q q
  rw [h1]
  have g := kin _ _ l
  show wpAny M A (seqItems? (.ref T) >>= k) Q E s
  unfold seqItems?
  refine wpAny_bind (wpAny_bind (wpAny_load g ?_))
  rw [hd]
  refine wpAny_pure ?_
  show wpAny M A (k (some its.toArray)) Q E s
  rw [h2]
  exact wpAny_pure q
section
variable {P : Program} {w : World} {K : PySem.W.Frag} {mg : Str → Option Value} {base : Heap} {CX : CXT} {k : Nat} {f : Addr} {sp : Sp} {x qual : Str} {pa : Arguments} {body : List Stmt} {sc : Scope} {dvs : List V} {kws : List (Str × V)} {fd : FuncData} {N ps ks : List Str}
theorem kbnD {n : Nat} {g : List Value → List Value → List Value} {gV : List V → List V → List V} (F : FunD K x qual pa body sc dvs kws f fd) (nd : dvs ≠ [])
    (h : ∀ (T : Addr) (kV doc pm : Value) (an : Option Addr) (cdv ct : Value) (us ws its : List Value), us.length = n → ws.length = ks.length → its.length = dvs.length →
      ∃ k, bindArgs (PySem.W.fnOf x qual pa body sc (.ref T) kV doc pm an cdv ct) ⟨us, ks.zip ws⟩ = seqItems? (.ref T) >>= k ∧ k (some its.toArray) = pure (ps.zip (g us ws)))
    (rel : ∀ {vs us zs ws}, Vals vs us → Vals zs ws → Vals (gV vs zs) (g us ws)) : KBn K fd ps n ks g gV where
  to := fun s us ws kin l1 l2 => by
    obtain ⟨oc, od, dV, kV, doc, pm, an, cdv, ct, osl, rfl, look, rec, dv, kw⟩ := F.ex
    rcases dv with ⟨e, _⟩ | ⟨_, T, o, its, m, rfl, lt, hd, vi⟩
    · exact absurd e nd
    · obtain ⟨k, e1, e2⟩ := h T kV doc pm an cdv ct us ws its l1 l2 vi.length.symm
      exact binds_seq kin lt hd e1 e2
  rel := rel
theorem fnOGD (F : FunD K x qual pa body sc dvs kws f fd) (S : FnScope N ps sc) (len : ∀ vs H Q E, sp vs H Q E → vs.length = ps.length)
    (bd : ∀ (cdv : Value) (A : Around) (out : List Env) (z : Shared) (G : Hp) (vs : List V) (Q : VK) (E : XK), NoG (A.deeper (envOfC qual sc z.heap.objs.size f cdv)) →
      Room k (A.deeper (envOfC qual sc z.heap.objs.size f cdv)) → sp vs G Q E →
      ∃ t, PSs (cxOf CX P w K mg base N qual sc f cdv A out z G E) body t ∧ t { nx := fun _ H' => Q .non H', rt := Q } (start N vs) G) : FnOG P w K mg base CX (k + 1) f fd ps sp := by
  obtain ⟨oc, od, dV, kV, doc, pm, an, cdv, ct, osl, rfl, look, rec, _, _⟩ := F.ex
  intro A out z G as us vs Q E ng room env bnd many vals prom
  have keep : ∀ b o, base.get? b = some o → z.heap.get? b = some o := fun b o e => (env.bs b o e).1
  have kin := kin0 env
  have kinds : ∀ y ∈ ps.zip us, sc.names.lookup y.1 = some .local ∨
      (sc.names.lookup y.1 = some .cell ∧ ((cellsFrom (z.heap.objs.size + 1) sc.names []).lookup y.1).isSome = true) := by
    rintro ⟨n, v⟩ there
    exact (S.par n (List.of_mem_zip there).1).imp id fun c => ⟨c, PySem.W.cellsFrom_some _ _ _ (.inl c)⟩
  refine codeAny_call_function room.depth (kin _ _ look) rfl S.co S.gen rfl (PySem.W.codeRec_of kin rec) (bnd _ _ _ _ (wpAny_newFunctionEnv_cells S.kind kinds ?_))
  rintro env2 rfl z1 made
  refine ⟨(env.mod.nolimit.keeps keep).keeps made.toInCall.keep, codeAny_func ?_⟩
  obtain ⟨t, body, run⟩ := bd cdv A out z G vs Q E (ng.deeper _) (room.deeper _) prom
  exact wpAny_mono (body.run [] z1 (start N vs) G _ (inv_start S room.hd env (len _ _ _ _ prom) vals made) run) (fun fl z2 q => by
    cases fl with
    | ret v => obtain ⟨y, σ, G2, J, rel, q⟩ := q; exact ⟨y, G2, J.os, J.bare, J.base, J.hok, rel, q⟩
    | next => obtain ⟨σ, G2, J, q⟩ := q; exact ⟨.non, G2, J.os, J.bare, J.base, J.hok, rfl, q⟩
    | brk => obtain ⟨σ, G2, J, q⟩ := q; exact q.elim
    | cont => obtain ⟨σ, G2, J, q⟩ := q; exact q.elim) fun e z2 q => q
/-- .. that may raise -/
theorem fnXD (F : FunD K x qual pa body sc dvs kws f fd) (S : FnScope N ps sc) (len : ∀ vs H Q E, sp vs H Q E → vs.length = ps.length)
    (bd : ∀ (cdv : Value) (A : Around) (out : List Env) (z : Shared) (G : Hp) (vs : List V) (Q : VK) (E : XK), NoG (A.deeper (envOfC qual sc z.heap.objs.size f cdv)) →
      Room k (A.deeper (envOfC qual sc z.heap.objs.size f cdv)) → Takes (cxOf (CXx P w) P w K mg base N qual sc f cdv A out z G E) (fun cls d _ H => E cls d H) → sp vs G Q E →
      ∃ t, PSs (cxOf (CXx P w) P w K mg base N qual sc f cdv A out z G E) body t ∧ t { nx := fun _ H' => Q .non H', rt := Q } (start N vs) G) : FnOG P w K mg base (CXx P w) (k + 1) f fd ps sp :=
  fnOGD (CX := CXx P w) F S len fun cdv A out z G vs Q E ng hr h => bd cdv A out z G vs Q E ng hr (takes_of rfl rfl rfl rfl) h
/-- where the last ones are left out -/
theorem FnOG.posD {ds : List Value} {dv : List V} (F : FnOG P w K mg base CX k f fd ps sp) (len : ∀ vs H Q E, sp vs H Q E → vs.length = ps.length) (hb : Binds K fd ps ds) (hd : Vals dv ds) : FnG P w K mg base CX k f (fun vs H Q E => sp (vs ++ dv) H Q E) := by
  intro A out z G us vs Q E ng room env vals prom
  have va := vals.append hd
  have many : (us ++ ds).length = ps.length := va.length.symm.trans (len _ _ _ _ prom)
  exact F A out z G ⟨us, []⟩ (us ++ ds) (vs ++ dv) Q E ng room env (hb z us (kin0 env) many) many va prom
end
/-- two by their names, the other way round -/
def g02 {α : Type} : List α → List α → List α
  | [], [b, a] => [a, b]
  | _, _ => []
theorem vals_g02 : ∀ {vs zs : List V} {us ws : List Value}, Vals vs us → Vals zs ws → Vals (g02 vs zs) (g02 us ws)
  | _, _, _, _, .nil, .cons a (.cons b .nil) => .cons b (.cons a .nil)
  | _, _, _, _, .nil, .nil => .nil
  | _, _, _, _, .nil, .cons _ .nil => .nil
  | _, _, _, _, .nil, .cons _ (.cons _ (.cons _ _)) => .nil
  | _, _, _, _, .cons _ _, _ => .nil
/-- four by their names, the other way round -/
def g04 {α : Type} : List α → List α → List α
  | [], [d, c, b, a] => [a, b, c, d]
  | _, _ => []
theorem vals_g04 : ∀ {vs zs : List V} {us ws : List Value}, Vals vs us → Vals zs ws → Vals (g04 vs zs) (g04 us ws)
  | _, _, _, _, .nil, .cons a (.cons b (.cons c (.cons e .nil))) => .cons e (.cons c (.cons b (.cons a .nil)))
  | _, _, _, _, .nil, .nil => .nil
  | _, _, _, _, .nil, .cons _ .nil => .nil
  | _, _, _, _, .nil, .cons _ (.cons _ .nil) => .nil
  | _, _, _, _, .nil, .cons _ (.cons _ (.cons _ .nil)) => .nil
  | _, _, _, _, .nil, .cons _ (.cons _ (.cons _ (.cons _ (.cons _ _)))) => .nil
  | _, _, _, _, .cons _ _, _ => .nil
end AZ

set_option Elab.async false
set_option maxRecDepth 100000
set_option maxHeartbeats 4000000
set_option linter.all false
/-! Own work: bool(x) of a tuple. -/
namespace AZ
open PySem PySem.Spec PySem.W PySem.Calls PyProof.Rows
section
variable {prog : Program} {w : World} {A : Around} {E : Value → Shared → Prop} {s : Shared} {v : Value}
theorem bool_tr {Q : Value → Shared → Prop} (tr : wpAny (model prog w) A.in1.in1 (truthy v) (fun b s₁ => Q (.bool b) s₁) E s) : wpAny (model prog w) A (call (.type "bool") [v]) Q E s := by
  refine callType_codes (T := "bool") (Bi := Builtin.«object.__init__») (Q₁ := fun r s₁ => ∃ b, r = .bool b ∧ Q r s₁) PySem.F.called_bool (PySem.F.typeCall_bool_1 _) PySem.F.entry_object_init ?_ ?_
  · refine codeAny_of_tree ?_
    show wpAny _ A.in1.in1 (do checkBuiltinCall "bool.__new__" ⟨[.type "bool", v], []⟩; again (.builtin "bool.__new__" ⟨[.type "bool", v], []⟩)) _ _ s
    refine wpAny_bind (wpAny_of_eq (PySem.F.newCall_bool_1 _) (wpAny_pure ⟨plainId_quiet (by decide +kernel) _, codeAny_builtin PySem.F.entry_bool_new ?_⟩))
    rw [Around.under_plainId (by decide +kernel) _]
    have f1 := PySem.F.conv_sub_bool
    unfold Builtin.«bool.__new__»
    refine wpAny_bind (wpAny_pure ?_)
    refine wpAny_bind (wpAny_of_eq f1 ?_)
    refine wpAny_bind (wpAny_pure ?_)
    exact wpAny_bind (wpAny_mono tr (fun b s₁ hb => wpAny_pure ⟨_, rfl, hb⟩) fun _ _ y => y)
  · rintro obj s₁ ⟨b, rfl, hq⟩
    exact ⟨PySem.typeIs_bool _ _, PySem.F.args_object_init_2 _ _, object_init_meets PySem.F.called_bool.init.lookup PySem.F.called_bool.made (by decide) prog w A.in1 _ s₁ ⟨PySem.typeIs_bool _ _, rfl, hq⟩⟩
end
end AZ
namespace AZ
open PySem L2 PyProof.Rows
section
variable {X : Cx}
theorem call_boolT : CallR X (.type "bool") (fun xs H Q => ∃ p ys, xs = [.ref p] ∧ SqT X.K H p ys ∧ Q (.bl (!ys.isEmpty)) H) := by
  intro pins s σ H xs us Q I rv q
  obtain ⟨p, ys, rfl, ht, q⟩ := q
  cases rv with
  | cons r1 r2 =>
    cases r2
    cases r1
    obtain ⟨its, vi, it, hl⟩ := I.tuple ht
    have e : (!its.toArray.isEmpty) = !ys.isEmpty := by cases vi <;> rfl
    have n : ((its.toArray.size : Nat) : Int) < 2 ^ 63 := by
      have h1 := vi.length
      have h2 : its.toArray.size = its.length := List.size_toArray
      have h3 : sizeLine < 2 ^ 63 := by decide +kernel
      omega
    refine bool_tr (truthy_tuple it n ?_)
    rw [e]
    exact ⟨.bl _, H, I.tok _, rfl, q⟩
theorem uBoolT : CallR X (.type "bool") (fun xs H Q => ((∃ i, xs = [.int i] ∧ Q (.bl (i != 0)) H) ∨ ∃ k, xs = [.bl k] ∧ Q (.bl k) H) ∨ ∃ p ys, xs = [.ref p] ∧ SqT X.K H p ys ∧ Q (.bl (!ys.isEmpty)) H) := CallR.or' call_bool1 call_boolT
end
end AZ

set_option Elab.async false
set_option maxRecDepth 100000
set_option maxHeartbeats 4000000
set_option linter.all false
/-! Own work: == and != of lists and tuples of anything, whatever comes out. -/
namespace GQ
open PySem PySem.SeqAt
open AutoSeq1 (wpAny_loadPart')
open MeetsSeq MeetsSeq2 MeetsSeq3 SeqRoads2
/-- all of the answers from the k-th on -/
def allT (g : Nat → Bool) (N k : Nat) : Bool := ((List.range N).drop k).all g
theorem allT_end {g : Nat → Bool} {N : Nat} : allT g N N = true := by
  unfold allT
  rw [List.drop_of_length_le (by simp)]
  rfl
theorem allT_step {g : Nat → Bool} {N k : Nat} (h : k < N) : allT g N k = (g k && allT g N (k + 1)) := by
  unfold allT
  rw [List.drop_eq_getElem_cons (by simpa using h)]
  simp
theorem allT_zero {g : Nat → Bool} {N : Nat} : allT g N 0 = (List.range N).all g := rfl
section
variable {prog : Program} {w : World} {A : Around} {R : Result → Shared → Prop}
/-- two lists of N items each, at every turn: the i-th ones are compared to g i -/
def ListB (prog : Program) (w : World) (A : Around) (E : Value → Shared → Prop) (l b : Addr) (N : Nat) (g : Nat → Bool) (I : Shared → Prop) : Prop :=
  ∀ i s, I s → ∃ (xs ys : Array Value) (n n2 : Nat), s.heap.get? l = some { cls := .type "list", data := .seq xs n } ∧ s.heap.get? b = some { cls := .type "list", data := .seq ys n2 } ∧ xs.size = N ∧ ys.size = N ∧
    ∀ (h1 : i < xs.size) (h2 : i < ys.size), wpAny (model prog w) A.in1 (eqBool xs[i] ys[i]) (fun r s' => r = g i ∧ I s') E s
theorem loop_eqB (l b : Addr) (N : Nat) (g : Nat → Bool) (I : Shared → Prop) (hl : ListB prog w A (fun e s' => R (.error e) s') l b N g I) (bit : Bool)
    (fin : ∀ s, I s → R (.ok (.ret (.bool bit))) s) (k : Nat) :
    ∀ i : Nat, N - i = k → i ≤ N → bit = allT g N i → ∀ s, I s →
      wpAny (model prog w) A.in1 (Builtin.«list.__eq__.loop» ⟨[.ref l, .ref b, rawInt i, rawInt 2], []⟩) (FinOf prog w A R) (fun e s' => R (.error e) s') s := by
  induction k with
  | zero =>
    intro i hk hi hbit s h
    obtain ⟨xs, ys, n, n2, hl1, hb1, hs1, hs2, _⟩ := hl i _ h
    have hi' : i = N := by omega
    subst hi'
    rw [allT_end] at hbit
    subst hbit
    have hR : R (.ok (.ret (.bool true))) s := fin s h
    obtain ⟨hp, gs, d, tk, os⟩ := s
    wp_walk using wpAny_loadPart' hl1, wpAny_loadPart' hb1
    have hi1 : xs[((i : Nat) : Int).toNat]? = none := by simp; omega
    have hi2 : ys[((i : Nat) : Int).toNat]? = none := by simp; omega
    rw [hi1, hi2]
    wp_walk using wpAny_loadPart' hl1, wpAny_loadPart' hb1
    show R (.ok (.ret (.bool (xs.size == ys.size)))) _
    rw [hs1, hs2]
    simpa using hR
  | succ k ih =>
    intro i hk hi hbit s h
    obtain ⟨xs, ys, n, n2, hl1, hb1, hs1, hs2, turn⟩ := hl i _ h
    have hlt : i < xs.size := by omega
    have hlt2 : i < ys.size := by omega
    have ht := turn hlt hlt2
    rw [allT_step (by omega)] at hbit
    obtain ⟨hp, gs, d, tk, os⟩ := s
    wp_walk using wpAny_loadPart' hl1, wpAny_loadPart' hb1
    have hi1 : xs[((i : Nat) : Int).toNat]? = some xs[i] := by simp [hlt]
    have hi2 : ys[((i : Nat) : Int).toNat]? = some ys[i] := by simp [hlt2]
    have hc : ((i : Int) + 1) = ((i + 1 : Nat) : Int) := by omega
    rw [hi1, hi2]
    refine wpAny_bind (wpAny_mono ht (fun r s2 h2 => ?_) fun _ _ x => x)
    obtain ⟨hr, h2⟩ := h2
    subst hr
    cases hg : g i with
    | true =>
      have hrec := ih (i + 1) (by omega) (by omega) (by rw [hbit, hg]; rfl) s2 h2
      obtain ⟨hp2, g2, d2, tk2, os2⟩ := s2
      wp_walk
      rw [hc]
      exact ⟨plainId_quiet plain_eq_loop _, codeAny_builtin entry_eq_loop (by
        rw [Around.under_plainId plain_eq_loop _]
        exact hrec)⟩
    | false =>
      rw [hg] at hbit
      subst hbit
      have hR := fin s2 h2
      obtain ⟨ys1, ys2, m1, m2, hl2, hb2, hs3, hs4, _⟩ := hl i _ h2
      obtain ⟨hp2, g2, d2, tk2, os2⟩ := s2
      wp_walk using wpAny_loadPart' hl2, wpAny_loadPart' hb2
      have hi3 : ys1[((i : Nat) : Int).toNat]? = some ys1[i] := by simp
      have hi4 : ys2[((i : Nat) : Int).toNat]? = some ys2[i] := by simp
      rw [hi3, hi4]
      wp_walk
      exact hR
theorem loop_neB (l b : Addr) (N : Nat) (g : Nat → Bool) (I : Shared → Prop) (hl : ListB prog w A (fun e s' => R (.error e) s') l b N g I) (bit : Bool)
    (fin : ∀ s, I s → R (.ok (.ret (.bool (!bit)))) s) (k : Nat) :
    ∀ i : Nat, N - i = k → i ≤ N → bit = allT g N i → ∀ s, I s →
      wpAny (model prog w) A.in1 (Builtin.«list.__eq__.loop» ⟨[.ref l, .ref b, rawInt i, rawInt 3], []⟩) (FinOf prog w A R) (fun e s' => R (.error e) s') s := by
  induction k with
  | zero =>
    intro i hk hi hbit s h
    obtain ⟨xs, ys, n, n2, hl1, hb1, hs1, hs2, _⟩ := hl i _ h
    have hi' : i = N := by omega
    subst hi'
    rw [allT_end] at hbit
    subst hbit
    have hR : R (.ok (.ret (.bool false))) s := fin s h
    obtain ⟨hp, gs, d, tk, os⟩ := s
    wp_walk using wpAny_loadPart' hl1, wpAny_loadPart' hb1
    have hi1 : xs[((i : Nat) : Int).toNat]? = none := by simp; omega
    have hi2 : ys[((i : Nat) : Int).toNat]? = none := by simp; omega
    rw [hi1, hi2]
    wp_walk using wpAny_loadPart' hl1, wpAny_loadPart' hb1
    show R (.ok (.ret (.bool (xs.size != ys.size)))) _
    rw [hs1, hs2]
    simpa using hR
  | succ k ih =>
    intro i hk hi hbit s h
    obtain ⟨xs, ys, n, n2, hl1, hb1, hs1, hs2, turn⟩ := hl i _ h
    have hlt : i < xs.size := by omega
    have hlt2 : i < ys.size := by omega
    have ht := turn hlt hlt2
    rw [allT_step (by omega)] at hbit
    obtain ⟨hp, gs, d, tk, os⟩ := s
    wp_walk using wpAny_loadPart' hl1, wpAny_loadPart' hb1
    have hi1 : xs[((i : Nat) : Int).toNat]? = some xs[i] := by simp [hlt]
    have hi2 : ys[((i : Nat) : Int).toNat]? = some ys[i] := by simp [hlt2]
    have hc : ((i : Int) + 1) = ((i + 1 : Nat) : Int) := by omega
    rw [hi1, hi2]
    refine wpAny_bind (wpAny_mono ht (fun r s2 h2 => ?_) fun _ _ x => x)
    obtain ⟨hr, h2⟩ := h2
    subst hr
    cases hg : g i with
    | true =>
      have hrec := ih (i + 1) (by omega) (by omega) (by rw [hbit, hg]; rfl) s2 h2
      obtain ⟨hp2, g2, d2, tk2, os2⟩ := s2
      wp_walk
      rw [hc]
      exact ⟨plainId_quiet plain_eq_loop _, codeAny_builtin entry_eq_loop (by
        rw [Around.under_plainId plain_eq_loop _]
        exact hrec)⟩
    | false =>
      rw [hg] at hbit
      subst hbit
      have hR := fin s2 h2
      obtain ⟨ys1, ys2, m1, m2, hl2, hb2, hs3, hs4, _⟩ := hl i _ h2
      obtain ⟨hp2, g2, d2, tk2, os2⟩ := s2
      wp_walk using wpAny_loadPart' hl2, wpAny_loadPart' hb2
      have hi3 : ys1[((i : Nat) : Int).toNat]? = some ys1[i] := by simp
      have hi4 : ys2[((i : Nat) : Int).toNat]? = some ys2[i] := by simp
      rw [hi3, hi4]
      wp_walk
      exact hR
theorem list_eqB (l b : Addr) (N : Nat) (g : Nat → Bool) (I : Shared → Prop) (hl : ListB prog w A (fun e s' => R (.error e) s') l b N g I)
    (fin : ∀ s, I s → R (.ok (.ret (.bool (allT g N 0)))) s) {s : Shared} (h : I s) :
    wpAny (model prog w) A.in1 (Builtin.«list.__eq__» ⟨[.ref l, .ref b], []⟩) (FinOf prog w A R) (fun e s' => R (.error e) s') s := by
  obtain ⟨xs, ys, n, n2, hl1, hb1, hs1, hs2, _⟩ := hl 0 _ h
  have hrec := loop_eqB (A := A) (R := R) l b N g I hl _ fin _ 0 rfl (Nat.zero_le _) rfl s h
  obtain ⟨hp, gs, d, tk, os⟩ := s
  have f3 := AutoSeq1.sub_list_list
  have hne : ¬ (xs.size != ys.size) = true := by simp [hs1, hs2]
  wp_walk using wpAny_loadPart' hl1, wpAny_loadPart' hb1
  exact ⟨plainId_quiet plain_eq_loop _, codeAny_builtin entry_eq_loop (by
    rw [Around.under_plainId plain_eq_loop _]
    exact hrec)⟩
theorem list_neB (l b : Addr) (N : Nat) (g : Nat → Bool) (I : Shared → Prop) (hl : ListB prog w A (fun e s' => R (.error e) s') l b N g I)
    (fin : ∀ s, I s → R (.ok (.ret (.bool (!allT g N 0)))) s) {s : Shared} (h : I s) :
    wpAny (model prog w) A.in1 (Builtin.«list.__ne__» ⟨[.ref l, .ref b], []⟩) (FinOf prog w A R) (fun e s' => R (.error e) s') s := by
  obtain ⟨xs, ys, n, n2, hl1, hb1, hs1, hs2, _⟩ := hl 0 _ h
  have hrec := loop_neB (A := A) (R := R) l b N g I hl _ fin _ 0 rfl (Nat.zero_le _) rfl s h
  obtain ⟨hp, gs, d, tk, os⟩ := s
  have f3 := AutoSeq1.sub_list_list
  have hne : ¬ (xs.size != ys.size) = true := by simp [hs1, hs2]
  wp_walk using wpAny_loadPart' hl1, wpAny_loadPart' hb1
  exact ⟨plainId_quiet plain_eq_loop _, codeAny_builtin entry_eq_loop (by
    rw [Around.under_plainId plain_eq_loop _]
    exact hrec)⟩
/-- where a walk over two tuples stands, of any lengths -/
def ZipAt (as bs : Array Value) (left : List (Value × Value)) (k : Nat) : Prop := left = (as.toList.zip bs.toList).drop k ∧ k ≤ min as.size bs.size
theorem zip_next {as bs : Array Value} {p q : Value} {left : List (Value × Value)} {k : Nat} (h : ZipAt as bs ((p, q) :: left) k) :
    ∃ (k1 : k < as.size) (k2 : k < bs.size), p = as[k] ∧ q = bs[k] ∧ ZipAt as bs left (k + 1) := by
  obtain ⟨el, _⟩ := h
  have len : (as.toList.zip bs.toList).length = min as.size bs.size := by simp
  by_cases hk : k < (as.toList.zip bs.toList).length
  · have k1 : k < as.size := by omega
    have k2 : k < bs.size := by omega
    rw [List.drop_eq_getElem_cons hk] at el
    obtain ⟨e1, e2⟩ := List.cons.inj el
    have e3 := Prod.mk.inj (e1.trans (show _ = (as[k], bs[k]) by simp))
    exact ⟨k1, k2, e3.1, e3.2, e2, by omega⟩
  · rw [List.drop_of_length_le (Nat.le_of_not_lt hk)] at el
    cases el
theorem zip_done {as bs : Array Value} {k : Nat} (h : ZipAt as bs [] k) : k = min as.size bs.size := by
  obtain ⟨el, hk⟩ := h
  have len : (as.toList.zip bs.toList).length = min as.size bs.size := by simp
  have : (as.toList.zip bs.toList).length ≤ k := by simpa using el.symm
  omega
theorem tup_eqB {u v : Addr} {as bs : Array Value} {n1 n2 : Nat} {d1 d2 : Option Addr} {s1 s2 : Array (Option Value)} (g : Nat → Bool) (I : Shared → Prop) (bit : Bool) (hbit : bit = (allT g (min as.size bs.size) 0 && as.size == bs.size))
    (step : ∀ k (k1 : k < as.size) (k2 : k < bs.size) z, I z → wpAny (model prog w) A.in1 (eqBool as[k] bs[k]) (fun r z' => r = g k ∧ I z') (fun x z' => R (.error x) z') z)
    (last : ∀ z, I z → R (.ok (.ret (.bool bit))) z) {z : Shared} (hu : z.heap.get? u = some { cls := .type "tuple", dict := d1, data := .seq as n1, slots := s1 }) (hv : z.heap.get? v = some { cls := .type "tuple", dict := d2, data := .seq bs n2, slots := s2 }) (h : I z) :
    wpAny (model prog w) A.in1 (Builtin.«tuple.__eq__» ⟨[.ref u, .ref v], []⟩) (FinOf prog w A R) (fun x z' => R (.error x) z') z := by
  have isTup := AutoSeq1.sub_tuple_tuple
  have start : ZipAt as bs (as.toList.zip bs.toList) 0 := ⟨rfl, Nat.zero_le _⟩
  obtain ⟨hp, gs, dr, tk, os⟩ := z
  wp_walk using wpAny_loadPart' hu, wpAny_loadPart' hv, wpAny_forIn_list _ (fun left b z' => b.1 = none ∧ ∃ k, ZipAt as bs left k ∧ bit = (allT g (min as.size bs.size) k && as.size == bs.size) ∧ I z') _
  case turn =>
    rintro ⟨p, q⟩ left b z' ⟨_, k, at_, hb, hI⟩
    obtain ⟨k1, k2, rfl, rfl, el⟩ := zip_next at_
    rw [allT_step (by omega)] at hb
    refine wpAny_bind (wpAny_mono (step k k1 k2 z' hI) (fun r z2 hz => ?_) fun _ _ x => x)
    obtain ⟨rfl, hI2⟩ := hz
    cases hg : g k with
    | true =>
      wp_walk
      exact ⟨rfl, k + 1, el, by rw [hb, hg]; rfl, hI2⟩
    | false =>
      have := last z2 hI2
      rw [hb, hg] at this
      wp_walk
      exact this
  case fin =>
    rintro ⟨b1, b2⟩ z' ⟨hb, k, at_, hb2, hI⟩
    obtain rfl : b1 = none := hb
    have hl := last z' hI
    rw [zip_done at_, allT_end] at hb2
    wp_walk
    rw [hb2] at hl
    simpa [Builtin.Tuple.tupleCompareSizes] using hl
  case h => exact ⟨rfl, 0, start, hbit, h⟩
theorem tup_neB {u v : Addr} {as bs : Array Value} {n1 n2 : Nat} {d1 d2 : Option Addr} {s1 s2 : Array (Option Value)} (g : Nat → Bool) (I : Shared → Prop) (bit : Bool) (hbit : bit = (allT g (min as.size bs.size) 0 && as.size == bs.size))
    (step : ∀ k (k1 : k < as.size) (k2 : k < bs.size) z, I z → wpAny (model prog w) A.in1 (eqBool as[k] bs[k]) (fun r z' => r = g k ∧ I z') (fun x z' => R (.error x) z') z)
    (last : ∀ z, I z → R (.ok (.ret (.bool (!bit)))) z) {z : Shared} (hu : z.heap.get? u = some { cls := .type "tuple", dict := d1, data := .seq as n1, slots := s1 }) (hv : z.heap.get? v = some { cls := .type "tuple", dict := d2, data := .seq bs n2, slots := s2 }) (h : I z) :
    wpAny (model prog w) A.in1 (Builtin.«tuple.__ne__» ⟨[.ref u, .ref v], []⟩) (FinOf prog w A R) (fun x z' => R (.error x) z') z := by
  have isTup := AutoSeq1.sub_tuple_tuple
  have start : ZipAt as bs (as.toList.zip bs.toList) 0 := ⟨rfl, Nat.zero_le _⟩
  obtain ⟨hp, gs, dr, tk, os⟩ := z
  wp_walk using wpAny_loadPart' hu, wpAny_loadPart' hv, wpAny_forIn_list _ (fun left b z' => b.1 = none ∧ ∃ k, ZipAt as bs left k ∧ bit = (allT g (min as.size bs.size) k && as.size == bs.size) ∧ I z') _
  case turn =>
    rintro ⟨p, q⟩ left b z' ⟨_, k, at_, hb, hI⟩
    obtain ⟨k1, k2, rfl, rfl, el⟩ := zip_next at_
    rw [allT_step (by omega)] at hb
    refine wpAny_bind (wpAny_mono (step k k1 k2 z' hI) (fun r z2 hz => ?_) fun _ _ x => x)
    obtain ⟨rfl, hI2⟩ := hz
    cases hg : g k with
    | true =>
      wp_walk
      exact ⟨rfl, k + 1, el, by rw [hb, hg]; rfl, hI2⟩
    | false =>
      have := last z2 hI2
      rw [hb, hg] at this
      wp_walk
      exact this
  case fin =>
    rintro ⟨b1, b2⟩ z' ⟨hb, k, at_, hb2, hI⟩
    obtain rfl : b1 = none := hb
    have hl := last z' hI
    rw [zip_done at_, allT_end] at hb2
    wp_walk
    rw [hb2] at hl
    simpa [Builtin.Tuple.tupleCompareSizes, bne] using hl
  case h => exact ⟨rfl, 0, start, hbit, h⟩
end
section
variable {prog : Program} {w : World} {A : Around} {X : Value → Shared → Prop} {z : Shared}
theorem rc_listB {l b : Addr} {N : Nat} {g : Nat → Bool} {Q : Value → Shared → Prop} (hu : A.units < cLine) (I : Shared → Prop) (hl : ListB prog w A X l b N g I)
    (fin : ∀ s, I s → Q (.bool (allT g N 0)) s) (h : I z) : wpAny (model prog w) A (richCompare .Eq (.ref l) (.ref b)) Q X z := by
  obtain ⟨xs, ys, n, n2, hl1, hb1, _, _, _⟩ := hl 0 _ h
  refine wpAny_richCompare_same_room (op := .Eq) ⟨_, hl1, rfl⟩ ⟨_, hb1, rfl⟩ F.slot_list_eq (call_here F.slot_list_eq ⟨_, hl1, rfl⟩ F.entry_list_eq (F.args_list_eq_2 _ _) ?_) hu
  exact list_eqB (R := wants (fun v s' => v ≠ .notImplemented ∧ Q v s') X) l b N g I hl (fun s' q => ⟨(fun x => nomatch x), fin s' q⟩) h
theorem nc_listB {l b : Addr} {N : Nat} {g : Nat → Bool} {Q : Value → Shared → Prop} (hu : A.units < cLine) (I : Shared → Prop) (hl : ListB prog w A X l b N g I)
    (fin : ∀ s, I s → Q (.bool (!allT g N 0)) s) (h : I z) : wpAny (model prog w) A (richCompare .NotEq (.ref l) (.ref b)) Q X z := by
  obtain ⟨xs, ys, n, n2, hl1, hb1, _, _, _⟩ := hl 0 _ h
  refine wpAny_richCompare_same_room (op := .NotEq) ⟨_, hl1, rfl⟩ ⟨_, hb1, rfl⟩ F.slot_list_ne (call_here F.slot_list_ne ⟨_, hl1, rfl⟩ F.entry_list_ne (F.args_list_ne_2 _ _) ?_) hu
  exact list_neB (R := wants (fun v s' => v ≠ .notImplemented ∧ Q v s') X) l b N g I hl (fun s' q => ⟨(fun x => nomatch x), fin s' q⟩) h
theorem rc_tupB {u v : Addr} {as bs : Array Value} {g : Nat → Bool} {Q : Value → Shared → Prop} (room : A.units < cLine) (I : Shared → Prop) (hu : z.heap.IsTuple u as) (hv : z.heap.IsTuple v bs)
    (step : ∀ k (k1 : k < as.size) (k2 : k < bs.size) z, I z → wpAny (model prog w) A.in1 (eqBool as[k] bs[k]) (fun r z' => r = g k ∧ I z') X z)
    (last : ∀ z, I z → Q (.bool (allT g (min as.size bs.size) 0 && as.size == bs.size)) z) (h : I z) : wpAny (model prog w) A (richCompare .Eq (.ref u) (.ref v)) Q X z := by
  obtain ⟨⟨c1, d1, a1, s1⟩, g1, rfl, n1, rfl⟩ := id hu
  obtain ⟨⟨c2, d2, a2, s2⟩, g2, rfl, n2, rfl⟩ := id hv
  exact wpAny_richCompare_same_room (op := .Eq) ⟨_, g1, rfl⟩ ⟨_, g2, rfl⟩ F.slot_tuple_eq (call_here F.slot_tuple_eq ⟨_, g1, rfl⟩ F.entry_tuple_eq (F.args_tuple_eq_2 _ _)
    (tup_eqB (R := wants (fun v s' => v ≠ .notImplemented ∧ Q v s') X) g I _ rfl step (fun z' q => ⟨(fun x => nomatch x), last z' q⟩) g1 g2 h)) room
theorem nc_tupB {u v : Addr} {as bs : Array Value} {g : Nat → Bool} {Q : Value → Shared → Prop} (room : A.units < cLine) (I : Shared → Prop) (hu : z.heap.IsTuple u as) (hv : z.heap.IsTuple v bs)
    (step : ∀ k (k1 : k < as.size) (k2 : k < bs.size) z, I z → wpAny (model prog w) A.in1 (eqBool as[k] bs[k]) (fun r z' => r = g k ∧ I z') X z)
    (last : ∀ z, I z → Q (.bool (!(allT g (min as.size bs.size) 0 && as.size == bs.size))) z) (h : I z) : wpAny (model prog w) A (richCompare .NotEq (.ref u) (.ref v)) Q X z := by
  obtain ⟨⟨c1, d1, a1, s1⟩, g1, rfl, n1, rfl⟩ := id hu
  obtain ⟨⟨c2, d2, a2, s2⟩, g2, rfl, n2, rfl⟩ := id hv
  exact wpAny_richCompare_same_room (op := .NotEq) ⟨_, g1, rfl⟩ ⟨_, g2, rfl⟩ F.slot_tuple_ne (call_here F.slot_tuple_ne ⟨_, g1, rfl⟩ F.entry_tuple_ne (F.args_tuple_ne_2 _ _)
    (tup_neB (R := wants (fun v s' => v ≠ .notImplemented ∧ Q v s') X) g I _ rfl step (fun z' q => ⟨(fun x => nomatch x), last z' q⟩) g1 g2 h)) room
end
end GQ

namespace AZ
open PySem L2 GQ PyProof.Rows
/-- == of two values gives this answer, by the abstract heap -/
abbrev Eqw := V → V → Hp → Bool → Prop
def MonB (D : Eqw) : Prop := ∀ x y H H' r, Ext H H' → D x y H r → D x y H' r
/-- one object is equal to itself -/
def RflB (D : Eqw) : Prop := ∀ a H r, D (.ref a) (.ref a) H r → r = true
def EqB (X : Cx) (n : Nat) (D : Eqw) : Prop :=
  ∀ (A : Around) (pins : List (Addr × Obj)) (s : Shared) (σ : L2.St) (H : Hp) (x y : V) (u v : Value) (r : Bool), Sub X n A → Inv X pins σ H s → RelV x u → RelV y v → D x y H r →
    wpAny (model X.prog X.w) A (eqBool u v) (fun b s' => b = r ∧ LoopI X pins σ H s') X.xe s
def RcB (X : Cx) (n : Nat) (op : CmpOp) (f : Bool → Bool) (D : Eqw) : Prop :=
  ∀ (A : Around) (pins : List (Addr × Obj)) (s : Shared) (σ : L2.St) (H : Hp) (x y : V) (u v : Value) (r : Bool), Sub X n A → Inv X pins σ H s → RelV x u → RelV y v → D x y H r →
    wpAny (model X.prog X.w) A (richCompare op u v) (fun b s' => b = .bool (f r) ∧ LoopI X pins σ H s') X.xe s
section
variable {X : Cx} {n m : Nat} {D D' : Eqw}
theorem EqB.mono (h : EqB X n D) (hn : n ≤ m) : EqB X m D := fun A pins s σ H x y u v r sb => h A pins s σ H x y u v r (sb.mono hn)
theorem EqB.or (h : EqB X n D) (h' : EqB X n D') : EqB X n (fun x y H r => D x y H r ∨ D' x y H r) := fun A pins s σ H x y u v r sb I rx ry d => by
  rcases d with d | d
  · exact h A pins s σ H x y u v r sb I rx ry d
  · exact h' A pins s σ H x y u v r sb I rx ry d
theorem MonB.or (h : MonB D) (h' : MonB D') : MonB (fun x y H r => D x y H r ∨ D' x y H r) := fun x y H H' r e d => d.elim (fun d => .inl (h x y H H' r e d)) fun d => .inr (h' x y H H' r e d)
theorem RflB.or (h : RflB D) (h' : RflB D') : RflB (fun x y H r => D x y H r ∨ D' x y H r) := fun a H r d => d.elim (h a H r) (h' a H r)
/-- flat values -/
def BFlat : Eqw := fun x y _ r => flatV x = true ∧ flatV y = true ∧ eqV x y = r
theorem monB_flat : MonB BFlat := fun _ _ _ _ _ _ d => d
theorem rflB_flat : RflB BFlat := fun a H r d => by
  have := d.1
  cases this
theorem eqB_flat : EqB X 0 BFlat := by
  intro A pins s σ H x y u v r sb I rx ry d
  obtain ⟨fx, fy, e⟩ := d
  have q := eqAt_V (A := A) (s := s) rx ry fx fy
  rw [e] at q
  exact q X.prog X.w X.xe _ ⟨rfl, H, I, Ext.rfl'⟩
/-- item by item, up to the shorter end -/
def PrB (D : Eqw) (xs ys : List V) (H : Hp) (g : Nat → Bool) : Prop := ∀ (i : Nat) x y, xs[i]? = some x → ys[i]? = some y → D x y H (g i)
theorem PrB.mon (hD : MonB D) {xs ys : List V} {H H' : Hp} {g : Nat → Bool} (e : Ext H H') (p : PrB D xs ys H g) : PrB D xs ys H' g := fun i x y h1 h2 => hD x y H H' _ e (p i x y h1 h2)
def BList (D : Eqw) : Eqw := fun x y H r => ∃ a b xs ys, x = .ref a ∧ y = .ref b ∧ H a = some (.lst xs) ∧ H b = some (.lst ys) ∧ ((xs.length ≠ ys.length ∧ r = false) ∨ (xs.length = ys.length ∧ ∃ g, PrB D xs ys H g ∧ r = allT g xs.length 0))
def BTup (K : PySem.W.Frag) (D : Eqw) : Eqw := fun x y H r => ∃ a b xs ys, x = .ref a ∧ y = .ref b ∧ SqT K H a xs ∧ SqT K H b ys ∧ ∃ g, PrB D xs ys H g ∧ r = (allT g (min xs.length ys.length) 0 && xs.length == ys.length)
theorem monB_list (hD : MonB D) : MonB (BList D) := fun x y H H' r e d => by
  obtain ⟨a, b, xs, ys, hx, hy, h1, h2, p⟩ := d
  exact ⟨a, b, xs, ys, hx, hy, e _ _ h1, e _ _ h2, p.elim .inl fun ⟨l, g, p, q⟩ => .inr ⟨l, g, p.mon hD e, q⟩⟩
theorem monB_tup {K : PySem.W.Frag} (hD : MonB D) : MonB (BTup K D) := fun x y H H' r e d => by
  obtain ⟨a, b, xs, ys, hx, hy, h1, h2, g, p, q⟩ := d
  exact ⟨a, b, xs, ys, hx, hy, h1.ext e, h2.ext e, g, p.mon hD e, q⟩
theorem turnB (hD : MonB D) (h : EqB X n D) {A : Around} (sb : Sub X (n + 1) A) {pins : List (Addr × Obj)} {σ : L2.St} {H : Hp} {xs ys : List V} {its its2 : List Value} {g : Nat → Bool} (p : PrB D xs ys H g) (r : Vals xs its) (r2 : Vals ys its2)
    (i : Nat) (h1 : i < its.toArray.size) (h2 : i < its2.toArray.size) (s' : Shared) (l : LoopI X pins σ H s') :
    wpAny (model X.prog X.w) A.in1 (eqBool its.toArray[i] its2.toArray[i]) (fun r s2 => r = g i ∧ LoopI X pins σ H s2) X.xe s' := by
  obtain ⟨H1, I1, e1⟩ := l
  have g1 : its[i]? = some its.toArray[i] := by
    have h1' : i < its.length := by simpa using h1
    rw [List.getElem?_eq_getElem h1'] <;> simp
  have g2 : its2[i]? = some its2.toArray[i] := by
    have h2' : i < its2.length := by simpa using h2
    rw [List.getElem?_eq_getElem h2'] <;> simp
  have k1 : i < xs.length := by rw [r.length]; simpa using h1
  have k2 : i < ys.length := by rw [r2.length]; simpa using h2
  obtain ⟨u, hu, ru⟩ := r.get (List.getElem?_eq_getElem k1)
  obtain ⟨v, hv, rv⟩ := r2.get (List.getElem?_eq_getElem k2)
  rw [g1] at hu
  rw [g2] at hv
  rw [Option.some.inj hu, Option.some.inj hv]
  refine wpAny_mono (h A.in1 pins s' σ H1 _ _ u v _ sb.in1 I1 ru rv (hD _ _ _ _ _ e1 (p i _ _ (List.getElem?_eq_getElem k1) (List.getElem?_eq_getElem k2)))) (fun r s2 q => ?_) fun _ _ x => x
  obtain ⟨hr, H2, I2, e2⟩ := q
  exact ⟨hr, H2, I2, e1.trans e2⟩
theorem listB (hD : MonB D) (h : EqB X n D) {A : Around} (sb : Sub X (n + 1) A) {pins : List (Addr × Obj)} {σ : L2.St} {H : Hp} {a b : Addr} {xs ys : List V} {g : Nat → Bool} (ha : H a = some (.lst xs)) (hb : H b = some (.lst ys)) (hl : xs.length = ys.length) (p : PrB D xs ys H g) :
    ListB X.prog X.w A X.xe a b xs.length g (fun s' => LoopI X pins σ H s') := by
  intro i s' q
  obtain ⟨H1, I1, e1⟩ := id q
  obtain ⟨z, its, k, r, e⟩ := I1.hok a _ (e1 _ _ ha)
  obtain ⟨z2, its2, k2, r2, e2⟩ := I1.hok b _ (e1 _ _ hb)
  refine ⟨its.toArray, its2.toArray, k, k2, e, e2, by rw [List.size_toArray, ← r.length], by rw [List.size_toArray, ← r2.length, ← hl], fun h1 h2 => ?_⟩
  exact turnB hD h sb p r r2 i h1 h2 s' q
theorem rcB_list (hD : MonB D) (h : EqB X n D) : RcB X (n + 1) .Eq id (BList D) := by
  intro A pins s σ H x y u v r sb I rx ry d
  obtain ⟨a, b, xs, ys, rfl, rfl, ha, hb, p⟩ := d
  cases rx
  cases ry
  rcases p with ⟨ne, rfl⟩ | ⟨hl, g, p, rfl⟩
  · obtain ⟨z, its, k, r, e⟩ := I.hok a _ ha
    obtain ⟨z2, its2, k2, r2, e2⟩ := I.hok b _ hb
    exact GQ.eq_lists_diff sb.room.units0 e e2 (by rw [List.size_toArray, List.size_toArray, ← r.length, ← r2.length]; exact ne) ⟨rfl, H, I, Ext.rfl'⟩
  · exact GQ.rc_listB (g := g) sb.room.units0 (fun s' => LoopI X pins σ H s') (listB hD h sb ha hb hl p) (fun s' q => ⟨rfl, q⟩) ⟨H, I, Ext.rfl'⟩
theorem ncB_list (hD : MonB D) (h : EqB X n D) : RcB X (n + 1) .NotEq not (BList D) := by
  intro A pins s σ H x y u v r sb I rx ry d
  obtain ⟨a, b, xs, ys, rfl, rfl, ha, hb, p⟩ := d
  cases rx
  cases ry
  rcases p with ⟨ne, rfl⟩ | ⟨hl, g, p, rfl⟩
  · obtain ⟨z, its, k, r, e⟩ := I.hok a _ ha
    obtain ⟨z2, its2, k2, r2, e2⟩ := I.hok b _ hb
    exact GQ.ne_lists_diff sb.room.units0 e e2 (by rw [List.size_toArray, List.size_toArray, ← r.length, ← r2.length]; exact ne) ⟨rfl, H, I, Ext.rfl'⟩
  · exact GQ.nc_listB (g := g) sb.room.units0 (fun s' => LoopI X pins σ H s') (listB hD h sb ha hb hl p) (fun s' q => ⟨rfl, q⟩) ⟨H, I, Ext.rfl'⟩
theorem rcB_tup (hD : MonB D) (h : EqB X n D) : RcB X (n + 1) .Eq id (BTup X.K D) := by
  intro A pins s σ H x y u v r sb I rx ry d
  obtain ⟨a, b, xs, ys, rfl, rfl, ha, hb, g, p, rfl⟩ := d
  cases rx
  cases ry
  obtain ⟨its, r, e, z⟩ := I.tuple ha
  obtain ⟨its2, r2, e2, z2⟩ := I.tuple hb
  have s1 : its.toArray.size = xs.length := by rw [List.size_toArray, ← r.length]
  have s2 : its2.toArray.size = ys.length := by rw [List.size_toArray, ← r2.length]
  refine GQ.rc_tupB (g := g) sb.room.units0 (fun s' => LoopI X pins σ H s') e e2 (fun i h1 h2 s' q => turnB hD h sb p r r2 i h1 h2 s' q) (fun s' q => ⟨?_, q⟩) ⟨H, I, Ext.rfl'⟩
  rw [s1, s2]
  rfl
theorem ncB_tup (hD : MonB D) (h : EqB X n D) : RcB X (n + 1) .NotEq not (BTup X.K D) := by
  intro A pins s σ H x y u v r sb I rx ry d
  obtain ⟨a, b, xs, ys, rfl, rfl, ha, hb, g, p, rfl⟩ := d
  cases rx
  cases ry
  obtain ⟨its, r, e, z⟩ := I.tuple ha
  obtain ⟨its2, r2, e2, z2⟩ := I.tuple hb
  have s1 : its.toArray.size = xs.length := by rw [List.size_toArray, ← r.length]
  have s2 : its2.toArray.size = ys.length := by rw [List.size_toArray, ← r2.length]
  refine GQ.nc_tupB (g := g) sb.room.units0 (fun s' => LoopI X pins σ H s') e e2 (fun i h1 h2 s' q => turnB hD h sb p r r2 i h1 h2 s' q) (fun s' q => ⟨?_, q⟩) ⟨H, I, Ext.rfl'⟩
  rw [s1, s2]
theorem RcB.eqB (h : RcB X n .Eq id D) (hr : ∀ x y H r, D x y H r → ∃ a b, x = .ref a ∧ y = .ref b) (rf : RflB D) : EqB X n D := by
  intro A pins s σ H x y u v r sb I rx ry d
  obtain ⟨a, b, rfl, rfl⟩ := hr _ _ _ _ d
  cases rx
  cases ry
  by_cases hab : a = b
  · subst hab
    rw [rf _ _ _ d]
    exact SeqAt.EqAt.same (A := A) (s := s) (.ref a) X.prog X.w X.xe _ ⟨rfl, H, I, Ext.rfl'⟩
  · refine GQ.eqBool_refG hab (wpAny_mono (h A pins s σ H (.ref a) (.ref b) _ _ r sb I rfl rfl d) (fun b' s' q => ?_) fun _ _ x => x)
    obtain ⟨hr', q⟩ := q
    exact ⟨r, hr', rfl, q⟩
theorem allT_true {g : Nat → Bool} {N : Nat} (h : ∀ i, i < N → g i = true) : allT g N 0 = true := by
  unfold allT
  rw [List.drop_zero, List.all_eq_true]
  intro i hi
  exact h i (List.mem_range.mp hi)
/-- flat or one object -/
def RflF (D : Eqw) : Prop := ∀ x H r, D x x H r → r = true
theorem rflF_flat : RflF BFlat := fun x H r d => by
  obtain ⟨h1, h2, h3⟩ := d
  rw [← h3]
  cases x with
  | non => rfl
  | bl b => cases b <;> rfl
  | int i => show (i == i) = true; simp
  | str s => show (s == s) = true; simp
  | ref a => cases h1
  | _ => cases h1
theorem RflF.b (h : RflF D) : RflB D := fun a H r d => h _ _ _ d
theorem RflF.or (h : RflF D) (h' : RflF D') : RflF (fun x y H r => D x y H r ∨ D' x y H r) := fun x H r d => d.elim (h x H r) (h' x H r)
theorem rflF_list (h : RflF D) : RflF (BList D) := fun x H r d => by
  obtain ⟨a, b, xs, ys, e1, e2, h1, h2, p⟩ := d
  rw [e1] at e2
  injection e2 with e2
  subst e2
  rw [h1] at h2
  injection h2 with h2
  injection h2 with h2
  subst h2
  rcases p with ⟨ne, _⟩ | ⟨_, g, p, rfl⟩
  · exact absurd rfl ne
  · exact allT_true fun i hi => h _ _ _ (p i _ _ (List.getElem?_eq_getElem hi) (List.getElem?_eq_getElem hi))
theorem sqT_uniq {K : PySem.W.Frag} {H : Hp} {a : Addr} {xs ys : List V} (h1 : H a = some (.tup xs)) (h2 : SqT K H a ys) : xs = ys ∨ H a ≠ some (.tup ys) := by
  by_cases h : xs = ys
  · exact .inl h
  · refine .inr fun e => h ?_
    rw [h1] at e
    injection e with e
    injection e
/-- tuples that the abstract heap knows -/
def BTu (D : Eqw) : Eqw := fun x y H r => ∃ a b xs ys, x = .ref a ∧ y = .ref b ∧ H a = some (.tup xs) ∧ H b = some (.tup ys) ∧ ∃ g, PrB D xs ys H g ∧ r = (allT g (min xs.length ys.length) 0 && xs.length == ys.length)
theorem monB_tu (hD : MonB D) : MonB (BTu D) := fun x y H H' r e d => by
  obtain ⟨a, b, xs, ys, hx, hy, h1, h2, g, p, q⟩ := d
  exact ⟨a, b, xs, ys, hx, hy, e _ _ h1, e _ _ h2, g, p.mon hD e, q⟩
theorem BTu.tup {x y : V} {H : Hp} {r : Bool} {K : PySem.W.Frag} (h : BTu D x y H r) : BTup K D x y H r := by
  obtain ⟨a, b, xs, ys, hx, hy, h1, h2, g, p, q⟩ := h
  exact ⟨a, b, xs, ys, hx, hy, SqT.of h1, SqT.of h2, g, p, q⟩
theorem rflF_tu (h : RflF D) : RflF (BTu D) := fun x H r d => by
  obtain ⟨a, b, xs, ys, e1, e2, h1, h2, g, p, rfl⟩ := d
  rw [e1] at e2
  injection e2 with e2
  subst e2
  rw [h1] at h2
  injection h2 with h2
  injection h2 with h2
  subst h2
  rw [Nat.min_self, allT_true fun i hi => h _ _ _ (p i _ _ (List.getElem?_eq_getElem hi) (List.getElem?_eq_getElem hi))]
  simp
theorem rcB_tu (hD : MonB D) (h : EqB X n D) : RcB X (n + 1) .Eq id (BTu D) := fun A pins s σ H x y u v r sb I rx ry d => rcB_tup hD h A pins s σ H x y u v r sb I rx ry d.tup
theorem ncB_tu (hD : MonB D) (h : EqB X n D) : RcB X (n + 1) .NotEq not (BTu D) := fun A pins s σ H x y u v r sb I rx ry d => ncB_tup hD h A pins s σ H x y u v r sb I rx ry d.tup
theorem eqB_list (hD : MonB D) (h : EqB X n D) (rf : RflF D) : EqB X (n + 1) (BList D) := (rcB_list hD h).eqB (fun _ _ _ _ d => let ⟨a, b, _, _, hx, hy, _⟩ := d; ⟨a, b, hx, hy⟩) (rflF_list rf).b
theorem eqB_tu (hD : MonB D) (h : EqB X n D) (rf : RflF D) : EqB X (n + 1) (BTu D) := (rcB_tu hD h).eqB (fun _ _ _ _ d => let ⟨a, b, _, _, hx, hy, _⟩ := d; ⟨a, b, hx, hy⟩) (rflF_tu rf).b
/-- x == y, x != y as expressions -/
def rEqB (D : Eqw) : R2 := fun x y H Q => ∃ r, D x y H r ∧ ∀ H', Ext H H' → Q (.bl r) H'
def rNeB (D : Eqw) : R2 := fun x y H Q => ∃ r, D x y H r ∧ ∀ H', Ext H H' → Q (.bl (!r)) H'
theorem op_eqB (h : RcB X n .Eq id D) (hr : Room n X.A) : OpR X (compareOp .Eq) (rEqB D) := by
  intro pins s σ H x y v u Q I rx ry hq
  obtain ⟨r, d, q⟩ := hq
  show wpAny (model X.prog X.w) X.A (richCompare .Eq v u) (EP X pins σ Q) X.xe s
  refine wpAny_mono (h X.A pins s σ H x y v u r ⟨hr, rfl⟩ I rx ry d) (fun b s' z => ?_) fun _ _ x => x
  obtain ⟨hr', H', I', e⟩ := z
  subst hr'
  exact ⟨.bl r, H', I', rfl, q H' e⟩
theorem op_neB (h : RcB X n .NotEq not D) (hr : Room n X.A) : OpR X (compareOp .NotEq) (rNeB D) := by
  intro pins s σ H x y v u Q I rx ry hq
  obtain ⟨r, d, q⟩ := hq
  show wpAny (model X.prog X.w) X.A (richCompare .NotEq v u) (EP X pins σ Q) X.xe s
  refine wpAny_mono (h X.A pins s σ H x y v u r ⟨hr, rfl⟩ I rx ry d) (fun b s' z => ?_) fun _ _ x => x
  obtain ⟨hr', H', I', e⟩ := z
  subst hr'
  exact ⟨.bl (!r), H', I', rfl, q H' e⟩
/-- an own == , whatever it answers -/
def BOwn (C : Addr) (R : Addr → V → Hp → Bool → Prop) : Eqw := fun x y H r => ∃ a dx fs, x = .ref a ∧ H a = some (.ins C dx fs) ∧ RightI C H y ∧ R a y H r
def spEqB (R : Addr → V → Hp → Bool → Prop) : Sp := fun vs H Q _ => ∃ a y r, vs = [.ref a, y] ∧ R a y H r ∧ ∀ H', Ext H H' → Q (.bl r) H'
theorem monB_own {C : Addr} {R : Addr → V → Hp → Bool → Prop} (hR : ∀ a b H H' r, Ext H H' → R a b H r → R a b H' r) : MonB (BOwn C R) := fun x y H H' r e d => by
  obtain ⟨a, dx, fs, hx, h1, h2, z⟩ := d
  exact ⟨a, dx, fs, hx, e _ _ h1, h2.elim .inl fun ⟨b, dy, gs, hy, h⟩ => .inr ⟨b, dy, gs, hy, e _ _ h⟩, hR a y H H' r e z⟩
theorem rflF_own {C : Addr} {R : Addr → V → Hp → Bool → Prop} (hR : ∀ a H r, R a (.ref a) H r → r = true) : RflF (BOwn C R) := fun x H r d => by
  obtain ⟨a, dx, fs, rfl, h1, h2, z⟩ := d
  exact hR a H r z
theorem eqB_own {CX : CXT} {C f : Addr} {R : Addr → V → Hp → Bool → Prop} {E : XK} (F : FnR X.prog X.w X.K X.mg X.base CX n f (spEqB R)) (M : CmpM X.K C .Eq f) (hx : Passes CX X E) (hR : ∀ a H r, R a (.ref a) H r → r = true) : EqB X n (BOwn C R) := by
  intro A pins s σ H x y u v r sb I rx ry d
  obtain ⟨a, dx, fs, rfl, ha, hRI, hr⟩ := d
  obtain rfl : u = Value.ref a := rx
  have hsp : spEqB R [.ref a, y] H (fun v H' => v = .bl r ∧ Ext H H') E := ⟨a, y, r, rfl, hr, fun H' e => ⟨rfl, e⟩⟩
  have hc : wpAny (model X.prog X.w) A (call (.ref f) [.ref a, v]) (PySem.W.CmpBack (fun v s' => ∃ b, v = .bool b ∧ (fun b s' => b = r ∧ ∃ H', Inv X pins σ H' s' ∧ Ext H H') b s')) X.xe s :=
    thn (wpAny_call (run_fnS (us := [.ref a, v]) (vs := [.ref a, y]) sb F hx I (.cons rfl (.cons ry .nil)) hsp)) fun v s1 z => by
      obtain ⟨z, H1, I1, rz, rfl, e⟩ := z
      obtain rfl : v = Value.bool r := rz
      exact ⟨r, rfl, rfl, H1, I1, e⟩
  by_cases hab : Value.ref a = v
  · subst hab
    obtain rfl : y = .ref a := by
      cases y with
      | ref b => exact congrArg V.ref (by injection (show Value.ref a = Value.ref b from ry) with e; exact e.symm)
      | _ => first | (obtain ⟨t, e⟩ := (show ∃ t, _ from ry); cases e) | cases ry
    rw [hR a H r hr]
    exact SeqAt.EqAt.same (A := A) (s := s) (.ref a) X.prog X.w X.xe _ ⟨rfl, H, I, Ext.rfl'⟩
  refine eqBool_refV hab ?_
  obtain ⟨mA, J, _⟩ := ins_get I.hok ha
  obtain ⟨od, J, _⟩ := J.look
  obtain ⟨m, hF⟩ := I.fr
  rcases hRI with ⟨j, rfl⟩ | ⟨b, dy, gs, rfl, hb⟩
  · obtain ⟨t, rfl⟩ := ry
    exact PySem.W.cmp_K (op := .Eq) (tb := .type "int") sb.room.units0 hF I.ok.mod.kin J (PySem.W.Looks.of_pure rfl) M.hn M.hs M.hf hc
  · obtain rfl : v = Value.ref b := ry
    obtain ⟨mB, J2, _⟩ := ins_get I.hok hb
    obtain ⟨od2, J2, _⟩ := J2.look
    exact PySem.W.cmp_K (op := .Eq) (tb := .ref C) sb.room.units0 hF I.ok.mod.kin J J2.type (by simp [PySem.W.notFirst]) M.hs M.hf hc
end
theorem pz_at {α β : Type} {R : α → β → Prop} : ∀ {xs : List α} {ys : List β} {i : Nat} {x : α}, Paired R xs ys → xs[i]? = some x → ∃ y, ys[i]? = some y ∧ R x y
  | _, _, 0, _, .cons h _, e => ⟨_, rfl, by simp at e; subst e; exact h⟩
  | _, _, i + 1, _, .cons _ r, e => by
    obtain ⟨y, e', h⟩ := pz_at (i := i) r (by simpa using e)
    exact ⟨y, by simpa using e', h⟩
theorem pz_len {α β : Type} {R : α → β → Prop} : ∀ {xs : List α} {ys : List β}, Paired R xs ys → xs.length = ys.length
  | _, _, .nil => rfl
  | _, _, .cons _ r => by simp [pz_len r]
/-- two lists that stand for two lists: equal if these are -/
theorem prB_of {α : Type} [DecidableEq α] {D : Eqw} {R S : V → α → Prop} {H : Hp} (f : ∀ x y m n, R x m → S y n → D x y H (decide (m = n))) {xs ys : List V} {ms ns : List α} (h1 : Paired R xs ms) (h2 : Paired S ys ns) :
    PrB D xs ys H (fun i => decide (ms[i]? = ns[i]?)) := by
  intro i x y hx hy
  obtain ⟨m, hm, rm⟩ := pz_at h1 hx
  obtain ⟨n, hn, rn⟩ := pz_at h2 hy
  have := f x y m n rm rn
  show D x y H (decide (ms[i]? = ns[i]?))
  rw [hm, hn]
  simpa using this
theorem allT_eq {α : Type} [DecidableEq α] {ms ns : List α} (hl : ms.length = ns.length) : allT (fun i => decide (ms[i]? = ns[i]?)) ms.length 0 = decide (ms = ns) := by
  by_cases h : ms = ns
  · subst h
    rw [decide_eq_true rfl]
    exact allT_true fun i _ => decide_eq_true rfl
  · rw [decide_eq_false h]
    refine (Bool.not_eq_true _).mp fun e => h (List.ext_getElem? fun i => ?_)
    by_cases hi : i < ms.length
    · unfold allT at e
      rw [List.drop_zero, List.all_eq_true] at e
      exact of_decide_eq_true (e i (List.mem_range.mpr hi))
    · rw [List.getElem?_eq_none (by omega), List.getElem?_eq_none (by omega)]
theorem bList_of {α : Type} [DecidableEq α] {D : Eqw} {R S : V → α → Prop} {H : Hp} (f : ∀ x y m n, R x m → S y n → D x y H (decide (m = n))) {a b : Addr} {xs ys : List V} {ms ns : List α} (ha : H a = some (.lst xs)) (hb : H b = some (.lst ys)) (h1 : Paired R xs ms) (h2 : Paired S ys ns) :
    BList D (.ref a) (.ref b) H (decide (ms = ns)) := by
  refine ⟨a, b, xs, ys, rfl, rfl, ha, hb, ?_⟩
  by_cases hl : xs.length = ys.length
  · refine .inr ⟨hl, _, prB_of f h1 h2, ?_⟩
    rw [pz_len h1, allT_eq (by rw [← pz_len h1, ← pz_len h2]; exact hl)]
  · refine .inl ⟨hl, decide_eq_false fun e => hl ?_⟩
    rw [pz_len h1, pz_len h2, e]
theorem bTu_of {α : Type} [DecidableEq α] {D : Eqw} {R S : V → α → Prop} {H : Hp} (f : ∀ x y m n, R x m → S y n → D x y H (decide (m = n))) {a b : Addr} {xs ys : List V} {ms ns : List α} (ha : H a = some (.tup xs)) (hb : H b = some (.tup ys)) (h1 : Paired R xs ms) (h2 : Paired S ys ns) :
    BTu D (.ref a) (.ref b) H (decide (ms = ns)) := by
  refine ⟨a, b, xs, ys, rfl, rfl, ha, hb, _, prB_of f h1 h2, ?_⟩
  by_cases hl : xs.length = ys.length
  · rw [← hl, Nat.min_self, pz_len h1, allT_eq (by rw [← pz_len h1, ← pz_len h2]; exact hl)]
    simp
  · rw [show (xs.length == ys.length) = false from by simpa using hl, Bool.and_false]
    exact decide_eq_false fun e => hl (by rw [pz_len h1, pz_len h2, e])
end AZ

set_option Elab.async false
set_option maxRecDepth 100000
set_option maxHeartbeats 4000000
set_option linter.all false
/-! Own work: texts of own values within comprehensions, str of a text. -/
namespace AZ
open PySem L2
section
variable {X : Cx}
/-- {x} of a text or an own value; all that it stands on is told outside -/
def tFmtF (C : Addr) (sp : Sp) (E : XK) (te : TE) : TE := fun σ H Q => te σ H fun x H1 => (∃ y : Str, x = .str y ∧ y.length ≤ sizeLine ∧ Q (.str y) H1) ∨ ∃ (a dx : Addr) (fs : List (Str × V)), x = .ref a ∧ H1 a = some (.ins C dx fs) ∧ sp [x] H1 (fun v H2 => ∃ z, v = .str z ∧ Q (.str z) H2) E
theorem pe_fmtF {C f : Addr} {CX : CXT} {k : Nat} {sp : Sp} {E : XK} {e : Expr} {te : TE} {pos : Pos} (M : StrM X.K C f) (F : FnR X.prog X.w X.K X.mg X.base CX k f sp) (hr : Room (k + 1) X.A) (hx : Passes CX X E) (he : PE X e te) : PE X (.FormattedValue e (-1) none pos) (tFmtF C sp E te) := by
  refine ⟨fun pins s σ H Q I h => ?_⟩
  refine wpAny_FormattedValue_plain (thn (he.run pins s σ H _ I h) fun v s1 hv => ?_)
  obtain ⟨x, H1, I1, r1, q⟩ := hv
  rcases q with ⟨y, rfl, hz, q⟩ | ⟨a, dx, fs, rfl, ha, hs⟩
  · obtain ⟨t, rfl⟩ := r1
    exact wpAny_formatField_str ⟨.str y, H1, I1, ⟨t, rfl⟩, q⟩ ⟨.str y, H1, I1.tok _, ⟨_, rfl⟩, q⟩ hz
  · obtain rfl : v = Value.ref a := r1
    have I2 := I1.tok (s1.toks + 1)
    have hc : wpAny (model X.prog X.w) X.A.in1 (call (.ref f) [.ref a]) (PySem.W.StrBack (EP X pins σ Q)) X.xe { s1 with toks := s1.toks + 1 } :=
      thn (wpAny_call (run_fnS (us := [.ref a]) (vs := [.ref a]) ⟨hr.in1, rfl⟩ F hx I2 (.cons rfl .nil) hs)) fun v s3 z => strBack_of z
    obtain ⟨mA, J, _⟩ := ins_get I1.hok ha
    obtain ⟨od, J, _⟩ := J.look
    exact PySem.W.kfo_fieldS hr.in1.units0 I1.kIn J M.hfm M.hm M.hs M.hf hc
theorem uStrS : CallR X (.type "str") (fun xs H Q => ((∃ i, xs = [.int i] ∧ i.natAbs.log2 < 1920 ∧ Q (.str (toString i)) H) ∨ ∃ x, xs = [x] ∧ rStrO X 2 x H Q) ∨ ∃ a, xs = [.str a] ∧ Q (.str a) H) := CallR.or' uStr SkE.call_str_str
end
/-- a comprehension over two lists of one length -/
theorem lc_zipL {K : PySem.W.Frag} {a b : Addr} {xs ys : List V} {g : TG} {tt : TT} {te : TE} {vs : List Nat} {σ : L2.St} {H1 : Hp} {D : Addr} {Qd : Hp → Prop} (hl : xs.length = ys.length) (Pv : Nat → Hp → Prop) (h0 : Pv 0 (upd H1 D (.lst []))) (hq : ∀ i H, Pv i H → SqL K H a xs ∧ SqL K H b ys)
    (hs : ∀ i x y T H, xs[i]? = some x → ys[i]? = some y → H T = none → Pv i H → g (.ref T) (wipe σ vs) (upd H T (.tup [x, y])) fun σ2 H2 => wipe σ2 vs = wipe σ vs ∧ tt σ2 H2 fun b H3 =>
      if b = true then te σ2 H3 fun y H4 => ∃ acc, H4 D = some (.lst acc) ∧ acc.length < sizeLine ∧ Pv (i + 1) (upd H4 D (.lst (acc ++ [y]))) else Pv (i + 1) H3) (hd : ∀ H, Pv xs.length H → Qd H) :
    ∃ W : Nat → Nat → Hp → Prop, (∃ m, W 0 m (upd H1 D (.lst []))) ∧ ∀ i m H, W i m H →
      ((Itz K a b).stop i H ∧ Qd H) ∨ ((Itz K a b).go i H ∧ ∃ Nx : Hp → Prop, (∀ H', Nx H' → ∃ m', m' < m ∧ W (i + 1) m' H') ∧ ∀ x H', (Itz K a b).yld i H x H' → g x (wipe σ vs) H' fun σ2 H2 => wipe σ2 vs = wipe σ vs ∧ tt σ2 H2 fun b H3 =>
        if b = true then te σ2 H3 fun y H4 => ∃ acc, H4 D = some (.lst acc) ∧ acc.length < sizeLine ∧ Nx (upd H4 D (.lst (acc ++ [y]))) else Nx H3) := by
  refine ⟨fun i m H => m = xs.length - i ∧ i ≤ xs.length ∧ Pv i H, ⟨xs.length, by simp, Nat.zero_le _, h0⟩, ?_⟩
  rintro i m H ⟨rfl, hi, p⟩
  obtain ⟨qx, qy⟩ := hq i H p
  by_cases hlt : i < xs.length
  · refine .inr ⟨⟨xs, ys, xs[i], ys[i]'(by omega), qx, qy, by simp [hlt], by simp [show i < ys.length by omega]⟩, Pv (i + 1), fun H' p' => ⟨xs.length - (i + 1), by omega, rfl, hlt, p'⟩, fun v H' z => ?_⟩
    obtain ⟨T, x, y, rfl, hT, rfl, hx, hy⟩ := z
    exact hs i x y T H (hx xs qx) (hy ys qy) hT p
  · have e : i = xs.length := by omega
    subst e
    exact .inl ⟨⟨xs, ys, qx, qy, Or.inl (Nat.le_refl _)⟩, hd H p⟩
theorem kit_vr {K : PySem.W.Frag} {v : Value} {C : Addr} {b : Bool} (n : (v == Value.ref C) = false) (c : PySem.W.isClsIn K C = true) (t : PySem.W.typeIn K (.ref C) = some (.type "type")) (h : PySem.W.subIn K v (.ref C) = some b) : PySem.W.kitOne K v (.ref C) = some b := by
  unfold PySem.W.kitOne PySem.W.kitCls
  rw [n, if_neg (by decide)]
  dsimp only
  rw [if_pos (by rw [show (PySem.W.clsIn K C).isSome = true from c, t]; rfl)]
  exact h
end AZ

set_option Elab.async false
set_option maxRecDepth 100000
set_option maxHeartbeats 4000000
set_option linter.all false
/-! Own work: lists of ranges; own instances walked. -/
namespace AZ
open PySem L2
theorem rgV_nat (a n : Nat) : rgV (a : Int) ((a + n : Nat) : Int) = (List.range' a n).map fun i => V.int ((i : Nat) : Int) := by
  unfold rgV
  rw [show (((a + n : Nat) : Int) - (a : Int)).toNat = n by omega, List.range'_eq_map_range, List.map_map]
  refine List.map_congr_left fun i _ => ?_
  show V.int ((a : Int) + (i : Int)) = V.int ((a + i : Nat) : Int)
  rw [Int.natCast_add]
section
variable {X : Cx} {C f : Addr} {k : Nat} {CX : CXT} {sp : Sp} {E : XK}
/-- an own binary operator, told without the context -/
def rBF (C : Addr) (sp : Sp) (E : XK) : R2 := fun x y H Q => ∃ (a dx : Addr) (fs : List (Str × V)), x = .ref a ∧ H a = some (.ins C dx fs) ∧ RightI C H y ∧ sp [x, y] H Q E
theorem op_ownBF {op : Operator} (M : BinM X.K C op f) (F : FnR X.prog X.w X.K X.mg X.base CX k f sp) (hr : Room k X.A) (hx : Passes CX X E) : OpR X (binaryOp op) (rBF C sp E) :=
  opBy (op_ownB op) fun _ _ _ _ ⟨a, dx, fs, h1, h2, h3, h4⟩ => ⟨a, C, dx, fs, f, CX, k, sp, E, h1, h2, h3, M, F, hr, hx, h4⟩
end
section
variable {X : Cx} {K : PySem.W.Frag}
theorem sl_tupK (h : X.K = K) : SlR X (rSlT K) := by
  subst h
  exact sl_tup
end
end AZ

set_option Elab.async false
set_option maxRecDepth 100000
set_option maxHeartbeats 4000000
set_option linter.all false
/-! Own work: iter(a tuple) as a value; a walk over an own instance whose __iter__ returns a tuple's iterator. -/
namespace AZ
open PySem L2 PySem.Spec PyProof.Rows
abbrev tuIt (t : Addr) : Obj := { cls := .type "tuple_iterator", data := .fields #[.ref t, .int 0 0] }
def ItT (t it : Addr) : HO := .ext fun h => h.get? it = some (tuIt t)
theorem itT_ok {P : Program} {w : World} {H : Hp} {h : Heap} {t it : Addr} (e : h.get? it = some (tuIt t)) : ObjOk P w H h it (ItT t it) := ⟨e, ⟨_, e⟩, fun h1 h2 q k => k _ q⟩
/-- iter(t) of a tuple -/
def rIterT (K : PySem.W.Frag) (n : Nat) : List V → Hp → VK → Prop := fun xs H Q => ∃ (t : Addr) (zs : List V), xs = [.ref t] ∧ SqT K H t zs ∧ ∀ it, H it = Option.none → n ≤ it → Q (.ref it) (upd H it (ItT t it))
section
variable {prog : Program} {w : World} {A : Around} {E : Value → Shared → Prop} {s : Shared} {l : Addr} {items : Array Value}
theorem iter_tuple {Q : Value → Shared → Prop} (hl : s.heap.IsTuple l items) (h : Q (.ref s.heap.objs.size) { s with heap := s.heap.push (tuIt l) }) : wpAny (model prog w) A (call (.builtin "iter") [.ref l]) Q E s := by
  refine Calls.call_function_entry (by decide +kernel) (by decide +kernel) PySem.W.kdk_entry_iter (PySem.W.kdk_args_iter _) ?_
  unfold Builtin.«iter»
  refine wpAny_bind (m := someArgs "iter" 1 2 _) (wpAny_of_eq (a := [Value.ref l]) (by first | rfl | kernel_rfl!) ?_)
  show wpAny _ _ (pyIter (.ref l) >>= _) _ _ _
  refine wpAny_bind (wpAny_pyIter_tuple hl ?_)
  exact wpAny_pure ⟨_, rfl, h⟩
end
section
variable {X : Cx}
theorem call_iterT : CallR X (.builtin "iter") (rIterT X.K X.s_0.heap.objs.size) := by
  intro pins s σ H xs us Q I r h
  obtain ⟨t, zs, rfl, hq, q⟩ := h
  obtain ⟨u, rfl, ru⟩ := vals1 r
  cases ru
  obtain ⟨its, rv, p, hz⟩ := I.tuple hq
  refine iter_tuple (show s.heap.IsTuple t its.toArray from p) ?_
  exact ⟨.ref s.heap.objs.size, _, I.laid (t' := s.toks) (fun b u e => Heap.get?_push_of_some _ e) (Nat.le_refl _) (itT_ok (Heap.get?_push_size _ rfl)), rfl, q _ (I.hok.fresh (Nat.le_refl _)) I.sz⟩
end
/-! ### defs whose promise speaks of the size of the heap at the call -/
def FnN (P : Program) (w : World) (K : PySem.W.Frag) (mg : Str → Option Value) (base : Heap) (CX : CXT) (k : Nat) (f : Addr) (sp : Nat → Sp) : Prop := ∀ (A : Around) (out : List Env) (z : Shared) (G : Hp) (us : List Value) (vs : List V) (Q : VK) (E : XK), Room k A → Env0 P w K mg base A out z G → Vals vs us → sp z.heap.objs.size vs G Q E →
  codeAny (model P w) A (.call (.ref f) ⟨us, []⟩) (CR CX out P w G z Q E) z
section
variable {P : Program} {w : World} {K : PySem.W.Frag} {mg : Str → Option Value} {base : Heap} {x qual : Str} {st : Stmt} {f : Addr} {fd : FuncData} {N ps : List Str} {k : Nat} {sp : Nat → Sp}
theorem fnN_of (F : Fun K x qual st f fd) (S : FnScope N ps (defScope st)) (len : ∀ n vs H Q E, sp n vs H Q E → vs.length = ps.length)
    (bd : ∀ (cdv : Value) (A : Around) (out : List Env) (z : Shared) (G : Hp) (vs : List V) (Q : VK) (E : XK), Room k (A.deeper (envOfC qual (defScope st) z.heap.objs.size f cdv)) → sp z.heap.objs.size vs G Q E →
      ∃ t, PSs (cxOf CX0 P w K mg base N qual (defScope st) f cdv A out z G E).nox (defBody st) t ∧ t { nx := fun _ H' => Q .non H', rt := Q } (start N vs) G)
    (hb : Binds K fd ps []) : FnN P w K mg base CX0 (k + 1) f sp := by
  obtain ⟨oc, od, kV, doc, pm, an, cdv, ct, osl, rfl, look, rec⟩ := F.ex
  intro A out z G us vs Q E room env vals prom
  have keep : ∀ b o, base.get? b = some o → z.heap.get? b = some o := fun b o e => (env.bs b o e).1
  have kin := env.mod.kin.keeps keep
  have many : us.length = ps.length := vals.length.symm.trans (len _ _ _ _ _ prom)
  have bnd := hb z us kin (by rw [List.append_nil]; exact many)
  rw [List.append_nil] at bnd
  have kinds : ∀ y ∈ ps.zip us, (defScope st).names.lookup y.1 = some .local ∨
      ((defScope st).names.lookup y.1 = some .cell ∧ ((cellsFrom (z.heap.objs.size + 1) (defScope st).names []).lookup y.1).isSome = true) := by
    rintro ⟨n, v⟩ there
    exact (S.par n (List.of_mem_zip there).1).imp id fun c => ⟨c, PySem.W.cellsFrom_some _ _ _ (.inl c)⟩
  refine codeAny_call_function room.depth (kin _ _ look) rfl S.co S.gen rfl (PySem.W.codeRec_of kin rec) (bnd _ _ _ _ (wpAny_newFunctionEnv_cells S.kind kinds ?_))
  rintro env2 rfl z1 made
  refine ⟨(env.mod.nolimit.keeps keep).keeps made.toInCall.keep, codeAny_func ?_⟩
  obtain ⟨t, body, run⟩ := bd cdv A out z G vs Q E (room.deeper _) prom
  exact wpAny_mono (body.nox.run [] z1 (start N vs) G _ (inv_start S room.hd env (len _ _ _ _ _ prom) vals made) run) (fun fl z2 q => ends_CR q) fun e z2 q => q
end
/-- a class with an own __iter__ -/
structure IterM (K : PySem.W.Frag) (C f : Addr) : Prop where
  s : PySem.W.findIn K (.ref C) "__iter__" = some (some (.ref f))
  f : PySem.W.isFn K (.ref f) = true
/-- an own instance whose __iter__ gives a new iterator of a tuple; behind it the iterator is forgotten -/
def iOwnT (K : PySem.W.Frag) (C : Addr) (sp : Nat → Sp) (E : XK) (te : TE) : TI := fun σ H R => te σ H fun x H1 => ∃ (a dx : Addr) (fs : List (Str × V)), x = .ref a ∧ H1 a = some (.ins C dx fs) ∧
  ∀ n, sp n [x] H1 (fun v H2 => ∃ it t, v = .ref it ∧ n ≤ it ∧ H2 it = some (ItT t it) ∧ R (Itt K t) (ItX.dropH H2 it)) E
section
variable {X : Cx} {tg e : Expr} {te : TE} {C f : Addr} {CX : CXT} {k : Nat} {sp : Nat → Sp} {E : XK}
theorem pi_ownT (M : IterM X.K C f) (F : FnN X.prog X.w X.K X.mg X.base CX k f sp) (hr : Room k X.A) (hx : Passes CX X E) (he : PE X e te) : PI X tg e (iOwnT X.K C sp E te) := by
  refine ⟨fun pins s σ H R I h => ?_⟩
  refine thn (he.run pins s σ H _ I h) fun v s1 ⟨x, H1, I1, r1, q1⟩ => ?_
  obtain ⟨a, dx, fs, rfl, ha, hs⟩ := q1
  obtain rfl : v = Value.ref a := r1
  obtain ⟨mA, J, _⟩ := ins_get I1.hok ha
  obtain ⟨od, J, _⟩ := J.look
  obtain ⟨m, hF⟩ := I1.fr
  refine PySem.W.owit_iter hF I1.ok.mod.kin J M.s M.f ?_
  refine wpAny_call (codeAny_mono (F X.A X.stack s1 H1 [.ref a] [.ref a] _ E hr I1.env0 (.cons rfl .nil) (hs _)) fun r s2 hq => ?_)
  cases r with
  | error e => exact hx pins σ H1 s1 e s2 I1 hq
  | ok fl =>
    cases fl with
    | next => exact False.elim hq
    | brk => exact False.elim hq
    | cont => exact False.elim hq
    | ret u =>
      obtain ⟨v, H2, os, bare, un, hok, rv, it, t, rfl, old, hi, q⟩ := hq
      obtain rfl : u = Value.ref it := rv
      have I2 : Inv X pins σ H2 s2 := I1.call' (ch := []) os un hok bare fun b z => absurd z (by simp)
      have eo : s2.heap.get? it = some (tuIt t) := (I2.hok it _ hi).1
      unfold PySem.W.OwitIt
      have hT : s2.TypeIs (.ref it) "tuple_iterator" := ⟨_, eo, rfl⟩
      refine wpAny_specialOf (name := Str.ofString "__next__") hT PySem.F.slot_tuple_iterator_next.lookup ?_
      have st : s2.heap.IsTupleIter it t 0 := ⟨_, eo, rfl, rfl⟩
      have hi' := hi
      unfold ItT at hi'
      refine ⟨it, [it], _, _, ItX.dropH H2 it, rfl, ItX.inv_drop I2 hi', turn_tuple t it, st, fun b hb => ?_, q⟩
      have e : b = it := by simpa using hb
      rw [e]
      exact ItX.inv_fp I2 hi (Nat.le_trans I1.sz old)
end
theorem sqT_drop {K : PySem.W.Frag} {H : Hp} {a it : Addr} {xs : List V} (h : SqT K H a xs) (n : it ≠ a) : SqT K (ItX.dropH H it) a xs := by
  have e : ItX.dropH H it a = H a := ItX.dropH_ne (Ne.symm n)
  unfold SqT Rd at h ⊢
  simp only [e]
  exact h
section
variable {X : Cx} {C f : Addr} {k : Nat} {CX : CXT} {sp : Sp} {E : XK}
/-- x not in c, c of a class with __contains__ -/
def rNotInO (C : Addr) (sp : Sp) (E : XK) : R2 := fun x y H Q => ∃ (a dx : Addr) (fs : List (Str × V)), y = .ref a ∧ H a = some (.ins C dx fs) ∧ sp [y, x] H (fun v H1 => ∃ b, v = .bl b ∧ Q (.bl (!b)) H1) E
theorem op_notInO (M : InM X.K C f) (F : FnG X.prog X.w X.K X.mg X.base CX k f sp) (ng : NoG X.A) (hr : Room k X.A) (hx : Passes CX X E) : OpR X (compareOp .NotIn) (rNotInO C sp E) := by
  intro pins s σ H x y v u Q I rx ry h
  obtain ⟨a, dx, fs, rfl, ha, q⟩ := h
  obtain rfl : u = Value.ref a := ry
  have hc : wpAny (model X.prog X.w) X.A (call (.ref f) [.ref a, v]) (fun r s' => wpAny (model X.prog X.w) X.A (truthy r) (fun b s2 => EP X pins σ Q (.bool (!b)) s2) X.xe s') X.xe s :=
    thn (wpAny_call (run_fnG (us := [.ref a, v]) (vs := [.ref a, x]) F ng hr hx I (.cons rfl (.cons rx .nil)) q)) fun r s1 z => by
      obtain ⟨z, H1, I1, rz, b, rfl, q⟩ := z
      obtain rfl : r = Value.bool b := rz
      exact wpAny_truthy_bool ⟨.bl (!b), H1, I1, rfl, q⟩
  obtain ⟨mA, J, _⟩ := ins_get I.hok ha
  obtain ⟨od, J, _⟩ := J.look
  obtain ⟨m, hF⟩ := I.fr
  exact PySem.W.notIn_K hF I.ok.mod.kin J M.hs M.hf hc
end
end AZ

set_option Elab.async false
set_option maxRecDepth 100000
set_option maxHeartbeats 4000000
set_option linter.all false
/-! Own work: a op= b of own instances of a class that knows the binary operator alone; walks over texts. -/
namespace AZ
open PySem L2 PySem.Spec PyProof.Rows
/-- the class at C has nothing of its own for op=, and no other class above it than object -/
structure IpM (K : PySem.W.Frag) (C : Addr) (op : Operator) : Prop where
  cls : ∃ cd, PySem.W.clsIn K C = some cd ∧ cd.mro = [.ref C, .type "object"]
  no : PySem.W.findIn K (.ref C) (dunderI op.info.2) = some none
section
variable {M : Model} {A : Around} {E : Value → Shared → Prop} {s : Shared} {K : PySem.W.Frag} {h₀ : Heap} {L x C f : Addr} {m : Str → Option Value} {ox : Obj} {od : Option Obj}
theorem noInp {h : Heap} {nm : String} {add : Bool} {cd : ClassData} (X : K.In h) (hc : PySem.W.clsIn K C = some cd) (hm : cd.mro = [.ref C, .type "object"]) (hs : PySem.W.findIn K (.ref C) (dunderI nm) = some none) (ho : typeLookup (.type "object") (dunderI nm) = pure none) :
    PySem.W.Looks M h (fillsInplaceSlot (.ref C) nm add) false := by
  intro A Q E s k q
  have Lm : PySem.W.Looks M s.heap (mroOf (.ref C)) cd.mro := ((PySem.W.looks_clsIn X hc).andThen (f := fun cd => pure cd.mro) .now).keeps k
  have L1 : PySem.W.Looks M s.heap (typeLookup (.ref C) (dunderI nm)) none := PySem.W.looks_findIn (X.keeps k) hs
  have L2 : PySem.W.Looks M s.heap (typeLookup (.type "object") (dunderI nm)) none := .of_pure ho
  unfold fillsInplaceSlot
  refine wpAny_bind (Lm.here ?_)
  rw [hm, List.anyM_cons]
  refine wpAny_bind (wpAny_bind (L1.here (wpAny_pure ?_)))
  rw [if_neg Bool.false_ne_true, List.anyM_cons]
  refine wpAny_bind (wpAny_bind (L2.here (wpAny_pure ?_)))
  rw [if_neg Bool.false_ne_true]
  exact wpAny_pure q
theorem inpl_K {prog : Program} {w : World} {op : Operator} {b : Value} {Q : Value → Shared → Prop} (F : Fr h₀ L s.heap m) (X₀ : K.In h₀) (I : PySem.W.InstAt s.heap x ox C od) (hb : PySem.W.Looks (model prog w) s.heap (typeOf b) (.ref C)) (ip : IpM K C op)
    (ho : typeLookup (.type "object") (dunderI op.info.2) = pure none) (hs : PySem.W.findIn K (.ref C) (PySem.dunder op.info.2) = some (some (.ref f))) (hf : PySem.W.isFn K (.ref f) = true)
    (h : wpAny (model prog w) A (call (.ref f) [.ref x, b]) (PySem.W.CmpBack Q) E s) : wpAny (model prog w) A (inplaceOp op (.ref x) b) Q E s := by
  have X := X₀.keeps F.keep
  obtain ⟨cd, hcd, hm⟩ := ip.cls
  unfold inplaceOp
  refine wpAny_holding (wpAny_bind (I.type.here (wpAny_bind ((noInp X hcd hm ip.no ho).here ?_))))
  simp only [Bool.false_eq_true, if_false]
  refine wpAny_bind ?_
  unfold binaryOp1
  refine wpAny_bind (I.type.here (wpAny_bind (hb.here (wpAny_bind ((PySem.W.fills_K X hcd hm hs).here ?_)))))
  simp only [beq_self_eq_true, if_true]
  refine wpAny_bind (wpAny_pure ?_)
  simp only [Bool.and_false, Bool.false_eq_true, if_false, Bool.false_and]
  refine wpAny_bind (wpAny_pure ?_)
  simp only [Bool.false_eq_true, if_false]
  refine wpAny_bind (m := tryMethod (.ref x) _ b) ?_
  unfold tryMethod
  refine wpAny_bind (PySem.W.special_fn X I hs (beq_iff_eq.mp hf) (wpAny_mono h (fun v s' hv => ?_) fun _ _ e => e))
  cases v <;> first | exact hv.elim | exact wpAny_pure (wpAny_pure (wpAny_pure hv))
end
section
variable {X : Cx} {C f : Addr} {k : Nat} {CX : CXT} {sp : Sp} {E : XK}
/-- a op= b: both of the class at C -/
def ipOwn (C : Addr) (sp : Sp) (E : XK) : TIp := fun x y H Q => ∃ (a dx : Addr) (fs : List (Str × V)) (b dy : Addr) (gs : List (Str × V)), x = .ref a ∧ H a = some (.ins C dx fs) ∧ y = .ref b ∧ H b = some (.ins C dy gs) ∧ sp [x, y] H Q E
theorem ip_own {op : Operator} (ip : IpM X.K C op) (ho : typeLookup (.type "object") (dunderI op.info.2) = pure none) (hM : BinM X.K C op f) (F : FnR X.prog X.w X.K X.mg X.base CX k f sp) (hr : Room k X.A) (hx : Passes CX X E) : PIp X op (ipOwn C sp E) := by
  intro pins s σ H x y v u Q I rx ry h
  obtain ⟨a, dx, fs, b, dy, gs, rfl, ha, rfl, hb, hs⟩ := h
  obtain rfl : v = Value.ref a := rx
  obtain rfl : u = Value.ref b := ry
  have hc : wpAny (model X.prog X.w) X.A (call (.ref f) [.ref a, .ref b]) (PySem.W.CmpBack (EP X pins σ Q)) X.xe s :=
    thn (wpAny_call (run_fnR (us := [.ref a, .ref b]) (vs := [.ref a, .ref b]) F hr hx I (.cons rfl (.cons rfl .nil)) hs)) fun _ _ z => cmpBack_of z
  obtain ⟨mA, J, _⟩ := ins_get I.hok ha
  obtain ⟨od, J, _⟩ := J.look
  obtain ⟨mB, J2, _⟩ := ins_get I.hok hb
  obtain ⟨od2, J2, _⟩ := J2.look
  obtain ⟨m, hF⟩ := I.fr
  exact inpl_K hF I.ok.mod.kin J J2.type ip ho hM.hs hM.hf hc
end
theorem obj_noior : typeLookup (.type "object") (dunderI (Operator.info .BitOr).2) = pure none := by rw [typeLookup_type, builtinLookup_eq_fast]; kernel_rfl
theorem obj_noiand : typeLookup (.type "object") (dunderI (Operator.info .BitAnd).2) = pure none := by rw [typeLookup_type, builtinLookup_eq_fast]; kernel_rfl
theorem obj_noixor : typeLookup (.type "object") (dunderI (Operator.info .BitXor).2) = pure none := by rw [typeLookup_type, builtinLookup_eq_fast]; kernel_rfl
/-- a loop over a text: one word a turn -/
theorem for_text {x : Str} {g : TG} {tb : TS} {D : Ends} {σ : L2.St} {H : Hp} (Pv : Nat → L2.St → Hp → Prop) (h0 : Pv 0 σ H)
    (hs : ∀ i c σ H, x.cps[i]? = some c → Pv i σ H → g (.str ⟨#[c]⟩) σ H fun σ2 H2 => tb { D with nx := Pv (i + 1), ct := Pv (i + 1), bk := D.nx } σ2 H2) (hd : ∀ σ H, Pv x.cps.size σ H → D.nx σ H) :
    ∃ W : Nat → Nat → L2.St → Hp → Prop, (∃ m, W 0 m σ H) ∧ ∀ i m σ H, W i m σ H →
      ((Its x).stop i H ∧ D.nx σ H) ∨ ((Its x).go i H ∧ ∃ N : L2.St → Hp → Prop, (∀ σ' H', N σ' H' → ∃ m', m' < m ∧ W (i + 1) m' σ' H') ∧ ∀ y H', (Its x).yld i H y H' → g y σ H' fun σ2 H2 => tb { D with nx := N, ct := N, bk := D.nx } σ2 H2) := by
  refine ⟨fun i m σ H => m = x.cps.size - i ∧ i ≤ x.cps.size ∧ Pv i σ H, ⟨x.cps.size, by simp, Nat.zero_le _, h0⟩, ?_⟩
  rintro i m σ H ⟨rfl, hi, p⟩
  by_cases hlt : i < x.cps.size
  · refine .inr ⟨hlt, Pv (i + 1), fun σ' H' p' => ⟨x.cps.size - (i + 1), by omega, rfl, hlt, p'⟩, fun y H' z => ?_⟩
    obtain ⟨rfl, c, hc, rfl⟩ := z
    exact hs i c σ _ hc p
  · have e : i = x.cps.size := by omega
    subst e
    exact .inl ⟨Nat.le_refl _, hd σ H p⟩
end AZ

set_option Elab.async false
set_option maxRecDepth 100000
set_option maxHeartbeats 4000000
set_option linter.all false
/-! Own work: a property read, by its getter's promise. -/
namespace AZ
open PySem L2 PySem.Spec PyProof.Rows
section
variable {X : Cx} {CX : CXT} {k : Nat} {C g : Addr} {f : Str} {sp : Sp} {E : XK} {e : Expr} {pos : Pos} {ta : TE}
theorem pe_propR (he : PE X e ta) (c : Cls X.K C) (hp : ∃ p, PropOf X.K C f p g) (F : FnR X.prog X.w X.K X.mg X.base CX k g sp) (hr : Room (k + 1) X.A) (hx : Passes CX X.nox E)
    (hab : attributeBase e f X.env (eval e X.env) = eval e X.env := by rfl) : PE X (.Attribute e f pos) (tProp C sp [] E ta) := by
  refine ⟨fun pins s σ H Q I h => ?_⟩
  refine attr_of hab (thn (he.run pins s σ H _ I h) fun u s1 ⟨x, H1, I1, rx, a, dx, fs, ex, ea, q⟩ => ?_)
  subst ex
  obtain rfl : u = Value.ref a := rx
  obtain ⟨p, hp⟩ := hp
  obtain ⟨mA, O, _, _, _, _⟩ := ins_get I1.hok ea
  obtain ⟨od, J, _⟩ := O.look
  obtain ⟨rest, hrec⟩ := hp.rec_
  have I2 := I1.tok (s1.toks + 1)
  have hc : (PySem.W.clsIn X.K C).isSome = true := by
    obtain ⟨cd, hc, _⟩ := PySem.W.any_some c.hd
    rw [hc]
    rfl
  refine PySem.W.get_bind I1.kIn J (PySem.W.plainGet_of (c.get f)).1 (PySem.W.findObj_data hc hp.at_ hp.get hp.tak) (PySem.W.plainGet_of (c.get f)).2 (wpAny_call (PySem.W.prop_get (s := { s1 with toks := s1.toks + 1 }) I1.kIn hrec ?_))
  refine codeAny_mono (F X.A.in1 X.stack { s1 with toks := s1.toks + 1 } H1 [.ref a] [.ref a] Q E hr.in1 I2.env0.in1 (.cons rfl .nil) q) fun r s' hq => ?_
  cases r with
  | error er => exact False.elim (hx pins σ H1 { s1 with toks := s1.toks + 1 } er s' (I2.wish _) hq)
  | ok fl =>
    cases fl with
    | ret u =>
      obtain ⟨v, H', I3, rv, q3⟩ := I2.after hq
      show wpAny _ _ (handedOut u) _ _ _
      rw [PySem.W.handedOut_of (handed_of rv)]
      exact wpAny_pure ⟨v, H', I3, rv, q3⟩
    | next => exact False.elim hq
    | brk => exact False.elim hq
    | cont => exact False.elim hq
end
end AZ

set_option Elab.async false
set_option maxRecDepth 100000
set_option maxHeartbeats 4000000
set_option linter.all false
/-! Own work: own operators that may raise; errors of two fields that are raised. -/
namespace AZ
open PySem L2 PyProof.Rows
section
variable {X : Cx} {C f : Addr} {k : Nat} {CX : CXT} {sp : Sp} {E : XK}
theorem op_ownBX {op : Operator} (M : BinM X.K C op f) (F : FnG X.prog X.w X.K X.mg X.base CX k f sp) (ng : NoG X.A) (hr : Room k X.A) (hx : Passes CX X E) : OpR X (binaryOp op) (rBF C sp E) := by
  intro pins s σ H x y v u Q I rx ry h
  obtain ⟨a, dx, fs, rfl, ha, hR, hs⟩ := h
  obtain rfl : v = Value.ref a := rx
  have hc : wpAny (model X.prog X.w) X.A (call (.ref f) [.ref a, u]) (PySem.W.CmpBack (EP X pins σ Q)) X.xe s :=
    thn (wpAny_call (run_fnG (us := [.ref a, u]) (vs := [.ref a, y]) F ng hr hx I (.cons rfl (.cons ry .nil)) hs)) fun _ _ z => cmpBack_of z
  obtain ⟨mA, J, _⟩ := ins_get I.hok ha
  obtain ⟨od, J, _⟩ := J.look
  obtain ⟨m, hF⟩ := I.fr
  rcases hR with ⟨j, rfl⟩ | ⟨b, dy, gs, rfl, hb⟩
  · obtain ⟨t, rfl⟩ := ry
    obtain ⟨rc, hrc, hp⟩ := M.hr
    obtain ⟨fo, ro, h1, h2⟩ := M.ht
    exact PySem.W.ksp_binT hF I.ok.mod.kin J rfl M.hc M.hs M.hf hrc hp h1 h2 M.hu hc
  · obtain rfl : u = Value.ref b := ry
    obtain ⟨mB, J2, _⟩ := ins_get I.hok hb
    obtain ⟨od2, J2, _⟩ := J2.look
    exact PySem.W.binop_K hF I.ok.mod.kin J J2.type M.hc M.hs M.hf hc
theorem op_ownCG {op : CmpOp} (M : CmpM X.K C op f) (F : FnG X.prog X.w X.K X.mg X.base CX k f sp) (ng : NoG X.A) (hr : Room k X.A) (hx : Passes CX X E) (hop : ∀ a b, compareOp op a b = richCompare op a b := by intro _ _; rfl) : OpR X (compareOp op) (rCF C sp E) := by
  intro pins s σ H x y v u Q I rx ry h
  obtain ⟨a, dx, fs, rfl, ha, hR, hs⟩ := h
  obtain rfl : v = Value.ref a := rx
  have hc : wpAny (model X.prog X.w) X.A (call (.ref f) [.ref a, u]) (PySem.W.CmpBack (EP X pins σ Q)) X.xe s :=
    thn (wpAny_call (run_fnG (us := [.ref a, u]) (vs := [.ref a, y]) F ng hr hx I (.cons rfl (.cons ry .nil)) hs)) fun _ _ z => cmpBack_of z
  obtain ⟨mA, J, _⟩ := ins_get I.hok ha
  obtain ⟨od, J, _⟩ := J.look
  obtain ⟨m, hF⟩ := I.fr
  rw [hop]
  rcases hR with ⟨j, rfl⟩ | ⟨b, dy, gs, rfl, hb⟩
  · obtain ⟨t, rfl⟩ := ry
    exact PySem.W.cmp_K (tb := .type "int") hr.units0 hF I.ok.mod.kin J (PySem.W.Looks.of_pure rfl) M.hn M.hs M.hf hc
  · obtain rfl : u = Value.ref b := ry
    obtain ⟨mB, J2, _⟩ := ins_get I.hok hb
    obtain ⟨od2, J2, _⟩ := J2.look
    exact PySem.W.cmp_K (tb := .ref C) hr.units0 hF I.ok.mod.kin J J2.type (by simp [PySem.W.notFirst]) M.hs M.hf hc
end
section
variable {X : Cx} {CX : CXT} {k : Nat} {C g : Addr} {sp : Sp} {E : XK} {o e : Expr} {es : List Expr} {m : Str} {pos apos : Pos} {ta : TE} {t : TA}
/-- o.m(e, ..), m may raise -/
theorem pe_mG {pl : Sem Bool} (he : PE X o ta) (c : Cls X.K C) (hm : Meth X.K C m g) (F : FnG X.prog X.w X.K X.mg X.base CX k g sp) (ng : NoG X.A) (hr : Room k X.A) (hx : Passes CX X E) (ha : PA X (e :: es) t)
    (hst : starEach (e :: es) X.env = (false, eval e X.env) :: starEach es X.env := by rfl) (hpl : (backTo pos (starEach es X.env)).any (·.1) = false := by rfl)
    (ht : eval (.Call (.Attribute o m apos) (e :: es) [] pos) X.env = (eval o X.env >>= fun ov => standAt apos.atName >>= fun _ => holding [ov] (getMethod ov m pl) >>= fun r =>
      callWith pos r.1 r.2 (backTo pos (starEach (e :: es) X.env)) (backToKw pos (keywordEach [] X.env))) := by rfl) :
    PE X (.Call (.Attribute o m apos) (e :: es) [] pos) (tMR C m sp E ta t) := by
  refine ⟨fun pins s σ H Q I h => ?_⟩
  refine PySem.W.methodCall_KW (pl := pl) (thn (he.run pins s σ H _ I h) fun u s1 ⟨x, H1, I1, rx, a, dx, fs, ex, ea, l, q⟩ => ?_) ht
  subst ex
  obtain rfl : u = Value.ref a := rx
  refine getmeth_ok I1 ea c hm l ?_
  refine PySem.W.callWith_K (first := [.ref a]) (h₀ := X.base) I.ok.mod.kin hm.kp (thn (ha.run pos pins s1 σ H1 _ I1 q) fun us s2 ⟨vs, H2, I2, r, q2⟩ => ⟨I2.kIn, ?_⟩) hst hpl
  exact wpAny_call (run_fnG (us := .ref a :: us) (vs := .ref a :: vs) F ng hr hx I2 (.cons rfl r) q2)
end
/-- the promise of an __init__ with two fields, to the letter -/
def spErrX2 (K : PySem.W.Frag) (C : Addr) (f g : Str) : Sp := fun vs H Q _ => ∃ a v u d e, vs = [.ref a, v, u] ∧ H a = some (exo a C none) ∧ Sh K H v d ∧ Shn d ∧ Sh K H u e ∧ Shn e ∧
  ∀ dx, H dx = none → dx ≠ a → Q .non (upd (upd (upd H dx (exd dx [(f, v)])) a (exo a C (some dx))) dx (exd dx [(g, u), (f, v)]))
section
variable {K : PySem.W.Frag} {S C fI a : Addr} {nm f g lit lit2 : Str} {H : Hp} {σ : L2.St} {D : Ends} {v u : V} {e e2 : PyData}
theorem err2x_body (X : Ex K S C fI nm) (A : NoAttr K C f) (B : NoAttr K C g) (ha : H a = some (exo a C none)) (s : Sh K H v e) (n : Shn e) (s2 : Sh K H u e2) (n2 : Shn e2) (h0 : σ[0]? = some (some (.ref a))) (h1 : σ[1]? = some (some v)) (h2 : σ[2]? = some (some u))
    (hl : lit.length ≤ 1000) (hl2 : lit2.length ≤ 900) (k : ∀ dx, H dx = none → dx ≠ a → D.nx σ (upd (upd (upd H dx (exd dx [(f, v)])) a (exo a C (some dx))) dx (exd dx [(g, u), (f, v)]))) :
    tSeq (tDrop (tVeI K (tCons (tVar 0) (tCons (tText [tC (.str lit), tFmtA K (tVar 1), tC (.str lit2), tFmtA K (tVar 2)]) tNil)))) (tSeq (tOst K f (tVar 0) (tVar 1)) (tOst K g (tVar 0) (tVar 2))) D σ H := by
  have z1 : (Str.empty ++ lit).length ≤ 1000 := cat_len (m := 0) (n := 1000) (Nat.le_refl _) hl (by decide)
  have z2 : (Str.empty ++ lit ++ e.shown).length ≤ 3000 := cat_len z1 n.sz (by decide)
  have z3 : (Str.empty ++ lit ++ e.shown ++ lit2).length ≤ 3900 := cat_len z2 hl2 (by decide)
  refine ⟨_, h0, ⟨_, rfl, Nat.le_trans z1 (by decide), _, h1, e, s, n, _, rfl, Nat.le_trans z2 (by decide), ⟨_, rfl, Nat.le_trans z3 (by decide), _, h2, e2, s2, n2, _, rfl, shn_len n2 (Nat.le_trans z3 (by decide)), ?_⟩⟩⟩
  refine ⟨a, C, _, rfl, by simp, X.oex, ha, ?_⟩
  refine ⟨_, h1, _, h0, a, C, rfl, X.oex, A, Or.inl ⟨ha, fun dx hd ne => ?_⟩⟩
  exact ⟨_, h2, _, h0, a, C, rfl, X.oex, B, Or.inr ⟨dx, [(f, v)], upd_same, by rw [upd_ne ne, upd_same], by simp, k dx hd ne⟩⟩
/-- what is raised: a new dict with the fields -/
theorem mkX2 {Q : XK} {te te2 : TE} (h : ∀ Q' : VK, Q' v H → te σ H Q') (h2 : ∀ Q' : VK, Q' u H → te2 σ H Q') (s : Sh K H v e) (n : Shn e) (s2 : Sh K H u e2) (n2 : Shn e2) (k : ∀ dx, H dx = none → Q (.ref C) (some dx) (upd H dx (.xd [(g, u), (f, v)]))) : tMkX C (spErrX2 K C f g) (tCons te (tCons te2 tNil)) σ H Q := by
  refine h _ (h2 _ ⟨(by show 2 ≤ 1000; decide), fun a ha => ⟨a, v, u, e, e2, rfl, upd_same, s.same (sameNew ha), n, s2.same (sameNew ha), n2, fun dx hd ne => ⟨rfl, dx, [(g, u), (f, v)], ?_, upd_same, ?_, ?_⟩⟩⟩)
  · rw [upd_ne (Ne.symm ne), upd_same]
  · rw [upd_ne ne] at hd; exact hd
  · have hd' : H dx = none := by rw [upd_ne ne] at hd; exact hd
    have eq : upd (del (upd (upd (upd (upd H a (exo a C none)) dx (exd dx [(f, v)])) a (exo a C (some dx))) dx (exd dx [(g, u), (f, v)])) a) dx (.xd [(g, u), (f, v)]) = upd H dx (.xd [(g, u), (f, v)]) := by
      funext b
      by_cases hb : b = dx
      · rw [hb, upd_same, upd_same]
      · rw [upd_ne hb, upd_ne hb]
        by_cases hba : b = a
        · rw [hba, del_same, ha]
        · rw [del_ne hba, upd_ne hb, upd_ne hba, upd_ne hb, upd_ne hba]
    rw [eq]
    exact k dx hd'
end
end AZ

set_option Elab.async false
set_option maxRecDepth 100000
set_option maxHeartbeats 4000000
set_option linter.all false
/-! Own work: own instances made of starred arguments, and of none. -/
namespace AZ
open PySem L2 PyProof.Rows
section
variable {X : Cx} {CX : CXT} {k i : Nat} {f C : Addr} {sp : Sp} {E : XK} {x : Str} {e : Expr} {es : List Expr} {te : TE} {t : TA} {p sp_ pos : Pos}
/-- C(e, .., *y) -/
theorem pe_makeS2 (M : Mk X.K C f) (F : FnR X.prog X.w X.K X.mg X.base CX k f sp) (hr : Room (k + 1) X.A) (hg : Gl X x) (hm : X.mg x = some (.ref C)) (hx : Passes CX X E) (ha : PA X (e :: es) t) (hdb : (x == ("__debug__" : Str)) = false := by decide)
    (he : starEach (e :: es) X.env = (false, eval e X.env) :: starEach es X.env := by rfl) (hst : (backTo pos (starEach es X.env)).any (·.1) = true := by rfl) : PE X (.Call (.Name x p) (e :: es) [] pos) (StX.tMakeR C sp E t) := by
  refine ⟨fun pins s σ H Q I h => ?_⟩
  refine wpAny_Call_Name_kw (ld_glob I hg hm ?_ hdb)
  refine PySem.W.callWith_S2 (h₀ := X.base) I.ok.mod.kin M.kp (thn (ha.run pos pins s σ H _ I h) fun us s1 ⟨vs, H1, I1, r, q⟩ => ⟨I1.kIn, ?_⟩) he hst
  exact StX.run_makeR M F hr hx I1 r q
/-- C(*y) -/
theorem pe_makeS1 (M : Mk X.K C f) (F : FnR X.prog X.w X.K X.mg X.base CX k f sp) (hr : Room (k + 1) X.A) (hg : Gl X x) (hm : X.mg x = some (.ref C)) (hx : Passes CX X E) (he : PE X e te) (hdb : (x == ("__debug__" : Str)) = false := by decide)
    (hst : starEach [.Starred e sp_] X.env = [(true, eval e X.env)] := by rfl) :
    PE X (.Call (.Name x p) [.Starred e sp_] [] pos) (StX.tMakeR C sp E (StX.tStar X.K te tNil)) := by
  refine ⟨fun pins s σ H Q I h => ?_⟩
  refine wpAny_Call_Name_kw (ld_glob I hg hm ?_ hdb)
  refine PySem.W.callWith_S (h₀ := X.base) I.ok.mod.kin M.kp (thn (he.run pins s σ H _ I h) fun v s1 ⟨y, H1, I1, ry, a, xs, ey, hxs, q⟩ => ?_) hst
  subst ey
  obtain rfl : v = Value.ref a := ry
  have q : ∀ x dx, H1 x = Option.none → H1 dx = Option.none → dx ≠ x → sp (V.ref x :: (xs ++ [])) (upd (upd H1 dx (.own x)) x (.ins C dx [])) (fun v H2 => v = .non ∧ Q (.ref x) H2) E := q
  rw [List.append_nil] at q
  exact StX.star_any I1 hxs fun us s2 I2 rv => ⟨I2.kIn, StX.run_makeR M F hr hx I2 rv q⟩
/-- C() -/
theorem pe_makeR0 (M : Mk X.K C f) (F : FnR X.prog X.w X.K X.mg X.base CX k f sp) (hr : Room (k + 1) X.A) (hg : Gl X x) (hm : X.mg x = some (.ref C)) (hx : Passes CX X E) (hdb : (x == ("__debug__" : Str)) = false := by decide) :
    PE X (.Call (.Name x p) [] [] pos) (StX.tMakeR C sp E tNil) := by
  refine ⟨fun pins s σ H Q I h => ?_⟩
  refine wpAny_Call_Name_kw (ld_glob I hg hm ?_ hdb)
  exact PySem.W.callWith_K0 (first := []) I.kIn M.kp (StX.run_makeR (us := []) (vs := []) M F hr hx I .nil h)
end
section
variable {X : Cx} {C f : Addr} {CX : CXT} {k : Nat} {sp : Sp} {E : XK}
/-- str(x) of an own value, told without the context -/
def rStrF (C : Addr) (sp : Sp) (E : XK) : List V → Hp → VK → Prop := fun xs H Q => ∃ (a dx : Addr) (fs : List (Str × V)), xs = [.ref a] ∧ H a = some (.ins C dx fs) ∧ sp [.ref a] H (fun v H1 => ∃ z, v = .str z ∧ Q (.str z) H1) E
theorem uStrF (M : StrM X.K C f) (F : FnR X.prog X.w X.K X.mg X.base CX k f sp) (hr : Room (k + 2) X.A) (hx : Passes CX X E) : CallR X (.type "str") (rStrF C sp E) :=
  fun pins s σ H xs us Q I rv ⟨a, dx, fs, e, ha, hs⟩ => by
    subst e
    exact call_strO pins s σ H _ us Q I rv ⟨.ref a, rfl, a, C, dx, fs, f, CX, k, sp, E, rfl, ha, M, F, hr, hx, hs⟩
theorem pi_tupK {K : PySem.W.Frag} {tg l : Expr} {tl : TE} (h : X.K = K) (hl : PE X l tl) : PI X tg l (iTup K tl) := by
  subst h
  exact pi_tup hl
end
theorem bind_star4 {B : List Value → Sem (List (Str × Value))} {p1 p2 p3 p4 pv : Str} (h0 : ∀ a b c e, B [a, b, c, e] = (newTuple [] >>= fun t => pure [(p1, a), (p2, b), (p3, c), (p4, e), (pv, t)]))
    (h1 : ∀ a b c e r rs, B (a :: b :: c :: e :: r :: rs) = (newTuple (r :: rs) >>= fun t => pure [(p1, a), (p2, b), (p3, c), (p4, e), (pv, t)])) :
    ∀ us rest : List Value, us.length = [p1, p2, p3, p4].length → B (us ++ rest) = (newTuple rest >>= fun t => pure ([p1, p2, p3, p4].zip us ++ [(pv, t)]))
  | [a, b, c, e], [], _ => h0 a b c e
  | [a, b, c, e], r :: rs, _ => h1 a b c e r rs
/-- THE RULE for a def with a star parameter -/
theorem Fun.okS {P : Program} {w : World} {K : PySem.W.Frag} {mg : Str → Option Value} {base : Heap} {x qual : Str} {st : Stmt} {f : Addr} {fd : FuncData} {N ps : List Str} {pv : Str} {k : Nat} {sp : Sp} (F : L2.Fun K x qual st f fd) (S : FnScope N (ps ++ [pv]) (defScope st))
    (hb : ∀ (kV doc pm : Value) (an : Option Addr) (cdv ct : Value) (us rest : List Value), us.length = ps.length → bindArgs (PySem.W.fnOf x qual (defArgs st) (defBody st) (defScope st) .none kV doc pm an cdv ct) ⟨us ++ rest, []⟩ = (newTuple rest >>= fun t => pure (ps.zip us ++ [(pv, t)])))
    (hbody : ∀ (cdv : Value) (A : Around) (outer : List Env) (s : Shared) (H : Hp) (vs : List V) (Q : VK) (E : XK), Room k (A.deeper (envOfC qual (defScope st) s.heap.objs.size f cdv)) → sp vs H Q E →
      ∃ t, PSs (cxOf CX0 P w K mg base N qual (defScope st) f cdv A outer s H E).nox (defBody st) t ∧ t { nx := fun _ H' => Q .non H', rt := Q } (L2.start N vs) H) :
    FnR P w K mg base CX0 (k + 1) f (fun vs H Q E => ∃ ws rest, vs = ws ++ rest ∧ ws.length = ps.length ∧ rest.length ≤ sizeLine ∧ ∀ p, H p = Option.none → sp (ws ++ [V.ref p]) (upd H p (.tup rest)) Q E) := by
  obtain ⟨oc, od, kV, doc, pm, an, cdv, ct, osl, rfl, lk, hcd⟩ := F.ex
  refine StX.fn_star lk hcd S StX.cxUp_none (hb kV doc pm an cdv ct) fun A outer s H vs Q E hr hsp => ?_
  obtain ⟨t, h, q⟩ := hbody cdv A outer s H vs Q E hr hsp
  exact ⟨t, h.nox, q⟩
end AZ

set_option Elab.async false
set_option maxRecDepth 100000
set_option maxHeartbeats 4000000
set_option linter.all false
/-! Own work: enumerate over a tuple. -/
namespace AZ
open PySem L2 PyProof.Rows
theorem meets_enumerate_newB1 {v : Value} {o : Obj} {H : Heap → Prop} (B : Begins v o H) :
    Meets (Builtin.«enumerate.__new__» ⟨[.type "enumerate", v], []⟩) (fun _ R s => H s.heap ∧
      R (.ok (.ret (.ref (s.heap.push o).objs.size))) { s with heap := (s.heap.push o).push { cls := .type "enumerate", data := .fields #[.none, .bool false, .ref s.heap.objs.size, rawInt 0, .none, .none] } }) :=
  .of_wp fun prog w A R s h => by
    obtain ⟨hp, g, d, tk, os⟩ := s; obtain ⟨h1, h⟩ := h
    have hsub := sub_enumerate
    have q1 : ∀ {A' : Around} {E : Value → Shared → Prop} {Q : Value → Shared → Prop}, Q (.ref hp.objs.size) ⟨hp.push o, g, d, tk, os⟩ → wpAny (model prog w) A' (pyIter v) Q E ⟨hp, g, d, tk, os⟩ :=
      fun q => B.iter prog w _ _ ⟨hp, g, d, tk, os⟩ _ h1 q
    wp_walk using q1
    refine wpAny_stack_any fun st => wpAny_pure ?_
    split
    · rename_i c _ _ _ _ _
      cases (c == Value.type "enumerate")
      · wp_walk using q1
        exact ⟨_, rfl, h⟩
      · wp_walk using q1
        exact ⟨_, rfl, h⟩
    · wp_walk using q1
      exact ⟨_, rfl, h⟩
theorem enum_begins1 {prog : Program} {w : World} {A : Around} {E : Value → Shared → Prop} {s : Shared} {v : Value} {o : Obj} {H : Heap → Prop} {Q : Value → Shared → Prop} (B : Begins v o H) (h1 : H s.heap)
    (h : ∀ h', IsEnum h' (s.heap.objs.size + 1) s.heap.objs.size 0 .none → h'.get? s.heap.objs.size = some o → h'.objs.size = s.heap.objs.size + 2 →
      (∀ b o, s.heap.get? b = some o → h'.get? b = some o) → Q (.ref (s.heap.objs.size + 1)) { s with heap := h' }) :
    wpAny (model prog w) A (call (.type "enumerate") [v]) Q E s := by
  refine callType_new F.called_enumerate (by decide) (F.typeCall_enumerate_1 _) (F.newCall_enumerate_1 _) (fun obj => F.args_object_init_2 obj _) F.entry_enumerate_new
    (meets_enumerate_newB1 B) ⟨h1, ?_⟩
  have hz : (s.heap.push o).objs.size = s.heap.objs.size + 1 := Heap.size_push ..
  show _ ∧ _
  rw [hz]
  have he : IsEnum ((s.heap.push o).push { cls := .type "enumerate", data := .fields #[.none, .bool false, .ref s.heap.objs.size, rawInt 0, .none, .none] }) (s.heap.objs.size + 1) s.heap.objs.size 0 .none := by
    have := Heap.get?_push_size (s.heap.push o) (o := { cls := .type "enumerate", data := .fields #[.none, .bool false, .ref s.heap.objs.size, rawInt 0, .none, .none] }) rfl
    rw [hz] at this; exact this
  refine ⟨⟨_, he, rfl⟩, h _ he (Heap.get?_push_of_some _ (Heap.get?_push_size _ B.free)) (by rw [Heap.size_push, hz]) fun b o x => Heap.get?_push_of_some _ (Heap.get?_push_of_some _ x)⟩
/-- the tuple at a, each item in a new pair -/
def IteT (K : PySem.W.Frag) (a : Addr) : It :=
  ⟨fun i H => ∃ (xs : List V) (x : V), SqT K H a xs ∧ xs[i]? = some x, fun i H v H' => ∃ T x, v = .ref T ∧ H T = none ∧ H' = upd H T (.tup [.int (i : Nat), x]) ∧ ∀ xs, SqT K H a xs → xs[i]? = some x, fun i H => ∃ xs : List V, SqT K H a xs ∧ xs.length ≤ i⟩
theorem turn_enumT {P : Program} {w : World} {K : PySem.W.Frag} {elts : List Expr} {kk : Nat} {tpos : Pos} (a e it : Addr) :
    Turn P w K (.Tuple elts kk tpos) (IteT K a) [e, it] e (fun i h => (∃ old, IsEnum h e it ((i : Nat) : Int) old) ∧ h.IsTupleIter it a i ∧ e ≠ it) where
  mem := by simp
  obj := fun i h st b hb => by
    obtain ⟨⟨old, he⟩, ⟨o, ho, hc, hd⟩, _⟩ := st
    have e' : b = e ∨ b = it := by simpa using hb
    rcases e' with z | z
    · rw [z]; exact ⟨_, he, fun v q => nomatch q⟩
    · rw [z]; exact ⟨o, ho, fun v q => by rw [hd] at q; cases q⟩
  keep := fun i h h' st k => let ⟨⟨old, he⟩, hi, hne⟩ := st; ⟨⟨old, k e (by simp) _ he⟩, hi.at fun o q => k it (by simp) o q, hne⟩
  item := by
    intro X hP hw hK hc i pins s σ H E I hf st hg
    subst hP hw hK
    obtain ⟨⟨old, he⟩, hit, hne⟩ := st
    obtain ⟨xs, x, hq, hx⟩ := hg
    obtain ⟨its, rv, p, hz⟩ := I.tuple hq
    obtain ⟨u, hu, ru⟩ := rv.get hx
    have hel : e < s.heap.objs.size := Heap.lt_size he
    have hil : it < s.heap.objs.size := by obtain ⟨_, q, _⟩ := hit; exact Heap.lt_size q
    have p : s.heap.IsTuple a its.toArray := p
    have ea : e ≠ a := fun z => by
      obtain ⟨o, ho, hc2, _⟩ := p
      rw [← z, he] at ho
      injection ho with ho
      rw [← ho] at hc2
      exact absurd (show Value.type "enumerate" = .type "tuple" from hc2) (by decide)
    have ai : a ≠ it := fun z => by
      obtain ⟨o, ho, hc2, _⟩ := p
      obtain ⟨o2, ho2, hc3, _⟩ := hit
      rw [z, ho2] at ho
      injection ho with ho
      rw [← ho, hc3] at hc2
      exact absurd hc2 (by decide)
    refine wpAny_pyNext_enum_itemD (Draws.tuple (A := X.A.in1) (show X.A.in1.handled = none from I.ok.hd hc) it a ai its.toArray) he ⟨hit, p⟩ (show i < its.toArray.size by simpa using (List.getElem?_eq_some_iff.mp hu).1) hne (by simp [hne, ea]) fun y h' tk hy ho hit' hT hsz hk => ?_
    obtain rfl : y = u := by
      have hy : its.toArray[i]? = some y := hy
      rw [List.getElem?_toArray, hu] at hy
      injection hy with hy
      exact hy.symm
    refine ⟨_, rfl, wpAny_letOwnedTupleGo_enum (s := { s with heap := h', toks := tk + 1 }) ho fun h'' he' sb => ?_⟩
    have hT2 : h''.get? s.heap.objs.size = some { cls := .type "tuple", data := .seq #[.int i tk, y] } := (sb.2 _ (Nat.ne_of_gt hel)).trans hT
    have new : ObjOk X.prog X.w (upd H s.heap.objs.size (.tup [.int (i : Nat), x])) h'' s.heap.objs.size (.tup [.int (i : Nat), x]) :=
      ⟨by show 2 ≤ sizeLine; decide, [.int i tk, y], .cons ⟨_, rfl⟩ (.cons ru .nil), ⟨_, hT2, rfl, _, rfl⟩⟩
    have I1 : Inv X pins σ (upd H s.heap.objs.size (.tup [.int (i : Nat), x])) { s with heap := h'', toks := tk + 1 } :=
      I.turnedNew (ch := [e, it]) (fun b ob hb q => (sb.2 b (fun z => hb (by simp [z]))).trans (hk b ob (fun z => hb (by simp [z])) (fun z => hb (by simp [z])) q)) hf (Nat.le_refl _) new
    refine ⟨.ref s.heap.objs.size, _, I1, rfl, ⟨_, x, rfl, I.hok.fresh (Nat.le_refl _), rfl, fun ys hy => by rw [I.tuple_inj hy hq]; exact hx⟩, ⟨⟨y, ?_⟩, hit'.1.at fun o q => (sb.2 it (Ne.symm hne)).trans q, hne⟩, fun b hb => ?_⟩
    · have e1 : ((i + 1 : Nat) : Int) = (i : Int) + 1 := by omega
      rw [e1]; exact he'
    · have hb' : b < s.heap.objs.size := by
        have e' : b = e ∨ b = it := by simpa using hb
        rcases e' with z | z
        · rw [z]; exact hel
        · rw [z]; exact hil
      rw [upd_ne (Nat.ne_of_lt hb')]
      exact (hf b hb).1
  done := by
    intro X hP hw hK hc i pins s σ H E I hf st hg
    subst hP hw hK
    obtain ⟨⟨old, he⟩, hit, hne⟩ := st
    obtain ⟨xs, hq, hx⟩ := hg
    obtain ⟨its, rv, p, hz⟩ := I.tuple hq
    obtain ⟨f0, f1, f2, f3, f4, f5⟩ := hf it (by simp)
    have hl := rv.length
    have p : s.heap.IsTuple a its.toArray := p
    have ai : a ≠ it := fun z => by
      obtain ⟨o, ho, hc2, _⟩ := p
      obtain ⟨o2, ho2, hc3, _⟩ := hit
      rw [z, ho2] at ho
      injection ho with ho
      rw [← ho, hc3] at hc2
      exact absurd hc2 (by decide)
    -- the iterator may stand behind the end: then it says so too
    have hT : s.TypeIs (.ref e) "enumerate" := ⟨_, he, rfl⟩
    unfold pyNext
    refine wpAny_bind (wpAny_attempt (wpAny_callSpecial?_slot (name := Str.ofString "__next__") hT F.slot_enumerate_next
      (wpAny_call_entry F.slot_enumerate_next hT F.entry_enumerate_next ?_ (F.args_enumerate_next_1 _))))
    show wpAny _ _ (field (.ref e) 2 >>= _) _ _ _
    refine wpAny_bind (wpAny_field he rfl (x := .ref it) rfl ?_)
    refine wpAny_bind (wpAny_nextOf_tuple_end (show X.A.in1.handled = none from I.ok.hd hc) hit p (by simp; omega) fun h' y he' hy => ?_)
    obtain ⟨o, ho, hc2⟩ := hy
    refine wpAny_bind (wpAny_isInstance (T := "StopIteration") (b := true) ⟨o, ho, hc2⟩ isSubtype_stop ?_)
    exact wpAny_pure ⟨rfl, I.turned (t' := s.toks) (fun b o hb q => he' b o hb q) f0 f1 f3 f4 f5⟩
  self := fun A i s Q E st h => let ⟨⟨_, he⟩, _⟩ := st; wpAny_pyIter_enum he h
def iEnumT (K : PySem.W.Frag) (ta : TA) : TI := fun σ H R => ta σ H fun vs H1 => ∃ a xs, vs = [.ref a] ∧ SqT K H1 a xs ∧ R (IteT K a) H1
theorem pi_enumT {X : Cx} {e : Expr} {ta : TA} {p pos tpos : Pos} {elts : List Expr} {kk : Nat} (hg : Gl X "enumerate") (hm : X.mg "enumerate" = none) (ha : PA X [e] ta) (hs : starEach [e] X.env = [(false, eval e X.env)] := by rfl) :
    PI X (.Tuple elts kk tpos) (.Call (.Name "enumerate" p) [e] [] pos) (iEnumT X.K ta) := by
  refine ⟨fun pins s σ H R I h => ?_⟩
  refine Call_ (ld_blt I hg hm boot_enumerate (PyProof.Rows.callWith_type1 (thn (ha.run pos pins s σ H _ I h) fun us s1 ⟨vs, H1, I1, r1, q1⟩ => ?_) hs rfl))
  obtain ⟨a, xs, ex, hq, q⟩ := q1
  subst ex
  cases r1 with
  | cons r rr =>
    cases rr
    cases r
    obtain ⟨its, rv, p', hz⟩ := I1.tuple hq
    refine enum_begins1 (begins_tuple a its.toArray) (show s1.heap.IsTuple a its.toArray from p') fun h' he hit hsz hk => wpAny_pyIter_enum he ?_
    have I2 : Inv X pins σ H1 { s1 with heap := h' } := I1.kept (t' := s1.toks) hk
    refine ⟨s1.heap.objs.size + 1, [s1.heap.objs.size + 1, s1.heap.objs.size], _, _, H1, rfl, I2, turn_enumT a (s1.heap.objs.size + 1) s1.heap.objs.size, ⟨⟨.none, he⟩, ⟨_, hit, rfl, rfl⟩, Nat.succ_ne_self _⟩, fun b hb => ?_, q⟩
    have e' : b = s1.heap.objs.size + 1 ∨ b = s1.heap.objs.size := by simpa using hb
    have hle : s1.heap.objs.size ≤ b := by
      rcases e' with z | z
      · rw [z]; exact Nat.le_add_right _ _
      · rw [z]; exact Nat.le_refl _
    exact I1.fpOk hle (I1.hok.fresh hle)
theorem for_enumT {K : PySem.W.Frag} {a : Addr} {xs : List V} {g : TG} {tb : TS} {D : Ends} {σ : L2.St} {H : Hp} (Pv : Nat → L2.St → Hp → Prop) (h0 : Pv 0 σ H) (hl : ∀ i σ H, i ≤ xs.length → Pv i σ H → SqT K H a xs)
    (hs : ∀ i x T σ H, xs[i]? = some x → Pv i σ H → H T = none → g (.ref T) σ (upd H T (.tup [.int (i : Nat), x])) fun σ2 H2 => tb { D with nx := Pv (i + 1), ct := Pv (i + 1), bk := D.nx } σ2 H2) (hd : ∀ σ H, Pv xs.length σ H → D.nx σ H) :
    ∃ W : Nat → Nat → L2.St → Hp → Prop, (∃ m, W 0 m σ H) ∧ ∀ i m σ H, W i m σ H →
      ((IteT K a).stop i H ∧ D.nx σ H) ∨ ((IteT K a).go i H ∧ ∃ N : L2.St → Hp → Prop, (∀ σ' H', N σ' H' → ∃ m', m' < m ∧ W (i + 1) m' σ' H') ∧ ∀ x H', (IteT K a).yld i H x H' → g x σ H' fun σ2 H2 => tb { D with nx := N, ct := N, bk := D.nx } σ2 H2) := by
  refine ⟨fun i m σ H => m = xs.length - i ∧ i ≤ xs.length ∧ Pv i σ H, ⟨xs.length, by simp, Nat.zero_le _, h0⟩, ?_⟩
  rintro i m σ H ⟨rfl, hi, p⟩
  have q := hl i σ H hi p
  by_cases hlt : i < xs.length
  · refine .inr ⟨⟨xs, xs[i], q, by simp [hlt]⟩, Pv (i + 1), fun σ' H' p' => ⟨xs.length - (i + 1), by omega, rfl, hlt, p'⟩, fun x H' y => ?_⟩
    obtain ⟨T, z, rfl, hT, rfl, y⟩ := y
    exact hs i z T σ _ (y xs q) p hT
  · have e : i = xs.length := by omega
    subst e
    exact .inl ⟨⟨xs, q, Nat.le_refl _⟩, hd σ H p⟩
section
variable {X : Cx} {C f : Addr} {k : Nat} {CX : CXT} {sp : Sp} {E : XK}
/-- x not in c, c of a class with __contains__, its def told without a guard -/
theorem op_notInR (M : InM X.K C f) (F : FnR X.prog X.w X.K X.mg X.base CX k f sp) (hr : Room k X.A) (hx : Passes CX X E) : OpR X (compareOp .NotIn) (rNotInO C sp E) := by
  intro pins s σ H x y v u Q I rx ry h
  obtain ⟨a, dx, fs, rfl, ha, q⟩ := h
  obtain rfl : u = Value.ref a := ry
  have hc : wpAny (model X.prog X.w) X.A (call (.ref f) [.ref a, v]) (fun r s' => wpAny (model X.prog X.w) X.A (truthy r) (fun b s2 => EP X pins σ Q (.bool (!b)) s2) X.xe s') X.xe s :=
    thn (wpAny_call (run_fnR (us := [.ref a, v]) (vs := [.ref a, x]) F hr hx I (.cons rfl (.cons rx .nil)) q)) fun r s1 z => by
      obtain ⟨z, H1, I1, rz, b, rfl, q⟩ := z
      obtain rfl : r = Value.bool b := rz
      exact wpAny_truthy_bool ⟨.bl (!b), H1, I1, rfl, q⟩
  obtain ⟨mA, J, _⟩ := ins_get I.hok ha
  obtain ⟨od, J, _⟩ := J.look
  obtain ⟨m, hF⟩ := I.fr
  exact PySem.W.notIn_K hF I.ok.mod.kin J M.hs M.hf hc
end
end AZ

set_option Elab.async false
set_option maxRecDepth 100000
set_option maxHeartbeats 4000000
set_option linter.all false
/-! Own work: a tuple made of a list, its object kept in view, so that its methods can be asked. -/
namespace AZ
open PySem L2 PyProof.Rows
/-- a tuple whose object is known -/
def TupF (H : Hp) (a : Addr) (xs : List V) : Prop := ∃ o : Obj, H a = some (.frz o (.tup xs)) ∧ o.cls = .type "tuple" ∧ o.dict = none
theorem TupF.same {H H' : Hp} {a : Addr} {xs : List V} (h : TupF H a xs) (e : Same H H') : TupF H' a xs := by
  obtain ⟨o, h1, h2⟩ := h
  exact ⟨o, e _ _ h1, h2⟩
theorem TupF.sq {K : PySem.W.Frag} {H : Hp} {a : Addr} {xs : List V} (h : TupF H a xs) : SqT K H a xs := by
  obtain ⟨o, h1, _⟩ := h
  exact Or.inl (Or.inr ⟨o, h1⟩)
section
variable {X : Cx}
def rTupF (K : PySem.W.Frag) : List V → Hp → VK → Prop := fun xs H Q => ∃ p ys, xs = [.ref p] ∧ SqL K H p ys ∧ ∀ l (o : Obj), H l = none → o.cls = .type "tuple" → o.dict = none → Q (.ref l) (upd H l (.frz o (.tup ys)))
theorem call_tupleF : CallR X (.type "tuple") (rTupF X.K) := by
  intro pins s σ H xs us Q I r h
  obtain ⟨p, ys, rfl, hq, q⟩ := h
  obtain ⟨u, rfl, rx⟩ := vals1 r
  cases rx
  obtain ⟨its, r', pl, hz⟩ := I.list hq
  have hlen := r'.length
  refine call_tuple_list pl.isList (fun h' kp => ?_) (by simp only [List.size_toArray] <;> omega)
  have I1 : Inv X pins σ H { s with heap := h' } := I.kept (t' := s.toks) kp
  have I2 : Inv X pins σ (upd H h'.objs.size (.frz { cls := .type "tuple", data := .seq its.toArray } (.tup ys))) { s with heap := h'.push { cls := .type "tuple", data := .seq its.toArray } } :=
    I1.laid (t' := s.toks) (fun b o e => Heap.get?_push_of_some _ e) (Nat.le_refl _) (show ObjOk X.prog X.w _ _ _ (.frz _ (.tup ys)) from ⟨Heap.get?_push_size _ rfl, hz, its, r', IsTup.new _ _⟩)
  exact ⟨.ref h'.objs.size, _, I2, rfl, q _ _ (I1.hok.fresh (Nat.le_refl _)) rfl rfl⟩
variable {o e : Expr} {es : List Expr} {to : TE} {t : TA} {name : Str} {apos cpos : Pos} {id : String} {r : V → List V → Hp → VK → Prop}
def tBMF (r : V → List V → Hp → VK → Prop) (to : TE) (t : TA) : TE := fun σ H Q => to σ H fun x H1 => (∃ p xs, x = .ref p ∧ TupF H1 p xs) ∧ t σ H1 fun xs H2 => r x xs H2 Q
theorem pe_bmF (pa : PlainAttrs "tuple") (slot : Slot "tuple" name id) (hty : typeOf (.builtin id) = pure (.type "method_descriptor")) (hm : MtR X id r) (ho : PE X o to) (ha : PA X (e :: es) t)
    (hbase : attributeBase o name X.env (eval o X.env) = eval o X.env := by rfl)
    (hfew : ((backTo cpos (starEach (e :: es) X.env)).all (fun x => !x.1) && (backToKw cpos (keywordEach [] X.env)).all (fun x => x.1.isSome)
      && decide ((e :: es).length + ([] : List Keyword).length + (if ([] : List Keyword).isEmpty then 0 else 1) < 30)) = true := by rfl)
    (hline : (apos.endLine == cpos.line) = true := by rfl) (hs : starEach (e :: es) X.env = (false, eval e X.env) :: starEach es X.env := by rfl) (hplain : (backTo cpos (starEach es X.env)).any (·.1) = false := by rfl) :
    PE X (.Call (.Attribute o name apos) (e :: es) [] cpos) (tBMF r to t) := by
  refine ⟨fun pins s σ H Q I h => ?_⟩
  refine wpAny_Call_method_late hbase hfew hline rfl (thn (ho.run pins s σ H _ I h) fun v s1 ⟨x, H1, I1, r1, ty, q1⟩ => ?_)
  obtain ⟨p, xs, rfl, ob, hp, hc, hd⟩ := ty
  obtain rfl : v = Value.ref p := r1
  have g := (I1.hok p _ hp).1
  have h1 : s1.TypeIs (.ref p) "tuple" := ⟨ob, g, hc⟩
  have h2 : ∀ a, Value.ref p = .ref a → ∃ ob, s1.heap.get? a = some ob ∧ ob.dict = none := fun a ea => by
    cases ea
    exact ⟨ob, g, hd⟩
  refine ⟨"tuple", id, pa, slot, hty, h1, h2, ?_⟩
  have hA := ha.run cpos pins s1 σ H1 _ I1 q1
  rw [hs] at hA ⊢
  refine Calls.callWith_builtin (by show (false || (backTo cpos (starEach es X.env)).any (·.1)) = false; rw [hplain] <;> rfl) (Calls.evalArgs_plain ?_)
  exact thn hA fun us s2 ⟨vs, H2, I2, r2, q2⟩ => hm pins s2 σ H2 (.ref p) vs (.ref p) us Q I2 rfl r2 q2
end
end AZ

set_option Elab.async false
set_option maxRecDepth 100000
set_option maxHeartbeats 4000000
set_option linter.all false
/-! Own work: own operators whose right side is a text. -/
namespace AZ
open PySem L2 PyProof.Rows
structure BinMT (K : PySem.W.Frag) (T : String) (C : Addr) (op : Operator) (f : Addr) : Prop where
  hs : PySem.W.findIn K (.ref C) (PySem.dunder op.info.2) = some (some (.ref f))
  hf : PySem.W.isFn K (.ref f) = true
  hc : PySem.W.selfFirst K C = true
  hr : ∃ rc, PySem.W.findIn K (.ref C) (dunderR op.info.2) = some rc ∧ (rc = none ∨ ∃ g : Addr, rc = some (.ref g))
  ht : ∃ fo ro, PySem.W.findIn K (.type T) (PySem.dunder op.info.2) = some fo ∧ PySem.W.findIn K (.type T) (dunderR op.info.2) = some ro
  hu : PySem.W.subIn K (.type T) (.ref C) = some false
end AZ
namespace PySem.W
open PySem PySem.Spec PyProof.Rows PySem.Calls
section
variable {prog : Program} {w : World} {A : Around} {E : Value → Shared → Prop} {s : Shared} {K : Frag} {h₀ : Heap} {L x C f : Addr} {m : Str → Option Value} {ox : Obj} {od : Option Obj} {T : String}
theorem inpl_KT {op : Operator} {b : Value} {fo ro rc : Option Value} {Q : Value → Shared → Prop} (F : Fr h₀ L s.heap m) (X₀ : K.In h₀) (I : InstAt s.heap x ox C od) (hb : typeOf b = pure (.type T)) (ip : AZ.IpM K C op) (ho : typeLookup (.type "object") (dunderI op.info.2) = pure none) (hc : selfFirst K C = true)
    (hs : findIn K (.ref C) (PySem.dunder op.info.2) = some (some (.ref f))) (hf : isFn K (.ref f) = true) (hr : findIn K (.ref C) (dunderR op.info.2) = some rc) (hp : rc = none ∨ ∃ g : Addr, rc = some (.ref g))
    (h1 : findIn K (.type T) (PySem.dunder op.info.2) = some fo) (h2 : findIn K (.type T) (dunderR op.info.2) = some ro) (hsub : subIn K (.type T) (.ref C) = some false)
    (h : wpAny (model prog w) A (call (.ref f) [.ref x, b]) (CmpBack Q) E s) : wpAny (model prog w) A (inplaceOp op (.ref x) b) Q E s := by
  have X := X₀.keeps F.keep
  obtain ⟨cd, hcd, hm⟩ := ip.cls
  have one := ksp_try X I hs hf h
  unfold inplaceOp
  refine wpAny_holding (wpAny_bind (I.type.here (wpAny_bind ((AZ.noInp X hcd hm ip.no ho).here ?_))))
  simp only [Bool.false_eq_true, if_false]
  refine wpAny_bind ?_
  rcases hi : op.info with ⟨sym, nm'⟩
  rw [hi] at hs hr h1 h2
  dsimp only at hs hr h1 h2
  obtain ⟨hh, g, d, tt, os⟩ := s
  have L1 : Looks (model prog w) hh (typeOf (.ref x)) (.ref C) := I.type
  have L2 : Looks (model prog w) hh (typeOf b) (.type T) := Looks.of_pure hb
  have L3 : Looks (model prog w) hh (fillsNumberSlot (.ref C) nm') true := fills_K X hcd hm hs
  have L4 : Looks (model prog w) hh (fillsNumberSlot (.type T) nm') ((fo.isSome && !isSeqSlot fo) || (ro.isSome && !isSeqSlot ro)) := ksp_fillsT X h1 h2
  have L5 : Looks (model prog w) hh (isSubtype (.type T) (.ref C)) false := looks_subIn X hsub
  have L6 : Looks (model prog w) hh (numberSlotInPython (.ref C) nm') true := ksp_inPy X hs hr hp
  have L7 : Looks (model prog w) hh (numberSlotInPython (.type T) nm') false := Looks.of_pure rfl
  have L8 : Looks (model prog w) hh (typeLookup (.type T) (dunderR nm')) ro := looks_findIn X h2
  generalize ((fo.isSome && !isSeqSlot fo) || (ro.isSome && !isSeqSlot ro)) = right at L4
  have hne : (Value.ref C == Value.type T) = false := Bool.eq_false_iff.mpr fun q => by cases beq_iff_eq.mp q
  rw [hi] at one
  dsimp only at one
  dsimp only
  unfold binaryOp1
  refine wpAny_bind (L1.at (wpAny_bind (L2.at (wpAny_bind (L3.at ?_)))))
  simp only [hne, Bool.false_eq_true, if_false]
  cases right with
  | false =>
    ksp_lk
    refine wpAny_mono one (fun r s' hr' => ?_) fun _ _ e => e
    obtain ⟨v, rfl, hq⟩ := hr'
    ksp_lk
    exact hq
  | true =>
    ksp_lk
    refine wpAny_mono one (fun r s' hr' => ?_) fun _ _ e => e
    obtain ⟨v, rfl, hq⟩ := hr'
    ksp_lk
    exact hq
end
end PySem.W
namespace AZ
open PySem L2 PyProof.Rows
section
variable {X : Cx} {C f : Addr} {k : Nat} {CX : CXT} {sp : Sp} {E : XK}
/-- a op x, x a text -/
def rBS (C : Addr) (sp : Sp) (E : XK) : R2 := fun x y H Q => ∃ (a dx : Addr) (fs : List (Str × V)) (z : Str), x = .ref a ∧ H a = some (.ins C dx fs) ∧ y = .str z ∧ sp [x, y] H Q E
theorem op_ownBS {op : Operator} (M : BinMT X.K "str" C op f) (F : FnR X.prog X.w X.K X.mg X.base CX k f sp) (hr : Room k X.A) (hx : Passes CX X E) : OpR X (binaryOp op) (rBS C sp E) := by
  intro pins s σ H x y v u Q I rx ry h
  obtain ⟨a, dx, fs, z, rfl, ha, rfl, hs⟩ := h
  obtain rfl : v = Value.ref a := rx
  have hc : wpAny (model X.prog X.w) X.A (call (.ref f) [.ref a, u]) (PySem.W.CmpBack (EP X pins σ Q)) X.xe s :=
    thn (wpAny_call (run_fnR (us := [.ref a, u]) (vs := [.ref a, .str z]) F hr hx I (.cons rfl (.cons ry .nil)) hs)) fun _ _ z => cmpBack_of z
  obtain ⟨mA, J, _⟩ := ins_get I.hok ha
  obtain ⟨od, J, _⟩ := J.look
  obtain ⟨m, hF⟩ := I.fr
  obtain ⟨t, rfl⟩ := ry
  obtain ⟨rc, hrc, hp⟩ := M.hr
  obtain ⟨fo, ro, h1, h2⟩ := M.ht
  exact PySem.W.ksp_binT hF I.ok.mod.kin J rfl M.hc M.hs M.hf hrc hp h1 h2 M.hu hc
theorem ip_ownS {op : Operator} (ip : IpM X.K C op) (ho : typeLookup (.type "object") (dunderI op.info.2) = pure none) (M : BinMT X.K "str" C op f) (F : FnR X.prog X.w X.K X.mg X.base CX k f sp) (hr : Room k X.A) (hx : Passes CX X E) : PIp X op (rBS C sp E) := by
  intro pins s σ H x y v u Q I rx ry h
  obtain ⟨a, dx, fs, z, rfl, ha, rfl, hs⟩ := h
  obtain rfl : v = Value.ref a := rx
  have hc : wpAny (model X.prog X.w) X.A (call (.ref f) [.ref a, u]) (PySem.W.CmpBack (EP X pins σ Q)) X.xe s :=
    thn (wpAny_call (run_fnR (us := [.ref a, u]) (vs := [.ref a, .str z]) F hr hx I (.cons rfl (.cons ry .nil)) hs)) fun _ _ z => cmpBack_of z
  obtain ⟨mA, J, _⟩ := ins_get I.hok ha
  obtain ⟨od, J, _⟩ := J.look
  obtain ⟨m, hF⟩ := I.fr
  obtain ⟨t, rfl⟩ := ry
  obtain ⟨rc, hrc, hp⟩ := M.hr
  obtain ⟨fo, ro, h1, h2⟩ := M.ht
  exact PySem.W.inpl_KT hF I.ok.mod.kin J rfl ip ho M.hc M.hs M.hf hrc hp h1 h2 M.hu hc
end
theorem obj_noisub : typeLookup (.type "object") (dunderI (Operator.info .Sub).2) = pure none := by rw [typeLookup_type, builtinLookup_eq_fast]; kernel_rfl
end AZ

set_option Elab.async false
set_option maxRecDepth 100000
set_option maxHeartbeats 4000000
set_option linter.all false
/-! Own work: len, bool and [] of own values; a def with a star parameter called by keywords. -/
namespace PySem.W
open PySem PySem.Calls PyProof.Rows Builtin
section
variable {prog : Program} {w : World} {A : Around} {E : Value → Shared → Prop} {s : Shared} {K : Frag} {x C L f : Addr} {h₀ : Heap} {m : Str → Option Value} {ox : Obj} {od : Option Obj}
/-- the truth of an instance that has no __bool__ but a __len__ -/
theorem truthy_KL {Q : Bool → Shared → Prop} (F : Fr h₀ L s.heap m) (X₀ : K.In h₀) (I : InstAt s.heap x ox C od) (hb : findIn K (.ref C) "__bool__" = some none) (hs : findIn K (.ref C) "__len__" = some (some (.ref f))) (hf : isFn K (.ref f) = true)
    (h : wpAny (model prog w) A.in1 (call (.ref f) [.ref x]) (LenBack fun v s' => ∃ n t, v = .int n t ∧ Q (n != 0) s') E s) : wpAny (model prog w) A (truthy (.ref x)) Q E s := by
  have X := X₀.keeps F.keep
  unfold truthy
  refine wpAny_bind (m := callSpecial? (.ref x) (Str.ofString "__bool__")) (wpAny_bind (wpAny_bind (I.type.here ((looks_findIn X hb).here (wpAny_pure ?_)))))
  refine wpAny_bind (wpAny_bind (I.type.here ((looks_findIn X hs).here ?_)))
  show wpAny _ _ (runValue (.builtin "len" ⟨[.ref x], []⟩) >>= _) _ _ _
  refine wpAny_bind (wpAny_runValue (codeAny_builtin entry_len ?_))
  unfold Builtin.«len»
  refine wpAny_bind (m := oneArg "len" _) (wpAny_pure ?_)
  refine wpAny_bind (m := callSpecial? (.ref x) (Str.ofString "__len__")) (special_fn X I hs (beq_iff_eq.mp hf) (wpAny_mono h (fun r s' hr => ?_) fun _ _ y => y))
  cases r <;> first | exact hr.elim | skip
  rename_i n u
  obtain ⟨⟨h0, h1⟩, n2, t2, e, hq⟩ := hr
  injection e with e1 e2
  subst e1
  have lo : ¬ n < 0 := by omega
  have hi : ¬ n ≥ 2 ^ 63 := by omega
  refine wpAny_bind (wpAny_holding (wpAny_pure (wpAny_bind (wpAny_letGo ?_))))
  show wpAny _ _ (if n < 0 then _ else if n ≥ 2 ^ 63 then _ else _) _ _ _
  rw [if_neg lo, if_neg hi]
  exact wpAny_bind (wpAny_mkInt (wpAny_pure (wpAny_pure hq)))
end
end PySem.W
namespace AZ
open PySem PySem.Spec PySem.W PySem.Calls PyProof.Rows
section
variable {prog : Program} {w : World} {A : Around} {E : Value → Shared → Prop} {s : Shared} {x : Addr}
/-- bool(x), its truth known -/
theorem bool_by {Q : Value → Shared → Prop} (tr : wpAny (model prog w) A.in1.in1 (truthy (.ref x)) (fun b s₁ => Q (.bool b) s₁) E s) : wpAny (model prog w) A (call (.type "bool") [.ref x]) Q E s := by
  refine callType_codes (T := "bool") (Bi := Builtin.«object.__init__») (Q₁ := fun r s₁ => ∃ b, r = .bool b ∧ Q r s₁) PySem.F.called_bool (PySem.F.typeCall_bool_1 _) PySem.F.entry_object_init (codeAny_of_tree ?_) ?_
  · show wpAny _ A.in1.in1 (do checkBuiltinCall "bool.__new__" ⟨[.type "bool", .ref x], []⟩; again (.builtin "bool.__new__" ⟨[.type "bool", .ref x], []⟩)) _ _ s
    have pl : plainId "bool.__new__" = true := by decide +kernel
    refine wpAny_bind (wpAny_of_eq (PySem.F.newCall_bool_1 _) (wpAny_pure ⟨plainId_quiet pl _, codeAny_builtin PySem.F.entry_bool_new ?_⟩))
    rw [Around.under_plainId pl _]
    unfold Builtin.«bool.__new__»
    exact wpAny_bind (wpAny_pure (wpAny_bind (wpAny_of_eq PySem.F.conv_sub_bool (wpAny_bind (wpAny_pure (wpAny_bind (wpAny_mono tr (fun b s₁ hb => wpAny_pure ⟨_, rfl, hb⟩) fun _ _ y => y)))))))
  · rintro obj s₁ ⟨b, rfl, hq⟩
    exact ⟨PySem.typeIs_bool _ _, PySem.F.args_object_init_2 _ _, object_init_meets PySem.F.called_bool.init.lookup PySem.F.called_bool.made (by decide) prog w A.in1 _ s₁ ⟨PySem.typeIs_bool _ _, rfl, hq⟩⟩
end
end AZ
namespace AZ
open PySem L2 PyProof.Rows
/-- own __len__ at f -/
structure LenM (K : PySem.W.Frag) (C f : Addr) : Prop where
  hs : PySem.W.findIn K (.ref C) "__len__" = some (some (.ref f))
  hf : PySem.W.isFn K (.ref f) = true
section
variable {X : Cx} {C f : Addr} {k : Nat} {CX : CXT} {sp : Sp} {E : XK}
theorem lenBack_of {pins : List (Addr × Obj)} {σ : L2.St} {Q : Int → Hp → Prop} {v : Value} {s : Shared} {R : Value → Shared → Prop} (g : ∀ n t s' H', Inv X pins σ H' s' → Q n H' → R (.int n t) s') (h : EP X pins σ (fun v H1 => ∃ n : Nat, v = .int (n : Int) ∧ n < 2 ^ 62 ∧ Q (n : Int) H1) v s) : PySem.W.LenBack R v s := by
  obtain ⟨z, H1, I1, rz, n, rfl, hn, q⟩ := h
  obtain ⟨t, rfl⟩ := id rz
  exact ⟨⟨by omega, by omega⟩, g _ _ _ _ (I1.tok _) q⟩
/-- len(x) -/
def rLenF (C : Addr) (sp : Sp) (E : XK) : List V → Hp → VK → Prop := fun xs H Q => ∃ (a dx : Addr) (fs : List (Str × V)), xs = [.ref a] ∧ H a = some (.ins C dx fs) ∧ sp [.ref a] H (fun v H1 => ∃ n : Nat, v = .int (n : Int) ∧ n < 2 ^ 62 ∧ Q (.int (n : Int)) H1) E
theorem call_lenF (M : LenM X.K C f) (F : FnR X.prog X.w X.K X.mg X.base CX k f sp) (hr : Room (k + 1) X.A) (hx : Passes CX X E) : CallR X (.builtin "len") (rLenF C sp E) := by
  intro pins s σ H xs us Q I rv q
  obtain ⟨a, dx, fs, rfl, ha, hs⟩ := q
  cases rv with
  | cons r1 r2 =>
    cases r2
    cases r1
    have hc : wpAny (model X.prog X.w) X.A.in1 (call (.ref f) [.ref a]) (PySem.W.LenBack (EP X pins σ Q)) X.xe s :=
      thn (wpAny_call (run_fnS (us := [.ref a]) (vs := [.ref a]) ⟨hr.in1, rfl⟩ F hx I (.cons rfl .nil) hs)) fun v s3 z => lenBack_of (Q := fun n H' => Q (.int n) H') (fun n t s' H' I' q => ⟨.int n, H', I', ⟨t, rfl⟩, q⟩) z
    obtain ⟨mA, J, _⟩ := ins_get I.hok ha
    obtain ⟨od, J, _⟩ := J.look
    obtain ⟨m, hF⟩ := I.fr
    exact PySem.W.len_K hF I.ok.mod.kin J M.hs M.hf hc
/-- bool(x) by its length -/
def rBoolL (C : Addr) (sp : Sp) (E : XK) : List V → Hp → VK → Prop := fun xs H Q => ∃ (a dx : Addr) (fs : List (Str × V)), xs = [.ref a] ∧ H a = some (.ins C dx fs) ∧ sp [.ref a] H (fun v H1 => ∃ n : Nat, v = .int (n : Int) ∧ n < 2 ^ 62 ∧ Q (.bl ((n : Int) != 0)) H1) E
theorem call_boolL (M : LenM X.K C f) (hb : PySem.W.findIn X.K (.ref C) "__bool__" = some none) (F : FnR X.prog X.w X.K X.mg X.base CX k f sp) (hr : Room (k + 3) X.A) (hx : Passes CX X E) : CallR X (.type "bool") (rBoolL C sp E) := by
  intro pins s σ H xs us Q I rv q
  obtain ⟨a, dx, fs, rfl, ha, hs⟩ := q
  cases rv with
  | cons r1 r2 =>
    cases r2
    cases r1
    have hc : wpAny (model X.prog X.w) X.A.in1.in1.in1 (call (.ref f) [.ref a]) (PySem.W.LenBack fun v s' => ∃ n t, v = .int n t ∧ EP X pins σ Q (.bool (n != 0)) s') X.xe s :=
      thn (wpAny_call (run_fnS (us := [.ref a]) (vs := [.ref a]) ⟨hr.in1.in1.in1, rfl⟩ F hx I (.cons rfl .nil) hs)) fun v s3 z => lenBack_of (Q := fun n H' => Q (.bl (n != 0)) H') (fun n t s' H' I' q => ⟨n, t, rfl, .bl (n != 0), H', I', rfl, q⟩) z
    obtain ⟨mA, J, _⟩ := ins_get I.hok ha
    obtain ⟨od, J, _⟩ := J.look
    obtain ⟨m, hF⟩ := I.fr
    exact bool_by (PySem.W.truthy_KL hF I.ok.mod.kin J hb M.hs M.hf hc)
/-- own __getitem__ at f -/
structure GetM (K : PySem.W.Frag) (C f : Addr) : Prop where
  hs : PySem.W.findIn K (.ref C) "__getitem__" = some (some (.ref f))
  hf : PySem.W.isFn K (.ref f) = true
  hi : PySem.W.fnIn K f = true
def rIxO (C : Addr) (sp : Sp) (E : XK) : R2 := fun x y H Q => ∃ (a dx : Addr) (fs : List (Str × V)), x = .ref a ∧ H a = some (.ins C dx fs) ∧ sp [x, y] H Q E
/-- x[y], the index no slice -/
theorem pe_ixO {a b : Expr} {ta tb : TE} {pos : Pos} (M : GetM X.K C f) (F : FnR X.prog X.w X.K X.mg X.base CX k f sp) (hr : Room (k + 1) X.A) (hx : Passes CX X E) (ha : PE X a ta) (hb : PE X b tb) (hs : ∀ v u : Value, subscripted b true v u = runValue (.builtin "lifetime.subscript" ⟨[v, u], []⟩)) : PE X (.Subscript a b pos) (tOp (rIxO C sp E) ta tb) := by
  refine ⟨fun pins s σ H Q I h => Subscript_ (binT ha hb I h fun v u s2 x y H2 I2 rx ry q => ?_)⟩
  obtain ⟨c, dx, fs, rfl, hc, hq⟩ := q
  obtain rfl : v = Value.ref c := rx
  have run : wpAny (model X.prog X.w) X.A.in1 (call (.ref f) [.ref c, u]) (EP X pins σ Q) X.xe s2 :=
    wpAny_call (run_fnS (us := [.ref c, u]) (vs := [.ref c, y]) ⟨hr.in1, rfl⟩ F hx I2 (.cons rfl (.cons ry .nil)) hq)
  obtain ⟨mA, J, _⟩ := ins_get I2.hok hc
  obtain ⟨od, J, _⟩ := J.look
  obtain ⟨m, hF⟩ := I2.fr
  exact PySem.W.sub_K hF I2.ok.mod.kin J M.hs M.hi M.hf run (hs _ _)
end
/-! a def with a star parameter, called by keywords: nothing is left over -/
section
variable {P : Program} {w : World} {K : PySem.W.Frag} {mg : Str → Option Value} {base : Heap} {x qual : Str} {st : Stmt} {f : Addr} {fd : FuncData} {N ps ks : List Str} {pv : Str} {k : Nat} {sp : Sp}
theorem Fun.okSK {g : List Value → List Value → List Value} {gV : List V → List V → List V} (F : L2.Fun K x qual st f fd) (S : FnScope N (ps ++ [pv]) (defScope st)) (rel : ∀ {vs zs : List V} {us ws : List Value}, Vals vs us → Vals zs ws → Vals (gV vs zs) (g us ws))
    (hb : ∀ (kV doc pm : Value) (an : Option Addr) (cdv ct : Value) (us ws : List Value), (g us ws).length = ps.length → bindArgs (PySem.W.fnOf x qual (defArgs st) (defBody st) (defScope st) .none kV doc pm an cdv ct) ⟨us, ks.zip ws⟩ = (newTuple [] >>= fun t => pure (ps.zip (g us ws) ++ [(pv, t)])))
    (hbody : ∀ (cdv : Value) (A : Around) (outer : List Env) (s : Shared) (H : Hp) (vs : List V) (Q : VK) (E : XK), Room k (A.deeper (envOfC qual (defScope st) s.heap.objs.size f cdv)) → sp vs H Q E →
      ∃ t, PSs (cxOf CX0 P w K mg base N qual (defScope st) f cdv A outer s H E).nox (defBody st) t ∧ t { nx := fun _ H' => Q .non H', rt := Q } (L2.start N vs) H) :
    FnRk P w K mg base CX0 (k + 1) f ks gV (fun vs H Q E => vs.length = ps.length ∧ ∀ p, H p = Option.none → sp (vs ++ [V.ref p]) (upd H p (.tup [])) Q E) := by
  obtain ⟨oc, od, kV, doc, pm, an, cdv, ct, osl, rfl, lk, hcd⟩ := F.ex
  intro A outer s H us ws vs zs Q E hr e0 r rz h
  obtain ⟨hl, hq⟩ := h
  have rg := rel r rz
  have hlg : (g us ws).length = ps.length := by rw [← rg.length]; exact hl
  have hn : H s.heap.objs.size = Option.none := e0.hok.fresh (Nat.le_refl _)
  have up0 : StX.CXUp CX0 := StX.cxUp_none
  refine StX.run_bnd lk hcd S hr e0 (G := fun xs H2 => ∃ p, H p = Option.none ∧ xs = gV vs zs ++ [V.ref p] ∧ H2 = upd H p (.tup [])) (fun A' Ex Q' go => ?_) fun s2 H2 xs ⟨p, hp, ex, eH⟩ hr' => ?_
  · rw [hb _ _ _ _ _ _ us ws hlg]
    refine wpAny_bind (wpAny_newTuple (wpAny_pure ?_) (Nat.zero_le _))
    have new : ObjOk P w (upd H s.heap.objs.size (.tup [])) (s.heap.push ({ cls := .type "tuple", data := .seq #[] } : Obj)) s.heap.objs.size (.tup []) := ⟨Nat.zero_le _, [], .nil, ⟨_, Heap.get?_push_size _ rfl, rfl, _, rfl⟩⟩
    have un := StX.un_laid (fs := frs outer) (s := s) (o := ({ cls := .type "tuple", data := .seq #[] } : Obj)) (u := .tup []) hn
    have z := go _ _ (gV vs zs ++ [V.ref s.heap.objs.size]) (g us ws ++ [Value.ref s.heap.objs.size]) (StX.env0_laid e0 new) un rfl (fun e s' => up0 outer s H _ _ E e s' un (fun b o q => Heap.get?_push_of_some _ q) rfl) (rg.append (.cons rfl .nil))
      (by rw [List.length_append, List.length_append, hl] <;> rfl) ⟨_, hn, rfl, rfl⟩
    rw [List.zip_append hlg.symm] at z
    exact z
  · subst ex eH
    obtain ⟨t, ht, q⟩ := hbody cdv A outer s2 _ _ Q E hr' (hq p hp)
    exact ⟨t, ht.nox, q⟩
end
end AZ

set_option Elab.async false
set_option maxRecDepth 100000
set_option maxHeartbeats 4000000
set_option linter.all false
/-! Own work: zip of a tuple and a list. -/
namespace AZ
open PySem PySem.Spec PyProof.Rows
open PySem.Sem (wp)
/-! the heap as the zip is made: the two iterators, their pair, the pair handed out, the zip -/
abbrev zmA (h : Heap) (a : Addr) : Heap := h.push { cls := .type "tuple_iterator", data := .fields #[.ref a, .int 0 0] }
abbrev zmB (h : Heap) (a b : Addr) : Heap := (zmA h a).push { cls := .type "list_iterator", data := .fields #[.ref b, .int 0 0] }
abbrev zmC (h : Heap) (a b : Addr) : Heap := (zmB h a b).push { cls := .type "tuple", data := .seq #[.ref h.objs.size, .ref (zmA h a).objs.size] }
abbrev zmD (h : Heap) (a b : Addr) : Heap := (zmC h a b).push { cls := .type "tuple", data := .seq #[.none, .none] }
abbrev zmE (h : Heap) (a b : Addr) : Heap := (zmD h a b).push { cls := .type "zip", data := .fields #[.none, .bool false, .bool false, .ref (zmB h a b).objs.size, .ref (zmC h a b).objs.size] }
theorem new_zipM (a b : Addr) (xs ys : Array Value) : Meets (Builtin.«zip.__new__» ⟨[.type "zip", .ref a, .ref b], []⟩) (fun _ R s => s.heap.IsTuple a xs ∧ s.heap.IsList b ys ∧ R (.ok (.ret (.ref (zmD s.heap a b).objs.size))) { s with heap := zmE s.heap a b }) :=
  .of_wp fun prog w A R s q => by
    obtain ⟨hp, g, d, tk, os⟩ := s
    obtain ⟨ta, lb, fin⟩ := q
    have sz := sub_zip
    have ta' : Heap.IsTuple (Shared.heap ⟨hp, g, d, tk, os⟩) a xs := ta
    have lb' : Heap.IsList (Shared.heap ⟨zmA hp a, g, d, tk, os⟩) b ys := Heap.IsList.push lb _
    wp_walk using wpAny_pyIter_tuple ta', wpAny_pyIter_list lb'
    exact ⟨_, rfl, fin⟩
section
variable {prog : Program} {w : World} {A : Around} {E : Value → Shared → Prop} {s : Shared}
theorem call_zipM {a b : Addr} {xs ys : Array Value} {Q : Value → Shared → Prop} (ta : s.heap.IsTuple a xs) (lb : s.heap.IsList b ys)
    (go : ∀ h' : Heap, IsZip h' (s.heap.objs.size + 4) (s.heap.objs.size + 2) (s.heap.objs.size + 3) .none → IsTupOf2 h' (s.heap.objs.size + 2) (.ref s.heap.objs.size) (.ref (s.heap.objs.size + 1)) → IsTupOf2 h' (s.heap.objs.size + 3) .none .none →
      h'.IsTupleIter s.heap.objs.size a 0 → h'.IsListIter (s.heap.objs.size + 1) b 0 → (∀ c o, s.heap.get? c = some o → h'.get? c = some o) → Q (.ref (s.heap.objs.size + 4)) { s with heap := h' }) :
    wpAny (model prog w) A (call (.type "zip") [.ref a, .ref b]) Q E s := by
  have nA : (zmA s.heap a).objs.size = s.heap.objs.size + 1 := Heap.size_push ..
  have nB : (zmB s.heap a b).objs.size = s.heap.objs.size + 2 := (Heap.size_push ..).trans (by rw [nA])
  have nC : (zmC s.heap a b).objs.size = s.heap.objs.size + 3 := (Heap.size_push ..).trans (by rw [nB])
  have nD : (zmD s.heap a b).objs.size = s.heap.objs.size + 4 := (Heap.size_push ..).trans (by rw [nC])
  refine callType_new F.called_zip (by decide) (F.typeCall_zip_2 _ _) (F.newCall_zip_2 _ _) (fun obj => F.args_object_init_3 obj _ _) F.entry_zip_new (new_zipM a b xs ys) ⟨ta, lb, ?_⟩
  have up : ∀ {h : Heap} {o : Obj} {c : Addr} {u : Obj}, h.get? c = some u → (h.push o).get? c = some u := fun q => Heap.get?_push_of_some _ q
  have ez : (zmE s.heap a b).get? (zmD s.heap a b).objs.size = some _ := Heap.get?_push_size _ rfl
  have eo : (zmE s.heap a b).get? (zmC s.heap a b).objs.size = some _ := up (Heap.get?_push_size _ rfl)
  have ei : (zmE s.heap a b).get? (zmB s.heap a b).objs.size = some _ := up (up (Heap.get?_push_size _ rfl))
  have e2 : (zmE s.heap a b).get? (zmA s.heap a).objs.size = some _ := up (up (up (Heap.get?_push_size _ rfl)))
  have e1 : (zmE s.heap a b).get? s.heap.objs.size = some _ := up (up (up (up (Heap.get?_push_size _ rfl))))
  rw [nB, nC, nD] at ez
  rw [nA, nB] at ei
  rw [nC] at eo
  rw [nA] at e2
  show _ ∧ _
  rw [nD]
  exact ⟨⟨_, ez, rfl⟩, go _ ez ei eo ⟨_, e1, rfl, rfl⟩ ⟨_, e2, rfl, rfl⟩ fun c o q => up (up (up (up (up q))))⟩
end
end AZ
namespace AZ
open PySem PySem.Spec PyProof.Rows L2
/-- a tuple and a list, item by item, in new pairs -/
def ItzM (K : PySem.W.Frag) (a b : Addr) : It :=
  ⟨fun i H => ∃ (xs ys : List V) (x y : V), SqT K H a xs ∧ SqL K H b ys ∧ xs[i]? = some x ∧ ys[i]? = some y,
    fun i H v H' => ∃ T x y, v = .ref T ∧ H T = none ∧ H' = upd H T (.tup [x, y]) ∧ (∀ xs, SqT K H a xs → xs[i]? = some x) ∧ ∀ ys, SqL K H b ys → ys[i]? = some y,
    fun i H => ∃ xs ys : List V, SqT K H a xs ∧ SqL K H b ys ∧ i ≤ xs.length ∧ i ≤ ys.length ∧ (i = xs.length ∨ i = ys.length)⟩
/-- the cells of the zip lie apart -/
structure Apart (z TI TO i1 i2 a b : Addr) : Prop where
  n1 : TI ≠ z
  n2 : TO ≠ z
  n3 : TI ≠ TO
  n4 : TI ≠ i1
  n5 : TI ≠ i2
  n6 : z ≠ i1
  n7 : z ≠ i2
  n8 : TO ≠ i1
  n9 : TO ≠ i2
  m1 : i1 ≠ i2
  m2 : z ≠ a
  m3 : TO ≠ a
  m4 : z ≠ b
  m5 : TO ≠ b
  m6 : i1 ≠ b
  m7 : i2 ≠ a
  m8 : a ≠ i1
  m9 : b ≠ i2
theorem Apart.sep {z TI TO i1 i2 a b : Addr} (D : Apart z TI TO i1 i2 a b) : ZipSep2 z TI TO i1 i2 [i1, a] [i2, b] :=
  ⟨D.n1, D.n2, D.n3, D.n4, by simp, by simp [D.n6, D.m2], by simp [D.n8, D.m3], D.n5, by simp, by simp [D.n7, D.m4], by simp [D.n9, D.m5], by simp [D.m1, D.m6], by simp [D.m1.symm, D.m7]⟩
theorem turn_zipM {P : Program} {w : World} {K : PySem.W.Frag} {elts : List Expr} {kk : Nat} {tpos : Pos} {a b z TI TO i1 i2 : Addr} (D : Apart z TI TO i1 i2 a b) :
    Turn P w K (.Tuple elts kk tpos) (ItzM K a b) [z, TI, TO, i1, i2] z (fun i h => IsZip h z TI TO .none ∧ IsTupOf2 h TI (.ref i1) (.ref i2) ∧ (∃ x y, IsTupOf2 h TO x y) ∧ h.IsTupleIter i1 a i ∧ h.IsListIter i2 b i) where
  mem := List.mem_cons_self ..
  obj := fun i h st c hc => by
    obtain ⟨cz, cI, ⟨x, y, cO⟩, ⟨o1, e1, _, d1⟩, ⟨o2, e2, _, d2⟩⟩ := st
    simp only [List.mem_cons, List.not_mem_nil, or_false] at hc
    rcases hc with rfl | rfl | rfl | rfl | rfl
    · exact ⟨_, cz, fun v q => by cases q⟩
    · exact ⟨_, cI, fun v q => by cases q⟩
    · exact ⟨_, cO, fun v q => by cases q⟩
    · exact ⟨o1, e1, fun v q => by rw [d1] at q; cases q⟩
    · exact ⟨o2, e2, fun v q => by rw [d2] at q; cases q⟩
  keep := fun i h h' st k => by
    obtain ⟨cz, cI, ⟨x, y, cO⟩, j1, j2⟩ := st
    exact ⟨k z (by simp) _ cz, k TI (by simp) _ cI, ⟨x, y, k TO (by simp) _ cO⟩, j1.at fun o q => k i1 (by simp) o q, j2.at fun o q => k i2 (by simp) o q⟩
  item := by
    intro X hP hw hK hc i pins s σ H E I hf st hg
    subst hP hw hK
    obtain ⟨cz, cI, ⟨x0, y0, cO⟩, j1, j2⟩ := st
    obtain ⟨xs, ys, x, y, qx, qy, hx, hy⟩ := hg
    obtain ⟨us, ru, pu, _⟩ := I.tuple qx
    obtain ⟨vs, rv, pv, _⟩ := I.list qy
    obtain ⟨u, hu, xu⟩ := ru.get hx
    obtain ⟨v, hv, yv⟩ := rv.get hy
    have lu : i < us.toArray.size := by rw [List.size_toArray]; exact (List.getElem?_eq_some_iff.mp hu).1
    have lv : i < vs.toArray.size := by rw [List.size_toArray]; exact (List.getElem?_eq_some_iff.mp hv).1
    have hd := I.ok.hd hc
    have zl : z < s.heap.objs.size := Heap.lt_size cz
    refine wpAny_pyNext_zipD2_item D.sep (Draws.tuple (A := X.A.in1) hd i1 a D.m8 us.toArray) (Draws.list (A := X.A.in1) hd i2 b D.m9 vs.toArray) cz cI cO ⟨j1, pu⟩ ⟨j2, pv.isList⟩ lu lv fun x1 x2 h' tk p1 p2 cz' cO' st1 st2 hT hsz hk => ?_
    obtain rfl : x1 = u := by
      have p1 : us.toArray[i]? = some x1 := p1
      rw [List.getElem?_toArray, hu] at p1
      exact (Option.some.inj p1).symm
    obtain rfl : x2 = v := by
      have p2 : vs.toArray[i]? = some x2 := p2
      rw [List.getElem?_toArray, hv] at p2
      exact (Option.some.inj p2).symm
    have kz : ∀ c o, c ∉ [z, TI, TO, i1, i2] → s.heap.get? c = some o → h'.get? c = some o := fun c o n q => by
      simp only [List.mem_cons, List.not_mem_nil, or_false, not_or] at n
      exact hk c o n.1 n.2.2.1 n.2.2.2.1 n.2.2.2.2 q
    refine ⟨_, rfl, wpAny_letOwnedTupleGo_zip (s := { s with heap := h', toks := tk }) cz' fun h'' cz'' sb => ?_⟩
    have ov : ∀ c o, c ≠ z → h'.get? c = some o → h''.get? c = some o := fun c o n q => (sb.2 c n).trans q
    have tT : h''.get? s.heap.objs.size = some { cls := .type "tuple", data := .seq #[x1, x2] } := ov _ _ (Nat.ne_of_gt zl) hT
    have new : ObjOk X.prog X.w (upd H s.heap.objs.size (.tup [x, y])) h'' s.heap.objs.size (.tup [x, y]) := ⟨by show 2 ≤ sizeLine; decide, [x1, x2], .cons xu (.cons yv .nil), ⟨_, tT, rfl, _, rfl⟩⟩
    have J : Inv X pins σ (upd H s.heap.objs.size (.tup [x, y])) { s with heap := h'', toks := tk } := I.turnedNew (ch := [z, TI, TO, i1, i2]) (fun c o n q => ov c o (fun e => n (by simp [e])) (kz c o n q)) hf (Nat.le_refl _) new
    have cI2 := hk TI _ D.n1 D.n3 D.n4 D.n5 cI
    refine ⟨.ref s.heap.objs.size, _, J, rfl, ⟨_, x, y, rfl, I.hok.fresh (Nat.le_refl _), rfl, fun l hl => by rw [I.tuple_inj hl qx]; exact hx, fun l hl => by rw [I.list_inj hl qy]; exact hy⟩, ⟨cz'', ov _ _ D.n1 cI2, ⟨_, _, ov _ _ D.n2 cO'⟩, st1.1.at fun o q => ov _ o D.n6.symm q, st2.1.at fun o q => ov _ o D.n7.symm q⟩, fun c hcm => ?_⟩
    · have lt : c < s.heap.objs.size := by
        simp only [List.mem_cons, List.not_mem_nil, or_false] at hcm
        rcases hcm with rfl | rfl | rfl | rfl | rfl
        · exact zl
        · exact Heap.lt_size cI
        · exact Heap.lt_size cO
        · obtain ⟨_, e1, _⟩ := j1; exact Heap.lt_size e1
        · obtain ⟨_, e2, _⟩ := j2; exact Heap.lt_size e2
      rw [upd_ne (Nat.ne_of_lt lt)]
      exact (hf c hcm).1
  done := by
    intro X hP hw hK hc i pins s σ H E I hf st hg
    subst hP hw hK
    obtain ⟨cz, cI, ⟨x0, y0, cO⟩, j1, j2⟩ := st
    obtain ⟨xs, ys, qx, qy, lx, ly, hend⟩ := hg
    obtain ⟨us, ru, pu, _⟩ := I.tuple qx
    obtain ⟨vs, rv, pv, _⟩ := I.list qy
    have l1 := ru.length
    have l2 := rv.length
    have hd := I.ok.hd hc
    refine wpAny_pyNext_zipD2_end D.sep (Draws.tuple (A := X.A.in1) hd i1 a D.m8 us.toArray) (Draws.list (A := X.A.in1) hd i2 b D.m9 vs.toArray) cz cI cO ⟨j1, pu⟩ ⟨j2, pv.isList⟩ (by rw [List.size_toArray]; omega) (by rw [List.size_toArray]; omega) (by rw [List.size_toArray, List.size_toArray]; omega) fun h' tk hk => ⟨rfl, ?_⟩
    exact I.turnedL (ch := [z, TI, TO, i1, i2]) (fun c o n q => by
      simp only [List.mem_cons, List.not_mem_nil, or_false, not_or] at n
      exact hk c o n.1 n.2.2.1 n.2.2.2.1 n.2.2.2.2 q) hf
  self := fun A i s Q E st q => wpAny_pyIter_zip st.1 q
end AZ
namespace AZ
open PySem PySem.Spec PyProof.Rows L2
def iZipM (K : PySem.W.Frag) (ta : TA) : TI := fun σ H R => ta σ H fun vs H1 => ∃ a b xs ys, vs = [.ref a, .ref b] ∧ SqT K H1 a xs ∧ SqL K H1 b ys ∧ R (ItzM K a b) H1
theorem apart_new {a b n : Nat} (la : a < n) (lb : b < n) : Apart (n + 4) (n + 2) (n + 3) n (n + 1) a b := by
  constructor <;> intro e <;> (have e : (_ : Nat) = _ := e) <;> omega
theorem pi_zipM {X : Cx} {e e2 : Expr} {ta : TA} {p pos tpos : Pos} {elts : List Expr} {kk : Nat} (hg : Gl X "zip") (hm : X.mg "zip" = none) (ha : PA X [e, e2] ta)
    (hs : starEach [e, e2] X.env = (false, eval e X.env) :: starEach [e2] X.env := by rfl) (hpl : (backTo pos (starEach [e2] X.env)).any (·.1) = false := by rfl) : PI X (.Tuple elts kk tpos) (.Call (.Name "zip" p) [e, e2] [] pos) (iZipM X.K ta) := by
  refine ⟨fun pins s σ H R I h => ?_⟩
  refine Call_ (ld_blt I hg hm PyProof.Rows.boot_zip (PyProof.Rows.callWith_type1 (thn (ha.run pos pins s σ H _ I h) fun us s1 ⟨vs, H1, J, r, q⟩ => ?_) hs hpl))
  obtain ⟨a, b, xs, ys, ev, qx, qy, q⟩ := q
  subst ev
  cases r with
  | cons ra rr =>
    cases rr with
    | cons rb rr =>
      cases rr
      cases ra
      cases rb
      obtain ⟨ua, ru, pu, _⟩ := J.tuple qx
      obtain ⟨ub, rw', pw, _⟩ := J.list qy
      obtain ⟨oa, ha1, _⟩ := id pu
      have la : a < s1.heap.objs.size := Heap.lt_size ha1
      have lb : b < s1.heap.objs.size := pw.lt
      refine call_zipM pu pw.isList fun h' cz cI cO j1 j2 hk => wpAny_pyIter_zip cz ?_
      have big : ∀ c, c ∈ [s1.heap.objs.size + 4, s1.heap.objs.size + 2, s1.heap.objs.size + 3, s1.heap.objs.size, s1.heap.objs.size + 1] → s1.heap.objs.size ≤ c := fun c hc => by
        simp only [List.mem_cons, List.not_mem_nil, or_false] at hc
        rcases hc with rfl | rfl | rfl | rfl | rfl
        · exact Nat.le_add_right _ _
        · exact Nat.le_add_right _ _
        · exact Nat.le_add_right _ _
        · exact Nat.le_refl _
        · exact Nat.le_add_right _ _
      have ap := apart_new la lb
      exact ⟨s1.heap.objs.size + 4, [s1.heap.objs.size + 4, s1.heap.objs.size + 2, s1.heap.objs.size + 3, s1.heap.objs.size, s1.heap.objs.size + 1], _, _, H1, rfl, J.kept (t' := s1.toks) hk, turn_zipM ap, ⟨cz, cI, ⟨_, _, cO⟩, j1, j2⟩, fun c hc => J.fpOk (big c hc) (J.hok.fresh (big c hc)), q⟩
/-- a comprehension over zip of a tuple and a list of one length -/
theorem lc_zipM {K : PySem.W.Frag} {a b : Addr} {xs ys : List V} {g : TG} {tt : TT} {te : TE} {vs : List Nat} {σ : L2.St} {H1 : Hp} {D : Addr} {Qd : Hp → Prop} (hl : xs.length = ys.length) (Pv : Nat → Hp → Prop) (h0 : Pv 0 (upd H1 D (.lst []))) (hq : ∀ i H, Pv i H → SqT K H a xs ∧ SqL K H b ys)
    (hs : ∀ i x y T H, xs[i]? = some x → ys[i]? = some y → H T = none → Pv i H → g (.ref T) (wipe σ vs) (upd H T (.tup [x, y])) fun σ2 H2 => wipe σ2 vs = wipe σ vs ∧ tt σ2 H2 fun b H3 =>
      if b = true then te σ2 H3 fun y H4 => ∃ acc, H4 D = some (.lst acc) ∧ acc.length < sizeLine ∧ Pv (i + 1) (upd H4 D (.lst (acc ++ [y]))) else Pv (i + 1) H3) (hd : ∀ H, Pv xs.length H → Qd H) :
    ∃ W : Nat → Nat → Hp → Prop, (∃ m, W 0 m (upd H1 D (.lst []))) ∧ ∀ i m H, W i m H →
      ((ItzM K a b).stop i H ∧ Qd H) ∨ ((ItzM K a b).go i H ∧ ∃ Nx : Hp → Prop, (∀ H', Nx H' → ∃ m', m' < m ∧ W (i + 1) m' H') ∧ ∀ x H', (ItzM K a b).yld i H x H' → g x (wipe σ vs) H' fun σ2 H2 => wipe σ2 vs = wipe σ vs ∧ tt σ2 H2 fun b H3 =>
        if b = true then te σ2 H3 fun y H4 => ∃ acc, H4 D = some (.lst acc) ∧ acc.length < sizeLine ∧ Nx (upd H4 D (.lst (acc ++ [y]))) else Nx H3) := by
  refine ⟨fun i m H => m = xs.length - i ∧ i ≤ xs.length ∧ Pv i H, ⟨xs.length, by simp, Nat.zero_le _, h0⟩, ?_⟩
  rintro i m H ⟨rfl, hi, p⟩
  obtain ⟨qx, qy⟩ := hq i H p
  by_cases hlt : i < xs.length
  · refine .inr ⟨⟨xs, ys, xs[i], ys[i]'(by omega), qx, qy, by simp [hlt], by simp [show i < ys.length by omega]⟩, Pv (i + 1), fun H' p' => ⟨xs.length - (i + 1), by omega, rfl, hlt, p'⟩, fun v H' z => ?_⟩
    obtain ⟨T, x, y, rfl, hT, rfl, hx, hy⟩ := z
    exact hs i x y T H (hx xs qx) (hy ys qy) hT p
  · obtain rfl : i = xs.length := by omega
    exact .inl ⟨⟨xs, ys, qx, qy, Nat.le_refl _, by omega, Or.inl rfl⟩, hd H p⟩
end AZ

set_option Elab.async false
set_option maxRecDepth 100000
set_option maxHeartbeats 4000000
set_option linter.all false
/-! Own work: the texts of integers, told apart. -/
namespace AZ
open PySem PyProof.Rows
theorem itx_sp (i : Int) : 32 ∉ (toString i : Str).cps.toList := int_text_free' 32 ⟨by decide, by decide⟩ i
theorem toNat_inj {a b : Char} (h : a.toNat = b.toNat) : a = b := by
  apply Char.ext
  exact UInt32.toNat_inj.mp h
theorem map_inj {α β : Type} {f : α → β} (hf : ∀ {a b : α}, f a = f b → a = b) : ∀ {xs ys : List α}, xs.map f = ys.map f → xs = ys
  | [], [], _ => rfl
  | [], _ :: _, h => by cases h
  | _ :: _, [], h => by cases h
  | x :: xs, y :: ys, h => by
    rw [List.map_cons, List.map_cons] at h
    injection h with h1 h2
    rw [hf h1, map_inj hf h2]
theorem ofString_inj {a b : String} (h : Str.ofString a = Str.ofString b) : a = b := by
  have e : (Str.ofString a).cps.toList = (Str.ofString b).cps.toList := by rw [h]
  rw [signs_ofString, signs_ofString] at e
  exact String.toList_inj.mp (map_inj toNat_inj e)
theorem nrep_inj {a b : Nat} (h : a.repr = b.repr) : a = b := by
  have e : Nat.toDigits 10 a = Nat.toDigits 10 b := by
    have := congrArg String.toList h
    simpa [Nat.repr] using this
  rw [← @Nat.ofDigitChars_ten_toDigits a, ← @Nat.ofDigitChars_ten_toDigits b, e]
theorem nrep_neg {a b : Nat} (h : a.repr = "-" ++ b.repr) : False := by
  have e : a.repr.toList = '-' :: b.repr.toList := by
    have := congrArg String.toList h
    simpa using this
  have m : '-' ∈ Nat.toDigits 10 a := by
    have : '-' ∈ a.repr.toList := by rw [e]; exact List.mem_cons_self
    simpa [Nat.repr] using this
  exact absurd (Nat.isDigit_of_mem_toDigits (by decide) (by decide) m) (by decide)
theorem irep_inj : ∀ {a b : Int}, a.repr = b.repr → a = b
  | .ofNat a, .ofNat b, h => by
    have := nrep_inj (a := a) (b := b) h
    rw [this]
  | .ofNat a, .negSucc b, h => (nrep_neg (a := a) (b := b + 1) h).elim
  | .negSucc a, .ofNat b, h => (nrep_neg (a := b) (b := a + 1) h.symm).elim
  | .negSucc a, .negSucc b, h => by
    have h' : "-" ++ (a + 1).repr = "-" ++ (b + 1).repr := h
    have e : (a + 1).repr.toList = (b + 1).repr.toList := by
      have := congrArg String.toList h'
      simpa using this
    have := nrep_inj (String.toList_inj.mp e)
    have : a = b := by omega
    rw [this]
theorem itx_inj {a b : Int} (h : (toString a : Str) = (toString b : Str)) : a = b := irep_inj (ofString_inj h)
end AZ

set_option Elab.async false
set_option maxRecDepth 100000
set_option maxHeartbeats 4000000
set_option linter.all false
/-! Own work: class methods that may raise, called by place and by keywords. -/
namespace AZ
open PySem PySem.Spec PyProof.Rows L2
/-- C.m is a class method -/
structure KMet (K : PySem.W.Frag) (C : Addr) (m : Str) (g : Addr) : Prop where
  ex : ∃ (mc : Value) (p : Addr), ClX.CRead K C mc ∧ ClX.CMet K C mc m p g
section
variable {X : Cx} {CX : CXT} {k : Nat} {C g : Addr} {sp : Sp} {E : XK} {o e : Expr} {es : List Expr} {kws : List Keyword} {ks : List Str} {m : Str} {pos apos : Pos} {ta : TE} {t : TA} {gV : List V → List V → List V}
theorem pe_cmethG {pl : Sem Bool} (he : PE X o ta) (c : KMet X.K C m g) (F : FnG X.prog X.w X.K X.mg X.base CX k g sp) (ng : NoG X.A) (hr : Room k X.A) (hx : Passes CX X E) (ha : PA X (e :: es) t)
    (hst : starEach (e :: es) X.env = (false, eval e X.env) :: starEach es X.env := by rfl) (hpl : (backTo pos (starEach es X.env)).any (·.1) = false := by rfl)
    (ht : eval (.Call (.Attribute o m apos) (e :: es) [] pos) X.env = (eval o X.env >>= fun ov => standAt apos.atName >>= fun _ => holding [ov] (getMethod ov m pl) >>= fun r =>
      callWith pos r.1 r.2 (backTo pos (starEach (e :: es) X.env)) (backToKw pos (keywordEach [] X.env))) := by rfl) :
    PE X (.Call (.Attribute o m apos) (e :: es) [] pos) (ClX.tCMeth C sp E ta t) := by
  refine ⟨fun pins s σ H Q I h => ?_⟩
  refine PySem.W.methodCall_KW (pl := pl) (thn (he.run pins s σ H _ I h) fun u s1 ⟨x, H1, I1, rx, ex, q⟩ => ?_) ht
  subst ex
  obtain rfl : u = Value.ref C := rx
  obtain ⟨mc, p, r, cm⟩ := c.ex
  refine ClX.getmethcm_ok I1 r cm fun s2 I2 => ?_
  refine ClX.callwith_cm I2 (ClX.base_none I1 (Nat.le_refl _)) cm.fi (thn (ha.run pos _ s2 σ H1 _ I2 q) fun us s3 ⟨vs, H2, I3, rv, q2⟩ => ⟨⟨ClX.pin_at I3, I3.kIn⟩, ?_⟩) hst hpl
  exact thn (wpAny_call (PySem.W.method_call (ClX.pin_at I3) (run_fnG (us := .ref C :: us) (vs := .ref C :: vs) F ng hr hx I3 (.cons rfl rv) q2))) fun _ _ y => ClX.unpinE y
/-- C.m(k = e), m a class method -/
def tCMk (C : Addr) (gV : List V → List V → List V) (sp : Sp) (E : XK) (ta : TE) (t : TA) : TE := fun σ H Q => ta σ H fun x H1 => x = .ref C ∧ t σ H1 fun zs H2 => sp (gV [.ref C] zs) H2 Q E
theorem pe_cmethGk {pl : Sem Bool} (he : PE X o ta) (c : KMet X.K C m g) (F : FnGk X.prog X.w X.K X.mg X.base CX k g ks gV sp) (ng : NoG X.A) (hr : Room k X.A) (hx : Passes CX X E) (hkw : PK X kws t)
    (hall : (backToKw pos (keywordEach kws X.env)).all (·.1.isSome) = true := by rfl) (hks : (backToKw pos (keywordEach kws X.env)).filterMap (·.1) = ks := by rfl)
    (hpl : ((backTo pos (starEach [] X.env)).any (·.1) || (backToKw pos (keywordEach kws X.env)).any (·.1.isNone)) = false := by rfl)
    (ht : eval (.Call (.Attribute o m apos) [] kws pos) X.env = (eval o X.env >>= fun ov => standAt apos.atName >>= fun _ => holding [ov] (getMethod ov m pl) >>= fun r =>
      callWith pos r.1 r.2 (backTo pos (starEach [] X.env)) (backToKw pos (keywordEach kws X.env))) := by rfl) :
    PE X (.Call (.Attribute o m apos) [] kws pos) (tCMk C gV sp E ta t) := by
  refine ⟨fun pins s σ H Q I h => ?_⟩
  refine PySem.W.methodCall_KW (pl := pl) (thn (he.run pins s σ H _ I h) fun u s1 ⟨x, H1, I1, rx, ex, q⟩ => ?_) ht
  subst ex
  obtain rfl : u = Value.ref C := rx
  obtain ⟨mc, p, r, cm⟩ := c.ex
  refine ClX.getmethcm_ok I1 r cm fun s2 I2 => ?_
  refine PySem.W.callWith_of (P := PySem.W.MethP X.K s1.heap.objs.size g (.ref C)) hpl (PySem.W.keeps_M cm.fi) (evalArgs_kw2_nil hall (thn (hkw.run pos _ s2 σ H1 _ I2 q) fun ws s3 ⟨zs, H2, I3, rz, q2⟩ => ⟨⟨ClX.pin_at I3, I3.kIn⟩, ?_⟩))
  rw [hks]
  refine thn (wpAny_call (PySem.W.method_call (ClX.pin_at I3) (codeAny_mono (F X.A X.stack s3 H2 [.ref C] ws [.ref C] zs Q E ng hr I3.env0 (.cons rfl .nil) rz q2) fun r s' hq => ?_))) (fun v s' (y : EP X ((s1.heap.objs.size, PySem.W.methodObj (.ref g) (.ref C)) :: pins) σ Q v s') => ClX.unpinE y)
  match r, hq with
  | .error e, hq => exact hx _ σ H2 s3 e s' I3 hq
  | .ok (.ret _), hq => exact I3.after hq
  | .ok .next, hq => exact hq.elim
  | .ok .brk, hq => exact hq.elim
  | .ok .cont, hq => exact hq.elim
end
end AZ

set_option Elab.async false
set_option maxRecDepth 100000
set_option maxHeartbeats 4000000
set_option linter.all false
namespace AZ
open PySem PySem.Spec PyProof.Rows L2 TL
/-! ## texts that are whole numbers -/
def dgL (l : List Nat) : Bool := l.all fun c => decide (48 ≤ c) && decide (c ≤ 57)
def canon (l : List Nat) : Bool := dgL l && !l.isEmpty && (decide (l.head? ≠ some 48) || decide (l = [48]))
/-- the text without a minus at its begin -/
def bodyL (l : List Nat) : List Nat := if l.head? = some 45 then l.tail else l
/-- the number that a text is written out of -/
def rdL (l : List Nat) : Option Int :=
  if l.head? = some 45 then (if canon l.tail && decide (l.tail ≠ [48]) then some (-((NumText.digitsVal l.tail : Nat) : Int)) else none)
  else if canon l then some ((NumText.digitsVal l : Nat) : Int) else none
theorem dgL_iff {l : List Nat} : dgL l = true ↔ NumText.AllDigits l := by
  unfold dgL NumText.AllDigits
  simp
theorem val_app (l : List Nat) (c : Nat) : NumText.digitsVal (l ++ [c]) = NumText.digitsVal l * 10 + (c - 48) := by
  unfold NumText.digitsVal
  rw [List.foldl_append]
  rfl
theorem val_pos : ∀ (n : Nat) (l : List Nat), l.length = n → dgL l = true → l.head? ≠ some 48 → l ≠ [] → 0 < NumText.digitsVal l
  | 0, l, e, _, _, h => absurd (List.length_eq_zero_iff.mp e) h
  | n + 1, l, e, d, hd, _ => by
    rcases List.eq_nil_or_concat l with rfl | ⟨r, c, rfl⟩
    · cases e
    rw [List.concat_eq_append] at *
    rw [val_app]
    have dd : NumText.AllDigits (r ++ [c]) := dgL_iff.mp d
    have hc := dd c (List.mem_append_right _ (List.mem_singleton.mpr rfl))
    by_cases hr : r = []
    · subst hr
      have : c ≠ 48 := fun z => hd (by rw [z]; rfl)
      omega
    · have p := val_pos n r (by rw [List.length_append] at e; simpa using e) (dgL_iff.mpr fun z hz => dd z (List.mem_append_left _ hz)) (fun z => hd (by
        cases r with
        | nil => exact absurd rfl hr
        | cons a b => exact z)) hr
      omega
theorem canon_dg {l : List Nat} (h : canon l = true) : dgL l = true ∧ l ≠ [] ∧ (l.head? ≠ some 48 ∨ l = [48]) := by
  unfold canon at h
  rw [Bool.and_eq_true, Bool.and_eq_true, Bool.or_eq_true] at h
  obtain ⟨⟨a, b⟩, c⟩ := h
  refine ⟨a, ?_, c.imp of_decide_eq_true of_decide_eq_true⟩
  intro z
  subst z
  cases b
theorem canon_num : ∀ (n : Nat) (l : List Nat), l.length = n → dgL l = true → l ≠ [] → (l.head? ≠ some 48 ∨ l = [48]) → l = numL (NumText.digitsVal l)
  | 0, l, e, _, h, _ => absurd (List.length_eq_zero_iff.mp e) h
  | n + 1, l, e, d, _, hh => by
    rcases List.eq_nil_or_concat l with rfl | ⟨r, c, rfl⟩
    · cases e
    rw [List.concat_eq_append] at *
    have dd : NumText.AllDigits (r ++ [c]) := dgL_iff.mp d
    have hc := dd c (List.mem_append_right _ (List.mem_singleton.mpr rfl))
    have ev := val_app r c
    by_cases hr : r = []
    · subst hr
      rw [ev]
      show [c] = _
      have : NumText.digitsVal [] = 0 := rfl
      rw [this, numL_lt (by omega)]
      congr 1
      omega
    · have hd : r.head? ≠ some 48 := by
        cases r with
        | nil => exact absurd rfl hr
        | cons a b =>
          rcases hh with h | h
          · exact h
          · injection h with _ h2
            cases b <;> cases h2
      have dr : dgL r = true := dgL_iff.mpr fun z hz => dd z (List.mem_append_left _ hz)
      have ih := canon_num n r (by rw [List.length_append] at e; simpa using e) dr hr (Or.inl hd)
      have p := val_pos _ r rfl dr hd hr
      rw [ev, numL_step (by omega)]
      have e1 : (NumText.digitsVal r * 10 + (c - 48)) / 10 = NumText.digitsVal r := by omega
      have e2 : 48 + (NumText.digitsVal r * 10 + (c - 48)) % 10 = c := by omega
      rw [e1, e2, ← ih]
theorem canon_eq {l : List Nat} (h : canon l = true) : l = numL (NumText.digitsVal l) := let ⟨a, b, c⟩ := canon_dg h; canon_num _ l rfl a b c
theorem numL_zero : numL 0 = [48] := numL_lt (by decide)
theorem numL_head : ∀ (m n : Nat), n < m → 0 < n → (numL n).head? ≠ some 48
  | 0, n, h, _ => absurd h (Nat.not_lt_zero _)
  | m + 1, n, h, p => by
    by_cases hn : n < 10
    · rw [numL_lt hn]
      intro z
      injection z with z
      omega
    · rw [numL_step (by omega)]
      have ih := numL_head m (n / 10) (by omega) (by omega)
      cases e : numL (n / 10) with
      | nil => exact absurd e (numL_ne _)
      | cons a b =>
        rw [e] at ih
        exact ih
theorem canon_of (n : Nat) : canon (numL n) = true := by
  unfold canon
  rw [Bool.and_eq_true, Bool.and_eq_true, Bool.or_eq_true]
  refine ⟨⟨dgL_iff.mpr (numL_digits n), ?_⟩, ?_⟩
  · cases e : numL n with
    | nil => exact absurd e (numL_ne n)
    | cons a b => rfl
  · by_cases h : n = 0
    · subst h
      exact Or.inr (decide_eq_true numL_zero)
    · exact Or.inl (decide_eq_true (numL_head _ n (Nat.lt_succ_self n) (by omega)))
theorem tl_nat (n : Nat) : tl (Str.ofString (toString ((n : Nat) : Int))) = numL n := tl_num n
theorem tl_neg (n : Nat) : tl (Str.ofString (toString (-((n + 1 : Nat) : Int)))) = 45 :: numL (n + 1) := by
  rw [tl_ofString]
  have e : toString (-((n + 1 : Nat) : Int)) = "-" ++ (n + 1).repr := rfl
  rw [e, String.toList_append, List.map_append]
  have h : (n + 1).repr.toList.map Char.toNat = numL (n + 1) := by
    show ((n + 1).repr).toList.map Char.toNat = (Nat.toDigits 10 (n + 1)).map Char.toNat
    congr 1
    simp [Nat.repr]
  rw [h]
  rfl
theorem numL_no45 (n : Nat) : (numL n).head? ≠ some 45 := fun z => by
  have := List.mem_of_head? z
  exact numL_free (Or.inl (by decide)) this
/-- the text of a number is read as that number -/
theorem rdL_text (n : Int) : rdL (tl (Str.ofString (toString n))) = some n := by
  by_cases h : 0 ≤ n
  · obtain ⟨m, rfl⟩ := Int.eq_ofNat_of_zero_le h
    rw [tl_nat]
    unfold rdL
    rw [if_neg (numL_no45 m), if_pos (canon_of m), numL_val]
  · obtain ⟨m, rfl⟩ : ∃ m : Nat, n = -((m + 1 : Nat) : Int) := ⟨n.natAbs - 1, by omega⟩
    rw [tl_neg]
    unfold rdL
    rw [if_pos (show (45 :: numL (m + 1)).head? = some 45 from rfl)]
    have t : (45 :: numL (m + 1)).tail = numL (m + 1) := rfl
    rw [t, if_pos (by
      rw [Bool.and_eq_true]
      refine ⟨canon_of _, decide_eq_true fun z => ?_⟩
      have := numL_inj (z.trans numL_zero.symm)
      omega), numL_val]
/-- what is read as a number is that number's text -/
theorem rdL_eq {x : Str} {n : Int} (h : rdL (tl x) = some n) : x = Str.ofString (toString n) := by
  apply ext_tl
  unfold rdL at h
  by_cases h45 : (tl x).head? = some 45
  · rw [if_pos h45] at h
    split at h
    · rename_i hc
      rw [Bool.and_eq_true] at hc
      obtain ⟨hc, hz⟩ := hc
      have hz := of_decide_eq_true hz
      injection h with h
      have e := canon_eq hc
      cases ex : tl x with
      | nil => rw [ex] at h45; cases h45
      | cons a b =>
        rw [ex] at h45 e h hz
        obtain rfl : a = 45 := by injection h45
        have e : b = numL (NumText.digitsVal b) := e
        have h : -((NumText.digitsVal b : Nat) : Int) = n := h
        have nz : NumText.digitsVal b ≠ 0 := fun z => hz (by
          show b = [48]
          rw [e, z, numL_zero])
        obtain ⟨m, hm⟩ : ∃ m, NumText.digitsVal b = m + 1 := ⟨NumText.digitsVal b - 1, by omega⟩
        rw [hm] at e h
        rw [← h, tl_neg, ← e]
    · cases h
  · rw [if_neg h45] at h
    split at h
    · rename_i hc
      injection h with h
      rw [← h, tl_nat]
      exact canon_eq hc
    · cases h
/-! ### as the program reads -/
theorem rdL_no1 {l : List Nat} (h : dgL (bodyL l) = false ∨ bodyL l = []) : rdL l = none := by
  unfold rdL
  unfold bodyL at h
  have z : ∀ m : List Nat, dgL m = false ∨ m = [] → canon m = false := fun m h => by
    cases e : canon m with
    | false => rfl
    | true =>
      obtain ⟨a, b, _⟩ := canon_dg e
      rcases h with h | h
      · rw [a] at h; cases h
      · exact absurd h b
  by_cases h45 : l.head? = some 45
  · rw [if_pos h45] at h ⊢
    rw [z _ h]
    rfl
  · rw [if_neg h45] at h ⊢
    rw [z _ h]
    rfl
theorem rdL_no2 {l : List Nat} (h : (bodyL l).head? = some 48) (h2 : l ≠ [48]) : rdL l = none := by
  unfold rdL
  unfold bodyL at h
  by_cases h45 : l.head? = some 45
  · rw [if_pos h45] at h ⊢
    rw [if_neg]
    intro z
    rw [Bool.and_eq_true] at z
    obtain ⟨a, b⟩ := z
    obtain ⟨_, _, c | c⟩ := canon_dg a
    · exact c h
    · exact of_decide_eq_true b c
  · rw [if_neg h45] at h ⊢
    rw [if_neg]
    intro a
    obtain ⟨_, _, c | c⟩ := canon_dg a
    · exact c h
    · exact h2 c
theorem rdL_yes {x : Str} (h : dgL (bodyL (tl x)) = true) (h1 : bodyL (tl x) ≠ []) (hn : x.length ≤ 4300) :
    ∃ v, intText? x = some v ∧ (∀ u, rdL (tl x) = some u → u = v) ∧ ((bodyL (tl x)).head? ≠ some 48 ∨ tl x = [48] → rdL (tl x) = some v) := by
  unfold bodyL at h h1 ⊢
  by_cases h45 : (tl x).head? = some 45
  · rw [if_pos h45] at h h1 ⊢
    cases ex : tl x with
    | nil => rw [ex] at h45; cases h45
    | cons a b =>
      rw [ex] at h45 h h1
      obtain rfl : a = 45 := by injection h45
      have h : dgL b = true := h
      have h1 : b ≠ [] := h1
      refine ⟨_, intText_neg (cs := b) ex (dgL_iff.mp h) h1 hn, ?_, ?_⟩
      · intro u hu
        unfold rdL at hu
        rw [if_pos (show (45 :: b).head? = some 45 from rfl)] at hu
        split at hu
        · injection hu with hu
          exact hu.symm
        · cases hu
      · intro hh
        unfold rdL
        rw [if_pos (show (45 :: b).head? = some 45 from rfl), if_pos]
        · rfl
        · show (canon b && decide (b ≠ [48])) = true
          have hb : b.head? ≠ some 48 := by
            rcases hh with hh | hh
            · exact hh
            · cases hh
          rw [Bool.and_eq_true]
          refine ⟨?_, decide_eq_true fun z => hb (by rw [z]; rfl)⟩
          unfold canon
          rw [Bool.and_eq_true, Bool.and_eq_true, Bool.or_eq_true]
          refine ⟨⟨h, ?_⟩, Or.inl (decide_eq_true hb)⟩
          cases b with
          | nil => exact absurd rfl h1
          | cons _ _ => rfl
  · rw [if_neg h45] at h h1 ⊢
    refine ⟨_, intText_digits (dgL_iff.mp h) h1 hn, ?_, ?_⟩
    · intro u hu
      unfold rdL at hu
      rw [if_neg h45] at hu
      split at hu
      · injection hu with hu
        exact hu.symm
      · cases hu
    · intro hh
      unfold rdL
      rw [if_neg h45, if_pos]
      unfold canon
      rw [Bool.and_eq_true, Bool.and_eq_true, Bool.or_eq_true]
      refine ⟨⟨h, ?_⟩, hh.imp (fun z => decide_eq_true z) (fun z => decide_eq_true z)⟩
      cases e : tl x with
      | nil => exact absurd e h1
      | cons _ _ => rfl
/-- the digits told by isascii and isdigit -/
theorem dig_small : ∀ c : Nat, c < 128 → Unicode.isDigit c = (decide (48 ≤ c) && decide (c ≤ 57)) := by decide +kernel
theorem dg_txt (x : Str) : (Txt.isascii x && Txt.isdigit x) = (dgL (tl x) && !(tl x).isEmpty) := by
  have e1 : Txt.isascii x = (tl x).all (fun c => decide (c < 128)) := by
    unfold Txt.isascii tl
    rw [← Array.all_toList]
  have e2 : Txt.isdigit x = (!(tl x).isEmpty && (tl x).all Unicode.isDigit) := by
    unfold Txt.isdigit
    rw [len_tl, ← Array.all_toList]
    show (decide ((tl x).length > 0) && (tl x).all Unicode.isDigit) = _
    congr 1
    cases tl x <;> rfl
  rw [e1, e2]
  generalize tl x = l
  have key : (l.all (fun c => decide (c < 128)) && l.all Unicode.isDigit) = dgL l := by
    unfold dgL
    induction l with
    | nil => rfl
    | cons a b ih =>
      rw [List.all_cons, List.all_cons, List.all_cons, ← ih]
      by_cases ha : a < 128
      · rw [dig_small a ha, decide_eq_true ha]
        cases decide (48 ≤ a) <;> cases decide (a ≤ 57) <;> cases b.all (fun c => decide (c < 128)) <;> cases b.all Unicode.isDigit <;> rfl
      · rw [decide_eq_false ha, decide_eq_false (show ¬ a ≤ 57 by omega)]
        cases decide (48 ≤ a) <;> rfl
  rw [← key]
  cases l.isEmpty <;> cases l.all (fun c => decide (c < 128)) <;> cases l.all Unicode.isDigit <;> rfl
theorem sub_one (x : Str) (c : Nat) : PySem.Builtin.Str.subAt x ⟨#[c]⟩ 0 = decide ((tl x).head? = some c) := by
  rw [PySem.StrLaws.subAt_eq]
  show (((tl x).drop 0).take 1 == [c]) = _
  cases tl x with
  | nil => rfl
  | cons a b =>
    show ([a] == [c]) = decide (some a = some c)
    by_cases h : a = c
    · subst h
      simp
    · rw [decide_eq_false (fun z => h (Option.some.inj z))]
      simpa using h
theorem rm_minus (x : Str) : tl (Txt.removeprefix x "-") = bodyL (tl x) := by
  have es : ("-" : Str) = ⟨#[45]⟩ := by rfl
  unfold Txt.removeprefix bodyL
  rw [es, sub_one]
  by_cases h : (tl x).head? = some 45
  · rw [decide_eq_true h, if_pos rfl, if_pos h]
    show tl (if x.length - 1 == x.length then x else PySem.Builtin.Str.strSub x 1 x.length) = _
    have hl : 0 < x.length := by
      rw [len_tl]
      cases e : tl x with
      | nil => rw [e] at h; cases h
      | cons _ _ => exact Nat.succ_pos _
    rw [if_neg (by
      intro z
      have := beq_iff_eq.mp z
      omega), tl_strSub_end]
    cases tl x <;> rfl
  · rw [decide_eq_false h, if_neg (by decide), if_neg h]
    rfl
theorem sw_zero (x : Str) : Txt.startswith x "0" = decide ((tl x).head? = some 48) := by
  have es : ("0" : Str) = ⟨#[48]⟩ := by rfl
  unfold Txt.startswith
  rw [es, sub_one]
  by_cases h : (tl x).head? = some 48
  · rw [decide_eq_true h, Bool.and_true]
    refine decide_eq_true ?_
    show 0 + 1 ≤ x.length
    rw [len_tl]
    cases e : tl x with
    | nil => rw [e] at h; cases h
    | cons _ _ => simp
  · rw [decide_eq_false h, Bool.and_false]
/-- w[1:] if w[:1] == "-" else w -/
theorem cut_tail (x : Str) : tl (cutS x (some 1) none) = (tl x).tail := by
  show ((tl x).drop (HT.sIx x.length 0 (some 1))).take (x.length - HT.sIx x.length 0 (some 1)) = _
  rw [len_tl]
  cases tl x with
  | nil => rfl
  | cons a b =>
    have e : HT.sIx (a :: b).length 0 (some 1) = 1 := by
      unfold HT.sIx
      simp
    rw [e]
    show (b.take (b.length + 1 - 1)) = b
    simp
theorem cut_head (x : Str) (c : Nat) : cutS x none (some 1) = (⟨#[c]⟩ : Str) ↔ (tl x).head? = some c := by
  have e : tl (cutS x none (some 1)) = (tl x).take 1 := by
    show ((tl x).drop (HT.sIx x.length 0 none)).take (HT.sIx x.length x.length (some 1) - HT.sIx x.length 0 none) = _
    have e0 : HT.sIx x.length 0 none = 0 := rfl
    rw [e0, len_tl]
    cases tl x with
    | nil => rfl
    | cons a b =>
      have e : HT.sIx (a :: b).length (a :: b).length (some 1) = 1 := by
        unfold HT.sIx
        simp
      rw [e]
      rfl
  constructor
  · intro h
    rw [h] at e
    have e : [c] = (tl x).take 1 := e
    cases ex : tl x with
    | nil => rw [ex] at e; cases e
    | cons a b =>
      rw [ex] at e
      injection e with e _
      rw [e]
      rfl
  · intro h
    apply ext_tl
    rw [e]
    cases ex : tl x with
    | nil => rw [ex] at h; cases h
    | cons a b =>
      rw [ex] at h
      injection h with h
      rw [h]
      rfl
end AZ

set_option Elab.async false
set_option maxRecDepth 100000
set_option maxHeartbeats 4000000
set_option linter.all false
/-! Own work: list(text), the signs of a text one by one. -/
namespace AZ
open PySem L2 PyProof.Rows
theorem vals_at : ∀ {xs : List V} {us : List Value}, xs.length = us.length → (∀ (i : Nat) x u, xs[i]? = some x → us[i]? = some u → RelV x u) → Vals xs us
  | [], [], _, _ => .nil
  | x :: xs, u :: us, e, h => .cons (h 0 x u rfl rfl) (vals_at (by simpa using e) fun i y v a b => h (i + 1) y v (by simpa using a) (by simpa using b))
  | [], u :: us, e, _ => by cases e
  | x :: xs, [], e, _ => by cases e
/-- the signs of a text, each a text -/
def sgV (x : Str) : List V := x.cps.toList.map fun c => V.str ⟨#[c]⟩
theorem call_list_txt {X : Cx} (hc : X.calm = true) : CallR X (.type "list") (fun xs H Q => ∃ x : Str, xs = [.str x] ∧ x.length ≤ sizeLine ∧ ∀ l, H l = none → Q (.ref l) (upd H l (.lst (sgV x)))) := by
  intro pins s σ H xs us Q I r h
  obtain ⟨x, rfl, hz, q⟩ := h
  obtain ⟨u, rfl, rx⟩ := vals1 r
  obtain ⟨t, rfl⟩ := rx
  have hz : x.cps.size ≤ sizeLine := hz
  have ls : (sgV x).length = x.cps.size := by
    show (x.cps.toList.map _).length = _
    rw [List.length_map]; rfl
  refine PySem.call_list_str (I.ok.hd hc) x t (fun h' tk acc c kp e it => ?_) hz
  refine ⟨.ref s.heap.objs.size, _, I.laid (t' := tk) kp (Nat.le_refl _) (show ObjOk X.prog X.w _ h' _ (.lst (sgV x)) from ⟨by rw [ls]; exact hz, acc.toList, c, ?_, by simpa using e⟩), rfl, q _ (I.hok.fresh (Nat.le_refl _))⟩
  refine vals_at (by rw [ls]; simpa using it.1.symm) fun i y v a b => ?_
  obtain ⟨c', u', e1, rfl⟩ := it.2 i v (by simpa using b)
  have e2 : y = V.str ⟨#[c']⟩ := by
    have a : (x.cps.toList.map fun c => V.str ⟨#[c]⟩)[i]? = some y := a
    rw [List.getElem?_map, Array.getElem?_toList, e1] at a
    exact (Option.some.inj a).symm
  rw [e2]
  exact ⟨_, rfl⟩
end AZ

set_option Elab.async false
set_option maxRecDepth 100000
set_option maxHeartbeats 4000000
set_option linter.all false
namespace AZ
open PySem L2
theorem sc__law_pen : FnScope ["_law_script"] ["_law_script"] (defScope s__law_pen) := ⟨rfl, rfl, rfl, by decide +kernel, rfl, by decide +kernel, by decide +kernel⟩
theorem sc__law_draw : FnScope ["_law_pen_here", "_law_many", "_law_digit", "_law_lap", "_law_cell", "_law_great", "_law_stir"] ["_law_pen_here", "_law_many"] (defScope s__law_draw) := ⟨rfl, rfl, rfl, by decide +kernel, rfl, by decide +kernel, by decide +kernel⟩
theorem sc__law_pick : FnScope ["_law_pen_here", "_law_some"] ["_law_pen_here", "_law_some"] (defScope s__law_pick) := ⟨rfl, rfl, rfl, by decide +kernel, rfl, by decide +kernel, by decide +kernel⟩
theorem sc_is_integer : FnScope ["value"] ["value"] (defScope s_is_integer) := ⟨rfl, rfl, rfl, by decide +kernel, rfl, by decide +kernel, by decide +kernel⟩
theorem sc_Ratio___init__ : FnScope ["self", "over", "under", "shared"] ["self", "over", "under"] (defScope s_Ratio___init__) := ⟨rfl, rfl, rfl, by decide +kernel, rfl, by decide +kernel, by decide +kernel⟩
theorem sc_Ratio_of : FnScope ["value"] ["value"] (defScope s_Ratio_of) := ⟨rfl, rfl, rfl, by decide +kernel, rfl, by decide +kernel, by decide +kernel⟩
theorem sc_Ratio___add__ : FnScope ["self", "other", "added"] ["self", "other"] (defScope s_Ratio___add__) := ⟨rfl, rfl, rfl, by decide +kernel, rfl, by decide +kernel, by decide +kernel⟩
theorem sc_Ratio___sub__ : FnScope ["self", "other", "taken"] ["self", "other"] (defScope s_Ratio___sub__) := ⟨rfl, rfl, rfl, by decide +kernel, rfl, by decide +kernel, by decide +kernel⟩
theorem sc_Ratio___mul__ : FnScope ["self", "other", "factor"] ["self", "other"] (defScope s_Ratio___mul__) := ⟨rfl, rfl, rfl, by decide +kernel, rfl, by decide +kernel, by decide +kernel⟩
theorem sc_Ratio___lt__ : FnScope ["self", "other", "against"] ["self", "other"] (defScope s_Ratio___lt__) := ⟨rfl, rfl, rfl, by decide +kernel, rfl, by decide +kernel, by decide +kernel⟩
theorem sc_Ratio___le__ : FnScope ["self", "other", "against"] ["self", "other"] (defScope s_Ratio___le__) := ⟨rfl, rfl, rfl, by decide +kernel, rfl, by decide +kernel, by decide +kernel⟩
theorem sc_Ratio___gt__ : FnScope ["self", "other", "against"] ["self", "other"] (defScope s_Ratio___gt__) := ⟨rfl, rfl, rfl, by decide +kernel, rfl, by decide +kernel, by decide +kernel⟩
theorem sc_Ratio___ge__ : FnScope ["self", "other", "against"] ["self", "other"] (defScope s_Ratio___ge__) := ⟨rfl, rfl, rfl, by decide +kernel, rfl, by decide +kernel, by decide +kernel⟩
theorem sc_Ratio___eq__ : FnScope ["self", "other"] ["self", "other"] (defScope s_Ratio___eq__) := ⟨rfl, rfl, rfl, by decide +kernel, rfl, by decide +kernel, by decide +kernel⟩
theorem sc_Ratio_floor : FnScope ["self"] ["self"] (defScope s_Ratio_floor) := ⟨rfl, rfl, rfl, by decide +kernel, rfl, by decide +kernel, by decide +kernel⟩
theorem sc_Ratio_ceiling : FnScope ["self"] ["self"] (defScope s_Ratio_ceiling) := ⟨rfl, rfl, rfl, by decide +kernel, rfl, by decide +kernel, by decide +kernel⟩
theorem sc_is_number : FnScope ["value"] ["value"] (defScope s_is_number) := ⟨rfl, rfl, rfl, by decide +kernel, rfl, by decide +kernel, by decide +kernel⟩
theorem sc_fraction_of : FnScope ["number"] ["number"] (defScope s_fraction_of) := ⟨rfl, rfl, rfl, by decide +kernel, rfl, by decide +kernel, by decide +kernel⟩
theorem sc_Rounding_drawn_at : FnScope ["self", "number", "place"] ["self", "number"] (defScope s_Rounding_drawn_at) := ⟨rfl, rfl, rfl, by decide +kernel, rfl, by decide +kernel, by decide +kernel⟩
theorem sc_Rounding___call__ : FnScope ["self", "number"] ["self", "number"] (defScope s_Rounding___call__) := ⟨rfl, rfl, rfl, by decide +kernel, rfl, by decide +kernel, by decide +kernel⟩
theorem sc_Rounding_behind : FnScope ["self", "number"] ["self", "number"] (defScope s_Rounding_behind) := ⟨rfl, rfl, rfl, by decide +kernel, rfl, by decide +kernel, by decide +kernel⟩
theorem sc_Rounding___init__ : FnScope ["self", "threshold", "is_from"] ["self", "threshold", "is_from"] (defScope s_Rounding___init__) := ⟨rfl, rfl, rfl, by decide +kernel, rfl, by decide +kernel, by decide +kernel⟩
theorem sc_Ratio___neg__ : FnScope ["self"] ["self"] (defScope s_Ratio___neg__) := ⟨rfl, rfl, rfl, by decide +kernel, rfl, by decide +kernel, by decide +kernel⟩
theorem sc_Ratio___rsub__ : FnScope ["self", "other"] ["self", "other"] (defScope s_Ratio___rsub__) := ⟨rfl, rfl, rfl, by decide +kernel, rfl, by decide +kernel, by decide +kernel⟩
theorem sc_Rounding___eq__ : FnScope ["self", "other"] ["self", "other"] (defScope s_Rounding___eq__) := ⟨rfl, rfl, rfl, by decide +kernel, rfl, by decide +kernel, by decide +kernel⟩
theorem sc_Rounding___invert__ : FnScope ["self"] ["self"] (defScope s_Rounding___invert__) := ⟨rfl, rfl, rfl, by decide +kernel, rfl, by decide +kernel, by decide +kernel⟩
theorem sc_Ratio___str__ : FnScope ["self"] ["self"] (defScope s_Ratio___str__) := ⟨rfl, rfl, rfl, by decide +kernel, rfl, by decide +kernel, by decide +kernel⟩
theorem sc_Rounding___str__ : FnScope ["self"] ["self"] (defScope s_Rounding___str__) := ⟨rfl, rfl, rfl, by decide +kernel, rfl, by decide +kernel, by decide +kernel⟩
theorem sc__law_frac : FnScope ["_law_over", "_law_under", "_law_one", "_law_other", "_law_sign"] ["_law_over", "_law_under"] (defScope s__law_frac) := ⟨rfl, rfl, rfl, by decide +kernel, rfl, by decide +kernel, by decide +kernel⟩
theorem sc__law_kind : FnScope ["_law_pen_here", "_law_some"] ["_law_pen_here"] (defScope s__law_kind) := ⟨rfl, rfl, rfl, by decide +kernel, rfl, by decide +kernel, by decide +kernel⟩
theorem sc__law_rounding : FnScope ["_law_kind_here"] ["_law_kind_here"] (defScope s__law_rounding) := ⟨rfl, rfl, rfl, by decide +kernel, rfl, by decide +kernel, by decide +kernel⟩
theorem sc_BadText___init__ : FnScope ["self", "line", "word"] ["self", "line", "word"] (defScope s_BadText___init__) := ⟨rfl, rfl, rfl, by decide +kernel, rfl, by decide +kernel, by decide +kernel⟩
theorem sc_split_words : FnScope ["text"] ["text"] (defScope s_split_words) := ⟨rfl, rfl, rfl, by decide +kernel, rfl, by decide +kernel, by decide +kernel⟩
theorem sc_whole_number : FnScope ["word", "digits"] ["word"] (defScope s_whole_number) := ⟨rfl, rfl, rfl, by decide +kernel, rfl, by decide +kernel, by decide +kernel⟩
theorem sc_told_number : FnScope ["word", "over", "stroke", "under", "above", "below"] ["word"] (defScope s_told_number) := ⟨rfl, rfl, rfl, by decide +kernel, rfl, by decide +kernel, by decide +kernel⟩
theorem sc_told_rounding : FnScope ["kind", "word", "threshold", "is_from"] ["kind", "word"] (defScope s_told_rounding) := ⟨rfl, rfl, rfl, by decide +kernel, rfl, by decide +kernel, by decide +kernel⟩
theorem sc_Rounding_read : FnScope ["cls", "text", "words", "rounding"] ["cls", "text"] (defScope s_Rounding_read) := ⟨rfl, rfl, rfl, by decide +kernel, rfl, by decide +kernel, by decide +kernel⟩
theorem sc__law_is_integer : FnScope ["_law_word", "_law_body", "_law_sign"] ["_law_word"] (defScope s__law_is_integer) := ⟨rfl, rfl, rfl, by decide +kernel, rfl, by decide +kernel, by decide +kernel⟩
theorem sc__law_threshold : FnScope ["_law_word", "_law_parts", "_law_part", "_law_found"] ["_law_word"] (defScope s__law_threshold) := ⟨rfl, rfl, rfl, by decide +kernel, rfl, by decide +kernel, by decide +kernel⟩
theorem sc__law_less : FnScope ["_law_one", "_law_other"] ["_law_one", "_law_other"] (defScope s__law_less) := ⟨rfl, rfl, rfl, by decide +kernel, rfl, by decide +kernel, by decide +kernel⟩
theorem sc__law_due : FnScope ["_law_text", "_law_words", "_law_told", "_law_is_from"] ["_law_text"] (defScope s__law_due) := ⟨rfl, rfl, rfl, by decide +kernel, rfl, by decide +kernel, by decide +kernel⟩
theorem sc__law_bent : FnScope ["_law_pen_here", "_law_text", "_law_way", "_law_at", "_law_sign", "_law_words"] ["_law_pen_here", "_law_text"] (defScope s__law_bent) := ⟨rfl, rfl, rfl, by decide +kernel, rfl, by decide +kernel, by decide +kernel⟩
theorem sc__law_heard : FnScope ["_law_ask", "_law_caught", "error"] ["_law_ask"] (defScope s__law_heard) := ⟨rfl, rfl, rfl, by decide +kernel, rfl, by decide +kernel, by decide +kernel⟩
theorem sc_law : FnScope ["_law_script", "_law_pen_here", "_law_turn", "_law_kind_here", "_law_least", "_law_made", "_law_told", "_law_lap", "_law_bent_here", "_law_odd", "_law_fixed", "_law_text"] ["_law_script"] (defScope s_law) := ⟨rfl, rfl, rfl, by decide +kernel, rfl, by decide +kernel, by decide +kernel⟩
/-- where the defs and classes stand -/
structure Ad where
  (_law_pen _law_draw _law_pick Ratio is_integer Ratio___init__ Ratio_of Ratio___add__ Ratio___sub__ Ratio___mul__ Ratio___lt__ Ratio___le__ Ratio___gt__ Ratio___ge__ Ratio___eq__ Ratio_floor Ratio_ceiling is_number fraction_of Rounding_drawn_at Rounding Ratio___rsub__ Rounding___call__ Rounding_behind Rounding___init__ Ratio___neg__ Rounding___eq__ Rounding___invert__ Ratio___str__ Rounding___str__ _law_frac _law_kind _law_rounding BadText___init__ SnapError BadText split_words whole_number told_number told_rounding Rounding_read _law_is_integer _law_threshold _law_less _law_due _law_bent _law_heard law cc_law cp_law : Addr)
/-- what the walk asks of the text's top -/
structure Tx (K : PySem.W.Frag) (mg : Str → Option Value) (d : Ad) : Prop where
  F__law_pen : ∃ fd, Fun K "_law_pen" "_law_pen" s__law_pen d._law_pen fd
  n_list : mg "list" = none
  F__law_draw : ∃ fd, Fun K "_law_draw" "_law_draw" s__law_draw d._law_draw fd
  n_int : mg "int" = none
  n_len : mg "len" = none
  n_abs : mg "abs" = none
  F__law_pick : ∃ fd, Fun K "_law_pick" "_law_pick" s__law_pick d._law_pick fd
  k__law_draw : PySem.W.keepIn K (.ref d._law_draw) = true
  m__law_draw : mg "_law_draw" = some (.ref d._law_draw)
  i_int_is_int : PySem.W.kitOne K (.type "int") (.type "int") = some true
  i_int_is_bool : PySem.W.kitOne K (.type "int") (.type "bool") = some false
  y_Ratio : TyC K d.Ratio
  c_Ratio : Cls K d.Ratio
  i_Ratio_is_int : PySem.W.kitOne K (.ref d.Ratio) (.type "int") = some false
  i_Ratio_is_bool : PySem.W.kitOne K (.ref d.Ratio) (.type "bool") = some false
  F_is_integer : ∃ fd, Fun K "is_integer" "is_integer" s_is_integer d.is_integer fd
  n_isinstance : mg "isinstance" = none
  n_bool : mg "bool" = none
  D_Ratio___init__ : ∃ fd, FunD K "__init__" "Ratio.__init__" (defArgs s_Ratio___init__) (defBody s_Ratio___init__) (defScope s_Ratio___init__) [.int 1] [] d.Ratio___init__ fd
  k_is_integer : PySem.W.keepIn K (.ref d.is_integer) = true
  m_is_integer : mg "is_integer" = some (.ref d.is_integer)
  m_gcd : mg "gcd" = some (.builtin "math.gcd")
  a_Ratio_over : NoAttr K d.Ratio "over"
  a_Ratio_under : NoAttr K d.Ratio "under"
  F_Ratio_of : ∃ fd, Fun K "of" "Ratio.of" s_Ratio_of d.Ratio_of fd
  m_Ratio : mg "Ratio" = some (.ref d.Ratio)
  mk_Ratio : Mk K d.Ratio d.Ratio___init__
  i_int_is_Ratio : PySem.W.kitOne K (.type "int") (.ref d.Ratio) = some false
  i_Ratio_is_Ratio : PySem.W.kitOne K (.ref d.Ratio) (.ref d.Ratio) = some true
  F_Ratio___add__ : ∃ fd, Fun K "__add__" "Ratio.__add__" s_Ratio___add__ d.Ratio___add__ fd
  s_Ratio_of : SMet K d.Ratio "of" d.Ratio_of
  F_Ratio___sub__ : ∃ fd, Fun K "__sub__" "Ratio.__sub__" s_Ratio___sub__ d.Ratio___sub__ fd
  F_Ratio___mul__ : ∃ fd, Fun K "__mul__" "Ratio.__mul__" s_Ratio___mul__ d.Ratio___mul__ fd
  F_Ratio___lt__ : ∃ fd, Fun K "__lt__" "Ratio.__lt__" s_Ratio___lt__ d.Ratio___lt__ fd
  F_Ratio___le__ : ∃ fd, Fun K "__le__" "Ratio.__le__" s_Ratio___le__ d.Ratio___le__ fd
  F_Ratio___gt__ : ∃ fd, Fun K "__gt__" "Ratio.__gt__" s_Ratio___gt__ d.Ratio___gt__ fd
  F_Ratio___ge__ : ∃ fd, Fun K "__ge__" "Ratio.__ge__" s_Ratio___ge__ d.Ratio___ge__ fd
  F_Ratio___eq__ : ∃ fd, Fun K "__eq__" "Ratio.__eq__" s_Ratio___eq__ d.Ratio___eq__ fd
  F_Ratio_floor : ∃ fd, Fun K "floor" "Ratio.floor" s_Ratio_floor d.Ratio_floor fd
  F_Ratio_ceiling : ∃ fd, Fun K "ceiling" "Ratio.ceiling" s_Ratio_ceiling d.Ratio_ceiling fd
  F_is_number : ∃ fd, Fun K "is_number" "is_number" s_is_number d.is_number fd
  F_fraction_of : ∃ fd, Fun K "fraction_of" "fraction_of" s_fraction_of d.fraction_of fd
  k_is_number : PySem.W.keepIn K (.ref d.is_number) = true
  m_is_number : mg "is_number" = some (.ref d.is_number)
  F_Rounding_drawn_at : ∃ fd, Fun K "drawn_at" "Rounding.drawn_at" s_Rounding_drawn_at d.Rounding_drawn_at fd
  h_Ratio_floor : Meth K d.Ratio "floor" d.Ratio_floor
  h_Ratio_ceiling : Meth K d.Ratio "ceiling" d.Ratio_ceiling
  c_Rounding : Cls K d.Rounding
  a_Rounding_threshold : NoAttr K d.Rounding "threshold"
  b_Ratio_sub : BinM K d.Ratio .Sub d.Ratio___sub__
  a_Rounding_is_from : NoAttr K d.Rounding "is_from"
  F_Rounding___call__ : ∃ fd, Fun K "__call__" "Rounding.__call__" s_Rounding___call__ d.Rounding___call__ fd
  h_Rounding_drawn_at : Meth K d.Rounding "drawn_at" d.Rounding_drawn_at
  k_fraction_of : PySem.W.keepIn K (.ref d.fraction_of) = true
  m_fraction_of : mg "fraction_of" = some (.ref d.fraction_of)
  F_Rounding_behind : ∃ fd, Fun K "behind" "Rounding.behind" s_Rounding_behind d.Rounding_behind fd
  D_Rounding___init__ : ∃ fd, FunD K "__init__" "Rounding.__init__" (defArgs s_Rounding___init__) (defBody s_Rounding___init__) (defScope s_Rounding___init__) [.bl true] [] d.Rounding___init__ fd
  q_Ratio_lt : CmpM K d.Ratio .Lt d.Ratio___lt__
  q_Ratio_gt : CmpM K d.Ratio .Gt d.Ratio___gt__
  i_bool_is_bool : PySem.W.kitOne K (.type "bool") (.type "bool") = some true
  q_Ratio_eq : CmpM K d.Ratio .Eq d.Ratio___eq__
  F_Ratio___neg__ : ∃ fd, Fun K "__neg__" "Ratio.__neg__" s_Ratio___neg__ d.Ratio___neg__ fd
  F_Ratio___rsub__ : ∃ fd, Fun K "__rsub__" "Ratio.__rsub__" s_Ratio___rsub__ d.Ratio___rsub__ fd
  F_Rounding___eq__ : ∃ fd, Fun K "__eq__" "Rounding.__eq__" s_Rounding___eq__ d.Rounding___eq__ fd
  m_Rounding : mg "Rounding" = some (.ref d.Rounding)
  y_Rounding : TyC K d.Rounding
  i_Rounding_is_Rounding : PySem.W.kitOne K (.ref d.Rounding) (.ref d.Rounding) = some true
  F_Rounding___invert__ : ∃ fd, Fun K "__invert__" "Rounding.__invert__" s_Rounding___invert__ d.Rounding___invert__ fd
  mk_Rounding : Mk K d.Rounding d.Rounding___init__
  v_Ratio_sub : ReflM K d.Ratio "__sub__" "__rsub__" d.Ratio___sub__ d.Ratio___rsub__
  F_Ratio___str__ : ∃ fd, Fun K "__str__" "Ratio.__str__" s_Ratio___str__ d.Ratio___str__ fd
  n_str : mg "str" = none
  F_Rounding___str__ : ∃ fd, Fun K "__str__" "Rounding.__str__" s_Rounding___str__ d.Rounding___str__ fd
  t_Ratio : StrM K d.Ratio d.Ratio___str__
  F__law_frac : ∃ fd, Fun K "_law_frac" "_law_frac" s__law_frac d._law_frac fd
  F__law_kind : ∃ fd, Fun K "_law_kind" "_law_kind" s__law_kind d._law_kind fd
  k__law_pick : PySem.W.keepIn K (.ref d._law_pick) = true
  m__law_pick : mg "_law_pick" = some (.ref d._law_pick)
  F__law_rounding : ∃ fd, Fun K "_law_rounding" "_law_rounding" s__law_rounding d._law_rounding fd
  F_BadText___init__ : ∃ fd, Fun K "__init__" "BadText.__init__" s_BadText___init__ d.BadText___init__ fd
  vi_SnapError : VInit K d.SnapError
  m_SnapError : mg "SnapError" = some (.ref d.SnapError)
  ex_BadText : Ex K d.SnapError d.BadText d.BadText___init__ "BadText"
  a_BadText_line : NoAttr K d.BadText "line"
  a_BadText_word : NoAttr K d.BadText "word"
  F_split_words : ∃ fd, Fun K "split_words" "split_words" s_split_words d.split_words fd
  m_BadText : mg "BadText" = some (.ref d.BadText)
  i_str_is_str : PySem.W.kitOne K (.type "str") (.type "str") = some true
  F_whole_number : ∃ fd, Fun K "whole_number" "whole_number" s_whole_number d.whole_number fd
  mi_MOST_DIGITS : ∃ t, mg "MOST_DIGITS" = some (.int 4000 t)
  F_told_number : ∃ fd, Fun K "told_number" "told_number" s_told_number d.told_number fd
  k_whole_number : PySem.W.keepIn K (.ref d.whole_number) = true
  m_whole_number : mg "whole_number" = some (.ref d.whole_number)
  F_told_rounding : ∃ fd, Fun K "told_rounding" "told_rounding" s_told_rounding d.told_rounding fd
  k_told_number : PySem.W.keepIn K (.ref d.told_number) = true
  m_told_number : mg "told_number" = some (.ref d.told_number)
  F_Rounding_read : ∃ fd, Fun K "read" "Rounding.read" s_Rounding_read d.Rounding_read fd
  k_split_words : PySem.W.keepIn K (.ref d.split_words) = true
  m_split_words : mg "split_words" = some (.ref d.split_words)
  k_told_rounding : PySem.W.keepIn K (.ref d.told_rounding) = true
  m_told_rounding : mg "told_rounding" = some (.ref d.told_rounding)
  F__law_is_integer : ∃ fd, Fun K "_law_is_integer" "_law_is_integer" s__law_is_integer d._law_is_integer fd
  F__law_threshold : ∃ fd, Fun K "_law_threshold" "_law_threshold" s__law_threshold d._law_threshold fd
  k__law_is_integer : PySem.W.keepIn K (.ref d._law_is_integer) = true
  m__law_is_integer : mg "_law_is_integer" = some (.ref d._law_is_integer)
  k__law_frac : PySem.W.keepIn K (.ref d._law_frac) = true
  m__law_frac : mg "_law_frac" = some (.ref d._law_frac)
  F__law_less : ∃ fd, Fun K "_law_less" "_law_less" s__law_less d._law_less fd
  F__law_due : ∃ fd, Fun K "_law_due" "_law_due" s__law_due d._law_due fd
  k__law_threshold : PySem.W.keepIn K (.ref d._law_threshold) = true
  m__law_threshold : mg "_law_threshold" = some (.ref d._law_threshold)
  k__law_less : PySem.W.keepIn K (.ref d._law_less) = true
  m__law_less : mg "_law_less" = some (.ref d._law_less)
  F__law_bent : ∃ fd, Fun K "_law_bent" "_law_bent" s__law_bent d._law_bent fd
  F__law_heard : ∃ fd, Fun K "_law_heard" "_law_heard" s__law_heard d._law_heard fd
  sx_SnapError : Sx K d.SnapError "SnapError"
  gx_object : Gx K
  i_NoneType_is_str : PySem.W.kitOne K (.type "NoneType") (.type "str") = some false
  i_int_is_str : PySem.W.kitOne K (.type "int") (.type "str") = some false
  i_bool_is_str : PySem.W.kitOne K (.type "bool") (.type "str") = some false
  i_Rounding_is_str : PySem.W.kitOne K (.ref d.Rounding) (.type "str") = some false
  i_tuple_is_str : PySem.W.kitOne K (.type "tuple") (.type "str") = some false
  i_list_is_str : PySem.W.kitOne K (.type "list") (.type "str") = some false
  i_dict_is_str : PySem.W.kitOne K (.type "dict") (.type "str") = some false
  tab_law : TabK K d.law d.cc_law d.cp_law
  m__law_heard : mg "_law_heard" = some (.ref d._law_heard)
  q_Rounding_eq : CmpM K d.Rounding .Eq d.Rounding___eq__
  F_law : ∃ fd, Fun K "law" "law" s_law d.law fd
  k__law_pen : PySem.W.keepIn K (.ref d._law_pen) = true
  m__law_pen : mg "_law_pen" = some (.ref d._law_pen)
  n_range : mg "range" = none
  k__law_kind : PySem.W.keepIn K (.ref d._law_kind) = true
  m__law_kind : mg "_law_kind" = some (.ref d._law_kind)
  k__law_rounding : PySem.W.keepIn K (.ref d._law_rounding) = true
  m__law_rounding : mg "_law_rounding" = some (.ref d._law_rounding)
  km_Rounding_read : KMet K d.Rounding "read" d.Rounding_read
  k__law_due : PySem.W.keepIn K (.ref d._law_due) = true
  m__law_due : mg "_law_due" = some (.ref d._law_due)
  k__law_bent : PySem.W.keepIn K (.ref d._law_bent) = true
  m__law_bent : mg "_law_bent" = some (.ref d._law_bent)
  k__law_heard : PySem.W.keepIn K (.ref d._law_heard) = true
  t_Rounding : StrM K d.Rounding d.Rounding___str__
  z_Rounding : NeM K d.Rounding d.Rounding___eq__
  m_law : mg "law" = some (.ref d.law)
end AZ
namespace AZ
open PySem L2
theorem tx_mk {K : PySem.W.Frag} {h : Heap} {mg : Str → Option Value} {A__law_pen A__law_draw A__law_pick A_Ratio A_is_integer A_Ratio___init__ A_Ratio_of A_Ratio___add__ A_Ratio___sub__ A_Ratio___mul__ A_Ratio___lt__ A_Ratio___le__ A_Ratio___gt__ A_Ratio___ge__ A_Ratio___eq__ A_Ratio_floor A_Ratio_ceiling A_is_number A_fraction_of A_Rounding_drawn_at A_Rounding A_Ratio___rsub__ A_Rounding___call__ A_Rounding_behind A_Rounding___init__ A_Ratio___neg__ A_Rounding___eq__ A_Rounding___invert__ A_Ratio___str__ A_Rounding___str__ A__law_frac A__law_kind A__law_rounding A_BadText___init__ A_SnapError A_BadText A_split_words A_whole_number A_told_number A_told_rounding A_Rounding_read A__law_is_integer A__law_threshold A__law_less A__law_due A__law_bent A__law_heard A_law A_cc_law A_cp_law : Addr} {cd2_law cd_BadText___init__ cd_Ratio___add__ cd_Ratio___eq__ cd_Ratio___ge__ cd_Ratio___gt__ cd_Ratio___init__ cd_Ratio___le__ cd_Ratio___lt__ cd_Ratio___mul__ cd_Ratio___neg__ cd_Ratio___rsub__ cd_Ratio___str__ cd_Ratio___sub__ cd_Ratio_ceiling cd_Ratio_floor cd_Ratio_of cd_Rounding___call__ cd_Rounding___eq__ cd_Rounding___init__ cd_Rounding___invert__ cd_Rounding___str__ cd_Rounding_behind cd_Rounding_drawn_at cd_Rounding_read cd__law_bent cd__law_draw cd__law_due cd__law_frac cd__law_heard cd__law_is_integer cd__law_kind cd__law_less cd__law_pen cd__law_pick cd__law_rounding cd__law_threshold cd_fraction_of cd_is_integer cd_is_number cd_law cd_split_words cd_told_number cd_told_rounding cd_whole_number ct2_law ct_BadText___init__ ct_Ratio___add__ ct_Ratio___eq__ ct_Ratio___ge__ ct_Ratio___gt__ ct_Ratio___init__ ct_Ratio___le__ ct_Ratio___lt__ ct_Ratio___mul__ ct_Ratio___neg__ ct_Ratio___rsub__ ct_Ratio___str__ ct_Ratio___sub__ ct_Ratio_ceiling ct_Ratio_floor ct_Ratio_of ct_Rounding___call__ ct_Rounding___eq__ ct_Rounding___init__ ct_Rounding___invert__ ct_Rounding___str__ ct_Rounding_behind ct_Rounding_drawn_at ct_Rounding_read ct__law_bent ct__law_draw ct__law_due ct__law_frac ct__law_heard ct__law_is_integer ct__law_kind ct__law_less ct__law_pen ct__law_pick ct__law_rounding ct__law_threshold ct_fraction_of ct_is_integer ct_is_number ct_law ct_split_words ct_told_number ct_told_rounding ct_whole_number dc2_law dc_BadText___init__ dc_Ratio___add__ dc_Ratio___eq__ dc_Ratio___ge__ dc_Ratio___gt__ dc_Ratio___init__ dc_Ratio___le__ dc_Ratio___lt__ dc_Ratio___mul__ dc_Ratio___neg__ dc_Ratio___rsub__ dc_Ratio___str__ dc_Ratio___sub__ dc_Ratio_ceiling dc_Ratio_floor dc_Ratio_of dc_Rounding___call__ dc_Rounding___eq__ dc_Rounding___init__ dc_Rounding___invert__ dc_Rounding___str__ dc_Rounding_behind dc_Rounding_drawn_at dc_Rounding_read dc__law_bent dc__law_draw dc__law_due dc__law_frac dc__law_heard dc__law_is_integer dc__law_kind dc__law_less dc__law_pen dc__law_pick dc__law_rounding dc__law_threshold dc_fraction_of dc_is_integer dc_is_number dc_law dc_split_words dc_told_number dc_told_rounding dc_whole_number kV2_law kV_BadText___init__ kV_Ratio___add__ kV_Ratio___eq__ kV_Ratio___ge__ kV_Ratio___gt__ kV_Ratio___init__ kV_Ratio___le__ kV_Ratio___lt__ kV_Ratio___mul__ kV_Ratio___neg__ kV_Ratio___rsub__ kV_Ratio___str__ kV_Ratio___sub__ kV_Ratio_ceiling kV_Ratio_floor kV_Ratio_of kV_Rounding___call__ kV_Rounding___eq__ kV_Rounding___init__ kV_Rounding___invert__ kV_Rounding___str__ kV_Rounding_behind kV_Rounding_drawn_at kV_Rounding_read kV__law_bent kV__law_draw kV__law_due kV__law_frac kV__law_heard kV__law_is_integer kV__law_kind kV__law_less kV__law_pen kV__law_pick kV__law_rounding kV__law_threshold kV_fraction_of kV_is_integer kV_is_number kV_law kV_split_words kV_told_number kV_told_rounding kV_whole_number oc2_law oc_BadText___init__ oc_Ratio___add__ oc_Ratio___eq__ oc_Ratio___ge__ oc_Ratio___gt__ oc_Ratio___init__ oc_Ratio___le__ oc_Ratio___lt__ oc_Ratio___mul__ oc_Ratio___neg__ oc_Ratio___rsub__ oc_Ratio___str__ oc_Ratio___sub__ oc_Ratio_ceiling oc_Ratio_floor oc_Ratio_of oc_Rounding___call__ oc_Rounding___eq__ oc_Rounding___init__ oc_Rounding___invert__ oc_Rounding___str__ oc_Rounding_behind oc_Rounding_drawn_at oc_Rounding_read oc__law_bent oc__law_draw oc__law_due oc__law_frac oc__law_heard oc__law_is_integer oc__law_kind oc__law_less oc__law_pen oc__law_pick oc__law_rounding oc__law_threshold oc_fraction_of oc_is_integer oc_is_number oc_law oc_split_words oc_told_number oc_told_rounding oc_whole_number pm2_law pm_BadText___init__ pm_Ratio___add__ pm_Ratio___eq__ pm_Ratio___ge__ pm_Ratio___gt__ pm_Ratio___init__ pm_Ratio___le__ pm_Ratio___lt__ pm_Ratio___mul__ pm_Ratio___neg__ pm_Ratio___rsub__ pm_Ratio___str__ pm_Ratio___sub__ pm_Ratio_ceiling pm_Ratio_floor pm_Ratio_of pm_Rounding___call__ pm_Rounding___eq__ pm_Rounding___init__ pm_Rounding___invert__ pm_Rounding___str__ pm_Rounding_behind pm_Rounding_drawn_at pm_Rounding_read pm__law_bent pm__law_draw pm__law_due pm__law_frac pm__law_heard pm__law_is_integer pm__law_kind pm__law_less pm__law_pen pm__law_pick pm__law_rounding pm__law_threshold pm_fraction_of pm_is_integer pm_is_number pm_law pm_split_words pm_told_number pm_told_rounding pm_whole_number tc_Ratio___init__ tc_Rounding___init__ : Value} {an2_law an_BadText___init__ an_Ratio___add__ an_Ratio___eq__ an_Ratio___ge__ an_Ratio___gt__ an_Ratio___init__ an_Ratio___le__ an_Ratio___lt__ an_Ratio___mul__ an_Ratio___neg__ an_Ratio___rsub__ an_Ratio___str__ an_Ratio___sub__ an_Ratio_ceiling an_Ratio_floor an_Ratio_of an_Rounding___call__ an_Rounding___eq__ an_Rounding___init__ an_Rounding___invert__ an_Rounding___str__ an_Rounding_behind an_Rounding_drawn_at an_Rounding_read an__law_bent an__law_draw an__law_due an__law_frac an__law_heard an__law_is_integer an__law_kind an__law_less an__law_pen an__law_pick an__law_rounding an__law_threshold an_fraction_of an_is_integer an_is_number an_law an_split_words an_told_number an_told_rounding an_whole_number od2_law od_BadText___init__ od_Ratio___add__ od_Ratio___eq__ od_Ratio___ge__ od_Ratio___gt__ od_Ratio___init__ od_Ratio___le__ od_Ratio___lt__ od_Ratio___mul__ od_Ratio___neg__ od_Ratio___rsub__ od_Ratio___str__ od_Ratio___sub__ od_Ratio_ceiling od_Ratio_floor od_Ratio_of od_Rounding___call__ od_Rounding___eq__ od_Rounding___init__ od_Rounding___invert__ od_Rounding___str__ od_Rounding_behind od_Rounding_drawn_at od_Rounding_read od__law_bent od__law_draw od__law_due od__law_frac od__law_heard od__law_is_integer od__law_kind od__law_less od__law_pen od__law_pick od__law_rounding od__law_threshold od_fraction_of od_is_integer od_is_number od_law od_split_words od_told_number od_told_rounding od_whole_number td2_law td_Ratio___init__ td_Rounding___init__ : Option Addr} {sl2_law sl_BadText___init__ sl_Ratio___add__ sl_Ratio___eq__ sl_Ratio___ge__ sl_Ratio___gt__ sl_Ratio___init__ sl_Ratio___le__ sl_Ratio___lt__ sl_Ratio___mul__ sl_Ratio___neg__ sl_Ratio___rsub__ sl_Ratio___str__ sl_Ratio___sub__ sl_Ratio_ceiling sl_Ratio_floor sl_Ratio_of sl_Rounding___call__ sl_Rounding___eq__ sl_Rounding___init__ sl_Rounding___invert__ sl_Rounding___str__ sl_Rounding_behind sl_Rounding_drawn_at sl_Rounding_read sl__law_bent sl__law_draw sl__law_due sl__law_frac sl__law_heard sl__law_is_integer sl__law_kind sl__law_less sl__law_pen sl__law_pick sl__law_rounding sl__law_threshold sl_fraction_of sl_is_integer sl_is_number sl_law sl_split_words sl_told_number sl_told_rounding sl_whole_number ts2_law ts_Ratio___init__ ts_Rounding___init__ : Array (Option Value)} {tn_Ratio___init__ tn_Rounding___init__ : Nat} {tk0_Ratio___init__ tk0_mi_MOST_DIGITS : Tok} {dT_Ratio___init__ dT_Rounding___init__ pp_Ratio_of pp_Rounding_read : Addr} {fv_law rr_Ratio_of rr_Rounding_read : List Value} {fo_Ratio_sub ro_Ratio_sub : Option Value} {e0_BadText e0_SnapError : Option Value} {e1_BadText e1_SnapError : Option Value} {e2_BadText e2_SnapError : Option Value} {e3_BadText e3_SnapError : Option Value} {e5_BadText e5_SnapError : Option Value} {eN_BadText eN_SnapError : Addr} {ea_BadText ea_SnapError : Bool} {eb_BadText eb_SnapError : List Value} {ec_BadText ec_SnapError : Option Bool} {ed_BadText ed_SnapError : Option Addr} {en_BadText en_SnapError : List Str} {eq_BadText eq_SnapError : Str} {eu_BadText eu_SnapError : List Value} (X : K.In h) (G : h.Ns mainGlobals mg)
    (L__law_pen : PySem.W.nsIn K mainGlobals "_law_pen" = some (some (.ref A__law_pen)))
    (L__law_draw : PySem.W.nsIn K mainGlobals "_law_draw" = some (some (.ref A__law_draw)))
    (L__law_pick : PySem.W.nsIn K mainGlobals "_law_pick" = some (some (.ref A__law_pick)))
    (L_Ratio : PySem.W.nsIn K mainGlobals "Ratio" = some (some (.ref A_Ratio)))
    (L_is_integer : PySem.W.nsIn K mainGlobals "is_integer" = some (some (.ref A_is_integer)))
    (L_is_number : PySem.W.nsIn K mainGlobals "is_number" = some (some (.ref A_is_number)))
    (L_fraction_of : PySem.W.nsIn K mainGlobals "fraction_of" = some (some (.ref A_fraction_of)))
    (L_Rounding : PySem.W.nsIn K mainGlobals "Rounding" = some (some (.ref A_Rounding)))
    (L__law_frac : PySem.W.nsIn K mainGlobals "_law_frac" = some (some (.ref A__law_frac)))
    (L__law_kind : PySem.W.nsIn K mainGlobals "_law_kind" = some (some (.ref A__law_kind)))
    (L__law_rounding : PySem.W.nsIn K mainGlobals "_law_rounding" = some (some (.ref A__law_rounding)))
    (L_SnapError : PySem.W.nsIn K mainGlobals "SnapError" = some (some (.ref A_SnapError)))
    (L_BadText : PySem.W.nsIn K mainGlobals "BadText" = some (some (.ref A_BadText)))
    (L_split_words : PySem.W.nsIn K mainGlobals "split_words" = some (some (.ref A_split_words)))
    (L_whole_number : PySem.W.nsIn K mainGlobals "whole_number" = some (some (.ref A_whole_number)))
    (L_told_number : PySem.W.nsIn K mainGlobals "told_number" = some (some (.ref A_told_number)))
    (L_told_rounding : PySem.W.nsIn K mainGlobals "told_rounding" = some (some (.ref A_told_rounding)))
    (L__law_is_integer : PySem.W.nsIn K mainGlobals "_law_is_integer" = some (some (.ref A__law_is_integer)))
    (L__law_threshold : PySem.W.nsIn K mainGlobals "_law_threshold" = some (some (.ref A__law_threshold)))
    (L__law_less : PySem.W.nsIn K mainGlobals "_law_less" = some (some (.ref A__law_less)))
    (L__law_due : PySem.W.nsIn K mainGlobals "_law_due" = some (some (.ref A__law_due)))
    (L__law_bent : PySem.W.nsIn K mainGlobals "_law_bent" = some (some (.ref A__law_bent)))
    (L__law_heard : PySem.W.nsIn K mainGlobals "_law_heard" = some (some (.ref A__law_heard)))
    (L_law : PySem.W.nsIn K mainGlobals "law" = some (some (.ref A_law)))
    (L_Ratio___init__ : PySem.W.findIn K (.ref A_Ratio) "__init__" = some (some (.ref A_Ratio___init__)))
    (L_Ratio___add__ : PySem.W.findIn K (.ref A_Ratio) "__add__" = some (some (.ref A_Ratio___add__)))
    (L_Ratio___sub__ : PySem.W.findIn K (.ref A_Ratio) "__sub__" = some (some (.ref A_Ratio___sub__)))
    (L_Ratio___mul__ : PySem.W.findIn K (.ref A_Ratio) "__mul__" = some (some (.ref A_Ratio___mul__)))
    (L_Ratio___lt__ : PySem.W.findIn K (.ref A_Ratio) "__lt__" = some (some (.ref A_Ratio___lt__)))
    (L_Ratio___le__ : PySem.W.findIn K (.ref A_Ratio) "__le__" = some (some (.ref A_Ratio___le__)))
    (L_Ratio___gt__ : PySem.W.findIn K (.ref A_Ratio) "__gt__" = some (some (.ref A_Ratio___gt__)))
    (L_Ratio___ge__ : PySem.W.findIn K (.ref A_Ratio) "__ge__" = some (some (.ref A_Ratio___ge__)))
    (L_Ratio___eq__ : PySem.W.findIn K (.ref A_Ratio) "__eq__" = some (some (.ref A_Ratio___eq__)))
    (L_Ratio_floor : PySem.W.findIn K (.ref A_Ratio) "floor" = some (some (.ref A_Ratio_floor)))
    (L_Ratio_ceiling : PySem.W.findIn K (.ref A_Ratio) "ceiling" = some (some (.ref A_Ratio_ceiling)))
    (L_Rounding_drawn_at : PySem.W.findIn K (.ref A_Rounding) "drawn_at" = some (some (.ref A_Rounding_drawn_at)))
    (L_Ratio___rsub__ : PySem.W.findIn K (.ref A_Ratio) "__rsub__" = some (some (.ref A_Ratio___rsub__)))
    (L_Rounding___call__ : PySem.W.findIn K (.ref A_Rounding) "__call__" = some (some (.ref A_Rounding___call__)))
    (L_Rounding_behind : PySem.W.findIn K (.ref A_Rounding) "behind" = some (some (.ref A_Rounding_behind)))
    (L_Rounding___init__ : PySem.W.findIn K (.ref A_Rounding) "__init__" = some (some (.ref A_Rounding___init__)))
    (L_Ratio___neg__ : PySem.W.findIn K (.ref A_Ratio) "__neg__" = some (some (.ref A_Ratio___neg__)))
    (L_Rounding___eq__ : PySem.W.findIn K (.ref A_Rounding) "__eq__" = some (some (.ref A_Rounding___eq__)))
    (L_Rounding___invert__ : PySem.W.findIn K (.ref A_Rounding) "__invert__" = some (some (.ref A_Rounding___invert__)))
    (L_Ratio___str__ : PySem.W.findIn K (.ref A_Ratio) "__str__" = some (some (.ref A_Ratio___str__)))
    (L_Rounding___str__ : PySem.W.findIn K (.ref A_Rounding) "__str__" = some (some (.ref A_Rounding___str__)))
    (L_BadText___init__ : PySem.W.findIn K (.ref A_BadText) "__init__" = some (some (.ref A_BadText___init__)))
    (s_Ratio_of_r : PySem.W.readsIn K A_Ratio (.type "type") = true)
    (km_Rounding_read_r : PySem.W.readsIn K A_Rounding (.type "type") = true)
    (s_Ratio_of_a : PySem.W.findCls K (.ref A_Ratio) (.type "type") "of" = some (.get (.builtin "staticmethod.__get__") (.ref pp_Ratio_of) .none (.ref A_Ratio)))
    (km_Rounding_read_a : PySem.W.findCls K (.ref A_Rounding) (.type "type") "read" = some (.get (.builtin "classmethod.__get__") (.ref pp_Rounding_read) .none (.ref A_Rounding)))
    (s_Ratio_of_q : PySem.W.recIn K pp_Ratio_of "staticmethod" = some (.ref A_Ratio_of :: rr_Ratio_of))
    (km_Rounding_read_q : PySem.W.recIn K pp_Rounding_read "classmethod" = some (.ref A_Rounding_read :: rr_Rounding_read))
    (F__law_pen_l : K.lookup A__law_pen = some ⟨oc__law_pen, od__law_pen, .func (PySem.W.fnOf "_law_pen" "_law_pen" (defArgs s__law_pen) (defBody s__law_pen) (defScope s__law_pen) .none kV__law_pen dc__law_pen pm__law_pen an__law_pen cd__law_pen ct__law_pen), sl__law_pen⟩)
    (F__law_draw_l : K.lookup A__law_draw = some ⟨oc__law_draw, od__law_draw, .func (PySem.W.fnOf "_law_draw" "_law_draw" (defArgs s__law_draw) (defBody s__law_draw) (defScope s__law_draw) .none kV__law_draw dc__law_draw pm__law_draw an__law_draw cd__law_draw ct__law_draw), sl__law_draw⟩)
    (F__law_pick_l : K.lookup A__law_pick = some ⟨oc__law_pick, od__law_pick, .func (PySem.W.fnOf "_law_pick" "_law_pick" (defArgs s__law_pick) (defBody s__law_pick) (defScope s__law_pick) .none kV__law_pick dc__law_pick pm__law_pick an__law_pick cd__law_pick ct__law_pick), sl__law_pick⟩)
    (F_is_integer_l : K.lookup A_is_integer = some ⟨oc_is_integer, od_is_integer, .func (PySem.W.fnOf "is_integer" "is_integer" (defArgs s_is_integer) (defBody s_is_integer) (defScope s_is_integer) .none kV_is_integer dc_is_integer pm_is_integer an_is_integer cd_is_integer ct_is_integer), sl_is_integer⟩)
    (D_Ratio___init___l : K.lookup A_Ratio___init__ = some ⟨oc_Ratio___init__, od_Ratio___init__, .func (PySem.W.fnOf "__init__" "Ratio.__init__" (defArgs s_Ratio___init__) (defBody s_Ratio___init__) (defScope s_Ratio___init__) (.ref dT_Ratio___init__) kV_Ratio___init__ dc_Ratio___init__ pm_Ratio___init__ an_Ratio___init__ cd_Ratio___init__ ct_Ratio___init__), sl_Ratio___init__⟩)
    (F_Ratio_of_l : K.lookup A_Ratio_of = some ⟨oc_Ratio_of, od_Ratio_of, .func (PySem.W.fnOf "of" "Ratio.of" (defArgs s_Ratio_of) (defBody s_Ratio_of) (defScope s_Ratio_of) .none kV_Ratio_of dc_Ratio_of pm_Ratio_of an_Ratio_of cd_Ratio_of ct_Ratio_of), sl_Ratio_of⟩)
    (F_Ratio___add___l : K.lookup A_Ratio___add__ = some ⟨oc_Ratio___add__, od_Ratio___add__, .func (PySem.W.fnOf "__add__" "Ratio.__add__" (defArgs s_Ratio___add__) (defBody s_Ratio___add__) (defScope s_Ratio___add__) .none kV_Ratio___add__ dc_Ratio___add__ pm_Ratio___add__ an_Ratio___add__ cd_Ratio___add__ ct_Ratio___add__), sl_Ratio___add__⟩)
    (F_Ratio___sub___l : K.lookup A_Ratio___sub__ = some ⟨oc_Ratio___sub__, od_Ratio___sub__, .func (PySem.W.fnOf "__sub__" "Ratio.__sub__" (defArgs s_Ratio___sub__) (defBody s_Ratio___sub__) (defScope s_Ratio___sub__) .none kV_Ratio___sub__ dc_Ratio___sub__ pm_Ratio___sub__ an_Ratio___sub__ cd_Ratio___sub__ ct_Ratio___sub__), sl_Ratio___sub__⟩)
    (F_Ratio___mul___l : K.lookup A_Ratio___mul__ = some ⟨oc_Ratio___mul__, od_Ratio___mul__, .func (PySem.W.fnOf "__mul__" "Ratio.__mul__" (defArgs s_Ratio___mul__) (defBody s_Ratio___mul__) (defScope s_Ratio___mul__) .none kV_Ratio___mul__ dc_Ratio___mul__ pm_Ratio___mul__ an_Ratio___mul__ cd_Ratio___mul__ ct_Ratio___mul__), sl_Ratio___mul__⟩)
    (F_Ratio___lt___l : K.lookup A_Ratio___lt__ = some ⟨oc_Ratio___lt__, od_Ratio___lt__, .func (PySem.W.fnOf "__lt__" "Ratio.__lt__" (defArgs s_Ratio___lt__) (defBody s_Ratio___lt__) (defScope s_Ratio___lt__) .none kV_Ratio___lt__ dc_Ratio___lt__ pm_Ratio___lt__ an_Ratio___lt__ cd_Ratio___lt__ ct_Ratio___lt__), sl_Ratio___lt__⟩)
    (F_Ratio___le___l : K.lookup A_Ratio___le__ = some ⟨oc_Ratio___le__, od_Ratio___le__, .func (PySem.W.fnOf "__le__" "Ratio.__le__" (defArgs s_Ratio___le__) (defBody s_Ratio___le__) (defScope s_Ratio___le__) .none kV_Ratio___le__ dc_Ratio___le__ pm_Ratio___le__ an_Ratio___le__ cd_Ratio___le__ ct_Ratio___le__), sl_Ratio___le__⟩)
    (F_Ratio___gt___l : K.lookup A_Ratio___gt__ = some ⟨oc_Ratio___gt__, od_Ratio___gt__, .func (PySem.W.fnOf "__gt__" "Ratio.__gt__" (defArgs s_Ratio___gt__) (defBody s_Ratio___gt__) (defScope s_Ratio___gt__) .none kV_Ratio___gt__ dc_Ratio___gt__ pm_Ratio___gt__ an_Ratio___gt__ cd_Ratio___gt__ ct_Ratio___gt__), sl_Ratio___gt__⟩)
    (F_Ratio___ge___l : K.lookup A_Ratio___ge__ = some ⟨oc_Ratio___ge__, od_Ratio___ge__, .func (PySem.W.fnOf "__ge__" "Ratio.__ge__" (defArgs s_Ratio___ge__) (defBody s_Ratio___ge__) (defScope s_Ratio___ge__) .none kV_Ratio___ge__ dc_Ratio___ge__ pm_Ratio___ge__ an_Ratio___ge__ cd_Ratio___ge__ ct_Ratio___ge__), sl_Ratio___ge__⟩)
    (F_Ratio___eq___l : K.lookup A_Ratio___eq__ = some ⟨oc_Ratio___eq__, od_Ratio___eq__, .func (PySem.W.fnOf "__eq__" "Ratio.__eq__" (defArgs s_Ratio___eq__) (defBody s_Ratio___eq__) (defScope s_Ratio___eq__) .none kV_Ratio___eq__ dc_Ratio___eq__ pm_Ratio___eq__ an_Ratio___eq__ cd_Ratio___eq__ ct_Ratio___eq__), sl_Ratio___eq__⟩)
    (F_Ratio_floor_l : K.lookup A_Ratio_floor = some ⟨oc_Ratio_floor, od_Ratio_floor, .func (PySem.W.fnOf "floor" "Ratio.floor" (defArgs s_Ratio_floor) (defBody s_Ratio_floor) (defScope s_Ratio_floor) .none kV_Ratio_floor dc_Ratio_floor pm_Ratio_floor an_Ratio_floor cd_Ratio_floor ct_Ratio_floor), sl_Ratio_floor⟩)
    (F_Ratio_ceiling_l : K.lookup A_Ratio_ceiling = some ⟨oc_Ratio_ceiling, od_Ratio_ceiling, .func (PySem.W.fnOf "ceiling" "Ratio.ceiling" (defArgs s_Ratio_ceiling) (defBody s_Ratio_ceiling) (defScope s_Ratio_ceiling) .none kV_Ratio_ceiling dc_Ratio_ceiling pm_Ratio_ceiling an_Ratio_ceiling cd_Ratio_ceiling ct_Ratio_ceiling), sl_Ratio_ceiling⟩)
    (F_is_number_l : K.lookup A_is_number = some ⟨oc_is_number, od_is_number, .func (PySem.W.fnOf "is_number" "is_number" (defArgs s_is_number) (defBody s_is_number) (defScope s_is_number) .none kV_is_number dc_is_number pm_is_number an_is_number cd_is_number ct_is_number), sl_is_number⟩)
    (F_fraction_of_l : K.lookup A_fraction_of = some ⟨oc_fraction_of, od_fraction_of, .func (PySem.W.fnOf "fraction_of" "fraction_of" (defArgs s_fraction_of) (defBody s_fraction_of) (defScope s_fraction_of) .none kV_fraction_of dc_fraction_of pm_fraction_of an_fraction_of cd_fraction_of ct_fraction_of), sl_fraction_of⟩)
    (F_Rounding_drawn_at_l : K.lookup A_Rounding_drawn_at = some ⟨oc_Rounding_drawn_at, od_Rounding_drawn_at, .func (PySem.W.fnOf "drawn_at" "Rounding.drawn_at" (defArgs s_Rounding_drawn_at) (defBody s_Rounding_drawn_at) (defScope s_Rounding_drawn_at) .none kV_Rounding_drawn_at dc_Rounding_drawn_at pm_Rounding_drawn_at an_Rounding_drawn_at cd_Rounding_drawn_at ct_Rounding_drawn_at), sl_Rounding_drawn_at⟩)
    (F_Rounding___call___l : K.lookup A_Rounding___call__ = some ⟨oc_Rounding___call__, od_Rounding___call__, .func (PySem.W.fnOf "__call__" "Rounding.__call__" (defArgs s_Rounding___call__) (defBody s_Rounding___call__) (defScope s_Rounding___call__) .none kV_Rounding___call__ dc_Rounding___call__ pm_Rounding___call__ an_Rounding___call__ cd_Rounding___call__ ct_Rounding___call__), sl_Rounding___call__⟩)
    (F_Rounding_behind_l : K.lookup A_Rounding_behind = some ⟨oc_Rounding_behind, od_Rounding_behind, .func (PySem.W.fnOf "behind" "Rounding.behind" (defArgs s_Rounding_behind) (defBody s_Rounding_behind) (defScope s_Rounding_behind) .none kV_Rounding_behind dc_Rounding_behind pm_Rounding_behind an_Rounding_behind cd_Rounding_behind ct_Rounding_behind), sl_Rounding_behind⟩)
    (D_Rounding___init___l : K.lookup A_Rounding___init__ = some ⟨oc_Rounding___init__, od_Rounding___init__, .func (PySem.W.fnOf "__init__" "Rounding.__init__" (defArgs s_Rounding___init__) (defBody s_Rounding___init__) (defScope s_Rounding___init__) (.ref dT_Rounding___init__) kV_Rounding___init__ dc_Rounding___init__ pm_Rounding___init__ an_Rounding___init__ cd_Rounding___init__ ct_Rounding___init__), sl_Rounding___init__⟩)
    (F_Ratio___neg___l : K.lookup A_Ratio___neg__ = some ⟨oc_Ratio___neg__, od_Ratio___neg__, .func (PySem.W.fnOf "__neg__" "Ratio.__neg__" (defArgs s_Ratio___neg__) (defBody s_Ratio___neg__) (defScope s_Ratio___neg__) .none kV_Ratio___neg__ dc_Ratio___neg__ pm_Ratio___neg__ an_Ratio___neg__ cd_Ratio___neg__ ct_Ratio___neg__), sl_Ratio___neg__⟩)
    (F_Ratio___rsub___l : K.lookup A_Ratio___rsub__ = some ⟨oc_Ratio___rsub__, od_Ratio___rsub__, .func (PySem.W.fnOf "__rsub__" "Ratio.__rsub__" (defArgs s_Ratio___rsub__) (defBody s_Ratio___rsub__) (defScope s_Ratio___rsub__) .none kV_Ratio___rsub__ dc_Ratio___rsub__ pm_Ratio___rsub__ an_Ratio___rsub__ cd_Ratio___rsub__ ct_Ratio___rsub__), sl_Ratio___rsub__⟩)
    (F_Rounding___eq___l : K.lookup A_Rounding___eq__ = some ⟨oc_Rounding___eq__, od_Rounding___eq__, .func (PySem.W.fnOf "__eq__" "Rounding.__eq__" (defArgs s_Rounding___eq__) (defBody s_Rounding___eq__) (defScope s_Rounding___eq__) .none kV_Rounding___eq__ dc_Rounding___eq__ pm_Rounding___eq__ an_Rounding___eq__ cd_Rounding___eq__ ct_Rounding___eq__), sl_Rounding___eq__⟩)
    (F_Rounding___invert___l : K.lookup A_Rounding___invert__ = some ⟨oc_Rounding___invert__, od_Rounding___invert__, .func (PySem.W.fnOf "__invert__" "Rounding.__invert__" (defArgs s_Rounding___invert__) (defBody s_Rounding___invert__) (defScope s_Rounding___invert__) .none kV_Rounding___invert__ dc_Rounding___invert__ pm_Rounding___invert__ an_Rounding___invert__ cd_Rounding___invert__ ct_Rounding___invert__), sl_Rounding___invert__⟩)
    (F_Ratio___str___l : K.lookup A_Ratio___str__ = some ⟨oc_Ratio___str__, od_Ratio___str__, .func (PySem.W.fnOf "__str__" "Ratio.__str__" (defArgs s_Ratio___str__) (defBody s_Ratio___str__) (defScope s_Ratio___str__) .none kV_Ratio___str__ dc_Ratio___str__ pm_Ratio___str__ an_Ratio___str__ cd_Ratio___str__ ct_Ratio___str__), sl_Ratio___str__⟩)
    (F_Rounding___str___l : K.lookup A_Rounding___str__ = some ⟨oc_Rounding___str__, od_Rounding___str__, .func (PySem.W.fnOf "__str__" "Rounding.__str__" (defArgs s_Rounding___str__) (defBody s_Rounding___str__) (defScope s_Rounding___str__) .none kV_Rounding___str__ dc_Rounding___str__ pm_Rounding___str__ an_Rounding___str__ cd_Rounding___str__ ct_Rounding___str__), sl_Rounding___str__⟩)
    (F__law_frac_l : K.lookup A__law_frac = some ⟨oc__law_frac, od__law_frac, .func (PySem.W.fnOf "_law_frac" "_law_frac" (defArgs s__law_frac) (defBody s__law_frac) (defScope s__law_frac) .none kV__law_frac dc__law_frac pm__law_frac an__law_frac cd__law_frac ct__law_frac), sl__law_frac⟩)
    (F__law_kind_l : K.lookup A__law_kind = some ⟨oc__law_kind, od__law_kind, .func (PySem.W.fnOf "_law_kind" "_law_kind" (defArgs s__law_kind) (defBody s__law_kind) (defScope s__law_kind) .none kV__law_kind dc__law_kind pm__law_kind an__law_kind cd__law_kind ct__law_kind), sl__law_kind⟩)
    (F__law_rounding_l : K.lookup A__law_rounding = some ⟨oc__law_rounding, od__law_rounding, .func (PySem.W.fnOf "_law_rounding" "_law_rounding" (defArgs s__law_rounding) (defBody s__law_rounding) (defScope s__law_rounding) .none kV__law_rounding dc__law_rounding pm__law_rounding an__law_rounding cd__law_rounding ct__law_rounding), sl__law_rounding⟩)
    (F_BadText___init___l : K.lookup A_BadText___init__ = some ⟨oc_BadText___init__, od_BadText___init__, .func (PySem.W.fnOf "__init__" "BadText.__init__" (defArgs s_BadText___init__) (defBody s_BadText___init__) (defScope s_BadText___init__) .none kV_BadText___init__ dc_BadText___init__ pm_BadText___init__ an_BadText___init__ cd_BadText___init__ ct_BadText___init__), sl_BadText___init__⟩)
    (F_split_words_l : K.lookup A_split_words = some ⟨oc_split_words, od_split_words, .func (PySem.W.fnOf "split_words" "split_words" (defArgs s_split_words) (defBody s_split_words) (defScope s_split_words) .none kV_split_words dc_split_words pm_split_words an_split_words cd_split_words ct_split_words), sl_split_words⟩)
    (F_whole_number_l : K.lookup A_whole_number = some ⟨oc_whole_number, od_whole_number, .func (PySem.W.fnOf "whole_number" "whole_number" (defArgs s_whole_number) (defBody s_whole_number) (defScope s_whole_number) .none kV_whole_number dc_whole_number pm_whole_number an_whole_number cd_whole_number ct_whole_number), sl_whole_number⟩)
    (F_told_number_l : K.lookup A_told_number = some ⟨oc_told_number, od_told_number, .func (PySem.W.fnOf "told_number" "told_number" (defArgs s_told_number) (defBody s_told_number) (defScope s_told_number) .none kV_told_number dc_told_number pm_told_number an_told_number cd_told_number ct_told_number), sl_told_number⟩)
    (F_told_rounding_l : K.lookup A_told_rounding = some ⟨oc_told_rounding, od_told_rounding, .func (PySem.W.fnOf "told_rounding" "told_rounding" (defArgs s_told_rounding) (defBody s_told_rounding) (defScope s_told_rounding) .none kV_told_rounding dc_told_rounding pm_told_rounding an_told_rounding cd_told_rounding ct_told_rounding), sl_told_rounding⟩)
    (F_Rounding_read_l : K.lookup A_Rounding_read = some ⟨oc_Rounding_read, od_Rounding_read, .func (PySem.W.fnOf "read" "Rounding.read" (defArgs s_Rounding_read) (defBody s_Rounding_read) (defScope s_Rounding_read) .none kV_Rounding_read dc_Rounding_read pm_Rounding_read an_Rounding_read cd_Rounding_read ct_Rounding_read), sl_Rounding_read⟩)
    (F__law_is_integer_l : K.lookup A__law_is_integer = some ⟨oc__law_is_integer, od__law_is_integer, .func (PySem.W.fnOf "_law_is_integer" "_law_is_integer" (defArgs s__law_is_integer) (defBody s__law_is_integer) (defScope s__law_is_integer) .none kV__law_is_integer dc__law_is_integer pm__law_is_integer an__law_is_integer cd__law_is_integer ct__law_is_integer), sl__law_is_integer⟩)
    (F__law_threshold_l : K.lookup A__law_threshold = some ⟨oc__law_threshold, od__law_threshold, .func (PySem.W.fnOf "_law_threshold" "_law_threshold" (defArgs s__law_threshold) (defBody s__law_threshold) (defScope s__law_threshold) .none kV__law_threshold dc__law_threshold pm__law_threshold an__law_threshold cd__law_threshold ct__law_threshold), sl__law_threshold⟩)
    (F__law_less_l : K.lookup A__law_less = some ⟨oc__law_less, od__law_less, .func (PySem.W.fnOf "_law_less" "_law_less" (defArgs s__law_less) (defBody s__law_less) (defScope s__law_less) .none kV__law_less dc__law_less pm__law_less an__law_less cd__law_less ct__law_less), sl__law_less⟩)
    (F__law_due_l : K.lookup A__law_due = some ⟨oc__law_due, od__law_due, .func (PySem.W.fnOf "_law_due" "_law_due" (defArgs s__law_due) (defBody s__law_due) (defScope s__law_due) .none kV__law_due dc__law_due pm__law_due an__law_due cd__law_due ct__law_due), sl__law_due⟩)
    (F__law_bent_l : K.lookup A__law_bent = some ⟨oc__law_bent, od__law_bent, .func (PySem.W.fnOf "_law_bent" "_law_bent" (defArgs s__law_bent) (defBody s__law_bent) (defScope s__law_bent) .none kV__law_bent dc__law_bent pm__law_bent an__law_bent cd__law_bent ct__law_bent), sl__law_bent⟩)
    (F__law_heard_l : K.lookup A__law_heard = some ⟨oc__law_heard, od__law_heard, .func (PySem.W.fnOf "_law_heard" "_law_heard" (defArgs s__law_heard) (defBody s__law_heard) (defScope s__law_heard) .none kV__law_heard dc__law_heard pm__law_heard an__law_heard cd__law_heard ct__law_heard), sl__law_heard⟩)
    (F_law_l : K.lookup A_law = some ⟨oc_law, od_law, .func (PySem.W.fnOf "law" "law" (defArgs s_law) (defBody s_law) (defScope s_law) .none kV_law dc_law pm_law an_law cd_law ct_law), sl_law⟩)
    (F__law_pen_c : PySem.W.codeIn K cd__law_pen "_law_pen" = true)
    (F__law_pen_k : PySem.W.keepIn K (.ref A__law_pen) = true)
    (n_list_a : PySem.W.nsIn K mainGlobals "list" = some none)
    (F__law_draw_c : PySem.W.codeIn K cd__law_draw "_law_draw" = true)
    (F__law_draw_k : PySem.W.keepIn K (.ref A__law_draw) = true)
    (n_int_a : PySem.W.nsIn K mainGlobals "int" = some none)
    (n_len_a : PySem.W.nsIn K mainGlobals "len" = some none)
    (n_abs_a : PySem.W.nsIn K mainGlobals "abs" = some none)
    (F__law_pick_c : PySem.W.codeIn K cd__law_pick "_law_pick" = true)
    (F__law_pick_k : PySem.W.keepIn K (.ref A__law_pick) = true)
    (y_Ratio_a : PySem.W.findIn K (.ref A_Ratio) "__class__" = some (some (.builtin "object.__class__")))
    (y_Ratio_n : PySem.W.specialIn K (.builtin "object.__class__") "__get__" = some (some (.builtin "getset_descriptor.__get__")))
    (y_Ratio_t : PySem.W.takesIn K (.builtin "object.__class__") = some true)
    (y_Ratio_m : PySem.W.mroIn K A_Ratio (.type "object") = some true)
    (c_Ratio_p : PySem.W.plainGet K A_Ratio Str.empty = true)
    (c_Ratio_h : PySem.W.hasDictIn K A_Ratio = true)
    (c_Ratio_o : PySem.W.plainOver K A_Ratio = true)
    (c_Ratio_s : PySem.W.findIn K (.ref A_Ratio) "__setattr__" = some (some (.builtin "object.__setattr__")))
    (i_Ratio_is_int_a : PySem.W.subIn K (.ref A_Ratio) (.type "int") = some false)
    (i_Ratio_is_bool_a : PySem.W.subIn K (.ref A_Ratio) (.type "bool") = some false)
    (F_is_integer_c : PySem.W.codeIn K cd_is_integer "is_integer" = true)
    (F_is_integer_k : PySem.W.keepIn K (.ref A_is_integer) = true)
    (n_isinstance_a : PySem.W.nsIn K mainGlobals "isinstance" = some none)
    (n_bool_a : PySem.W.nsIn K mainGlobals "bool" = some none)
    (D_Ratio___init___c : PySem.W.codeIn K cd_Ratio___init__ "Ratio.__init__" = true)
    (D_Ratio___init___k : PySem.W.keepIn K (.ref A_Ratio___init__) = true)
    (D_Ratio___init___t : K.lookup dT_Ratio___init__ = some ⟨tc_Ratio___init__, td_Ratio___init__, .seq (List.toArray [.int 1 tk0_Ratio___init__]) tn_Ratio___init__, ts_Ratio___init__⟩)
    (m_gcd_a : PySem.W.nsIn K mainGlobals "gcd" = some (some (.builtin "math.gcd")))
    (a_Ratio_over_a : PySem.W.findIn K (.ref A_Ratio) "over" = some none)
    (a_Ratio_under_a : PySem.W.findIn K (.ref A_Ratio) "under" = some none)
    (F_Ratio_of_c : PySem.W.codeIn K cd_Ratio_of "Ratio.of" = true)
    (F_Ratio_of_k : PySem.W.keepIn K (.ref A_Ratio_of) = true)
    (mk_Ratio_m : PySem.W.makesIn K A_Ratio = true)
    (mk_Ratio_f : PySem.W.isFn K (.ref A_Ratio___init__) = true)
    (mk_Ratio_k : PySem.W.keepIn K (.ref A_Ratio) = true)
    (i_int_is_Ratio_c : PySem.W.isClsIn K A_Ratio = true)
    (i_int_is_Ratio_t : PySem.W.typeIn K (.ref A_Ratio) = some (.type "type"))
    (i_int_is_Ratio_a : PySem.W.subIn K (.type "int") (.ref A_Ratio) = some false)
    (F_Ratio___add___c : PySem.W.codeIn K cd_Ratio___add__ "Ratio.__add__" = true)
    (F_Ratio___add___k : PySem.W.keepIn K (.ref A_Ratio___add__) = true)
    (s_Ratio_of_g : PySem.W.specialIn K (.ref A_Ratio) "__getattribute__" = some (some (.builtin "type.__getattribute__")))
    (F_Ratio___sub___c : PySem.W.codeIn K cd_Ratio___sub__ "Ratio.__sub__" = true)
    (F_Ratio___sub___k : PySem.W.keepIn K (.ref A_Ratio___sub__) = true)
    (F_Ratio___mul___c : PySem.W.codeIn K cd_Ratio___mul__ "Ratio.__mul__" = true)
    (F_Ratio___mul___k : PySem.W.keepIn K (.ref A_Ratio___mul__) = true)
    (F_Ratio___lt___c : PySem.W.codeIn K cd_Ratio___lt__ "Ratio.__lt__" = true)
    (F_Ratio___lt___k : PySem.W.keepIn K (.ref A_Ratio___lt__) = true)
    (F_Ratio___le___c : PySem.W.codeIn K cd_Ratio___le__ "Ratio.__le__" = true)
    (F_Ratio___le___k : PySem.W.keepIn K (.ref A_Ratio___le__) = true)
    (F_Ratio___gt___c : PySem.W.codeIn K cd_Ratio___gt__ "Ratio.__gt__" = true)
    (F_Ratio___gt___k : PySem.W.keepIn K (.ref A_Ratio___gt__) = true)
    (F_Ratio___ge___c : PySem.W.codeIn K cd_Ratio___ge__ "Ratio.__ge__" = true)
    (F_Ratio___ge___k : PySem.W.keepIn K (.ref A_Ratio___ge__) = true)
    (F_Ratio___eq___c : PySem.W.codeIn K cd_Ratio___eq__ "Ratio.__eq__" = true)
    (F_Ratio___eq___k : PySem.W.keepIn K (.ref A_Ratio___eq__) = true)
    (F_Ratio_floor_c : PySem.W.codeIn K cd_Ratio_floor "Ratio.floor" = true)
    (F_Ratio_floor_k : PySem.W.keepIn K (.ref A_Ratio_floor) = true)
    (F_Ratio_ceiling_c : PySem.W.codeIn K cd_Ratio_ceiling "Ratio.ceiling" = true)
    (F_Ratio_ceiling_k : PySem.W.keepIn K (.ref A_Ratio_ceiling) = true)
    (F_is_number_c : PySem.W.codeIn K cd_is_number "is_number" = true)
    (F_is_number_k : PySem.W.keepIn K (.ref A_is_number) = true)
    (F_fraction_of_c : PySem.W.codeIn K cd_fraction_of "fraction_of" = true)
    (F_fraction_of_k : PySem.W.keepIn K (.ref A_fraction_of) = true)
    (F_Rounding_drawn_at_c : PySem.W.codeIn K cd_Rounding_drawn_at "Rounding.drawn_at" = true)
    (F_Rounding_drawn_at_k : PySem.W.keepIn K (.ref A_Rounding_drawn_at) = true)
    (h_Ratio_floor_f : PySem.W.isFn K (.ref A_Ratio_floor) = true)
    (h_Ratio_ceiling_f : PySem.W.isFn K (.ref A_Ratio_ceiling) = true)
    (c_Rounding_p : PySem.W.plainGet K A_Rounding Str.empty = true)
    (c_Rounding_h : PySem.W.hasDictIn K A_Rounding = true)
    (c_Rounding_o : PySem.W.plainOver K A_Rounding = true)
    (c_Rounding_s : PySem.W.findIn K (.ref A_Rounding) "__setattr__" = some (some (.builtin "object.__setattr__")))
    (a_Rounding_threshold_a : PySem.W.findIn K (.ref A_Rounding) "threshold" = some none)
    (b_Ratio_sub_f : PySem.W.isFn K (.ref A_Ratio___sub__) = true)
    (b_Ratio_sub_c : PySem.W.selfFirst K A_Ratio = true)
    (b_Ratio_sub_t : PySem.W.findIn K (.type "int") "__sub__" = some fo_Ratio_sub)
    (b_Ratio_sub_u : PySem.W.findIn K (.type "int") "__rsub__" = some ro_Ratio_sub)
    (a_Rounding_is_from_a : PySem.W.findIn K (.ref A_Rounding) "is_from" = some none)
    (F_Rounding___call___c : PySem.W.codeIn K cd_Rounding___call__ "Rounding.__call__" = true)
    (F_Rounding___call___k : PySem.W.keepIn K (.ref A_Rounding___call__) = true)
    (h_Rounding_drawn_at_f : PySem.W.isFn K (.ref A_Rounding_drawn_at) = true)
    (F_Rounding_behind_c : PySem.W.codeIn K cd_Rounding_behind "Rounding.behind" = true)
    (F_Rounding_behind_k : PySem.W.keepIn K (.ref A_Rounding_behind) = true)
    (D_Rounding___init___c : PySem.W.codeIn K cd_Rounding___init__ "Rounding.__init__" = true)
    (D_Rounding___init___k : PySem.W.keepIn K (.ref A_Rounding___init__) = true)
    (D_Rounding___init___t : K.lookup dT_Rounding___init__ = some ⟨tc_Rounding___init__, td_Rounding___init__, .seq (List.toArray [.bool true]) tn_Rounding___init__, ts_Rounding___init__⟩)
    (q_Ratio_lt_f : PySem.W.isFn K (.ref A_Ratio___lt__) = true)
    (q_Ratio_lt_n : PySem.W.notFirst K A_Ratio (.type "int") = true)
    (q_Ratio_gt_f : PySem.W.isFn K (.ref A_Ratio___gt__) = true)
    (q_Ratio_eq_f : PySem.W.isFn K (.ref A_Ratio___eq__) = true)
    (F_Ratio___neg___c : PySem.W.codeIn K cd_Ratio___neg__ "Ratio.__neg__" = true)
    (F_Ratio___neg___k : PySem.W.keepIn K (.ref A_Ratio___neg__) = true)
    (F_Ratio___rsub___c : PySem.W.codeIn K cd_Ratio___rsub__ "Ratio.__rsub__" = true)
    (F_Ratio___rsub___k : PySem.W.keepIn K (.ref A_Ratio___rsub__) = true)
    (F_Rounding___eq___c : PySem.W.codeIn K cd_Rounding___eq__ "Rounding.__eq__" = true)
    (F_Rounding___eq___k : PySem.W.keepIn K (.ref A_Rounding___eq__) = true)
    (y_Rounding_a : PySem.W.findIn K (.ref A_Rounding) "__class__" = some (some (.builtin "object.__class__")))
    (y_Rounding_m : PySem.W.mroIn K A_Rounding (.type "object") = some true)
    (F_Rounding___invert___c : PySem.W.codeIn K cd_Rounding___invert__ "Rounding.__invert__" = true)
    (F_Rounding___invert___k : PySem.W.keepIn K (.ref A_Rounding___invert__) = true)
    (mk_Rounding_m : PySem.W.makesIn K A_Rounding = true)
    (mk_Rounding_f : PySem.W.isFn K (.ref A_Rounding___init__) = true)
    (mk_Rounding_k : PySem.W.keepIn K (.ref A_Rounding) = true)
    (v_Ratio_sub_f : PySem.W.isFn K (.ref A_Ratio___rsub__) = true)
    (F_Ratio___str___c : PySem.W.codeIn K cd_Ratio___str__ "Ratio.__str__" = true)
    (F_Ratio___str___k : PySem.W.keepIn K (.ref A_Ratio___str__) = true)
    (n_str_a : PySem.W.nsIn K mainGlobals "str" = some none)
    (F_Rounding___str___c : PySem.W.codeIn K cd_Rounding___str__ "Rounding.__str__" = true)
    (F_Rounding___str___k : PySem.W.keepIn K (.ref A_Rounding___str__) = true)
    (t_Ratio_f : PySem.W.isFn K (.ref A_Ratio___str__) = true)
    (t_Ratio_g : PySem.W.findIn K (.ref A_Ratio) "__format__" = some (some (.builtin "object.__format__")))
    (F__law_frac_c : PySem.W.codeIn K cd__law_frac "_law_frac" = true)
    (F__law_frac_k : PySem.W.keepIn K (.ref A__law_frac) = true)
    (F__law_kind_c : PySem.W.codeIn K cd__law_kind "_law_kind" = true)
    (F__law_kind_k : PySem.W.keepIn K (.ref A__law_kind) = true)
    (F__law_rounding_c : PySem.W.codeIn K cd__law_rounding "_law_rounding" = true)
    (F__law_rounding_k : PySem.W.keepIn K (.ref A__law_rounding) = true)
    (F_BadText___init___c : PySem.W.codeIn K cd_BadText___init__ "BadText.__init__" = true)
    (F_BadText___init___k : PySem.W.keepIn K (.ref A_BadText___init__) = true)
    (vi_SnapError_r : PySem.W.readsIn K A_SnapError (.type "type") = true)
    (vi_SnapError_g : PySem.W.specialIn K (.ref A_SnapError) "__getattribute__" = some (some (.builtin "type.__getattribute__")))
    (vi_SnapError_v : PySem.W.findCls K (.ref A_SnapError) (.type "type") "__init__" = some (.val (.builtin "ValueError.__init__")))
    (ex_BadText_l : K.lookup A_BadText = some (excClassObj "BadText" eq_BadText A_BadText eN_BadText eb_BadText (.ref A_SnapError :: PySem.HandSPX.veTail) true en_BadText eu_BadText ea_BadText ec_BadText ed_BadText e0_BadText e1_BadText e2_BadText e3_BadText e5_BadText "ValueError.__new__"))
    (ex_BadText_s : PySem.W.findIn K (.ref A_BadText) "__setattr__" = some (some (.builtin "object.__setattr__")))
    (ex_BadText_g : PySem.W.findIn K (.ref A_BadText) "__getattribute__" = some (some (.builtin "BaseException.__getattribute__")))
    (ex_BadText_h : PySem.W.findIn K (.ref A_BadText) "__getattr__" = some none)
    (ex_BadText_c : PySem.W.findIn K (.ref A_BadText) "__class__" = some (some (.builtin "object.__class__")))
    (ex_BadText_f : PySem.W.typeIn K (.ref A_BadText___init__) = some (.type "function"))
    (ex_BadText_k : PySem.W.keepIn K (.ref A_BadText) = true)
    (a_BadText_line_a : PySem.W.findIn K (.ref A_BadText) "line" = some none)
    (a_BadText_word_a : PySem.W.findIn K (.ref A_BadText) "word" = some none)
    (F_split_words_c : PySem.W.codeIn K cd_split_words "split_words" = true)
    (F_split_words_k : PySem.W.keepIn K (.ref A_split_words) = true)
    (F_whole_number_c : PySem.W.codeIn K cd_whole_number "whole_number" = true)
    (F_whole_number_k : PySem.W.keepIn K (.ref A_whole_number) = true)
    (mi_MOST_DIGITS_a : PySem.W.nsIn K mainGlobals "MOST_DIGITS" = some (some (.int 4000 tk0_mi_MOST_DIGITS)))
    (F_told_number_c : PySem.W.codeIn K cd_told_number "told_number" = true)
    (F_told_number_k : PySem.W.keepIn K (.ref A_told_number) = true)
    (F_told_rounding_c : PySem.W.codeIn K cd_told_rounding "told_rounding" = true)
    (F_told_rounding_k : PySem.W.keepIn K (.ref A_told_rounding) = true)
    (F_Rounding_read_c : PySem.W.codeIn K cd_Rounding_read "Rounding.read" = true)
    (F_Rounding_read_k : PySem.W.keepIn K (.ref A_Rounding_read) = true)
    (F__law_is_integer_c : PySem.W.codeIn K cd__law_is_integer "_law_is_integer" = true)
    (F__law_is_integer_k : PySem.W.keepIn K (.ref A__law_is_integer) = true)
    (F__law_threshold_c : PySem.W.codeIn K cd__law_threshold "_law_threshold" = true)
    (F__law_threshold_k : PySem.W.keepIn K (.ref A__law_threshold) = true)
    (F__law_less_c : PySem.W.codeIn K cd__law_less "_law_less" = true)
    (F__law_less_k : PySem.W.keepIn K (.ref A__law_less) = true)
    (F__law_due_c : PySem.W.codeIn K cd__law_due "_law_due" = true)
    (F__law_due_k : PySem.W.keepIn K (.ref A__law_due) = true)
    (F__law_bent_c : PySem.W.codeIn K cd__law_bent "_law_bent" = true)
    (F__law_bent_k : PySem.W.keepIn K (.ref A__law_bent) = true)
    (F__law_heard_c : PySem.W.codeIn K cd__law_heard "_law_heard" = true)
    (F__law_heard_k : PySem.W.keepIn K (.ref A__law_heard) = true)
    (sx_SnapError_l : K.lookup A_SnapError = some (excClassObj "SnapError" eq_SnapError A_SnapError eN_SnapError eb_SnapError PySem.HandSPX.veTail true en_SnapError eu_SnapError ea_SnapError ec_SnapError ed_SnapError e0_SnapError e1_SnapError e2_SnapError e3_SnapError e5_SnapError "ValueError.__new__"))
    (i_Rounding_is_str_a : PySem.W.subIn K (.ref A_Rounding) (.type "str") = some false)
    (tab_law_l : K.lookup A_law = some ⟨oc2_law, od2_law, .func (PySem.W.fnOf "law" "law" (defArgs s_law) (defBody s_law) (defScope s_law) .none kV2_law dc2_law pm2_law an2_law (.ref A_cc_law) ct2_law), sl2_law⟩)
    (tab_law_c : K.lookup A_cc_law = some ⟨cd2_law, td2_law, .fields (List.toArray fv_law), ts2_law⟩)
    (tab_law_v : fv_law[11]? = some (.ref A_cp_law))
    (tab_law_o : K.lookup A_cp_law = none)
    (tab_law_h : PySem.W.codeHdIn K A_cc_law A_cp_law = true)
    (q_Rounding_eq_f : PySem.W.isFn K (.ref A_Rounding___eq__) = true)
    (q_Rounding_eq_n : PySem.W.notFirst K A_Rounding (.type "int") = true)
    (F_law_c : PySem.W.codeIn K cd_law "law" = true)
    (F_law_k : PySem.W.keepIn K (.ref A_law) = true)
    (n_range_a : PySem.W.nsIn K mainGlobals "range" = some none)
    (km_Rounding_read_g : PySem.W.specialIn K (.ref A_Rounding) "__getattribute__" = some (some (.builtin "type.__getattribute__")))
    (km_Rounding_read_f : PySem.W.fnIn K A_Rounding_read = true)
    (t_Rounding_f : PySem.W.isFn K (.ref A_Rounding___str__) = true)
    (t_Rounding_g : PySem.W.findIn K (.ref A_Rounding) "__format__" = some (some (.builtin "object.__format__")))
    (z_Rounding_e : PySem.W.findIn K (.ref A_Rounding) "__ne__" = some (some (.builtin "object.__ne__")))
    : Tx K mg ⟨A__law_pen, A__law_draw, A__law_pick, A_Ratio, A_is_integer, A_Ratio___init__, A_Ratio_of, A_Ratio___add__, A_Ratio___sub__, A_Ratio___mul__, A_Ratio___lt__, A_Ratio___le__, A_Ratio___gt__, A_Ratio___ge__, A_Ratio___eq__, A_Ratio_floor, A_Ratio_ceiling, A_is_number, A_fraction_of, A_Rounding_drawn_at, A_Rounding, A_Ratio___rsub__, A_Rounding___call__, A_Rounding_behind, A_Rounding___init__, A_Ratio___neg__, A_Rounding___eq__, A_Rounding___invert__, A_Ratio___str__, A_Rounding___str__, A__law_frac, A__law_kind, A__law_rounding, A_BadText___init__, A_SnapError, A_BadText, A_split_words, A_whole_number, A_told_number, A_told_rounding, A_Rounding_read, A__law_is_integer, A__law_threshold, A__law_less, A__law_due, A__law_bent, A__law_heard, A_law, A_cc_law, A_cp_law⟩ where
    F__law_pen := ⟨_, fun_mk (st := s__law_pen) F__law_pen_l F__law_pen_c F__law_pen_k⟩
    n_list := PySem.W.mg_none_of X G n_list_a
    F__law_draw := ⟨_, fun_mk (st := s__law_draw) F__law_draw_l F__law_draw_c F__law_draw_k⟩
    n_int := PySem.W.mg_none_of X G n_int_a
    n_len := PySem.W.mg_none_of X G n_len_a
    n_abs := PySem.W.mg_none_of X G n_abs_a
    F__law_pick := ⟨_, fun_mk (st := s__law_pick) F__law_pick_l F__law_pick_c F__law_pick_k⟩
    k__law_draw := F__law_draw_k
    m__law_draw := PySem.W.mg_of X G L__law_draw
    i_int_is_int := L2.kit_ty (by decide +kernel)
    i_int_is_bool := L2.kit_ty (by decide +kernel)
    y_Ratio := ⟨y_Ratio_a, y_Ratio_n, y_Ratio_t, y_Ratio_m⟩
    c_Ratio := ⟨c_Ratio_p, c_Ratio_h, c_Ratio_o, c_Ratio_s⟩
    i_Ratio_is_int := kit_rt (by decide +kernel) i_Ratio_is_int_a
    i_Ratio_is_bool := kit_rt (by decide +kernel) i_Ratio_is_bool_a
    F_is_integer := ⟨_, fun_mk (st := s_is_integer) F_is_integer_l F_is_integer_c F_is_integer_k⟩
    n_isinstance := PySem.W.mg_none_of X G n_isinstance_a
    n_bool := PySem.W.mg_none_of X G n_bool_a
    D_Ratio___init__ := ⟨_, ⟨_, _, _, _, _, _, _, _, _, _, rfl, D_Ratio___init___l, D_Ratio___init___c, Or.inr ⟨by simp, _, _, _, _, rfl, D_Ratio___init___t, rfl, (Paired.cons ⟨_, rfl⟩ Paired.nil)⟩, Or.inl rfl⟩, D_Ratio___init___k⟩
    k_is_integer := F_is_integer_k
    m_is_integer := PySem.W.mg_of X G L_is_integer
    m_gcd := PySem.W.mg_of X G m_gcd_a
    a_Ratio_over := a_Ratio_over_a
    a_Ratio_under := a_Ratio_under_a
    F_Ratio_of := ⟨_, fun_mk (st := s_Ratio_of) F_Ratio_of_l F_Ratio_of_c F_Ratio_of_k⟩
    m_Ratio := PySem.W.mg_of X G L_Ratio
    mk_Ratio := ⟨mk_Ratio_m, L_Ratio___init__, mk_Ratio_f, mk_Ratio_k⟩
    i_int_is_Ratio := kit_tr i_int_is_Ratio_c i_int_is_Ratio_t i_int_is_Ratio_a
    i_Ratio_is_Ratio := kit_rr
    F_Ratio___add__ := ⟨_, fun_mk (st := s_Ratio___add__) F_Ratio___add___l F_Ratio___add___c F_Ratio___add___k⟩
    s_Ratio_of := ⟨⟨_, _, _, ⟨s_Ratio_of_r, s_Ratio_of_g⟩, s_Ratio_of_a, s_Ratio_of_q⟩, F_Ratio_of_k⟩
    F_Ratio___sub__ := ⟨_, fun_mk (st := s_Ratio___sub__) F_Ratio___sub___l F_Ratio___sub___c F_Ratio___sub___k⟩
    F_Ratio___mul__ := ⟨_, fun_mk (st := s_Ratio___mul__) F_Ratio___mul___l F_Ratio___mul___c F_Ratio___mul___k⟩
    F_Ratio___lt__ := ⟨_, fun_mk (st := s_Ratio___lt__) F_Ratio___lt___l F_Ratio___lt___c F_Ratio___lt___k⟩
    F_Ratio___le__ := ⟨_, fun_mk (st := s_Ratio___le__) F_Ratio___le___l F_Ratio___le___c F_Ratio___le___k⟩
    F_Ratio___gt__ := ⟨_, fun_mk (st := s_Ratio___gt__) F_Ratio___gt___l F_Ratio___gt___c F_Ratio___gt___k⟩
    F_Ratio___ge__ := ⟨_, fun_mk (st := s_Ratio___ge__) F_Ratio___ge___l F_Ratio___ge___c F_Ratio___ge___k⟩
    F_Ratio___eq__ := ⟨_, fun_mk (st := s_Ratio___eq__) F_Ratio___eq___l F_Ratio___eq___c F_Ratio___eq___k⟩
    F_Ratio_floor := ⟨_, fun_mk (st := s_Ratio_floor) F_Ratio_floor_l F_Ratio_floor_c F_Ratio_floor_k⟩
    F_Ratio_ceiling := ⟨_, fun_mk (st := s_Ratio_ceiling) F_Ratio_ceiling_l F_Ratio_ceiling_c F_Ratio_ceiling_k⟩
    F_is_number := ⟨_, fun_mk (st := s_is_number) F_is_number_l F_is_number_c F_is_number_k⟩
    F_fraction_of := ⟨_, fun_mk (st := s_fraction_of) F_fraction_of_l F_fraction_of_c F_fraction_of_k⟩
    k_is_number := F_is_number_k
    m_is_number := PySem.W.mg_of X G L_is_number
    F_Rounding_drawn_at := ⟨_, fun_mk (st := s_Rounding_drawn_at) F_Rounding_drawn_at_l F_Rounding_drawn_at_c F_Rounding_drawn_at_k⟩
    h_Ratio_floor := ⟨L_Ratio_floor, h_Ratio_floor_f, F_Ratio_floor_k⟩
    h_Ratio_ceiling := ⟨L_Ratio_ceiling, h_Ratio_ceiling_f, F_Ratio_ceiling_k⟩
    c_Rounding := ⟨c_Rounding_p, c_Rounding_h, c_Rounding_o, c_Rounding_s⟩
    a_Rounding_threshold := a_Rounding_threshold_a
    b_Ratio_sub := ⟨L_Ratio___sub__, b_Ratio_sub_f, b_Ratio_sub_c, ⟨_, L_Ratio___rsub__, Or.inr ⟨_, rfl⟩⟩, ⟨_, _, b_Ratio_sub_t, b_Ratio_sub_u⟩, i_int_is_Ratio_a⟩
    a_Rounding_is_from := a_Rounding_is_from_a
    F_Rounding___call__ := ⟨_, fun_mk (st := s_Rounding___call__) F_Rounding___call___l F_Rounding___call___c F_Rounding___call___k⟩
    h_Rounding_drawn_at := ⟨L_Rounding_drawn_at, h_Rounding_drawn_at_f, F_Rounding_drawn_at_k⟩
    k_fraction_of := F_fraction_of_k
    m_fraction_of := PySem.W.mg_of X G L_fraction_of
    F_Rounding_behind := ⟨_, fun_mk (st := s_Rounding_behind) F_Rounding_behind_l F_Rounding_behind_c F_Rounding_behind_k⟩
    D_Rounding___init__ := ⟨_, ⟨_, _, _, _, _, _, _, _, _, _, rfl, D_Rounding___init___l, D_Rounding___init___c, Or.inr ⟨by simp, _, _, _, _, rfl, D_Rounding___init___t, rfl, (Paired.cons rfl Paired.nil)⟩, Or.inl rfl⟩, D_Rounding___init___k⟩
    q_Ratio_lt := ⟨L_Ratio___lt__, q_Ratio_lt_f, q_Ratio_lt_n⟩
    q_Ratio_gt := ⟨L_Ratio___gt__, q_Ratio_gt_f, q_Ratio_lt_n⟩
    i_bool_is_bool := L2.kit_ty (by decide +kernel)
    q_Ratio_eq := ⟨L_Ratio___eq__, q_Ratio_eq_f, q_Ratio_lt_n⟩
    F_Ratio___neg__ := ⟨_, fun_mk (st := s_Ratio___neg__) F_Ratio___neg___l F_Ratio___neg___c F_Ratio___neg___k⟩
    F_Ratio___rsub__ := ⟨_, fun_mk (st := s_Ratio___rsub__) F_Ratio___rsub___l F_Ratio___rsub___c F_Ratio___rsub___k⟩
    F_Rounding___eq__ := ⟨_, fun_mk (st := s_Rounding___eq__) F_Rounding___eq___l F_Rounding___eq___c F_Rounding___eq___k⟩
    m_Rounding := PySem.W.mg_of X G L_Rounding
    y_Rounding := ⟨y_Rounding_a, y_Ratio_n, y_Ratio_t, y_Rounding_m⟩
    i_Rounding_is_Rounding := kit_rr
    F_Rounding___invert__ := ⟨_, fun_mk (st := s_Rounding___invert__) F_Rounding___invert___l F_Rounding___invert___c F_Rounding___invert___k⟩
    mk_Rounding := ⟨mk_Rounding_m, L_Rounding___init__, mk_Rounding_f, mk_Rounding_k⟩
    v_Ratio_sub := ⟨L_Ratio___sub__, L_Ratio___rsub__, v_Ratio_sub_f, b_Ratio_sub_c, i_Ratio_is_int_a⟩
    F_Ratio___str__ := ⟨_, fun_mk (st := s_Ratio___str__) F_Ratio___str___l F_Ratio___str___c F_Ratio___str___k⟩
    n_str := PySem.W.mg_none_of X G n_str_a
    F_Rounding___str__ := ⟨_, fun_mk (st := s_Rounding___str__) F_Rounding___str___l F_Rounding___str___c F_Rounding___str___k⟩
    t_Ratio := ⟨L_Ratio___str__, t_Ratio_f, t_Ratio_g, y_Ratio_m⟩
    F__law_frac := ⟨_, fun_mk (st := s__law_frac) F__law_frac_l F__law_frac_c F__law_frac_k⟩
    F__law_kind := ⟨_, fun_mk (st := s__law_kind) F__law_kind_l F__law_kind_c F__law_kind_k⟩
    k__law_pick := F__law_pick_k
    m__law_pick := PySem.W.mg_of X G L__law_pick
    F__law_rounding := ⟨_, fun_mk (st := s__law_rounding) F__law_rounding_l F__law_rounding_c F__law_rounding_k⟩
    F_BadText___init__ := ⟨_, fun_mk (st := s_BadText___init__) F_BadText___init___l F_BadText___init___c F_BadText___init___k⟩
    vi_SnapError := ⟨⟨_, ⟨vi_SnapError_r, vi_SnapError_g⟩, vi_SnapError_v⟩⟩
    m_SnapError := PySem.W.mg_of X G L_SnapError
    ex_BadText := ⟨⟨_, _, _, _, _, _, _, _, _, _, _, _, _, ex_BadText_l⟩, ex_BadText_s, ex_BadText_g, ex_BadText_h, ex_BadText_c, L_BadText___init__, ex_BadText_f, ex_BadText_k⟩
    a_BadText_line := a_BadText_line_a
    a_BadText_word := a_BadText_word_a
    F_split_words := ⟨_, fun_mk (st := s_split_words) F_split_words_l F_split_words_c F_split_words_k⟩
    m_BadText := PySem.W.mg_of X G L_BadText
    i_str_is_str := L2.kit_ty (by decide +kernel)
    F_whole_number := ⟨_, fun_mk (st := s_whole_number) F_whole_number_l F_whole_number_c F_whole_number_k⟩
    mi_MOST_DIGITS := ⟨_, PySem.W.mg_of X G mi_MOST_DIGITS_a⟩
    F_told_number := ⟨_, fun_mk (st := s_told_number) F_told_number_l F_told_number_c F_told_number_k⟩
    k_whole_number := F_whole_number_k
    m_whole_number := PySem.W.mg_of X G L_whole_number
    F_told_rounding := ⟨_, fun_mk (st := s_told_rounding) F_told_rounding_l F_told_rounding_c F_told_rounding_k⟩
    k_told_number := F_told_number_k
    m_told_number := PySem.W.mg_of X G L_told_number
    F_Rounding_read := ⟨_, fun_mk (st := s_Rounding_read) F_Rounding_read_l F_Rounding_read_c F_Rounding_read_k⟩
    k_split_words := F_split_words_k
    m_split_words := PySem.W.mg_of X G L_split_words
    k_told_rounding := F_told_rounding_k
    m_told_rounding := PySem.W.mg_of X G L_told_rounding
    F__law_is_integer := ⟨_, fun_mk (st := s__law_is_integer) F__law_is_integer_l F__law_is_integer_c F__law_is_integer_k⟩
    F__law_threshold := ⟨_, fun_mk (st := s__law_threshold) F__law_threshold_l F__law_threshold_c F__law_threshold_k⟩
    k__law_is_integer := F__law_is_integer_k
    m__law_is_integer := PySem.W.mg_of X G L__law_is_integer
    k__law_frac := F__law_frac_k
    m__law_frac := PySem.W.mg_of X G L__law_frac
    F__law_less := ⟨_, fun_mk (st := s__law_less) F__law_less_l F__law_less_c F__law_less_k⟩
    F__law_due := ⟨_, fun_mk (st := s__law_due) F__law_due_l F__law_due_c F__law_due_k⟩
    k__law_threshold := F__law_threshold_k
    m__law_threshold := PySem.W.mg_of X G L__law_threshold
    k__law_less := F__law_less_k
    m__law_less := PySem.W.mg_of X G L__law_less
    F__law_bent := ⟨_, fun_mk (st := s__law_bent) F__law_bent_l F__law_bent_c F__law_bent_k⟩
    F__law_heard := ⟨_, fun_mk (st := s__law_heard) F__law_heard_l F__law_heard_c F__law_heard_k⟩
    sx_SnapError := ⟨⟨_, _, _, _, _, _, _, _, _, _, _, _, _, sx_SnapError_l⟩⟩
    gx_object := ⟨y_Ratio_n, y_Ratio_t⟩
    i_NoneType_is_str := L2.kit_ty (by decide +kernel)
    i_int_is_str := L2.kit_ty (by decide +kernel)
    i_bool_is_str := L2.kit_ty (by decide +kernel)
    i_Rounding_is_str := kit_rt (by decide +kernel) i_Rounding_is_str_a
    i_tuple_is_str := L2.kit_ty (by decide +kernel)
    i_list_is_str := L2.kit_ty (by decide +kernel)
    i_dict_is_str := L2.kit_ty (by decide +kernel)
    tab_law := ⟨⟨_, _, tab_law_l, rfl, rfl⟩, ⟨_, _, _, _, tab_law_c, by simpa using tab_law_v⟩, tab_law_o, tab_law_h⟩
    m__law_heard := PySem.W.mg_of X G L__law_heard
    q_Rounding_eq := ⟨L_Rounding___eq__, q_Rounding_eq_f, q_Rounding_eq_n⟩
    F_law := ⟨_, fun_mk (st := s_law) F_law_l F_law_c F_law_k⟩
    k__law_pen := F__law_pen_k
    m__law_pen := PySem.W.mg_of X G L__law_pen
    n_range := PySem.W.mg_none_of X G n_range_a
    k__law_kind := F__law_kind_k
    m__law_kind := PySem.W.mg_of X G L__law_kind
    k__law_rounding := F__law_rounding_k
    m__law_rounding := PySem.W.mg_of X G L__law_rounding
    km_Rounding_read := ⟨⟨_, _, ⟨km_Rounding_read_r, km_Rounding_read_g⟩, km_Rounding_read_a, ⟨_, km_Rounding_read_q⟩, km_Rounding_read_f⟩⟩
    k__law_due := F__law_due_k
    m__law_due := PySem.W.mg_of X G L__law_due
    k__law_bent := F__law_bent_k
    m__law_bent := PySem.W.mg_of X G L__law_bent
    k__law_heard := F__law_heard_k
    t_Rounding := ⟨L_Rounding___str__, t_Rounding_f, t_Rounding_g, y_Rounding_m⟩
    z_Rounding := ⟨z_Rounding_e, L_Rounding___eq__, q_Rounding_eq_f, y_Rounding_m, q_Rounding_eq_n⟩
    m_law := PySem.W.mg_of X G L_law
open PySem L2
def spLawH (K : PySem.W.Frag) (cs : List (Addr × Addr)) : Sp := fun vs H Q _ => ∃ (a : Addr) (ns : List Int), vs = [.ref a] ∧ SqL K H a (ns.map V.int) ∧ ns.length ≤ 63 ∧ (∀ p ∈ cs, H p.2 = some (.tbl #[])) ∧ ∀ H', Q (.bl true) H'
theorem walk {l : PySem.W.OpenLaw} {q : Program} {loose : List Str} {XP : (Str → Option Value) → Heap → Prop} {YP : World → Heap → Prop} {r : DefRec} {K : Params → PySem.W.Frag} (hn : l.most = some 63) (hdf : r.params.defaults = [])
    (hY : ∀ (w : World) (h : Heap), YP w h → (K w.params).In h)
    (F : ∀ (w : World) (mg : Str → Option Value) (fa : Addr) (h : Heap), (K w.params).In h → h.Ns mainGlobals mg → mg r.name = some (.ref fa) →
      ∃ cs : List (Addr × Addr), (∀ p ∈ cs, ∃ (x : Str) (f : Addr), ((PyProof.Rows.recsOf q).any fun e => e.name == x) = true ∧ mg x = some (.ref f) ∧ TabK (K w.params) f p.1 p.2) ∧
        (∀ base : Heap, (K w.params).In base → base.Ns mainGlobals mg → (∀ p ∈ cs, LamX.TabB base mg p.1 p.2) → FnG l.prog w (K w.params) mg base CX0 13 fa (spLawH (K w.params) cs))) :
    PySem.W.WalkO q loose XP YP l.row.toRowW r [] (fun f vs => PySem.call f vs) :=
  walkT (n := 63) (k := 13) (sp := spLawH) hn (by decide) hdf ⟨rfl, by decide, by decide⟩ hY F fun _ _ _ a ns hl ht hS => ⟨a, ns, rfl, hS, hl, ht, fun _ => rfl⟩
end AZ
namespace AZ
open PySem L2
/-- a pen: its list at l, the spot at most n -/
def PenAt (H : Hp) (p : Addr) (n : Nat) : Prop := ∃ (l : Addr) (ns : List Int) (spot great : Int), l ≠ p ∧ H p = some (.lst [.ref l, .int spot, .int great]) ∧ H l = some (.lst (ns.map V.int)) ∧ ns.length ≤ 63 ∧ 0 ≤ spot ∧ spot ≤ n
def spPen (K : PySem.W.Frag) : Sp := fun vs H Q _ => ∃ (a : Addr) (ns : List Int), vs = [.ref a] ∧ SqL K H a (ns.map V.int) ∧ ns.length ≤ 63 ∧ ∀ p H', H p = none → Same H H' → PenAt H' p 0 → Q (.ref p) H'
def spDraw : Sp := fun vs H Q _ => ∃ (p : Addr) (n : Nat) (many : Int), vs = [.ref p, .int many] ∧ PenAt H p n ∧ n < 100000 ∧ 0 < many ∧ many ≤ 1000 ∧
  ∀ d H', 0 ≤ d → d < many → PenAt H' p (n + 1) → Up p H H' → Q (.int d) H'
/-- a list beside the pen, or a tuple, at s -/
def SeqAt' (H : Hp) (p s : Addr) (xs : List V) : Prop := (H s = some (.lst xs) ∧ s ≠ p) ∨ H s = some (.tup xs)
theorem SeqAt'.up {H H' : Hp} {p s : Addr} {xs : List V} (h : SeqAt' H p s xs) (e : Up p H H') : SeqAt' H' p s xs := h.elim (fun h => Or.inl ⟨e.lst h.1 h.2, h.2⟩) fun h => Or.inr (e.tup h)
def spPick : Sp := fun vs H Q _ => ∃ (p s : Addr) (n : Nat) (xs : List V), vs = [.ref p, .ref s] ∧ PenAt H p n ∧ n < 100000 ∧ SeqAt' H p s xs ∧ 0 < xs.length ∧ xs.length ≤ 1000 ∧
  ∀ x H', x ∈ xs → PenAt H' p (n + 1) → Up p H H' → Q x H'
section
variable {P : Program} {w : World} {K : PySem.W.Frag} {mg : Str → Option Value} {base : Heap} {d : Ad}
theorem G__law_pen (T : Tx K mg d) : FnR P w K mg base CX0 1 d._law_pen (spPen K) := by
  obtain ⟨fd, F⟩ := T.F__law_pen
  refine FnR.imp (FnOk.raw (F.ok sc__law_pen (sp := spPen K) (fun vs H Q E h => ?_) (fun cdv A outer s H vs Q E hr h => ?_)) (F.binds fun _ _ _ _ _ _ us hl => match us, hl with | [_], _ => rfl) .nil) fun vs H Q E h => by rw [List.append_nil]; exact h
  · obtain ⟨a, ns, rfl, _⟩ := h
    rfl
  · obtain ⟨a, ns, rfl, hS, hlen, k⟩ := h
    -- slots: 0 _law_script
    refine ⟨_, (pss_one (ps_ret (pe_lst (pa_cons (pe_callTy call_list_of (by rfl) T.n_list (by decide +kernel) (pa_cons (pe_slice sl_list (pv 0) po_none (po_some pe_int)) pa_nil)) (pa_cons pe_int (pa_cons pe_int pa_nil)))))), ?_⟩
    refine ⟨_, rfl, _, rfl, a, _, rfl, hS, fun q hq => ⟨_, _, rfl, .inl (SqL.of upd_same), fun l hl => ⟨(by show 3 ≤ sizeLine; decide), fun p hp => ?_⟩⟩⟩
    have h1 : Same H (upd H q (.lst (cutV (ns.map V.int) none (some 63)))) := fun b o e => by rw [upd_ne (ne_of_none e hq)]; exact e
    have h2 : Same H (upd (upd H q (.lst (cutV (ns.map V.int) none (some 63)))) l (.lst (cutV (ns.map V.int) none (some 63)))) := h1.trans fun b o e => by rw [upd_ne (ne_of_none e hl)]; exact e
    have hlp : l ≠ p := ne_of_none upd_same hp
    refine k p _ ((h2).free hp) (h2.trans fun b o e => by rw [upd_ne (ne_of_none e hp)]; exact e) ⟨l, (ns.drop (HT.sIx ns.length 0 none)).take (HT.sIx ns.length ns.length (some 63) - HT.sIx ns.length 0 none), 0, 0, hlp, upd_same, ?_, ?_, Int.le_refl _, Int.le_refl _⟩
    · rw [upd_ne hlp, upd_same]
      unfold cutV
      rw [List.map_take, List.map_drop, List.length_map]
    · rw [List.length_take, List.length_drop]
      omega
theorem pen_ix0 {K : PySem.W.Frag} {H : Hp} {p : Addr} {a b c : V} (h : H p = some (.lst [a, b, c])) : SqL K H p [a, b, c] := SqL.of h
theorem G__law_draw (T : Tx K mg d) : FnR P w K mg base CX0 1 d._law_draw spDraw := by
  obtain ⟨fd, F⟩ := T.F__law_draw
  refine FnR.imp (FnOk.raw (F.ok sc__law_draw (sp := spDraw) (fun vs H Q E h => ?_) (fun cdv A outer s H vs Q E hr h => ?_)) (F.binds fun _ _ _ _ _ _ us hl => match us, hl with | [_, _], _ => rfl) .nil) fun vs H Q E h => by rw [List.append_nil]; exact h
  · obtain ⟨p, n, many, rfl, _⟩ := h
    rfl
  · obtain ⟨p, n, many, rfl, ⟨l, ns, spot, great, hlp, hp, hl, hlen, hs0, hsn⟩, hn, hm0, hm1, k⟩ := h
    -- slots: 0 _law_pen_here, 1 _law_many, 2 _law_digit, 3 _law_lap, 4 _law_cell, 5 _law_great, 6 _law_stir
    refine ⟨_, (pss_cons (ps_if (pt_cmpR uGt (pe_ix ix_seq (pv 0) pe_int (fun _ _ => rfl)) pe_int (nomark _)) (pss_cons (ps_set (i := 2) sc__law_draw.nd rfl (Or.inl rfl) (pe_op uMod (pe_callTy call_int1 (by rfl) T.n_int (by decide +kernel) (pa_cons (pe_ix ix_seq (pv 0) pe_int (fun _ _ => rfl)) pa_nil)) (pv 1)))
      (pss_cons (ps_asg (pe_op uDiv (pe_callTy call_int1 (by rfl) T.n_int (by decide +kernel) (pa_cons (pe_ix ix_seq (pv 0) pe_int (fun _ _ => rfl)) pa_nil)) (pv 1)) (pg_sub (pv 0) pe_int set_list))
      (pss_one (ps_ret (pv 2))))) pss_nil)
      (pss_cons (ps_set (i := 3) sc__law_draw.nd rfl (Or.inl rfl) (pe_ix ix_seq (pv 0) pe_int (fun _ _ => rfl)))
      (pss_cons (ps_asg (pe_op uAdd (pv 3) pe_int) (pg_sub (pv 0) pe_int set_list))
      (pss_cons (ps_set (i := 4) sc__law_draw.nd rfl (Or.inl rfl) (pe_op uAdd (pe_op uMul pe_int (pv 3)) pe_int))
      (pss_cons (ps_if (pt_cmpR (uNe hr.units) (pe_ix ix_seq (pv 0) pe_int (fun _ _ => rfl)) (pe_lst pa_nil) (nomark _)) (pss_one (ps_set (i := 4) sc__law_draw.nd rfl (Or.inl rfl) (pe_ix ix_seq (pe_ix ix_seq (pv 0) pe_int (fun _ _ => rfl)) (pe_op uMod (pe_callTy call_int1 (by rfl) T.n_int (by decide +kernel) (pa_cons (pv 3) pa_nil)) (pe_callB call_len_seq (by rfl) T.n_len (by decide +kernel) (pa_cons (pe_ix ix_seq (pv 0) pe_int (fun _ _ => rfl)) pa_nil))) (fun _ _ => rfl)))) pss_nil)
      (pss_cons (ps_if (PW.pt (pw_and (pt_cmpR uLt (pv 3) (pe_callB call_len_seq (by rfl) T.n_len (by decide +kernel) (pa_cons (pe_ix ix_seq (pv 0) pe_int (fun _ _ => rfl)) pa_nil)) (nomark _)) (pw_and1 (pt_cmpR uGe (pe_callB call_abs (by rfl) T.n_abs (by decide +kernel) (pa_cons (pv 4) pa_nil)) (pe_op op_pow pe_int pe_int) (nomark _))))) (pss_cons (ps_set (i := 5) sc__law_draw.nd rfl (Or.inl rfl) (pe_op uAdd (pe_op uMul pe_int (pe_op uSub (pe_callB call_abs (by rfl) T.n_abs (by decide +kernel) (pa_cons (pv 4) pa_nil)) (pe_op op_pow pe_int pe_int))) (pe_callTy call_int1 (by rfl) T.n_int (by decide +kernel) (pa_cons (pe_cmpR uLt (pv 4) pe_int (nomark _)) pa_nil))))
      (pss_cons (ps_asg (pe_op uDiv (pe_callTy call_int1 (by rfl) T.n_int (by decide +kernel) (pa_cons (pv 5) pa_nil)) (pv 1)) (pg_sub (pv 0) pe_int set_list))
      (pss_one (ps_ret (pe_op uMod (pe_callTy call_int1 (by rfl) T.n_int (by decide +kernel) (pa_cons (pv 5) pa_nil)) (pv 1)))))) pss_nil)
      (pss_cons (ps_set (i := 6) sc__law_draw.nd rfl (Or.inl rfl) (pe_op uMod (pe_callTy call_int1 (by rfl) T.n_int (by decide +kernel) (pa_cons (pe_op op_pow (pe_op uAdd (pe_op uAdd (pe_op uMod (pe_callTy call_int1 (by rfl) T.n_int (by decide +kernel) (pa_cons (pv 4) pa_nil)) pe_int) (pe_op uMul pe_int (pv 3))) pe_int) pe_int) pa_nil)) pe_int))
      (pss_cons (ps_set (i := 6) sc__law_draw.nd rfl (Or.inl rfl) (pe_op uMod (pe_callTy call_int1 (by rfl) T.n_int (by decide +kernel) (pa_cons (pe_op op_pow (pe_op uAdd (pe_op uAdd (pe_op uMul (pv 6) (pe_op uAdd (pe_op uMul pe_int (pv 3)) pe_int)) (pe_op uMul (pe_op uMul pe_int (pv 3)) (pv 3))) pe_int) pe_int) pa_nil)) pe_int))
      (pss_one (ps_ret (pe_op uMod (pe_callTy call_int1 (by rfl) T.n_int (by decide +kernel) (pa_cons (pe_op uDiv (pv 6) pe_int) pa_nil)) (pv 1)))))))))))), ?_⟩
    refine ⟨_, rfl, Or.inl ⟨p, _, 2, _, rfl, rfl, SqL.of hp, at_of (j := 2) rfl rfl, Or.inl ⟨_, _, rfl, rfl, _, rfl, ite2 (fun hg => ?_) (fun hg => ?_)⟩⟩⟩
    · refine ⟨_, rfl, Or.inl ⟨p, _, 2, _, rfl, rfl, SqL.of hp, at_of (j := 2) rfl rfl, Or.inl ⟨_, rfl, _, rfl, Or.inl ⟨_, _, rfl, rfl, by omega, ?_⟩⟩⟩⟩
      refine ⟨_, rfl, Or.inl ⟨p, _, 2, _, rfl, rfl, SqL.of hp, at_of (j := 2) rfl rfl, Or.inl ⟨_, rfl, _, rfl, Or.inl ⟨_, _, rfl, rfl, small_div hm0 (by omega), ?_⟩⟩⟩⟩
      refine ⟨_, rfl, p, _, _, 2, rfl, rfl, hp, rfl, ?_⟩
      refine ⟨_, rfl, ?_⟩
      exact k _ _ (fm0 hm0).1 (fm0 hm0).2 ⟨l, ns, spot, great.fdiv many, hlp, upd_same, by rw [upd_ne hlp]; exact hl, hlen, hs0, by omega⟩ (Up.put hp)
    · refine ⟨_, rfl, Or.inl ⟨p, _, 1, _, rfl, rfl, SqL.of hp, at_of (j := 1) rfl rfl, ?_⟩⟩
      refine ⟨_, rfl, Or.inl ⟨_, _, rfl, rfl, ?_⟩⟩
      refine ⟨_, rfl, p, _, _, 1, rfl, rfl, hp, rfl, ?_⟩
      refine ⟨_, rfl, Or.inl ⟨_, _, rfl, rfl, mulL (by decide), Or.inl ⟨_, _, rfl, rfl, ?_⟩⟩⟩
      have hl1 : upd H p (.lst [.ref l, .int (spot + 1), .int great]) l = some (.lst (ns.map V.int)) := by rw [upd_ne hlp]; exact hl
      have hp1 : upd H p (.lst [.ref l, .int (spot + 1), .int great]) p = some (.lst [.ref l, .int (spot + 1), .int great]) := upd_same
      refine ⟨_, rfl, Or.inl ⟨p, _, 0, _, rfl, rfl, SqL.of hp1, at_of (j := 0) rfl rfl, (by show 0 ≤ sizeLine; decide), fun e he => ?_⟩⟩
      have hpe : p ≠ e := ne_of_none hp1 he
      have hle : l ≠ e := ne_of_none hl1 he
      have hl2 : upd (upd H p (.lst [.ref l, .int (spot + 1), .int great])) e (.lst []) l = some (.lst (ns.map V.int)) := by rw [upd_ne hle]; exact hl1
      have hp2 : upd (upd H p (.lst [.ref l, .int (spot + 1), .int great])) e (.lst []) p = some (.lst [.ref l, .int (spot + 1), .int great]) := by rw [upd_ne hpe]; exact hp1
      refine Or.inr ⟨.list (ns.map PyData.int), .list [], .lst (SqL.of hl2) (dp_ints ns), .lst (SqL.of upd_same) .nil, shaped_ints ns, shaped_ints [], _, rfl, ite2 (fun hc => ?A) (fun hc => ?B)⟩
      case' A =>
        have hne : 0 < ns.length := by
          rw [eqv_nil] at hc
          cases ns with
          | nil => simp at hc
          | cons a r => simp
        obtain ⟨hj0, hj1⟩ := fm0 (a := spot) (b := (ns.length : Int)) (by omega)
        obtain ⟨j, hj⟩ : ∃ j : Nat, spot.fmod ns.length = (j : Int) := ⟨(spot.fmod ns.length).toNat, by omega⟩
        obtain ⟨c, hcj⟩ : ∃ c, ns[j]? = some c := ⟨ns[j]'(by omega), List.getElem?_eq_getElem _⟩
        refine ⟨_, rfl, Or.inl ⟨p, _, 0, _, rfl, rfl, SqL.of hp2, at_of (j := 0) rfl rfl, ?_⟩⟩
        refine ⟨_, rfl, Or.inl ⟨_, rfl, _, rfl, Or.inl ⟨p, _, 0, _, rfl, rfl, SqL.of hp2, at_of (j := 0) rfl rfl, ⟨_, _, rfl, Or.inl (SqL.of hl2), Or.inl ⟨_, _, rfl, rfl, (by rw [List.length_map]; omega), ?_⟩⟩⟩⟩⟩
        refine Or.inl ⟨l, _, _, .int c, rfl, rfl, SqL.of hl2, at_of (j := j) (by rw [List.length_map]; exact hj) (by rw [List.getElem?_map, hcj]; rfl), ?_⟩
      case' B => generalize 66155 * spot + 2225 = c
      all_goals
        have up1 : Up p H (upd (upd H p (.lst [.ref l, .int (spot + 1), .int great])) e (.lst [])) := (Up.put hp).new' he
        refine ⟨_, rfl, _, rfl, Or.inl ⟨p, _, 0, _, rfl, rfl, SqL.of hp2, at_of (j := 0) rfl rfl, ⟨_, _, rfl, Or.inl (SqL.of hl2), Or.inl ⟨_, _, rfl, rfl, _, rfl, ite2 (fun h1 => ?_) (fun h1 => ?_)⟩⟩⟩⟩
        · refine ⟨_, rfl, ⟨_, rfl, ⟨_, _, rfl, rfl, ⟨by decide, by decide, by decide⟩, Or.inl ⟨_, _, rfl, rfl, _, rfl, ite2 (fun h2 => ?_) (fun h2 => ?_)⟩⟩⟩⟩
          · refine ⟨_, rfl, ⟨_, rfl, ⟨_, _, rfl, rfl, ⟨by decide, by decide, by decide⟩, Or.inl ⟨_, _, rfl, rfl, Or.inl ⟨_, _, rfl, rfl, mulL (by decide), ⟨_, rfl, Or.inl ⟨_, _, rfl, rfl, Or.inr ⟨_, rfl, Or.inl ⟨_, _, rfl, rfl, ?_⟩⟩⟩⟩⟩⟩⟩⟩⟩
            refine ⟨_, rfl, Or.inl ⟨_, rfl, _, rfl, Or.inl ⟨_, _, rfl, rfl, small_div hm0 (by omega), ?_⟩⟩⟩
            refine ⟨_, rfl, p, _, _, 2, rfl, rfl, hp2, rfl, ?_⟩
            refine ⟨_, rfl, Or.inl ⟨_, rfl, _, rfl, Or.inl ⟨_, _, rfl, rfl, by omega, ?_⟩⟩⟩
            exact k _ _ (fm0 hm0).1 (fm0 hm0).2 ⟨l, ns, spot + 1, _, hlp, upd_same, by rw [upd_ne hlp]; exact hl2, hlen, by omega, by omega⟩ (up1.trans (Up.put hp2))
          · refine ⟨_, rfl, Or.inl ⟨_, rfl, Or.inl ⟨_, _, rfl, rfl, nz (by decide), ⟨_, rfl, Or.inl ⟨_, _, rfl, rfl, mulL (by decide), Or.inl ⟨_, _, rfl, rfl, Or.inl ⟨_, _, rfl, rfl, ⟨_, _, rfl, rfl, ⟨by decide, by decide, stir1 (by decide) (by decide) (by decide) (by decide) (by decide) (by decide) hs0 (by omega)⟩, Or.inl ⟨_, rfl, Or.inl ⟨_, _, rfl, rfl, nz (by decide), ?_⟩⟩⟩⟩⟩⟩⟩⟩⟩⟩
            refine ⟨_, rfl, ⟨_, rfl, Or.inl ⟨_, _, rfl, rfl, mulL (by decide), Or.inl ⟨_, _, rfl, rfl, Or.inl ⟨_, _, rfl, rfl, stir3 (by decide) (by decide) _, ⟨_, rfl, Or.inl ⟨_, _, rfl, rfl, mulL (by decide), ⟨_, rfl, Or.inl ⟨_, _, rfl, rfl, stir4 (by decide) (by decide) hs0 (by omega) _, Or.inl ⟨_, _, rfl, rfl, Or.inl ⟨_, _, rfl, rfl, ⟨_, _, rfl, rfl, ⟨by decide, by decide, stir2 (by decide) (by decide) (by decide) (by decide) (by decide) (by decide) (by decide) (by decide) hs0 (by omega)⟩, Or.inl ⟨_, rfl, Or.inl ⟨_, _, rfl, rfl, nz (by decide), ?_⟩⟩⟩⟩⟩⟩⟩⟩⟩⟩⟩⟩⟩⟩
            refine ⟨_, rfl, Or.inl ⟨_, _, rfl, rfl, small_div (by decide) (by decide), Or.inl ⟨_, rfl, ⟨_, rfl, Or.inl ⟨_, _, rfl, rfl, by omega, ?_⟩⟩⟩⟩⟩
            exact k _ _ (fm0 hm0).1 (fm0 hm0).2 ⟨l, ns, spot + 1, great, hlp, hp2, hl2, hlen, by omega, by omega⟩ up1
        · refine ⟨_, rfl, Or.inl ⟨_, rfl, Or.inl ⟨_, _, rfl, rfl, nz (by decide), ⟨_, rfl, Or.inl ⟨_, _, rfl, rfl, mulL (by decide), Or.inl ⟨_, _, rfl, rfl, Or.inl ⟨_, _, rfl, rfl, ⟨_, _, rfl, rfl, ⟨by decide, by decide, stir1 (by decide) (by decide) (by decide) (by decide) (by decide) (by decide) hs0 (by omega)⟩, Or.inl ⟨_, rfl, Or.inl ⟨_, _, rfl, rfl, nz (by decide), ?_⟩⟩⟩⟩⟩⟩⟩⟩⟩⟩
          refine ⟨_, rfl, ⟨_, rfl, Or.inl ⟨_, _, rfl, rfl, mulL (by decide), Or.inl ⟨_, _, rfl, rfl, Or.inl ⟨_, _, rfl, rfl, stir3 (by decide) (by decide) _, ⟨_, rfl, Or.inl ⟨_, _, rfl, rfl, mulL (by decide), ⟨_, rfl, Or.inl ⟨_, _, rfl, rfl, stir4 (by decide) (by decide) hs0 (by omega) _, Or.inl ⟨_, _, rfl, rfl, Or.inl ⟨_, _, rfl, rfl, ⟨_, _, rfl, rfl, ⟨by decide, by decide, stir2 (by decide) (by decide) (by decide) (by decide) (by decide) (by decide) (by decide) (by decide) hs0 (by omega)⟩, Or.inl ⟨_, rfl, Or.inl ⟨_, _, rfl, rfl, nz (by decide), ?_⟩⟩⟩⟩⟩⟩⟩⟩⟩⟩⟩⟩⟩⟩
          refine ⟨_, rfl, Or.inl ⟨_, _, rfl, rfl, small_div (by decide) (by decide), Or.inl ⟨_, rfl, ⟨_, rfl, Or.inl ⟨_, _, rfl, rfl, by omega, ?_⟩⟩⟩⟩⟩
          exact k _ _ (fm0 hm0).1 (fm0 hm0).2 ⟨l, ns, spot + 1, great, hlp, hp2, hl2, hlen, by omega, by omega⟩ up1
theorem G__law_pick (T : Tx K mg d) : FnR P w K mg base CX0 2 d._law_pick spPick := by
  obtain ⟨fd, F⟩ := T.F__law_pick
  have G__law_draw : FnR P w K mg base CX0 1 d._law_draw spDraw := G__law_draw T
  refine FnR.imp (FnOk.raw (F.ok sc__law_pick (sp := spPick) (fun vs H Q E h => ?_) (fun cdv A outer s H vs Q E hr h => ?_)) (F.binds fun _ _ _ _ _ _ us hl => match us, hl with | [_, _], _ => rfl) .nil) fun vs H Q E h => by rw [List.append_nil]; exact h
  · obtain ⟨p, s, n, xs, rfl, _⟩ := h
    rfl
  · obtain ⟨p, a, n, xs, rfl, hp, hn, hs, hx0, hx1, k⟩ := h
    -- slots: 0 _law_pen_here, 1 _law_some
    refine ⟨_, (pss_one (ps_ret (pe_ix ix_seq (pv 1) (pe_fnR G__law_draw (hr.mono (by decide)) T.k__law_draw T.m__law_draw pass0 (pa_cons (pv 0) (pa_cons (pe_callB call_len_seq (by rfl) T.n_len (by decide +kernel) (pa_cons (pv 1) pa_nil)) pa_nil))) (fun _ _ => rfl)))), ?_⟩
    refine ⟨_, rfl, _, rfl, _, rfl, ⟨_, xs, rfl, hs.elim (fun h => Or.inl (SqL.of h.1)) (fun h => Or.inr (SqT.of h)), ⟨p, n, _, rfl, hp, hn, by omega, by omega, fun e H' h0 h1 hp' up => ?_⟩⟩⟩
    obtain ⟨j, rfl⟩ : ∃ j : Nat, e = (j : Int) := ⟨e.toNat, by omega⟩
    have hj : j < xs.length := by omega
    have q := k xs[j] H' (List.getElem_mem hj) hp' up
    rcases hs.up up with h | h
    · exact Or.inl ⟨a, xs, _, _, rfl, rfl, SqL.of h.1, atI_nat (List.getElem?_eq_getElem hj), q⟩
    · exact Or.inr (Or.inl ⟨a, xs, _, _, rfl, rfl, SqT.of h, atI_nat (List.getElem?_eq_getElem hj), q⟩)
end

end AZ
namespace AZ
open PySem L2
/-! ## fractions as objects -/
abbrev ratF (q : Rat) : List (Str × V) := [("over", .int q.num), ("under", .int (q.den : Int))]
def IsRat (C : Addr) (H : Hp) (a : Addr) (q : Rat) : Prop := ∃ dx, H a = some (.ins C dx (ratF q))
theorem IsRat.up {C p a : Addr} {H H' : Hp} {q : Rat} (h : IsRat C H a q) (e : Up p H H') : IsRat C H' a q := let ⟨dx, x⟩ := h; ⟨dx, e.ins x⟩
theorem IsRat.same {C a : Addr} {H H' : Hp} {q : Rat} (h : IsRat C H a q) (e : Same H H') : IsRat C H' a q := let ⟨dx, x⟩ := h; ⟨dx, e _ _ x⟩
/-- an int or a fraction -/
def Num (C : Addr) (H : Hp) (v : V) (q : Rat) : Prop := (∃ i : Int, v = .int i ∧ q = (i : Rat)) ∨ ∃ a, v = .ref a ∧ IsRat C H a q
theorem Num.up {C p : Addr} {H H' : Hp} {v : V} {q : Rat} (h : Num C H v q) (e : Up p H H') : Num C H' v q := h.elim Or.inl fun ⟨a, x, y⟩ => Or.inr ⟨a, x, y.up e⟩
theorem Num.same {C : Addr} {H H' : Hp} {v : V} {q : Rat} (h : Num C H v q) (e : Same H H') : Num C H' v q := h.elim Or.inl fun ⟨a, x, y⟩ => Or.inr ⟨a, x, y.same e⟩
theorem Num.right {C : Addr} {H : Hp} {v : V} {q : Rat} (h : Num C H v q) : RightI C H v := by
  rcases h with ⟨i, rfl, _⟩ | ⟨a, rfl, dx, x⟩
  · exact Or.inl ⟨i, rfl⟩
  · exact Or.inr ⟨a, dx, _, rfl, x⟩
/-- whether x is an integer, by its type -/
def IsI (K : PySem.W.Frag) (H : Hp) (x : V) (b : Bool) : Prop := ∃ (t : Value) (b1 b2 : Bool), TyX K H x t ∧ PySem.W.kitOne K t (.type "int") = some b1 ∧ PySem.W.kitOne K t (.type "bool") = some b2 ∧ (b1 && !b2) = b
def spIsInt (K : PySem.W.Frag) : Sp := fun vs H Q _ => ∃ x b, vs = [x] ∧ IsI K H x b ∧ Q (.bl b) H
def spIsNum (K : PySem.W.Frag) (C : Addr) : Sp := fun vs H Q _ => ∃ x q, vs = [x] ∧ Num C H x q ∧ Q (.bl true) H
def spInit (C : Addr) : Sp := fun vs H Q _ => ∃ (p dx : Addr) (a b : Int), vs = [.ref p, .int a, .int b] ∧ H p = some (.ins C dx []) ∧ b ≠ 0 ∧ b.natAbs < 2 ^ 8000 ∧
  ∀ H', (∀ x o, H x = some o → x ≠ p → H' x = some o) → IsRat C H' p (Rat.divInt a b) → Q .non H'
theorem made {C x dx : Addr} {a b : Int} {H : Hp} {Q : VK} {E : XK} (nx : H x = none) (nd : H dx = none) (hb : b ≠ 0) (hs : b.natAbs < 2 ^ 8000) (k : ∀ H', Same H H' → IsRat C H' x (Rat.divInt a b) → Q (.ref x) H') :
    spInit C [.ref x, .int a, .int b] (upd (upd H dx (.own x)) x (.ins C dx [])) (fun v H2 => v = .non ∧ Q (.ref x) H2) E :=
  ⟨x, dx, a, b, rfl, upd_same, hb, hs, fun H' kp r => ⟨rfl, k H' (Same.made nx nd kp) r⟩⟩
theorem made' {C x dx : Addr} {a b : Int} {H : Hp} {W : VK} {E : XK} (nx : H x = none) (nd : H dx = none) (hb : b ≠ 0) (hs : b.natAbs < 2 ^ 8000) (k : ∀ H', Same H H' → IsRat C H' x (Rat.divInt a b) → W .non H') :
    spInit C [.ref x, .int a, .int b] (upd (upd H dx (.own x)) x (.ins C dx [])) W E :=
  ⟨x, dx, a, b, rfl, upd_same, hb, hs, fun H' kp r => k H' (Same.made nx nd kp) r⟩
def spOf (C : Addr) : Sp := fun vs H Q _ => ∃ v q, vs = [v] ∧ Num C H v q ∧ ∀ p H', Same H H' → IsRat C H' p q → Q (.ref p) H'
def spBin (C : Addr) (f : Rat → Rat → Rat) : Sp := fun vs H Q _ => ∃ a v x y, vs = [.ref a, v] ∧ IsRat C H a x ∧ Num C H v y ∧ Sz 2000 x ∧ Sz 2000 y ∧ ∀ p H', Same H H' → IsRat C H' p (f x y) → Q (.ref p) H'
def spCmp (C : Addr) (f : Rat → Rat → Bool) : Sp := fun vs H Q _ => ∃ a v x y, vs = [.ref a, v] ∧ IsRat C H a x ∧ Num C H v y ∧ Sz 2000 x ∧ Sz 2000 y ∧ ∀ H', Same H H' → Q (.bl (f x y)) H'
def spFlo (C : Addr) (f : Rat → Int) : Sp := fun vs H Q _ => ∃ a x, vs = [.ref a] ∧ IsRat C H a x ∧ Sz 8000 x ∧ Q (.int (f x)) H
section
variable {P : Program} {w : World} {K : PySem.W.Frag} {mg : Str → Option Value} {base : Heap} {d : Ad}
theorem isI_int (T : Tx K mg d) {H : Hp} {i : Int} : IsI K H (.int i) true := ⟨_, true, false, .base (.int i), T.i_int_is_int, T.i_int_is_bool, rfl⟩
theorem isI_rat (T : Tx K mg d) {H : Hp} {a : Addr} {q : Rat} (h : IsRat d.Ratio H a q) : IsI K H (.ref a) false := let ⟨_, x⟩ := h; ⟨_, false, false, T.y_Ratio.ty T.c_Ratio x, T.i_Ratio_is_int, T.i_Ratio_is_bool, rfl⟩
theorem G_is_integer (T : Tx K mg d) : FnR P w K mg base CX0 1 d.is_integer (spIsInt K) := by
  obtain ⟨fd, F⟩ := T.F_is_integer
  refine FnR.imp (FnOk.raw (F.ok sc_is_integer (sp := spIsInt K) (fun vs H Q E h => ?_) (fun cdv A outer s H vs Q E hr h => ?_)) (F.binds fun _ _ _ _ _ _ us hl => match us, hl with | [_], _ => rfl) .nil) fun vs H Q E h => by rw [List.append_nil]; exact h
  · obtain ⟨x, b, rfl, _⟩ := h
    rfl
  · obtain ⟨x, b, rfl, ⟨t, b1, b2, ty, k1, k2, rfl⟩, k⟩ := h
    -- slots: 0 value
    refine ⟨_, (pss_one (ps_ret (pe_and (pe_callB uIsi (by rfl) T.n_isinstance (by decide +kernel) (pa_cons (pv 0) (pa_cons (pe_bltn (v := .ty "int") (by rfl) T.n_int (by decide +kernel) rfl) pa_nil))) (pe_one (pe_not (pe_callB uIsi (by rfl) T.n_isinstance (by decide +kernel) (pa_cons (pv 0) (pa_cons (pe_bltn (v := .ty "bool") (by rfl) T.n_bool (by decide +kernel) rfl) pa_nil)))))))), ?_⟩
    refine ⟨_, rfl, Or.inl ⟨_, _, _, _, b1, rfl, .ty _, ty, k1, b1, rfl, ?_⟩⟩
    cases b1
    · exact k
    · exact ⟨_, rfl, Or.inl ⟨_, _, _, _, b2, rfl, .ty _, ty, k2, b2, rfl, k⟩⟩
theorem G_Ratio___init__ (T : Tx K mg d) : FnR P w K mg base CX0 2 d.Ratio___init__ (fun vs H Q E => spInit d.Ratio vs H Q E ∨ spInit d.Ratio (vs ++ [.int 1]) H Q E) := by
  obtain ⟨fd, F⟩ := T.D_Ratio___init__
  have G_is_integer : FnR P w K mg base CX0 1 d.is_integer (spIsInt K) := G_is_integer T
  have G : FnOk P w K mg base CX0 2 d.Ratio___init__ fd ["self", "over", "under"] (spInit d.Ratio) := by
    refine F.ok sc_Ratio___init__ (fun vs H Q E h => ?_) (fun cdv A outer s H vs Q E hr h => ?_)
    · obtain ⟨p, dx, a, b, rfl, _⟩ := h
      rfl
    obtain ⟨p, dx, a, b, rfl, hp, hb, hs, k⟩ := h
    -- slots: 0 self, 1 over, 2 under, 3 shared
    refine ⟨_, (pss_cons (ps_if (pt_not (pt_val (pe_fnR G_is_integer (hr.mono (by decide)) T.k_is_integer T.m_is_integer pass0 (pa_cons (pv 1) pa_nil)))) pss_never pss_nil)
      (pss_cons (ps_if (PW.pt (pw_or (pt_not (pt_val (pe_fnR G_is_integer (hr.mono (by decide)) T.k_is_integer T.m_is_integer pass0 (pa_cons (pv 2) pa_nil)))) (pw_or1 (pt_cmpR (uEq hr.units) (pv 2) pe_int (nomark _))))) pss_never pss_nil)
      (pss_cons (ps_set (i := 3) sc_Ratio___init__.nd rfl (Or.inl rfl) (pe_callBfun cr_gcd rfl T.m_gcd (pa_cons (pv 1) (pa_cons (pv 2) pa_nil))))
      (pss_cons (ps_if (pt_cmpR uLt (pv 2) pe_int (nomark _)) (pss_one (ps_set (i := 3) sc_Ratio___init__.nd rfl (Or.inl rfl) (pe_un uNeg (pv 3)))) pss_nil)
      (pss_cons (ps_fld (pv 0) (pe_op uDiv (pv 1) (pv 3)) rfl)
      (pss_one (ps_fld (pv 0) (pe_op uDiv (pv 2) (pv 3)) rfl))))))), ?_⟩
    refine ⟨_, rfl, ⟨_, _, rfl, isI_int T, true, rfl, iteF ?_⟩⟩
    refine ⟨_, rfl, ⟨_, _, rfl, isI_int T, true, rfl, iteF ⟨_, rfl, Or.inl ⟨rfl, _, rfl, ifF (by simp [dec_int, hb]) ?_⟩⟩⟩⟩
    refine ⟨_, rfl, _, rfl, ⟨_, _, rfl, ?_⟩⟩
    have hg : ((Nat.gcd a.natAbs b.natAbs : Nat) : Int) = (Int.gcd a b : Int) := rfl
    have g0 := gcd_pos a b hb
    have g1 := gcd_le a b hb
    have fin : ∀ g : Int, g = (if b < 0 then -(Int.gcd a b : Int) else (Int.gcd a b : Int)) → CDivZ a g ∧ CDivZ b g ∧ a.fdiv g = (Rat.divInt a b).num ∧ b.fdiv g = ((Rat.divInt a b).den : Int) := fun g eg => by
      have n0 : g ≠ 0 := by rw [eg]; split <;> omega
      have n1 : g.natAbs < 2 ^ 8000 := by
        have : g.natAbs ≤ b.natAbs := by rw [eg]; split <;> omega
        exact Nat.lt_of_le_of_lt this hs
      exact ⟨divZ n0 n1 (by decide) (by decide), divZ n0 n1 (by decide) (by decide), by rw [eg]; exact (num_di a b hb).symm, by rw [eg]; exact (den_di a b hb).symm⟩
    have last : ∀ (x y : Int), x = (Rat.divInt a b).num → y = ((Rat.divInt a b).den : Int) → Q V.non (upd (upd H p (.ins d.Ratio dx [("over", .int x)])) p (.ins d.Ratio dx [("over", .int x), ("under", .int y)])) := fun x y ex ey => by
      refine k _ (fun z o e n => by rw [upd_ne n, upd_ne n]; exact e) ⟨dx, ?_⟩
      rw [upd_same, ex, ey]
    refine ⟨_, rfl, Or.inl ⟨_, _, rfl, rfl, _, rfl, ite2 (fun h => ?_) (fun h => ?_)⟩⟩
    · have h' : b < 0 := of_decide_eq_true h
      obtain ⟨c1, c2, e1, e2⟩ := fin (-(Int.gcd a b : Int)) (by rw [if_pos h'])
      refine ⟨_, rfl, Or.inl ⟨_, rfl, ?_⟩⟩
      refine ⟨_, rfl, _, rfl, Or.inl ⟨_, _, rfl, rfl, c1, _, rfl, p, _, dx, _, rfl, hp, T.c_Ratio, T.a_Ratio_over, (by show 0 < 1000; decide), ?_⟩⟩
      refine ⟨_, rfl, _, rfl, Or.inl ⟨_, _, rfl, rfl, c2, _, rfl, p, _, dx, _, rfl, upd_same, T.c_Ratio, T.a_Ratio_under, (by show 1 < 1000; decide), ?_⟩⟩
      exact last _ _ e1 e2
    · have h' : ¬ b < 0 := of_decide_eq_false (Bool.not_eq_true _ ▸ h)
      obtain ⟨c1, c2, e1, e2⟩ := fin (Int.gcd a b : Int) (by rw [if_neg h'])
      refine ⟨_, rfl, _, rfl, Or.inl ⟨_, _, rfl, rfl, c1, _, rfl, p, _, dx, _, rfl, hp, T.c_Ratio, T.a_Ratio_over, (by show 0 < 1000; decide), ?_⟩⟩
      refine ⟨_, rfl, _, rfl, Or.inl ⟨_, _, rfl, rfl, c2, _, rfl, p, _, dx, _, rfl, upd_same, T.c_Ratio, T.a_Ratio_under, (by show 1 < 1000; decide), ?_⟩⟩
      exact last _ _ e1 e2
  obtain ⟨ds0, r0, b0⟩ := F.binds1 (ps := ["self", "over", "under"]) 3 1 (by simp) rfl fun T kV doc pm an cdv ct us its h1 h2 => match us, its, h1, h2 with
    | [_, _, _], [_], _, _ => ⟨_, rfl, by dsimp only; rfl⟩
  obtain ⟨ds1, r1, b1⟩ := F.binds1 (ps := ["self", "over", "under"]) 2 0 (by simp) rfl fun T kV doc pm an cdv ct us its h1 h2 => match us, its, h1, h2 with
    | [_, _], [_], _, _ => ⟨_, rfl, by dsimp only; rfl⟩
  exact FnR.or ((FnOk.raw G b0 r0).imp fun vs H Q E h => by rw [show vs ++ List.drop 1 [V.int 1] = vs from List.append_nil vs]; exact h) (FnOk.raw G b1 r1)
theorem G_Ratio_of (T : Tx K mg d) : FnR P w K mg base CX0 4 d.Ratio_of (spOf d.Ratio) := by
  have G_is_integer : FnR P w K mg base CX0 1 d.is_integer (spIsInt K) := G_is_integer T
  have G_Ratio___init__ : FnR P w K mg base CX0 2 d.Ratio___init__ _ := G_Ratio___init__ T
  obtain ⟨fd, F⟩ := T.F_Ratio_of
  refine FnR.imp (FnOk.raw (F.ok sc_Ratio_of (k := 3) (sp := spOf d.Ratio) (fun vs H Q E h => ?_) (fun cdv A outer s H vs Q E hr h => ?_)) (F.binds fun _ _ _ _ _ _ us hl => match us, hl with | [_], _ => rfl) .nil) fun vs H Q E h => by rw [List.append_nil]; exact h
  · obtain ⟨v, q, rfl, _⟩ := h
    rfl
  · obtain ⟨v, q, rfl, hv, k⟩ := h
    -- slots: 0 value
    refine ⟨_, (pss_cons (ps_if (pt_val (pe_callB uIsi (by rfl) T.n_isinstance (by decide +kernel) (pa_cons (pv 0) (pa_cons (pe_glob (v := .ref _) rfl T.m_Ratio rfl) pa_nil)))) (pss_one (ps_ret (pv 0))) pss_nil)
      (pss_cons (ps_if (pt_not (pt_val (pe_fnR G_is_integer (hr.mono (by decide)) T.k_is_integer T.m_is_integer pass0 (pa_cons (pv 0) pa_nil)))) pss_never pss_nil)
      (pss_one (ps_ret (StX.pe_makeR T.mk_Ratio G_Ratio___init__ (hr.mono (by decide)) rfl T.m_Ratio pass0 (pa_cons (pv 0) pa_nil)))))), ?_⟩
    rcases hv with ⟨i, rfl, rfl⟩ | ⟨a, rfl, dx, ha⟩
    · refine ⟨_, rfl, Or.inl ⟨_, _, _, _, false, rfl, .own _, .base (.int i), T.i_int_is_Ratio, false, rfl, iteF ?_⟩⟩
      refine ⟨_, rfl, ⟨_, _, rfl, isI_int T, true, rfl, iteF ?_⟩⟩
      refine ⟨_, rfl, fun x dx nx nd ne => Or.inr (made nx nd (by decide) (by decide) fun H' e r => k x H' e ?_)⟩
      rw [r_int] at r
      exact r
    · refine ⟨_, rfl, Or.inl ⟨_, _, _, _, true, rfl, .own _, T.y_Ratio.ty T.c_Ratio ha, T.i_Ratio_is_Ratio, true, rfl, iteT ?_⟩⟩
      exact ⟨_, rfl, k a H (Same.refl H) ⟨dx, ha⟩⟩
theorem G_Ratio___add__ (T : Tx K mg d) : FnR P w K mg base CX0 5 d.Ratio___add__ (spBin d.Ratio (· + ·)) := by
  have G_Ratio_of : FnR P w K mg base CX0 4 d.Ratio_of (spOf d.Ratio) := G_Ratio_of T
  have G_Ratio___init__ : FnR P w K mg base CX0 2 d.Ratio___init__ _ := G_Ratio___init__ T
  obtain ⟨fd, F⟩ := T.F_Ratio___add__
  refine FnR.imp (FnOk.raw (F.ok sc_Ratio___add__ (k := 4) (sp := spBin d.Ratio (· + ·)) (fun vs H Q E h => ?_) (fun cdv A outer s H vs Q E hr h => ?_)) (F.binds fun _ _ _ _ _ _ us hl => match us, hl with | [_, _], _ => rfl) .nil) fun vs H Q E h => by rw [List.append_nil]; exact h
  · obtain ⟨a, v, x, y, rfl, _⟩ := h
    rfl
  · obtain ⟨a, v, x, y, rfl, ⟨dx, ha⟩, hy, zx, zy, k⟩ := h
    -- slots: 0 self, 1 other, 2 added
    refine ⟨_, (pss_cons (ps_set (i := 2) sc_Ratio___add__.nd rfl (Or.inl rfl) (pe_smeth (pe_glob (v := .ref _) rfl T.m_Ratio rfl) T.s_Ratio_of G_Ratio_of (hr.mono (by decide)) pass0 (pa_cons (pv 1) pa_nil)))
      (pss_one (ps_ret (StX.pe_makeR T.mk_Ratio G_Ratio___init__ (hr.mono (by decide)) rfl T.m_Ratio pass0 (pa_cons (pe_op uAdd (pe_op uMul (pe_fld (pv 0) rfl) (pe_fld (pv 2) rfl)) (pe_op uMul (pe_fld (pv 2) rfl) (pe_fld (pv 0) rfl))) (pa_cons (pe_op uMul (pe_fld (pv 0) rfl) (pe_fld (pv 2) rfl)) pa_nil)))))), ?_⟩
    refine ⟨rfl, _, rfl, ⟨_, y, rfl, hy, fun b H1 e1 ⟨dy, hb⟩ => ?_⟩⟩
    have ha := e1 _ _ ha
    refine ⟨_, rfl, a, _, dx, _, _, rfl, ha, T.c_Ratio, T.a_Ratio_over, rfl, _, rfl, b, _, dy, _, _, rfl, hb, T.c_Ratio, T.a_Ratio_under, rfl, Or.inl ⟨_, _, rfl, rfl, mul2 (szN zx) (szD zy), _, rfl, b, _, dy, _, _, rfl, hb, T.c_Ratio, T.a_Ratio_over, rfl, _, rfl, a, _, dx, _, _, rfl, ha, T.c_Ratio, T.a_Ratio_under, rfl, Or.inl ⟨_, _, rfl, rfl, mul2 (szN zy) (szD zx), Or.inl ⟨_, _, rfl, rfl, ?_⟩⟩⟩⟩
    refine ⟨_, rfl, a, _, dx, _, _, rfl, ha, T.c_Ratio, T.a_Ratio_under, rfl, _, rfl, b, _, dy, _, _, rfl, hb, T.c_Ratio, T.a_Ratio_under, rfl, Or.inl ⟨_, _, rfl, rfl, mul2 (szD zx) (szD zy), fun p dp np nd ne => Or.inl (made np nd (den0 x y) (den2 zx zy) fun H2 e2 r => k p H2 (e1.trans e2) ?_)⟩⟩
    rw [r_add] at r
    exact r
theorem G_Ratio___sub__ (T : Tx K mg d) : FnR P w K mg base CX0 5 d.Ratio___sub__ (spBin d.Ratio (· - ·)) := by
  have G_Ratio_of : FnR P w K mg base CX0 4 d.Ratio_of (spOf d.Ratio) := G_Ratio_of T
  have G_Ratio___init__ : FnR P w K mg base CX0 2 d.Ratio___init__ _ := G_Ratio___init__ T
  obtain ⟨fd, F⟩ := T.F_Ratio___sub__
  refine FnR.imp (FnOk.raw (F.ok sc_Ratio___sub__ (k := 4) (sp := spBin d.Ratio (· - ·)) (fun vs H Q E h => ?_) (fun cdv A outer s H vs Q E hr h => ?_)) (F.binds fun _ _ _ _ _ _ us hl => match us, hl with | [_, _], _ => rfl) .nil) fun vs H Q E h => by rw [List.append_nil]; exact h
  · obtain ⟨a, v, x, y, rfl, _⟩ := h
    rfl
  · obtain ⟨a, v, x, y, rfl, ⟨dx, ha⟩, hy, zx, zy, k⟩ := h
    -- slots: 0 self, 1 other, 2 taken
    refine ⟨_, (pss_cons (ps_set (i := 2) sc_Ratio___sub__.nd rfl (Or.inl rfl) (pe_smeth (pe_glob (v := .ref _) rfl T.m_Ratio rfl) T.s_Ratio_of G_Ratio_of (hr.mono (by decide)) pass0 (pa_cons (pv 1) pa_nil)))
      (pss_one (ps_ret (StX.pe_makeR T.mk_Ratio G_Ratio___init__ (hr.mono (by decide)) rfl T.m_Ratio pass0 (pa_cons (pe_op uSub (pe_op uMul (pe_fld (pv 0) rfl) (pe_fld (pv 2) rfl)) (pe_op uMul (pe_fld (pv 2) rfl) (pe_fld (pv 0) rfl))) (pa_cons (pe_op uMul (pe_fld (pv 0) rfl) (pe_fld (pv 2) rfl)) pa_nil)))))), ?_⟩
    refine ⟨rfl, _, rfl, ⟨_, y, rfl, hy, fun b H1 e1 ⟨dy, hb⟩ => ?_⟩⟩
    have ha := e1 _ _ ha
    refine ⟨_, rfl, a, _, dx, _, _, rfl, ha, T.c_Ratio, T.a_Ratio_over, rfl, _, rfl, b, _, dy, _, _, rfl, hb, T.c_Ratio, T.a_Ratio_under, rfl, Or.inl ⟨_, _, rfl, rfl, mul2 (szN zx) (szD zy), _, rfl, b, _, dy, _, _, rfl, hb, T.c_Ratio, T.a_Ratio_over, rfl, _, rfl, a, _, dx, _, _, rfl, ha, T.c_Ratio, T.a_Ratio_under, rfl, Or.inl ⟨_, _, rfl, rfl, mul2 (szN zy) (szD zx), Or.inl ⟨_, _, rfl, rfl, ?_⟩⟩⟩⟩
    refine ⟨_, rfl, a, _, dx, _, _, rfl, ha, T.c_Ratio, T.a_Ratio_under, rfl, _, rfl, b, _, dy, _, _, rfl, hb, T.c_Ratio, T.a_Ratio_under, rfl, Or.inl ⟨_, _, rfl, rfl, mul2 (szD zx) (szD zy), fun p dp np nd ne => Or.inl (made np nd (den0 x y) (den2 zx zy) fun H2 e2 r => k p H2 (e1.trans e2) ?_)⟩⟩
    rw [r_sub] at r
    exact r
theorem G_Ratio___mul__ (T : Tx K mg d) : FnR P w K mg base CX0 5 d.Ratio___mul__ (spBin d.Ratio (· * ·)) := by
  have G_Ratio_of : FnR P w K mg base CX0 4 d.Ratio_of (spOf d.Ratio) := G_Ratio_of T
  have G_Ratio___init__ : FnR P w K mg base CX0 2 d.Ratio___init__ _ := G_Ratio___init__ T
  obtain ⟨fd, F⟩ := T.F_Ratio___mul__
  refine FnR.imp (FnOk.raw (F.ok sc_Ratio___mul__ (k := 4) (sp := spBin d.Ratio (· * ·)) (fun vs H Q E h => ?_) (fun cdv A outer s H vs Q E hr h => ?_)) (F.binds fun _ _ _ _ _ _ us hl => match us, hl with | [_, _], _ => rfl) .nil) fun vs H Q E h => by rw [List.append_nil]; exact h
  · obtain ⟨a, v, x, y, rfl, _⟩ := h
    rfl
  · obtain ⟨a, v, x, y, rfl, ⟨dx, ha⟩, hy, zx, zy, k⟩ := h
    -- slots: 0 self, 1 other, 2 factor
    refine ⟨_, (pss_cons (ps_set (i := 2) sc_Ratio___mul__.nd rfl (Or.inl rfl) (pe_smeth (pe_glob (v := .ref _) rfl T.m_Ratio rfl) T.s_Ratio_of G_Ratio_of (hr.mono (by decide)) pass0 (pa_cons (pv 1) pa_nil)))
      (pss_one (ps_ret (StX.pe_makeR T.mk_Ratio G_Ratio___init__ (hr.mono (by decide)) rfl T.m_Ratio pass0 (pa_cons (pe_op uMul (pe_fld (pv 0) rfl) (pe_fld (pv 2) rfl)) (pa_cons (pe_op uMul (pe_fld (pv 0) rfl) (pe_fld (pv 2) rfl)) pa_nil)))))), ?_⟩
    refine ⟨rfl, _, rfl, ⟨_, y, rfl, hy, fun b H1 e1 ⟨dy, hb⟩ => ?_⟩⟩
    have ha := e1 _ _ ha
    refine ⟨_, rfl, a, _, dx, _, _, rfl, ha, T.c_Ratio, T.a_Ratio_over, rfl, _, rfl, b, _, dy, _, _, rfl, hb, T.c_Ratio, T.a_Ratio_over, rfl, Or.inl ⟨_, _, rfl, rfl, mul2 (szN zx) (szN zy), ?_⟩⟩
    refine ⟨_, rfl, a, _, dx, _, _, rfl, ha, T.c_Ratio, T.a_Ratio_under, rfl, _, rfl, b, _, dy, _, _, rfl, hb, T.c_Ratio, T.a_Ratio_under, rfl, Or.inl ⟨_, _, rfl, rfl, mul2 (szD zx) (szD zy), fun p dp np nd ne => Or.inl (made np nd (den0 x y) (den2 zx zy) fun H2 e2 r => k p H2 (e1.trans e2) ?_)⟩⟩
    rw [r_mul] at r
    exact r
theorem G_Ratio___lt__ (T : Tx K mg d) : FnR P w K mg base CX0 5 d.Ratio___lt__ (spCmp d.Ratio fun x y => decide (x < y)) := by
  have G_Ratio_of : FnR P w K mg base CX0 4 d.Ratio_of (spOf d.Ratio) := G_Ratio_of T
  have G_Ratio___init__ : FnR P w K mg base CX0 2 d.Ratio___init__ _ := G_Ratio___init__ T
  obtain ⟨fd, F⟩ := T.F_Ratio___lt__
  refine FnR.imp (FnOk.raw (F.ok sc_Ratio___lt__ (k := 4) (sp := spCmp d.Ratio fun x y => decide (x < y)) (fun vs H Q E h => ?_) (fun cdv A outer s H vs Q E hr h => ?_)) (F.binds fun _ _ _ _ _ _ us hl => match us, hl with | [_, _], _ => rfl) .nil) fun vs H Q E h => by rw [List.append_nil]; exact h
  · obtain ⟨a, v, x, y, rfl, _⟩ := h
    rfl
  · obtain ⟨a, v, x, y, rfl, ⟨dx, ha⟩, hy, zx, zy, k⟩ := h
    -- slots: 0 self, 1 other, 2 against
    refine ⟨_, (pss_cons (ps_set (i := 2) sc_Ratio___lt__.nd rfl (Or.inl rfl) (pe_smeth (pe_glob (v := .ref _) rfl T.m_Ratio rfl) T.s_Ratio_of G_Ratio_of (hr.mono (by decide)) pass0 (pa_cons (pv 1) pa_nil)))
      (pss_one (ps_ret (pe_cmpR uLt (pe_op uMul (pe_fld (pv 0) rfl) (pe_fld (pv 2) rfl)) (pe_op uMul (pe_fld (pv 2) rfl) (pe_fld (pv 0) rfl)) (nomark _))))), ?_⟩
    refine ⟨rfl, _, rfl, ⟨_, y, rfl, hy, fun b H1 e1 ⟨dy, hb⟩ => ?_⟩⟩
    have ha := e1 _ _ ha
    refine ⟨_, rfl, a, _, dx, _, _, rfl, ha, T.c_Ratio, T.a_Ratio_over, rfl, _, rfl, b, _, dy, _, _, rfl, hb, T.c_Ratio, T.a_Ratio_under, rfl, Or.inl ⟨_, _, rfl, rfl, mul2 (szN zx) (szD zy), _, rfl, b, _, dy, _, _, rfl, hb, T.c_Ratio, T.a_Ratio_over, rfl, _, rfl, a, _, dx, _, _, rfl, ha, T.c_Ratio, T.a_Ratio_under, rfl, Or.inl ⟨_, _, rfl, rfl, mul2 (szN zy) (szD zx), Or.inl ⟨_, _, rfl, rfl, ?_⟩⟩⟩⟩
    have q : Q (.bl (decide (x < y))) H1 := k H1 e1
    rw [decide_eq_decide.mpr (Rat.lt_iff x y)] at q
    exact q
theorem G_Ratio___le__ (T : Tx K mg d) : FnR P w K mg base CX0 5 d.Ratio___le__ (spCmp d.Ratio fun x y => decide (x ≤ y)) := by
  have G_Ratio_of : FnR P w K mg base CX0 4 d.Ratio_of (spOf d.Ratio) := G_Ratio_of T
  have G_Ratio___init__ : FnR P w K mg base CX0 2 d.Ratio___init__ _ := G_Ratio___init__ T
  obtain ⟨fd, F⟩ := T.F_Ratio___le__
  refine FnR.imp (FnOk.raw (F.ok sc_Ratio___le__ (k := 4) (sp := spCmp d.Ratio fun x y => decide (x ≤ y)) (fun vs H Q E h => ?_) (fun cdv A outer s H vs Q E hr h => ?_)) (F.binds fun _ _ _ _ _ _ us hl => match us, hl with | [_, _], _ => rfl) .nil) fun vs H Q E h => by rw [List.append_nil]; exact h
  · obtain ⟨a, v, x, y, rfl, _⟩ := h
    rfl
  · obtain ⟨a, v, x, y, rfl, ⟨dx, ha⟩, hy, zx, zy, k⟩ := h
    -- slots: 0 self, 1 other, 2 against
    refine ⟨_, (pss_cons (ps_set (i := 2) sc_Ratio___le__.nd rfl (Or.inl rfl) (pe_smeth (pe_glob (v := .ref _) rfl T.m_Ratio rfl) T.s_Ratio_of G_Ratio_of (hr.mono (by decide)) pass0 (pa_cons (pv 1) pa_nil)))
      (pss_one (ps_ret (pe_cmpR uLe (pe_op uMul (pe_fld (pv 0) rfl) (pe_fld (pv 2) rfl)) (pe_op uMul (pe_fld (pv 2) rfl) (pe_fld (pv 0) rfl)) (nomark _))))), ?_⟩
    refine ⟨rfl, _, rfl, ⟨_, y, rfl, hy, fun b H1 e1 ⟨dy, hb⟩ => ?_⟩⟩
    have ha := e1 _ _ ha
    refine ⟨_, rfl, a, _, dx, _, _, rfl, ha, T.c_Ratio, T.a_Ratio_over, rfl, _, rfl, b, _, dy, _, _, rfl, hb, T.c_Ratio, T.a_Ratio_under, rfl, Or.inl ⟨_, _, rfl, rfl, mul2 (szN zx) (szD zy), _, rfl, b, _, dy, _, _, rfl, hb, T.c_Ratio, T.a_Ratio_over, rfl, _, rfl, a, _, dx, _, _, rfl, ha, T.c_Ratio, T.a_Ratio_under, rfl, Or.inl ⟨_, _, rfl, rfl, mul2 (szN zy) (szD zx), Or.inl ⟨_, _, rfl, rfl, ?_⟩⟩⟩⟩
    have q : Q (.bl (decide (x ≤ y))) H1 := k H1 e1
    rw [decide_eq_decide.mpr (Rat.le_iff x y)] at q
    exact q
theorem G_Ratio___gt__ (T : Tx K mg d) : FnR P w K mg base CX0 5 d.Ratio___gt__ (spCmp d.Ratio fun x y => decide (x > y)) := by
  have G_Ratio_of : FnR P w K mg base CX0 4 d.Ratio_of (spOf d.Ratio) := G_Ratio_of T
  have G_Ratio___init__ : FnR P w K mg base CX0 2 d.Ratio___init__ _ := G_Ratio___init__ T
  obtain ⟨fd, F⟩ := T.F_Ratio___gt__
  refine FnR.imp (FnOk.raw (F.ok sc_Ratio___gt__ (k := 4) (sp := spCmp d.Ratio fun x y => decide (x > y)) (fun vs H Q E h => ?_) (fun cdv A outer s H vs Q E hr h => ?_)) (F.binds fun _ _ _ _ _ _ us hl => match us, hl with | [_, _], _ => rfl) .nil) fun vs H Q E h => by rw [List.append_nil]; exact h
  · obtain ⟨a, v, x, y, rfl, _⟩ := h
    rfl
  · obtain ⟨a, v, x, y, rfl, ⟨dx, ha⟩, hy, zx, zy, k⟩ := h
    -- slots: 0 self, 1 other, 2 against
    refine ⟨_, (pss_cons (ps_set (i := 2) sc_Ratio___gt__.nd rfl (Or.inl rfl) (pe_smeth (pe_glob (v := .ref _) rfl T.m_Ratio rfl) T.s_Ratio_of G_Ratio_of (hr.mono (by decide)) pass0 (pa_cons (pv 1) pa_nil)))
      (pss_one (ps_ret (pe_cmpR uGt (pe_op uMul (pe_fld (pv 0) rfl) (pe_fld (pv 2) rfl)) (pe_op uMul (pe_fld (pv 2) rfl) (pe_fld (pv 0) rfl)) (nomark _))))), ?_⟩
    refine ⟨rfl, _, rfl, ⟨_, y, rfl, hy, fun b H1 e1 ⟨dy, hb⟩ => ?_⟩⟩
    have ha := e1 _ _ ha
    refine ⟨_, rfl, a, _, dx, _, _, rfl, ha, T.c_Ratio, T.a_Ratio_over, rfl, _, rfl, b, _, dy, _, _, rfl, hb, T.c_Ratio, T.a_Ratio_under, rfl, Or.inl ⟨_, _, rfl, rfl, mul2 (szN zx) (szD zy), _, rfl, b, _, dy, _, _, rfl, hb, T.c_Ratio, T.a_Ratio_over, rfl, _, rfl, a, _, dx, _, _, rfl, ha, T.c_Ratio, T.a_Ratio_under, rfl, Or.inl ⟨_, _, rfl, rfl, mul2 (szN zy) (szD zx), Or.inl ⟨_, _, rfl, rfl, ?_⟩⟩⟩⟩
    have q : Q (.bl (decide (x > y))) H1 := k H1 e1
    rw [decide_eq_decide.mpr (Rat.lt_iff y x)] at q
    exact q
theorem G_Ratio___ge__ (T : Tx K mg d) : FnR P w K mg base CX0 5 d.Ratio___ge__ (spCmp d.Ratio fun x y => decide (x ≥ y)) := by
  have G_Ratio_of : FnR P w K mg base CX0 4 d.Ratio_of (spOf d.Ratio) := G_Ratio_of T
  have G_Ratio___init__ : FnR P w K mg base CX0 2 d.Ratio___init__ _ := G_Ratio___init__ T
  obtain ⟨fd, F⟩ := T.F_Ratio___ge__
  refine FnR.imp (FnOk.raw (F.ok sc_Ratio___ge__ (k := 4) (sp := spCmp d.Ratio fun x y => decide (x ≥ y)) (fun vs H Q E h => ?_) (fun cdv A outer s H vs Q E hr h => ?_)) (F.binds fun _ _ _ _ _ _ us hl => match us, hl with | [_, _], _ => rfl) .nil) fun vs H Q E h => by rw [List.append_nil]; exact h
  · obtain ⟨a, v, x, y, rfl, _⟩ := h
    rfl
  · obtain ⟨a, v, x, y, rfl, ⟨dx, ha⟩, hy, zx, zy, k⟩ := h
    -- slots: 0 self, 1 other, 2 against
    refine ⟨_, (pss_cons (ps_set (i := 2) sc_Ratio___ge__.nd rfl (Or.inl rfl) (pe_smeth (pe_glob (v := .ref _) rfl T.m_Ratio rfl) T.s_Ratio_of G_Ratio_of (hr.mono (by decide)) pass0 (pa_cons (pv 1) pa_nil)))
      (pss_one (ps_ret (pe_cmpR uGe (pe_op uMul (pe_fld (pv 0) rfl) (pe_fld (pv 2) rfl)) (pe_op uMul (pe_fld (pv 2) rfl) (pe_fld (pv 0) rfl)) (nomark _))))), ?_⟩
    refine ⟨rfl, _, rfl, ⟨_, y, rfl, hy, fun b H1 e1 ⟨dy, hb⟩ => ?_⟩⟩
    have ha := e1 _ _ ha
    refine ⟨_, rfl, a, _, dx, _, _, rfl, ha, T.c_Ratio, T.a_Ratio_over, rfl, _, rfl, b, _, dy, _, _, rfl, hb, T.c_Ratio, T.a_Ratio_under, rfl, Or.inl ⟨_, _, rfl, rfl, mul2 (szN zx) (szD zy), _, rfl, b, _, dy, _, _, rfl, hb, T.c_Ratio, T.a_Ratio_over, rfl, _, rfl, a, _, dx, _, _, rfl, ha, T.c_Ratio, T.a_Ratio_under, rfl, Or.inl ⟨_, _, rfl, rfl, mul2 (szN zy) (szD zx), Or.inl ⟨_, _, rfl, rfl, ?_⟩⟩⟩⟩
    have q : Q (.bl (decide (x ≥ y))) H1 := k H1 e1
    rw [decide_eq_decide.mpr (Rat.le_iff y x)] at q
    exact q
theorem eq_rat {x y : Rat} : (decide (V.int x.num = V.int y.num) && decide (V.int (x.den : Int) = V.int (y.den : Int))) = decide (x = y) := by
  by_cases h : x = y
  · subst h; simp
  · rw [decide_eq_false h]
    by_cases h1 : x.num = y.num
    · have h2 : ¬ (x.den : Int) = y.den := fun e => h (Rat.ext h1 (by omega))
      simp [h2]
    · simp [h1]
theorem eq_int {x : Rat} {j : Int} : (decide (V.int (x.den : Int) = V.int 1) && decide (V.int x.num = V.int j)) = decide (x = (j : Rat)) := by
  have e := eq_rat (x := x) (y := (j : Rat))
  rw [Rat.num_intCast, Rat.den_intCast, Bool.and_comm] at e
  exact e
theorem G_Ratio___eq__ (T : Tx K mg d) : FnR P w K mg base CX0 2 d.Ratio___eq__ (spCmp d.Ratio fun x y => decide (x = y)) := by
  have G_is_integer : FnR P w K mg base CX0 1 d.is_integer (spIsInt K) := G_is_integer T
  obtain ⟨fd, F⟩ := T.F_Ratio___eq__
  refine FnR.imp (FnOk.raw (F.ok sc_Ratio___eq__ (k := 1) (sp := spCmp d.Ratio fun x y => decide (x = y)) (fun vs H Q E h => ?_) (fun cdv A outer s H vs Q E hr h => ?_)) (F.binds fun _ _ _ _ _ _ us hl => match us, hl with | [_, _], _ => rfl) .nil) fun vs H Q E h => by rw [List.append_nil]; exact h
  · obtain ⟨a, v, x, y, rfl, _⟩ := h
    rfl
  · obtain ⟨a, v, x, y, rfl, ⟨dx, ha⟩, hy, _, _, k⟩ := h
    have q : Q (.bl (decide (x = y))) H := k H (Same.refl H)
    -- slots: 0 self, 1 other
    refine ⟨_, (pss_cons (ps_if (pt_val (pe_callB uIsi (by rfl) T.n_isinstance (by decide +kernel) (pa_cons (pv 1) (pa_cons (pe_glob (v := .ref _) rfl T.m_Ratio rfl) pa_nil)))) (pss_one (ps_ret (pe_and (pe_cmpR (uEq hr.units) (pe_fld (pv 0) rfl) (pe_fld (pv 1) rfl) (nomark _)) (pe_one (pe_cmpR (uEq hr.units) (pe_fld (pv 0) rfl) (pe_fld (pv 1) rfl) (nomark _)))))) pss_nil)
      (pss_one (ps_ret (pe_and (pe_fnR G_is_integer (hr.mono (by decide)) T.k_is_integer T.m_is_integer pass0 (pa_cons (pv 1) pa_nil)) (pe_and (pe_cmpR (uEq hr.units) (pe_fld (pv 0) rfl) pe_int (nomark _)) (pe_one (pe_cmpR (uEq hr.units) (pe_fld (pv 0) rfl) (pv 1) (nomark _)))))))), ?_⟩
    rcases hy with ⟨j, rfl, rfl⟩ | ⟨b, rfl, dy, hb⟩
    · rw [← eq_int] at q
      refine ⟨_, rfl, Or.inl ⟨_, _, _, _, false, rfl, .own _, .base (.int j), T.i_int_is_Ratio, false, rfl, iteF ?_⟩⟩
      refine ⟨_, rfl, ⟨_, _, rfl, isI_int T, true, rfl, iteT ?_⟩⟩
      refine ⟨_, rfl, a, _, dx, _, _, rfl, ha, T.c_Ratio, T.a_Ratio_under, rfl, Or.inl ⟨rfl, _, rfl, if2 (fun h1 => ?_) (fun h1 => ?_)⟩⟩
      · rw [h1, Bool.true_and] at q
        exact ⟨_, rfl, a, _, dx, _, _, rfl, ha, T.c_Ratio, T.a_Ratio_over, rfl, _, rfl, Or.inl ⟨rfl, q⟩⟩
      · rw [h1, Bool.false_and] at q
        exact q
    · rw [← eq_rat] at q
      refine ⟨_, rfl, Or.inl ⟨_, _, _, _, true, rfl, .own _, T.y_Ratio.ty T.c_Ratio hb, T.i_Ratio_is_Ratio, true, rfl, iteT ?_⟩⟩
      refine ⟨_, rfl, a, _, dx, _, _, rfl, ha, T.c_Ratio, T.a_Ratio_over, rfl, _, rfl, b, _, dy, _, _, rfl, hb, T.c_Ratio, T.a_Ratio_over, rfl, Or.inl ⟨rfl, _, rfl, if2 (fun h1 => ?_) (fun h1 => ?_)⟩⟩
      · rw [h1, Bool.true_and] at q
        exact ⟨_, rfl, a, _, dx, _, _, rfl, ha, T.c_Ratio, T.a_Ratio_under, rfl, _, rfl, b, _, dy, _, _, rfl, hb, T.c_Ratio, T.a_Ratio_under, rfl, Or.inl ⟨rfl, q⟩⟩
      · rw [h1, Bool.false_and] at q
        exact q
theorem G_Ratio_floor (T : Tx K mg d) : FnR P w K mg base CX0 1 d.Ratio_floor (spFlo d.Ratio Rat.floor) := by
  obtain ⟨fd, F⟩ := T.F_Ratio_floor
  refine FnR.imp (FnOk.raw (F.ok sc_Ratio_floor (k := 0) (sp := spFlo d.Ratio Rat.floor) (fun vs H Q E h => ?_) (fun cdv A outer s H vs Q E hr h => ?_)) (F.binds fun _ _ _ _ _ _ us hl => match us, hl with | [_], _ => rfl) .nil) fun vs H Q E h => by rw [List.append_nil]; exact h
  · obtain ⟨a, x, rfl, _⟩ := h
    rfl
  · obtain ⟨a, x, rfl, ⟨dx, ha⟩, zx, k⟩ := h
    -- slots: 0 self
    refine ⟨_, (pss_one (ps_ret (pe_op uDiv (pe_fld (pv 0) rfl) (pe_fld (pv 0) rfl)))), ?_⟩
    refine ⟨_, rfl, a, _, dx, _, _, rfl, ha, T.c_Ratio, T.a_Ratio_over, rfl, _, rfl, a, _, dx, _, _, rfl, ha, T.c_Ratio, T.a_Ratio_under, rfl, Or.inl ⟨_, _, rfl, rfl, divZ (dne x) (szD zx) (by decide) (by decide), ?_⟩⟩
    rw [← r_floor] at k
    exact k
theorem G_Ratio_ceiling (T : Tx K mg d) : FnR P w K mg base CX0 1 d.Ratio_ceiling (spFlo d.Ratio Rat.ceil) := by
  obtain ⟨fd, F⟩ := T.F_Ratio_ceiling
  refine FnR.imp (FnOk.raw (F.ok sc_Ratio_ceiling (k := 0) (sp := spFlo d.Ratio Rat.ceil) (fun vs H Q E h => ?_) (fun cdv A outer s H vs Q E hr h => ?_)) (F.binds fun _ _ _ _ _ _ us hl => match us, hl with | [_], _ => rfl) .nil) fun vs H Q E h => by rw [List.append_nil]; exact h
  · obtain ⟨a, x, rfl, _⟩ := h
    rfl
  · obtain ⟨a, x, rfl, ⟨dx, ha⟩, zx, k⟩ := h
    -- slots: 0 self
    refine ⟨_, (pss_one (ps_ret (pe_un uNeg (pe_op uDiv (pe_un uNeg (pe_fld (pv 0) rfl)) (pe_fld (pv 0) rfl))))), ?_⟩
    refine ⟨_, rfl, a, _, dx, _, _, rfl, ha, T.c_Ratio, T.a_Ratio_over, rfl, Or.inl ⟨_, rfl, _, rfl, a, _, dx, _, _, rfl, ha, T.c_Ratio, T.a_Ratio_under, rfl, Or.inl ⟨_, _, rfl, rfl, divZ (dne x) (szD zx) (by decide) (by decide), Or.inl ⟨_, rfl, ?_⟩⟩⟩⟩
    rw [← r_ceil] at k
    exact k
end

end AZ
namespace AZ
open PySem L2
/-! ## own operators by the promises of fractions -/
section
variable {X : Cx} {C f : Addr} {k : Nat} {H : Hp} {Q : VK} {a : Addr} {v : V} {x y : Rat}
theorem own_cmp {op : CmpOp} {g : Rat → Rat → Bool} (M : CmpM X.K C op f) (F : FnR X.prog X.w X.K X.mg X.base CX0 k f (spCmp C g)) (hr : Room k X.A) (ha : IsRat C H a x) (hv : Num C H v y) (zx : Sz 2000 x) (zy : Sz 2000 y)
    (q : ∀ H', Same H H' → Q (.bl (g x y)) H') : rOwnC X op (.ref a) v H Q := by
  obtain ⟨dx, h⟩ := id ha
  exact ⟨a, C, dx, _, f, CX0, k, _, E0, rfl, h, hv.right, M, F, hr, pass0, ⟨a, v, x, y, rfl, ha, hv, zx, zy, q⟩⟩
theorem own_bin {op : Operator} {g : Rat → Rat → Rat} (M : BinM X.K C op f) (F : FnR X.prog X.w X.K X.mg X.base CX0 k f (spBin C g)) (hr : Room k X.A) (ha : IsRat C H a x) (hv : Num C H v y) (zx : Sz 2000 x) (zy : Sz 2000 y)
    (q : ∀ p H', Same H H' → IsRat C H' p (g x y) → Q (.ref p) H') : rOwn X op (.ref a) v H Q := by
  obtain ⟨dx, h⟩ := id ha
  exact ⟨a, C, dx, _, f, CX0, k, _, E0, rfl, h, hv.right, M, F, hr, pass0, ⟨a, v, x, y, rfl, ha, hv, zx, zy, q⟩⟩
theorem num_i {j : Int} : Num C H (.int j) (j : Rat) := Or.inl ⟨j, rfl, rfl⟩
theorem num_r (h : IsRat C H a x) : Num C H (.ref a) x := Or.inr ⟨a, rfl, h⟩
end
theorem sz_i {n : Nat} {j : Int} (h : j.natAbs < 2 ^ n) (h0 : 0 < n) : Sz n (j : Rat) := ⟨by rw [Rat.num_intCast]; exact h, by rw [Rat.den_intCast]; exact Nat.one_lt_two_pow (by omega)⟩
theorem sz_sub {n m : Nat} {x y : Rat} (h : Sz n x) (h' : Sz m y) : Sz (n + m + 1) (x - y) := by
  rw [← r_sub]
  refine sz_di (den0 x y) ?_ ?_
  · have a1 := mul_lt2 h.1 h'.2
    have a2 := mul_lt2 h'.1 h.2
    have a3 : (x.num * (y.den : Int) - y.num * (x.den : Int)).natAbs ≤ x.num.natAbs * y.den + y.num.natAbs * x.den := by
      have b1 : (x.num * (y.den : Int)).natAbs = x.num.natAbs * y.den := by rw [Int.natAbs_mul]; rfl
      have b2 : (y.num * (x.den : Int)).natAbs = y.num.natAbs * x.den := by rw [Int.natAbs_mul]; rfl
      omega
    rw [Nat.add_comm m n] at a2
    rw [Nat.pow_succ]
    omega
  · rw [Int.natAbs_mul]
    exact Nat.lt_of_lt_of_le (mul_lt2 h.2 h'.2) (Nat.pow_le_pow_right (by decide) (by omega))
theorem sz_add {n m : Nat} {x y : Rat} (h : Sz n x) (h' : Sz m y) : Sz (n + m + 1) (x + y) := by
  rw [← r_add]
  refine sz_di (den0 x y) ?_ ?_
  · have a1 := mul_lt2 h.1 h'.2
    have a2 := mul_lt2 h'.1 h.2
    have a3 : (x.num * (y.den : Int) + y.num * (x.den : Int)).natAbs ≤ x.num.natAbs * y.den + y.num.natAbs * x.den := by
      have b1 : (x.num * (y.den : Int)).natAbs = x.num.natAbs * y.den := by rw [Int.natAbs_mul]; rfl
      have b2 : (y.num * (x.den : Int)).natAbs = y.num.natAbs * x.den := by rw [Int.natAbs_mul]; rfl
      omega
    rw [Nat.add_comm m n] at a2
    rw [Nat.pow_succ]
    omega
  · rw [Int.natAbs_mul]
    exact Nat.lt_of_lt_of_le (mul_lt2 h.2 h'.2) (Nat.pow_le_pow_right (by decide) (by omega))
theorem sz_mul {n m : Nat} {x y : Rat} (h : Sz n x) (h' : Sz m y) : Sz (n + m) (x * y) := by
  rw [← r_mul]
  refine sz_di (den0 x y) ?_ ?_
  · rw [Int.natAbs_mul]; exact mul_lt2 h.1 h'.1
  · rw [Int.natAbs_mul]; exact mul_lt2 h.2 h'.2
/-! ## roundings -/
/-- the pixel of x -/
def pix (t : Rat) (fr : Bool) (x : Rat) : Int := if fr then (x - t).floor + 1 else (x - t).ceil
theorem fl1 (u : Rat) : (u.floor : Rat) ≤ u := Rat.floor_le u
theorem fl2 (u : Rat) : u < (u.floor : Rat) + 1 := by
  have := Rat.lt_floor_add_one u
  rw [Rat.intCast_add, Rat.intCast_one] at this
  exact this
theorem ce1 (u : Rat) : u ≤ (u.ceil : Rat) := Rat.le_ceil ..
theorem ce2 (u : Rat) : (u.ceil : Rat) < u + 1 := Rat.ceil_lt ..
theorem pix_add (t : Rat) (fr : Bool) (x : Rat) (n : Int) : pix t fr (x + n) = pix t fr x + n := by
  have e : x + n - t = (x - t) + n := by grind
  unfold pix
  rw [e, Rat.floor_add_intCast, Rat.ceil_add_intCast]
  split <;> omega
theorem ceil_mono {x y : Rat} (h : x ≤ y) : x.ceil ≤ y.ceil := Rat.ceil_le_iff.mpr (Rat.le_trans h (ce1 y))
theorem pix_mono {t : Rat} {fr : Bool} {x y : Rat} (h : x ≤ y) : pix t fr x ≤ pix t fr y := by
  have h' : x - t ≤ y - t := by grind
  unfold pix
  split
  · have := Rat.floor_monotone h'
    omega
  · exact ceil_mono h'
theorem behind_before {t x y : Rat} (h : x < y) : (x - t).floor + 1 ≤ (y - t).ceil := by
  have h' : x - t < y - t := by grind
  have h1 : ((x - t).floor : Rat) < y - t := Std.lt_of_le_of_lt (fl1 _) h'
  have := Rat.lt_ceil_iff.mpr h1
  omega
theorem int_den {u : Rat} (h : u.den = 1) : u = (u.num : Rat) := Rat.ext (Rat.num_intCast _).symm (by rw [Rat.den_intCast]; exact h)
theorem step_eq (u : Rat) : u.floor + 1 - u.ceil = if decide (u.den = 1) then 1 else 0 := by
  by_cases h : u.den = 1
  · have e := int_den h
    rw [e, Rat.floor_intCast, Rat.ceil_intCast, Rat.den_intCast]
    simp
    omega
  · simp only [h, decide_false]
    have h1 : u.floor < u.ceil := Rat.lt_ceil_iff.mpr (Std.lt_of_le_of_ne (fl1 u) fun e => h (by rw [← e, Rat.den_intCast]))
    have h2 : u.ceil ≤ u.floor + 1 := Rat.ceil_le_iff.mpr (by rw [Rat.intCast_add, Rat.intCast_one]; have := fl2 u; grind)
    simp
    omega
theorem pix_between (t : Rat) (fr : Bool) (x : Rat) : (x - t).ceil ≤ pix t fr x ∧ pix t fr x ≤ (x - t).floor + 1 := by
  have h := step_eq (x - t)
  have h2 : (x - t).ceil ≤ (x - t).floor + 1 := by split at h <;> omega
  unfold pix
  split <;> omega
theorem pix_lo (t : Rat) (fr : Bool) (x : Rat) : t + (pix t fr x : Rat) - 1 ≤ x := by
  unfold pix
  split
  · have := fl1 (x - t)
    rw [Rat.intCast_add, Rat.intCast_one]; grind
  · have := ce2 (x - t); grind
theorem pix_hi (t : Rat) (fr : Bool) (x : Rat) : x ≤ t + (pix t fr x : Rat) := by
  unfold pix
  split
  · have := fl2 (x - t)
    rw [Rat.intCast_add, Rat.intCast_one]; grind
  · have := ce1 (x - t); grind
theorem pix_lo_ne {t x : Rat} {fr : Bool} (h : x = t + (pix t fr x : Rat) - 1) : fr = true := by
  cases fr with
  | true => rfl
  | false =>
    have := ce2 (x - t)
    simp [pix] at h
    grind
theorem pix_hi_ne {t x : Rat} {fr : Bool} (h : x = t + (pix t fr x : Rat)) : fr = false := by
  cases fr with
  | false => rfl
  | true =>
    have := fl2 (x - t)
    simp [pix, Rat.intCast_add] at h
    grind
theorem pix_gap {t x : Rat} {fr : Bool} {n : Int} (h0 : 0 ≤ t) (h1 : t ≤ 1) (hn : 1 ≤ n) : 1 - n ≤ n * pix t fr x - pix t fr (x * n) ∧ n * pix t fr x - pix t fr (x * n) ≤ n - 1 := by
  have hn' : (1 : Rat) ≤ (n : Rat) := by have := Rat.intCast_le_intCast.mpr hn; simpa using this
  have a1 := pix_lo t fr x
  have a2 := pix_hi t fr x
  have b1 := pix_lo t fr (x * n)
  have b2 := pix_hi t fr (x * n)
  have c1 : 0 ≤ ((n : Rat) - 1) * t := Rat.mul_nonneg (by grind) h0
  have c2 : 0 ≤ ((n : Rat) - 1) * (1 - t) := Rat.mul_nonneg (by grind) (by grind)
  have d1 : 0 ≤ (n : Rat) * (x - (t + (pix t fr x : Rat) - 1)) := Rat.mul_nonneg (by grind) (by grind)
  have d2 : 0 ≤ (n : Rat) * (t + (pix t fr x : Rat) - x) := Rat.mul_nonneg (by grind) (by grind)
  have e1 : (-(n : Rat)) < (n : Rat) * (pix t fr x : Rat) - (pix t fr (x * n) : Rat) := by
    cases fr with
    | true =>
      have s : 0 < (n : Rat) * (t + (pix t true x : Rat) - x) := Rat.mul_pos (by grind) (by
        have : x ≠ t + (pix t true x : Rat) := fun e => by have := pix_hi_ne e; cases this
        grind)
      grind
    | false =>
      have s : x * n ≠ t + (pix t false (x * n) : Rat) - 1 := fun e => by have := pix_lo_ne e; cases this
      grind
  have e2 : (n : Rat) * (pix t fr x : Rat) - (pix t fr (x * n) : Rat) < (n : Rat) := by
    cases fr with
    | true =>
      have s : x * n ≠ t + (pix t true (x * n) : Rat) := fun e => by have := pix_hi_ne e; cases this
      grind
    | false =>
      have s : 0 < (n : Rat) * (x - (t + (pix t false x : Rat) - 1)) := Rat.mul_pos (by grind) (by
        have : x ≠ t + (pix t false x : Rat) - 1 := fun e => by have := pix_lo_ne e; cases this
        grind)
      grind
  have f : (n : Rat) * (pix t fr x : Rat) - (pix t fr (x * n) : Rat) = ((n * pix t fr x - pix t fr (x * n) : Int) : Rat) := by
    rw [Rat.intCast_sub, Rat.intCast_mul]
  rw [f] at e1 e2
  rw [← Rat.intCast_neg] at e1
  have g1 := Rat.intCast_lt_intCast.mp e1
  have g2 := Rat.intCast_lt_intCast.mp e2
  omega
theorem rat_abs {x : Rat} {N : Int} (h : x.num.natAbs ≤ N.natAbs) (h0 : 0 ≤ N) : -(N : Rat) ≤ x ∧ x ≤ (N : Rat) := by
  have d : (1 : Int) ≤ (x.den : Int) := dpos x
  have m : N ≤ N * (x.den : Int) := by
    have := Int.mul_le_mul_of_nonneg_left d h0
    omega
  refine ⟨?_, ?_⟩
  · rw [← Rat.intCast_neg, Rat.le_iff, Rat.num_intCast, Rat.den_intCast]
    have : -N * (x.den : Int) = -(N * (x.den : Int)) := Int.neg_mul ..
    omega
  · rw [Rat.le_iff, Rat.num_intCast, Rat.den_intCast]
    omega
theorem pix_abs {t x : Rat} {fr : Bool} {N : Int} (h0 : 0 ≤ t) (h1 : t ≤ 1) (h : x.num.natAbs ≤ N.natAbs) (hN : 0 ≤ N) : (pix t fr x).natAbs ≤ N.natAbs + 1 := by
  obtain ⟨a1, a2⟩ := rat_abs h hN
  have b1 := pix_lo t fr x
  have b2 := pix_hi t fr x
  have c1 : (pix t fr x : Rat) ≤ ((N + 1 : Int) : Rat) := by rw [Rat.intCast_add, Rat.intCast_one]; grind
  have c2 : ((-(N + 1) : Int) : Rat) ≤ (pix t fr x : Rat) := by rw [Rat.intCast_neg, Rat.intCast_add, Rat.intCast_one]; grind
  have d1 := Rat.intCast_le_intCast.mp c1
  have d2 := Rat.intCast_le_intCast.mp c2
  omega
/-- what a rounding is -/
structure RndOk (t : Rat) (fr : Bool) : Prop where
  sz : Sz 900 t
  lo : 0 ≤ t
  hi : t ≤ 1
  f : fr = true → t ≠ 0
  a : fr = false → t ≠ 1
def IsRnd (C D : Addr) (H : Hp) (a : Addr) (t : Rat) (fr : Bool) : Prop := RndOk t fr ∧ ∃ dx b, H a = some (.ins D dx [("threshold", .ref b), ("is_from", .bl fr)]) ∧ IsRat C H b t
theorem IsRnd.up {C D p a : Addr} {H H' : Hp} {t : Rat} {fr : Bool} (h : IsRnd C D H a t fr) (e : Up p H H') : IsRnd C D H' a t fr := let ⟨o, dx, b, x, y⟩ := h; ⟨o, dx, b, e.ins x, y.up e⟩
theorem IsRnd.same {C D a : Addr} {H H' : Hp} {t : Rat} {fr : Bool} (h : IsRnd C D H a t fr) (e : Same H H') : IsRnd C D H' a t fr := let ⟨o, dx, b, x, y⟩ := h; ⟨o, dx, b, e _ _ x, y.same e⟩
def spRInit (C D : Addr) : Sp := fun vs H Q _ => ∃ (p dx : Addr) (a : Addr) (t : Rat) (fr : Bool), vs = [.ref p, .ref a, .bl fr] ∧ H p = some (.ins D dx []) ∧ IsRat C H a t ∧ RndOk t fr ∧
  ∀ H', (∀ x o, H x = some o → x ≠ p → H' x = some o) → IsRnd C D H' p t fr → Q .non H'
theorem rmade {C D x dx a : Addr} {t : Rat} {fr : Bool} {H : Hp} {Q : VK} {E : XK} (nx : H x = none) (nd : H dx = none) (ha : IsRat C H a t) (ok : RndOk t fr) (k : ∀ H', Same H H' → IsRnd C D H' x t fr → Q (.ref x) H') :
    spRInit C D [.ref x, .ref a, .bl fr] (upd (upd H dx (.own x)) x (.ins D dx [])) (fun v H2 => v = .non ∧ Q (.ref x) H2) E := by
  refine ⟨x, dx, a, t, fr, rfl, upd_same, ?_, ok, fun H' kp r => ⟨rfl, k H' (Same.made nx nd kp) r⟩⟩
  obtain ⟨da, h⟩ := ha
  exact ⟨da, by rw [upd_ne (ne_of_none h nx), upd_ne (ne_of_none h nd)]; exact h⟩
def spRnd (C D : Addr) (g : Rat → Bool → Rat → Int) : Sp := fun vs H Q _ => ∃ (r : Addr) (v : V) (t : Rat) (fr : Bool) (x : Rat), vs = [.ref r, v] ∧ IsRnd C D H r t fr ∧ Num C H v x ∧ Sz 900 x ∧ ∀ H', Same H H' → Q (.int (g t fr x)) H'
def spStep (C D : Addr) : Sp := fun vs H Q _ => ∃ (r : Addr) (v : V) (t : Rat) (fr : Bool) (x : Rat), vs = [.ref r, v] ∧ IsRnd C D H r t fr ∧ Num C H v x ∧ Sz 900 x ∧ ∀ H', Same H H' → Q (.bl (decide ((x - t).den = 1))) H'
def spPlaces (C D : Addr) : Sp := fun vs H Q _ => ∃ (r : Addr) (n : Int) (t : Rat) (fr : Bool), vs = [.ref r, .int n] ∧ IsRnd C D H r t fr ∧ n.natAbs < 2 ^ 900 ∧
  ∀ (p l h : Addr) (H' : Hp), Same H H' → H' p = some (.tup [.ref l, .bl fr, .ref h, .bl (!fr)]) → IsRat C H' l (t + n - 1) → IsRat C H' h (t + n) → Q (.ref p) H'
section
variable {P : Program} {w : World} {K : PySem.W.Frag} {mg : Str → Option Value} {base : Heap} {d : Ad}
theorem G_is_number (T : Tx K mg d) : FnR P w K mg base CX0 2 d.is_number (spIsNum K d.Ratio) := by
  have G_is_integer : FnR P w K mg base CX0 1 d.is_integer (spIsInt K) := G_is_integer T
  obtain ⟨fd, F⟩ := T.F_is_number
  refine FnR.imp (FnOk.raw (F.ok sc_is_number (k := 1) (sp := spIsNum K d.Ratio) (fun vs H Q E h => ?_) (fun cdv A outer s H vs Q E hr h => ?_)) (F.binds fun _ _ _ _ _ _ us hl => match us, hl with | [_], _ => rfl) .nil) fun vs H Q E h => by rw [List.append_nil]; exact h
  · obtain ⟨x, q, rfl, _⟩ := h
    rfl
  · obtain ⟨v, q, rfl, hv, k⟩ := h
    -- slots: 0 value
    refine ⟨_, (pss_one (ps_ret (pe_or (pe_fnR G_is_integer (hr.mono (by decide)) T.k_is_integer T.m_is_integer pass0 (pa_cons (pv 0) pa_nil)) (pe_one (pe_callB uIsi (by rfl) T.n_isinstance (by decide +kernel) (pa_cons (pv 0) (pa_cons (pe_glob (v := .ref _) rfl T.m_Ratio rfl) pa_nil))))))), ?_⟩
    rcases hv with ⟨i, rfl, rfl⟩ | ⟨a, rfl, dx, ha⟩
    · exact ⟨_, rfl, ⟨_, _, rfl, isI_int T, true, rfl, iteT k⟩⟩
    · exact ⟨_, rfl, ⟨_, _, rfl, isI_rat T ⟨dx, ha⟩, false, rfl, iteF ⟨_, rfl, Or.inl ⟨_, _, _, _, true, rfl, .own _, T.y_Ratio.ty T.c_Ratio ha, T.i_Ratio_is_Ratio, k⟩⟩⟩⟩
theorem G_fraction_of (T : Tx K mg d) : FnR P w K mg base CX0 5 d.fraction_of (spOf d.Ratio) := by
  have G_is_number : FnR P w K mg base CX0 2 d.is_number (spIsNum K d.Ratio) := G_is_number T
  have G_Ratio_of : FnR P w K mg base CX0 4 d.Ratio_of (spOf d.Ratio) := G_Ratio_of T
  obtain ⟨fd, F⟩ := T.F_fraction_of
  refine FnR.imp (FnOk.raw (F.ok sc_fraction_of (k := 4) (sp := spOf d.Ratio) (fun vs H Q E h => ?_) (fun cdv A outer s H vs Q E hr h => ?_)) (F.binds fun _ _ _ _ _ _ us hl => match us, hl with | [_], _ => rfl) .nil) fun vs H Q E h => by rw [List.append_nil]; exact h
  · obtain ⟨v, q, rfl, _⟩ := h
    rfl
  · obtain ⟨v, q, rfl, hv, k⟩ := h
    -- slots: 0 number
    refine ⟨_, (pss_cons (ps_if (pt_not (pt_val (pe_fnR G_is_number (hr.mono (by decide)) T.k_is_number T.m_is_number pass0 (pa_cons (pv 0) pa_nil)))) pss_never pss_nil)
      (pss_one (ps_ret (pe_smeth (pe_glob (v := .ref _) rfl T.m_Ratio rfl) T.s_Ratio_of G_Ratio_of (hr.mono (by decide)) pass0 (pa_cons (pv 0) pa_nil))))), ?_⟩
    refine ⟨_, rfl, ⟨_, q, rfl, hv, true, rfl, iteF ?_⟩⟩
    exact ⟨rfl, _, rfl, ⟨_, q, rfl, hv, k⟩⟩
theorem sz8 {n : Nat} {x : Rat} (h : Sz n x) (e : n ≤ 8000) : Sz 8000 x := h.mono e
def spDrawnAt (C D : Addr) : Sp := fun vs H Q _ => ∃ (r a : Addr) (t : Rat) (fr : Bool) (x : Rat), vs = [.ref r, .ref a] ∧ IsRnd C D H r t fr ∧ IsRat C H a x ∧ Sz 900 x ∧ ∀ H', Same H H' → Q (.int (pix t fr x)) H'
theorem G_Rounding_drawn_at (T : Tx K mg d) : FnR P w K mg base CX0 6 d.Rounding_drawn_at (spDrawnAt d.Ratio d.Rounding) := by
  have G_sub : FnR P w K mg base CX0 5 d.Ratio___sub__ (spBin d.Ratio (· - ·)) := G_Ratio___sub__ T
  have G_Ratio_floor : FnR P w K mg base CX0 1 d.Ratio_floor (spFlo d.Ratio Rat.floor) := G_Ratio_floor T
  have G_Ratio_ceiling : FnR P w K mg base CX0 1 d.Ratio_ceiling (spFlo d.Ratio Rat.ceil) := G_Ratio_ceiling T
  obtain ⟨fd, F⟩ := T.F_Rounding_drawn_at
  refine FnR.imp (FnOk.raw (F.ok sc_Rounding_drawn_at (k := 5) (sp := spDrawnAt d.Ratio d.Rounding) (fun vs H Q E h => ?_) (fun cdv A outer s H vs Q E hr h => ?_)) (F.binds fun _ _ _ _ _ _ us hl => match us, hl with | [_, _], _ => rfl) .nil) fun vs H Q E h => by rw [List.append_nil]; exact h
  · obtain ⟨r, a, t, fr, x, rfl, _⟩ := h
    rfl
  · obtain ⟨r, a, t, fr, x, rfl, ⟨ok, dr, b, hR, hb⟩, ha, zx, k⟩ := h
    -- slots: 0 self, 1 number, 2 place
    refine ⟨_, (pss_cons (ps_set (i := 2) sc_Rounding_drawn_at.nd rfl (Or.inl rfl) (pe_op uSub (pv 1) (pe_fld (pv 0) rfl)))
      (pss_one (ps_ret (pe_ifExp (pt_val (pe_fld (pv 0) rfl)) (pe_op uAdd (pe_mR0 (pv 2) T.c_Ratio T.h_Ratio_floor G_Ratio_floor (hr.mono (by decide)) pass0) pe_int) (pe_mR0 (pv 2) T.c_Ratio T.h_Ratio_ceiling G_Ratio_ceiling (hr.mono (by decide)) pass0))))), ?_⟩
    refine ⟨_, rfl, _, rfl, r, _, dr, _, _, rfl, hR, T.c_Rounding, T.a_Rounding_threshold, rfl, Or.inr (own_bin T.b_Ratio_sub G_sub (hr.mono (by decide)) ha (num_r hb) (zx.mono (by decide)) (ok.sz.mono (by decide)) fun p H1 e1 hp => ?_)⟩
    have zp : Sz 8000 (x - t) := (sz_sub zx ok.sz).mono (by decide)
    obtain ⟨dp, hpp⟩ := id hp
    have hR1 := e1 _ _ hR
    refine ⟨_, rfl, r, _, dr, _, _, rfl, hR1, T.c_Rounding, T.a_Rounding_is_from, rfl, _, rfl, if2 (fun h => ?_) (fun h => ?_)⟩
    · subst h
      exact ⟨_, rfl, p, dp, _, rfl, hpp, rfl, ⟨p, _, rfl, hp, zp, Or.inl ⟨_, _, rfl, rfl, k H1 e1⟩⟩⟩
    · subst h
      exact ⟨_, rfl, p, dp, _, rfl, hpp, rfl, ⟨p, _, rfl, hp, zp, k H1 e1⟩⟩
theorem G_Rounding___call__ (T : Tx K mg d) : FnR P w K mg base CX0 7 d.Rounding___call__ (spRnd d.Ratio d.Rounding pix) := by
  have G_fraction_of : FnR P w K mg base CX0 5 d.fraction_of (spOf d.Ratio) := G_fraction_of T
  have G_Rounding_drawn_at : FnR P w K mg base CX0 6 d.Rounding_drawn_at (spDrawnAt d.Ratio d.Rounding) := G_Rounding_drawn_at T
  obtain ⟨fd, F⟩ := T.F_Rounding___call__
  refine FnR.imp (FnOk.raw (F.ok sc_Rounding___call__ (k := 6) (sp := spRnd d.Ratio d.Rounding pix) (fun vs H Q E h => ?_) (fun cdv A outer s H vs Q E hr h => ?_)) (F.binds fun _ _ _ _ _ _ us hl => match us, hl with | [_, _], _ => rfl) .nil) fun vs H Q E h => by rw [List.append_nil]; exact h
  · obtain ⟨r, v, t, fr, x, rfl, _⟩ := h
    rfl
  · obtain ⟨r, v, t, fr, x, rfl, hR, hv, zx, k⟩ := h
    obtain ⟨ok, dr, b, hr1, hb⟩ := id hR
    -- slots: 0 self, 1 number
    refine ⟨_, (pss_one (ps_ret (pe_mR (pv 0) T.c_Rounding T.h_Rounding_drawn_at G_Rounding_drawn_at (hr.mono (by decide)) pass0 (pa_cons (pe_fnR G_fraction_of (hr.mono (by decide)) T.k_fraction_of T.m_fraction_of pass0 (pa_cons (pv 1) pa_nil)) pa_nil)))), ?_⟩
    refine ⟨_, rfl, r, dr, _, rfl, hr1, rfl, _, rfl, ⟨_, x, rfl, hv, fun p H1 e1 hp => ?_⟩⟩
    exact ⟨r, p, t, fr, x, rfl, hR.same e1, hp, zx, fun H2 e2 => k H2 (e1.trans e2)⟩
theorem G_Rounding_behind (T : Tx K mg d) : FnR P w K mg base CX0 7 d.Rounding_behind (spRnd d.Ratio d.Rounding fun t _ x => (x - t).floor + 1) := by
  have G_fraction_of : FnR P w K mg base CX0 5 d.fraction_of (spOf d.Ratio) := G_fraction_of T
  have G_sub : FnR P w K mg base CX0 5 d.Ratio___sub__ (spBin d.Ratio (· - ·)) := G_Ratio___sub__ T
  have G_Ratio_floor : FnR P w K mg base CX0 1 d.Ratio_floor (spFlo d.Ratio Rat.floor) := G_Ratio_floor T
  obtain ⟨fd, F⟩ := T.F_Rounding_behind
  refine FnR.imp (FnOk.raw (F.ok sc_Rounding_behind (k := 6) (sp := spRnd d.Ratio d.Rounding fun t _ x => (x - t).floor + 1) (fun vs H Q E h => ?_) (fun cdv A outer s H vs Q E hr h => ?_)) (F.binds fun _ _ _ _ _ _ us hl => match us, hl with | [_, _], _ => rfl) .nil) fun vs H Q E h => by rw [List.append_nil]; exact h
  · obtain ⟨r, v, t, fr, x, rfl, _⟩ := h
    rfl
  · obtain ⟨r, v, t, fr, x, rfl, hR, hv, zx, k⟩ := h
    -- slots: 0 self, 1 number
    refine ⟨_, (pss_one (ps_ret (pe_op uAdd (pe_mR0 (pe_op uSub (pe_fnR G_fraction_of (hr.mono (by decide)) T.k_fraction_of T.m_fraction_of pass0 (pa_cons (pv 1) pa_nil)) (pe_fld (pv 0) rfl)) T.c_Ratio T.h_Ratio_floor G_Ratio_floor (hr.mono (by decide)) pass0) pe_int))), ?_⟩
    refine ⟨_, rfl, ⟨_, x, rfl, hv, fun a H1 e1 ha => ?_⟩⟩
    obtain ⟨ok, dr, b, hr1, hb⟩ := hR.same e1
    refine ⟨_, rfl, r, _, dr, _, _, rfl, hr1, T.c_Rounding, T.a_Rounding_threshold, rfl, Or.inr (own_bin T.b_Ratio_sub G_sub (hr.mono (by decide)) ha (num_r hb) (zx.mono (by decide)) (ok.sz.mono (by decide)) fun p H2 e2 hp => ?_)⟩
    obtain ⟨dp, hpp⟩ := id hp
    exact ⟨p, dp, _, rfl, hpp, rfl, ⟨p, _, rfl, hp, (sz_sub zx ok.sz).mono (by decide), Or.inl ⟨_, _, rfl, rfl, k H2 (e1.trans e2)⟩⟩⟩
theorem one_den {x : Rat} : decide (V.int (x.den : Int) = V.int 1) = decide (x.den = 1) := by
  by_cases h : x.den = 1
  · simp [h]
  · have : ¬ (x.den : Int) = 1 := by omega
    simp [h, this]
theorem G_Rounding___init__ (T : Tx K mg d) : FnR P w K mg base CX0 6 d.Rounding___init__ (fun vs H Q E => spRInit d.Ratio d.Rounding vs H Q E ∨ spRInit d.Ratio d.Rounding (vs ++ [.bl true]) H Q E) := by
  obtain ⟨fd, F⟩ := T.D_Rounding___init__
  have G_is_number : FnR P w K mg base CX0 2 d.is_number (spIsNum K d.Ratio) := G_is_number T
  have G_lt : FnR P w K mg base CX0 5 d.Ratio___lt__ (spCmp d.Ratio fun x y => decide (x < y)) := G_Ratio___lt__ T
  have G_gt : FnR P w K mg base CX0 5 d.Ratio___gt__ (spCmp d.Ratio fun x y => decide (x > y)) := G_Ratio___gt__ T
  have G_eq : FnR P w K mg base CX0 2 d.Ratio___eq__ (spCmp d.Ratio fun x y => decide (x = y)) := G_Ratio___eq__ T
  have G_Ratio_of : FnR P w K mg base CX0 4 d.Ratio_of (spOf d.Ratio) := G_Ratio_of T
  have G : FnOk P w K mg base CX0 6 d.Rounding___init__ fd ["self", "threshold", "is_from"] (spRInit d.Ratio d.Rounding) := by
    refine F.ok sc_Rounding___init__ (fun vs H Q E h => ?_) (fun cdv A outer s H vs Q E hr h => ?_)
    · obtain ⟨p, dx, a, t, fr, rfl, _⟩ := h
      rfl
    obtain ⟨p, dx, a, t, fr, rfl, hp, ha, ok, k⟩ := h
    have zt : Sz 2000 t := ok.sz.mono (by decide)
    have z0 : Sz 2000 ((0 : Int) : Rat) := sz_i (by decide) (by decide)
    have z1 : Sz 2000 ((1 : Int) : Rat) := sz_i (by decide) (by decide)
    -- slots: 0 self, 1 threshold, 2 is_from
    refine ⟨_, (pss_cons (ps_if (PW.pt (pw_or (pt_not (pt_val (pe_fnR G_is_number (hr.mono (by decide)) T.k_is_number T.m_is_number pass0 (pa_cons (pv 1) pa_nil)))) (pw_or (pt_cmpR uLt (pv 1) pe_int (nomark _)) (pw_or1 (pt_cmpR uGt (pv 1) pe_int (nomark _)))))) pss_never pss_nil)
      (pss_cons (ps_if (pt_not (pt_val (pe_callB uIsi (by rfl) T.n_isinstance (by decide +kernel) (pa_cons (pv 2) (pa_cons (pe_bltn (v := .ty "bool") (by rfl) T.n_bool (by decide +kernel) rfl) pa_nil))))) pss_never pss_nil)
      (pss_cons (ps_if (pt_cmpR (uEq hr.units) (pv 1) (pe_ifExp (pt_val (pv 2)) pe_int pe_int) (nomark _)) pss_never pss_nil)
      (pss_cons (ps_fld (pv 0) (pe_smeth (pe_glob (v := .ref _) rfl T.m_Ratio rfl) T.s_Ratio_of G_Ratio_of (hr.mono (by decide)) pass0 (pa_cons (pv 1) pa_nil)) rfl)
      (pss_one (ps_fld (pv 0) (pv 2) rfl)))))), ?_⟩
    refine ⟨_, rfl, ⟨_, t, rfl, num_r ha, true, rfl, iteF ?_⟩⟩
    refine ⟨_, rfl, Or.inr (own_cmp T.q_Ratio_lt G_lt (hr.mono (by decide)) ha num_i zt z0 fun H1 e1 => ⟨_, rfl, ifF ?_ ?_⟩)⟩
    · exact decide_eq_false (by have := ok.lo; grind)
    refine ⟨_, rfl, Or.inr (own_cmp T.q_Ratio_gt G_gt (hr.mono (by decide)) (ha.same e1) num_i zt z1 fun H2 e2 => ⟨_, rfl, ifF ?_ ?_⟩)⟩
    · exact decide_eq_false (by have := ok.hi; grind)
    refine ⟨_, rfl, Or.inl ⟨_, _, _, _, true, rfl, .ty _, .base (.bl fr), T.i_bool_is_bool, true, rfl, iteF ?_⟩⟩
    have e12 := e1.trans e2
    have fin : ∀ H3, Same H H3 → ∀ b H4, Same H3 H4 → IsRat d.Ratio H4 b t → H4 p = some (.ins d.Rounding dx []) ∧ Q V.non (upd (upd H4 p (.ins d.Rounding dx [("threshold", .ref b)])) p (.ins d.Rounding dx [("threshold", .ref b), ("is_from", .bl fr)])) := fun H3 e3 b H4 e4 hb => by
      have hp4 : H4 p = some (.ins d.Rounding dx []) := e4 _ _ (e3 _ _ hp)
      obtain ⟨db, hb4⟩ := hb
      have hbp : b ≠ p := ne_of hb4 hp4 (by intro z; injection z with z1 z2 z3; cases z3)
      refine ⟨hp4, k _ (fun z o e n => by rw [upd_ne n, upd_ne n]; exact e4 _ _ (e3 _ _ e)) ⟨ok, dx, b, upd_same, db, by rw [upd_ne hbp, upd_ne hbp]; exact hb4⟩⟩
    refine ⟨_, rfl, _, rfl, _, rfl, if2 (fun hf => ?_) (fun hf => ?_)⟩
    · refine Or.inr (Or.inl (own_cmp T.q_Ratio_eq G_eq (hr.mono (by decide)) (ha.same e12) num_i zt z0 fun H3 e3 => ⟨_, rfl, ifF ?_ ?_⟩))
      · exact decide_eq_false (by have := ok.f hf; grind)
      refine ⟨rfl, _, rfl, ⟨_, t, rfl, num_r ((ha.same e12).same e3), fun b H4 e4 hb => ?_⟩⟩
      obtain ⟨h4, q⟩ := fin H3 (e12.trans e3) b H4 e4 hb
      refine ⟨_, rfl, p, _, dx, _, rfl, h4, T.c_Rounding, T.a_Rounding_threshold, (by show 0 < 1000; decide), ?_⟩
      exact ⟨_, rfl, _, rfl, p, _, dx, _, rfl, upd_same, T.c_Rounding, T.a_Rounding_is_from, (by show 1 < 1000; decide), q⟩
    · refine Or.inr (Or.inl (own_cmp T.q_Ratio_eq G_eq (hr.mono (by decide)) (ha.same e12) num_i zt z1 fun H3 e3 => ⟨_, rfl, ifF ?_ ?_⟩))
      · exact decide_eq_false (by have := ok.a hf; grind)
      refine ⟨rfl, _, rfl, ⟨_, t, rfl, num_r ((ha.same e12).same e3), fun b H4 e4 hb => ?_⟩⟩
      obtain ⟨h4, q⟩ := fin H3 (e12.trans e3) b H4 e4 hb
      refine ⟨_, rfl, p, _, dx, _, rfl, h4, T.c_Rounding, T.a_Rounding_threshold, (by show 0 < 1000; decide), ?_⟩
      exact ⟨_, rfl, _, rfl, p, _, dx, _, rfl, upd_same, T.c_Rounding, T.a_Rounding_is_from, (by show 1 < 1000; decide), q⟩
  obtain ⟨ds0, r0, b0⟩ := F.binds1 (ps := ["self", "threshold", "is_from"]) 3 1 (by simp) rfl fun T kV doc pm an cdv ct us its h1 h2 => match us, its, h1, h2 with
    | [_, _, _], [_], _, _ => ⟨_, rfl, by dsimp only; rfl⟩
  obtain ⟨ds1, r1, b1⟩ := F.binds1 (ps := ["self", "threshold", "is_from"]) 2 0 (by simp) rfl fun T kV doc pm an cdv ct us its h1 h2 => match us, its, h1, h2 with
    | [_, _], [_], _, _ => ⟨_, rfl, by dsimp only; rfl⟩
  exact FnR.or ((FnOk.raw G b0 r0).imp fun vs H Q E h => by rw [show vs ++ List.drop 1 [V.bl true] = vs from List.append_nil vs]; exact h) (FnOk.raw G b1 r1)
end

end AZ
namespace AZ
open PySem L2
/-! ## fractions and roundings, further -/
def spNeg (C : Addr) : Sp := fun vs H Q _ => ∃ a x, vs = [.ref a] ∧ IsRat C H a x ∧ Sz 2000 x ∧ ∀ p H', Same H H' → IsRat C H' p (-x) → Q (.ref p) H'
def spRSub (C : Addr) : Sp := fun vs H Q _ => ∃ (a : Addr) (j : Int) (x : Rat), vs = [.ref a, .int j] ∧ IsRat C H a x ∧ Sz 2000 x ∧ j.natAbs < 2 ^ 2000 ∧ ∀ p H', Same H H' → IsRat C H' p ((j : Rat) - x) → Q (.ref p) H'
def spInv (C D : Addr) : Sp := fun vs H Q _ => ∃ (r : Addr) (t : Rat) (fr : Bool), vs = [.ref r] ∧ IsRnd C D H r t fr ∧ Sz 890 t ∧ ∀ p H', Same H H' → IsRnd C D H' p (1 - t) (!fr) → Q (.ref p) H'
theorem eapp (x : Str) : Str.empty ++ x = x := Str.ext' (by show (#[] : Array _) ++ x.cps = x.cps; simp)
theorem slen (x y : Str) : (x ++ y).length = x.length + y.length := by
  show (x.cps ++ y.cps).size = _
  simp [Str.length]
/-- how a fraction is written -/
def ratS (x : Rat) : Str := if (x.den : Int) = 1 then Str.ofString (toString x.num) else Str.ofString (toString x.num) ++ "/" ++ Str.ofString (toString (x.den : Int))
def spStr (C : Addr) : Sp := fun vs H Q _ => ∃ a x, vs = [.ref a] ∧ IsRat C H a x ∧ Sz 1900 x ∧ Q (.str (ratS x)) H
theorem ratS_len {x : Rat} (zx : Sz 1900 x) : (ratS x).length ≤ 3843 := by
  have zn : x.num.natAbs.log2 < 1920 := Nat.lt_of_lt_of_le (PySem.Flt.log2_lt_of (by decide) zx.1) (by decide)
  have zd : (x.den : Int).natAbs.log2 < 1920 := Nat.lt_of_lt_of_le (PySem.Flt.log2_lt_of (by decide) (szD zx)) (by decide)
  have l1 := PyProof.Rows.int_text_len_1921 zn
  have l2 := PyProof.Rows.int_text_len_1921 zd
  unfold ratS
  split
  · exact Nat.le_trans l1 (by decide)
  · rw [slen, slen]
    exact Nat.add_le_add (Nat.add_le_add l1 (Nat.le_refl 1)) l2
/-- how a rounding is written -/
def rndS (t : Rat) (fr : Bool) : Str := (if fr then ("from " : Str) else "above ") ++ ratS t
def spRStr (C D : Addr) : Sp := fun vs H Q _ => ∃ (r : Addr) (t : Rat) (fr : Bool), vs = [.ref r] ∧ IsRnd C D H r t fr ∧ Q (.str (rndS t fr)) H
def spREq (C D : Addr) : Sp := fun vs H Q _ => ∃ (r q : Addr) (t u : Rat) (fr gr : Bool), vs = [.ref r, .ref q] ∧ IsRnd C D H r t fr ∧ IsRnd C D H q u gr ∧ ∀ H', Same H H' → Q (.bl (decide (t = u) && decide (V.bl fr = V.bl gr))) H'
theorem mirror {t : Rat} {fr : Bool} (h : RndOk t fr) (z : Sz 890 t) : RndOk (1 - t) (!fr) := by
  have h0 := h.lo
  have h1 := h.hi
  refine ⟨(sz_sub (n := 1) (m := 890) ⟨by decide, by decide⟩ z).mono (by decide), by grind, by grind, fun e n => ?_, fun e n => ?_⟩
  · have hf : fr = false := by cases fr <;> simp_all
    exact h.a hf (by grind)
  · have hf : fr = true := by cases fr <;> simp_all
    exact h.f hf (by grind)
section
variable {P : Program} {w : World} {K : PySem.W.Frag} {mg : Str → Option Value} {base : Heap} {d : Ad}
theorem G_Ratio___neg__ (T : Tx K mg d) : FnR P w K mg base CX0 4 d.Ratio___neg__ (spNeg d.Ratio) := by
  have G_Ratio___init__ : FnR P w K mg base CX0 2 d.Ratio___init__ _ := G_Ratio___init__ T
  obtain ⟨fd, F⟩ := T.F_Ratio___neg__
  refine FnR.imp (FnOk.raw (F.ok sc_Ratio___neg__ (k := 3) (sp := spNeg d.Ratio) (fun vs H Q E h => ?_) (fun cdv A outer s H vs Q E hr h => ?_)) (F.binds fun _ _ _ _ _ _ us hl => match us, hl with | [_], _ => rfl) .nil) fun vs H Q E h => by rw [List.append_nil]; exact h
  · obtain ⟨a, x, rfl, _⟩ := h
    rfl
  · obtain ⟨a, x, rfl, ⟨dx, ha⟩, zx, k⟩ := h
    -- slots: 0 self
    refine ⟨_, (pss_one (ps_ret (StX.pe_makeR T.mk_Ratio G_Ratio___init__ (hr.mono (by decide)) rfl T.m_Ratio pass0 (pa_cons (pe_un uNeg (pe_fld (pv 0) rfl)) (pa_cons (pe_fld (pv 0) rfl) pa_nil))))), ?_⟩
    refine ⟨_, rfl, a, _, dx, _, _, rfl, ha, T.c_Ratio, T.a_Ratio_over, rfl, Or.inl ⟨_, rfl, _, rfl, a, _, dx, _, _, rfl, ha, T.c_Ratio, T.a_Ratio_under, rfl, fun p dp np nd ne => Or.inl (made np nd (dne x) (Nat.lt_of_lt_of_le (szD zx) (Nat.pow_le_pow_right (by decide) (by decide))) fun H2 e2 r => k p H2 e2 ?_)⟩⟩
    rw [r_neg] at r
    exact r
theorem G_Ratio___rsub__ (T : Tx K mg d) : FnR P w K mg base CX0 6 d.Ratio___rsub__ (spRSub d.Ratio) := by
  have G_Ratio_of : FnR P w K mg base CX0 4 d.Ratio_of (spOf d.Ratio) := G_Ratio_of T
  have G_sub : FnR P w K mg base CX0 5 d.Ratio___sub__ (spBin d.Ratio (· - ·)) := G_Ratio___sub__ T
  obtain ⟨fd, F⟩ := T.F_Ratio___rsub__
  refine FnR.imp (FnOk.raw (F.ok sc_Ratio___rsub__ (k := 5) (sp := spRSub d.Ratio) (fun vs H Q E h => ?_) (fun cdv A outer s H vs Q E hr h => ?_)) (F.binds fun _ _ _ _ _ _ us hl => match us, hl with | [_, _], _ => rfl) .nil) fun vs H Q E h => by rw [List.append_nil]; exact h
  · obtain ⟨a, j, x, rfl, _⟩ := h
    rfl
  · obtain ⟨a, j, x, rfl, ha, zx, zj, k⟩ := h
    -- slots: 0 self, 1 other
    refine ⟨_, (pss_one (ps_ret (pe_op uSub (pe_smeth (pe_glob (v := .ref _) rfl T.m_Ratio rfl) T.s_Ratio_of G_Ratio_of (hr.mono (by decide)) pass0 (pa_cons (pv 1) pa_nil)) (pv 0)))), ?_⟩
    refine ⟨rfl, _, rfl, ⟨_, (j : Rat), rfl, Or.inl ⟨j, rfl, rfl⟩, fun b H1 e1 hb => ?_⟩⟩
    exact ⟨_, rfl, Or.inr (own_bin T.b_Ratio_sub G_sub (hr.mono (by decide)) hb (num_r (ha.same e1)) (sz_i zj (by decide)) zx fun p H2 e2 hp => k p H2 (e1.trans e2) hp)⟩
theorem G_Rounding___eq__ (T : Tx K mg d) : FnR P w K mg base CX0 3 d.Rounding___eq__ (spREq d.Ratio d.Rounding) := by
  have G_eq : FnR P w K mg base CX0 2 d.Ratio___eq__ (spCmp d.Ratio fun x y => decide (x = y)) := G_Ratio___eq__ T
  obtain ⟨fd, F⟩ := T.F_Rounding___eq__
  refine FnR.imp (FnOk.raw (F.ok sc_Rounding___eq__ (k := 2) (sp := spREq d.Ratio d.Rounding) (fun vs H Q E h => ?_) (fun cdv A outer s H vs Q E hr h => ?_)) (F.binds fun _ _ _ _ _ _ us hl => match us, hl with | [_, _], _ => rfl) .nil) fun vs H Q E h => by rw [List.append_nil]; exact h
  · obtain ⟨r, q, t, u, fr, gr, rfl, _⟩ := h
    rfl
  · obtain ⟨r, q, t, u, fr, gr, rfl, ⟨ok, dr, b, hR, hb⟩, ⟨ok2, dq, c, hQ, hc⟩, k⟩ := h
    -- slots: 0 self, 1 other
    refine ⟨_, (pss_cons (ps_if (pt_not (pt_val (pe_callB uIsi (by rfl) T.n_isinstance (by decide +kernel) (pa_cons (pv 1) (pa_cons (pe_glob (v := .ref _) rfl T.m_Rounding rfl) pa_nil))))) (pss_one (ps_ret pe_bl)) pss_nil)
      (pss_one (ps_ret (pe_and (pe_cmpR (uEq hr.units) (pe_fld (pv 0) rfl) (pe_fld (pv 1) rfl) (nomark _)) (pe_one (pe_cmpR (uEq hr.units) (pe_fld (pv 0) rfl) (pe_fld (pv 1) rfl) (nomark _))))))), ?_⟩
    refine ⟨_, rfl, Or.inl ⟨_, _, _, _, true, rfl, .own _, T.y_Rounding.ty T.c_Rounding hQ, T.i_Rounding_is_Rounding, true, rfl, iteF ?_⟩⟩
    refine ⟨_, rfl, r, _, dr, _, _, rfl, hR, T.c_Rounding, T.a_Rounding_threshold, rfl, _, rfl, q, _, dq, _, _, rfl, hQ, T.c_Rounding, T.a_Rounding_threshold, rfl, Or.inr (Or.inl (own_cmp T.q_Ratio_eq G_eq (hr.mono (by decide)) hb (num_r hc) (ok.sz.mono (by decide)) (ok2.sz.mono (by decide)) fun H1 e1 => ?_))⟩
    have k1 := k H1 e1
    refine ⟨_, rfl, if2 (fun h1 => ?_) (fun h1 => ?_)⟩
    · rw [h1, Bool.true_and] at k1
      exact ⟨_, rfl, r, _, dr, _, _, rfl, (e1 _ _ hR), T.c_Rounding, T.a_Rounding_is_from, rfl, _, rfl, q, _, dq, _, _, rfl, (e1 _ _ hQ), T.c_Rounding, T.a_Rounding_is_from, rfl, Or.inl ⟨rfl, k1⟩⟩
    · rw [h1, Bool.false_and] at k1
      exact k1
theorem G_Rounding___invert__ (T : Tx K mg d) : FnR P w K mg base CX0 8 d.Rounding___invert__ (spInv d.Ratio d.Rounding) := by
  have G_Rounding___init__ : FnR P w K mg base CX0 6 d.Rounding___init__ _ := G_Rounding___init__ T
  have G_rsub : FnR P w K mg base CX0 6 d.Ratio___rsub__ (spRSub d.Ratio) := G_Ratio___rsub__ T
  obtain ⟨fd, F⟩ := T.F_Rounding___invert__
  refine FnR.imp (FnOk.raw (F.ok sc_Rounding___invert__ (k := 7) (sp := spInv d.Ratio d.Rounding) (fun vs H Q E h => ?_) (fun cdv A outer s H vs Q E hr h => ?_)) (F.binds fun _ _ _ _ _ _ us hl => match us, hl with | [_], _ => rfl) .nil) fun vs H Q E h => by rw [List.append_nil]; exact h
  · obtain ⟨r, t, fr, rfl, _⟩ := h
    rfl
  · obtain ⟨r, t, fr, rfl, ⟨ok, dr, b, hR, hb⟩, zt, k⟩ := h
    -- slots: 0 self
    refine ⟨_, (pss_one (ps_ret (StX.pe_makeR T.mk_Rounding G_Rounding___init__ (hr.mono (by decide)) rfl T.m_Rounding pass0 (pa_cons (pe_op uSubR pe_int (pe_fld (pv 0) rfl)) (pa_cons (pe_not (pe_fld (pv 0) rfl)) pa_nil))))), ?_⟩
    obtain ⟨db, hbb⟩ := id hb
    refine ⟨_, rfl, r, _, dr, _, _, rfl, hR, T.c_Rounding, T.a_Rounding_threshold, rfl, Or.inr (Or.inr ⟨1, b, _, _, _, _, _, CX0, 6, _, E0, rfl, rfl, hbb, T.v_Ratio_sub, G_rsub, hr.mono (by decide), pass0, ⟨b, 1, t, rfl, hb, ok.sz.mono (by decide), by decide, fun p H1 e1 hp => ?_⟩⟩)⟩
    have hR1 := e1 _ _ hR
    refine ⟨_, rfl, r, _, dr, _, _, rfl, hR1, T.c_Rounding, T.a_Rounding_is_from, rfl, ?_⟩
    rw [Rat.intCast_one] at hp
    exact ⟨_, rfl, fun x dx nx nd ne => Or.inl (rmade nx nd hp (mirror ok zt) fun H2 e2 R => k x H2 (e1.trans e2) R)⟩
theorem G_Ratio___str__ (T : Tx K mg d) : FnR P w K mg base CX0 2 d.Ratio___str__ (spStr d.Ratio) := by
  obtain ⟨fd, F⟩ := T.F_Ratio___str__
  refine FnR.imp (FnOk.raw (F.ok sc_Ratio___str__ (k := 1) (sp := spStr d.Ratio) (fun vs H Q E h => ?_) (fun cdv A outer s H vs Q E hr h => ?_)) (F.binds fun _ _ _ _ _ _ us hl => match us, hl with | [_], _ => rfl) .nil) fun vs H Q E h => by rw [List.append_nil]; exact h
  · obtain ⟨a, x, rfl, _⟩ := h
    rfl
  · obtain ⟨a, x, rfl, ⟨dx, ha⟩, zx, k⟩ := h
    -- slots: 0 self
    refine ⟨_, (pss_cons (ps_if (pt_cmpR (uEq hr.units) (pe_fld (pv 0) rfl) pe_int (nomark _)) (pss_one (ps_ret (pe_callTy uStr (by rfl) T.n_str (by decide +kernel) (pa_cons (pe_fld (pv 0) rfl) pa_nil)))) pss_nil)
      (pss_one (ps_ret (pe_joined (PJ.cons (pe_fmtU (pe_fld (pv 0) rfl)) (PJ.cons pe_str (PJ.cons (pe_fmtU (pe_fld (pv 0) rfl)) PJ.nil))))))), ?_⟩
    have zn : x.num.natAbs.log2 < 1920 := Nat.lt_of_lt_of_le (PySem.Flt.log2_lt_of (by decide) zx.1) (by decide)
    have zd : (x.den : Int).natAbs.log2 < 1920 := Nat.lt_of_lt_of_le (PySem.Flt.log2_lt_of (by decide) (szD zx)) (by decide)
    refine ⟨_, rfl, a, _, dx, _, _, rfl, ha, T.c_Ratio, T.a_Ratio_under, rfl, Or.inl ⟨rfl, _, rfl, if2 (fun h1 => ?_) (fun h1 => ?_)⟩⟩
    · refine ⟨_, rfl, a, _, dx, _, _, rfl, ha, T.c_Ratio, T.a_Ratio_over, rfl, Or.inl ⟨_, rfl, zn, ?_⟩⟩
      have e : ratS x = Str.ofString (toString x.num) := if_pos (by have := of_decide_eq_true h1; injection this)
      rw [e] at k
      exact k
    · have e : ratS x = Str.ofString (toString x.num) ++ "/" ++ Str.ofString (toString (x.den : Int)) := if_neg (fun n => by have := of_decide_eq_false h1; exact this (by rw [n]))
      have l1 := PyProof.Rows.int_text_len_1921 zn
      have l2 := PyProof.Rows.int_text_len_1921 zd
      have b1 : (Str.empty ++ Str.ofString (toString x.num)).length ≤ 1921 := by rw [slen]; exact Nat.le_trans (Nat.le_of_eq (Nat.zero_add _)) l1
      have b2 : (Str.empty ++ Str.ofString (toString x.num) ++ "/").length ≤ 1922 := by rw [slen]; exact Nat.add_le_add b1 (Nat.le_refl 1)
      have b3 : (Str.empty ++ Str.ofString (toString x.num) ++ "/" ++ Str.ofString (toString (x.den : Int))).length ≤ 3843 := by rw [slen]; exact Nat.add_le_add b2 l2
      have e0 := eapp (Str.ofString (toString x.num))
      refine ⟨_, rfl, a, _, dx, _, _, rfl, ha, T.c_Ratio, T.a_Ratio_over, rfl, Or.inl (Or.inr ⟨_, rfl, zn, _, rfl, Nat.le_trans b1 (by decide), ?_⟩)⟩
      refine ⟨_, rfl, Nat.le_trans b2 (by decide), ?_⟩
      refine ⟨_, rfl, a, _, dx, _, _, rfl, ha, T.c_Ratio, T.a_Ratio_under, rfl, Or.inl (Or.inr ⟨_, rfl, zd, _, rfl, Nat.le_trans b3 (by decide), ?_⟩)⟩
      rw [e] at k
      rw [e0]
      exact k
theorem G_Rounding___str__ (T : Tx K mg d) : FnR P w K mg base CX0 5 d.Rounding___str__ (spRStr d.Ratio d.Rounding) := by
  have G_str : FnR P w K mg base CX0 2 d.Ratio___str__ (spStr d.Ratio) := G_Ratio___str__ T
  obtain ⟨fd, F⟩ := T.F_Rounding___str__
  refine FnR.imp (FnOk.raw (F.ok sc_Rounding___str__ (k := 4) (sp := spRStr d.Ratio d.Rounding) (fun vs H Q E h => ?_) (fun cdv A outer s H vs Q E hr h => ?_)) (F.binds fun _ _ _ _ _ _ us hl => match us, hl with | [_], _ => rfl) .nil) fun vs H Q E h => by rw [List.append_nil]; exact h
  · obtain ⟨r, t, fr, rfl, _⟩ := h
    rfl
  · obtain ⟨r, t, fr, rfl, ⟨ok, dr, b, hR, db, hb⟩, k⟩ := h
    -- slots: 0 self
    refine ⟨_, (pss_cons (ps_if (pt_val (pe_fld (pv 0) rfl)) (pss_one (ps_ret (pe_joined (PJ.cons pe_str (PJ.cons (pe_fmtU (pe_fld (pv 0) rfl)) PJ.nil))))) pss_nil)
      (pss_one (ps_ret (pe_joined (PJ.cons pe_str (PJ.cons (pe_fmtU (pe_fld (pv 0) rfl)) PJ.nil)))))), ?_⟩
    have zt : Sz 1900 t := ok.sz.mono (by decide)
    have lz := ratS_len zt
    have low : ∀ (p : Str) (F : Str → Hp → Prop), p.length ≤ 6 → F (p ++ ratS t) H → ((Str.empty ++ p).length ≤ sizeLine ∧ (Str.empty ++ p ++ ratS t).length ≤ sizeLine ∧ F (Str.empty ++ p ++ ratS t) H) := fun p F hp q => by
      rw [eapp]
      refine ⟨Nat.le_trans hp (by decide), ?_, q⟩
      rw [slen]
      exact Nat.le_trans (Nat.add_le_add hp lz) (by decide)
    refine ⟨_, rfl, r, _, dr, _, _, rfl, hR, T.c_Rounding, T.a_Rounding_is_from, rfl, _, rfl, if2 (fun h => ?_) (fun h => ?_)⟩
    · subst h
      obtain ⟨a1, a2, a3⟩ := low "from " (fun z H' => Q (.str z) H') (by decide) k
      refine ⟨_, rfl, a1, ?_⟩
      exact ⟨_, rfl, r, _, dr, _, _, rfl, hR, T.c_Rounding, T.a_Rounding_threshold, rfl, Or.inr ⟨b, _, db, _, _, CX0, 2, _, E0, rfl, hb, T.t_Ratio, G_str, hr.mono (by decide), pass0, ⟨b, t, rfl, ⟨db, hb⟩, zt, _, rfl, _, rfl, a2, a3⟩⟩⟩
    · subst h
      obtain ⟨a1, a2, a3⟩ := low "above " (fun z H' => Q (.str z) H') (by decide) k
      refine ⟨_, rfl, a1, ?_⟩
      exact ⟨_, rfl, r, _, dr, _, _, rfl, hR, T.c_Rounding, T.a_Rounding_threshold, rfl, Or.inr ⟨b, _, db, _, _, CX0, 2, _, E0, rfl, hb, T.t_Ratio, G_str, hr.mono (by decide), pass0, ⟨b, t, rfl, ⟨db, hb⟩, zt, _, rfl, _, rfl, a2, a3⟩⟩⟩
end

end AZ
namespace AZ
open PySem L2
/-! ## roundings of ints, told ones; more of == and != -/
section
variable {X : Cx} {C D f : Addr} {k : Nat} {H : Hp} {Q : VK} {a : Addr} {v : V} {x y : Rat}
/-- != of a fraction, by its == -/
theorem own_ne (M : NeM X.K C f) (F : FnR X.prog X.w X.K X.mg X.base CX0 k f (spCmp C fun x y => decide (x = y))) (hr : Room (k + 1) X.A) (ha : IsRat C H a x) (hv : Num C H v y) (zx : Sz 2000 x) (zy : Sz 2000 y)
    (q : ∀ H', Same H H' → Q (.bl (!decide (x = y))) H') : rOwnN X (.ref a) v H Q := by
  obtain ⟨dx, h⟩ := id ha
  exact ⟨a, C, dx, _, f, CX0, k, _, E0, rfl, h, hv.right, M, F, hr, pass0, ⟨a, v, x, y, rfl, ha, hv, zx, zy, fun H' e => ⟨_, rfl, q H' e⟩⟩⟩
/-- one number, twice -/
def SameNum (C : Addr) : Addr → V → Hp → Prop := fun a v H => ∃ q, IsRat C H a q ∧ Num C H v q ∧ Sz 2000 q
theorem same_ext {C : Addr} : ∀ (a : Addr) (b : V) (H H' : Hp), Ext H H' → SameNum C a b H → SameNum C a b H' := fun _ _ _ _ e ⟨q, h1, h2, z⟩ => ⟨q, h1.same e, h2.same e, z⟩
theorem eq_same (F : FnR X.prog X.w X.K X.mg X.base CX0 k f (spCmp C fun x y => decide (x = y))) : FnR X.prog X.w X.K X.mg X.base CX0 k f (spEqV (SameNum C)) :=
  F.imp fun vs H Q E ⟨a, y, e, ⟨q, h1, h2, z⟩, k⟩ => ⟨a, y, q, q, e, h1, h2, z, z, fun H' s => by simpa using k H' s⟩
abbrev DNum (C : Addr) : Eqv := fun x y H => DFlat x y H ∨ DOwn C (SameNum C) x y H
theorem mon_num {C : Addr} : Mon (DNum C) := Mon.or mon_flat (mon_own same_ext)
theorem eqG_num (M : CmpM X.K C .Eq f) (F : FnR X.prog X.w X.K X.mg X.base CX0 k f (spCmp C fun x y => decide (x = y))) : EqG X k (DNum C) :=
  (eqG_flat.mono (Nat.zero_le k)).or (eqG_own (eq_same F) M pass0)
theorem dn_b {C : Addr} {b : Bool} {H : Hp} : DNum C (.bl b) (.bl b) H := Or.inl ⟨rfl, rfl, by cases b <;> rfl⟩
theorem dn_r {C a : Addr} {v : V} {q : Rat} {H : Hp} (h : IsRat C H a q) (h2 : Num C H v q) (z : Sz 2000 q) : DNum C (.ref a) v H := by
  obtain ⟨dx, e⟩ := id h
  exact Or.inr ⟨a, dx, _, rfl, e, h2.right, q, h, h2, z⟩
/-- != of roundings -/
theorem rnd_ne {t u : Rat} {fr gr : Bool} {r s : Addr} (M : NeM X.K D f) (F : FnR X.prog X.w X.K X.mg X.base CX0 k f (spREq C D)) (hr : Room (k + 1) X.A) (h1 : IsRnd C D H r t fr) (h2 : IsRnd C D H s u gr)
    (q : ∀ H', Same H H' → Q (.bl (!(decide (t = u) && decide (V.bl fr = V.bl gr)))) H') : rOwnN X (.ref r) (.ref s) H Q := by
  obtain ⟨_, dx, _, h, _⟩ := id h1
  obtain ⟨_, dy, _, h', _⟩ := id h2
  exact ⟨r, D, dx, _, f, CX0, k, _, E0, rfl, h, Or.inr ⟨s, dy, _, rfl, h'⟩, M, F, hr, pass0, ⟨r, s, t, u, fr, gr, rfl, h1, h2, fun H' e => ⟨_, rfl, q H' e⟩⟩⟩
theorem rnd_eq {t u : Rat} {fr gr : Bool} {r s : Addr} (M : CmpM X.K D .Eq f) (F : FnR X.prog X.w X.K X.mg X.base CX0 k f (spREq C D)) (hr : Room k X.A) (h1 : IsRnd C D H r t fr) (h2 : IsRnd C D H s u gr)
    (q : ∀ H', Same H H' → Q (.bl (decide (t = u) && decide (V.bl fr = V.bl gr))) H') : rOwnC X .Eq (.ref r) (.ref s) H Q := by
  obtain ⟨_, dx, _, h, _⟩ := id h1
  obtain ⟨_, dy, _, h', _⟩ := id h2
  exact ⟨r, D, dx, _, f, CX0, k, _, E0, rfl, h, Or.inr ⟨s, dy, _, rfl, h'⟩, M, F, hr, pass0, ⟨r, s, t, u, fr, gr, rfl, h1, h2, fun H' e => q H' e⟩⟩
end
theorem rmade' {C D x dx a : Addr} {t : Rat} {fr : Bool} {H : Hp} {W : VK} {E : XK} (nx : H x = none) (nd : H dx = none) (ha : IsRat C H a t) (ok : RndOk t fr) (k : ∀ H', Same H H' → IsRnd C D H' x t fr → W .non H') :
    spRInit C D [.ref x, .ref a, .bl fr] (upd (upd H dx (.own x)) x (.ins D dx [])) W E := by
  refine ⟨x, dx, a, t, fr, rfl, upd_same, ?_, ok, fun H' kp r => k H' (Same.made nx nd kp) r⟩
  obtain ⟨da, h⟩ := ha
  exact ⟨da, by rw [upd_ne (ne_of_none h nx), upd_ne (ne_of_none h nd)]; exact h⟩
def spRInitI (C D : Addr) : Sp := fun vs H Q _ => ∃ (p dx : Addr) (j : Int) (fr : Bool), vs = [.ref p, .int j, .bl fr] ∧ H p = some (.ins D dx []) ∧ RndOk (j : Rat) fr ∧
  ∀ H', (∀ x o, H x = some o → x ≠ p → H' x = some o) → IsRnd C D H' p (j : Rat) fr → Q .non H'
theorem rmadeI {C D x dx : Addr} {j : Int} {fr : Bool} {H : Hp} {Q : VK} {E : XK} (nx : H x = none) (nd : H dx = none) (ok : RndOk (j : Rat) fr) (k : ∀ H', Same H H' → IsRnd C D H' x (j : Rat) fr → Q (.ref x) H') :
    spRInitI C D [.ref x, .int j, .bl fr] (upd (upd H dx (.own x)) x (.ins D dx [])) (fun v H2 => v = .non ∧ Q (.ref x) H2) E :=
  ⟨x, dx, j, fr, rfl, upd_same, ok, fun H' kp r => ⟨rfl, k H' (Same.made nx nd kp) r⟩⟩
def spStat (C D : Addr) (t : Rat) (fr : Bool) : Sp := fun vs H Q _ => vs = [] ∧ ∀ r H', Same H H' → IsRnd C D H' r t fr → Q (.ref r) H'
theorem rnd_down : RndOk ((1 : Int) : Rat) true := ⟨⟨by decide +kernel, by decide +kernel⟩, by decide +kernel, by decide +kernel, by decide +kernel, by decide +kernel⟩
theorem rnd_up : RndOk ((0 : Int) : Rat) false := ⟨⟨by decide +kernel, by decide +kernel⟩, by decide +kernel, by decide +kernel, by decide +kernel, by decide +kernel⟩
theorem rnd_half : RndOk (Rat.divInt 1 2) true := ⟨⟨by decide +kernel, by decide +kernel⟩, by decide +kernel, by decide +kernel, by decide +kernel, by decide +kernel⟩
section
variable {P : Program} {w : World} {K : PySem.W.Frag} {mg : Str → Option Value} {base : Heap} {d : Ad}
theorem G_Rounding___init__I (T : Tx K mg d) : FnR P w K mg base CX0 6 d.Rounding___init__ (fun vs H Q E => spRInitI d.Ratio d.Rounding vs H Q E ∨ spRInitI d.Ratio d.Rounding (vs ++ [.bl true]) H Q E) := by
  obtain ⟨fd, F⟩ := T.D_Rounding___init__
  have G_is_number : FnR P w K mg base CX0 2 d.is_number (spIsNum K d.Ratio) := G_is_number T
  have G_Ratio_of : FnR P w K mg base CX0 4 d.Ratio_of (spOf d.Ratio) := G_Ratio_of T
  have G : FnOk P w K mg base CX0 6 d.Rounding___init__ fd ["self", "threshold", "is_from"] (spRInitI d.Ratio d.Rounding) := by
    refine F.ok sc_Rounding___init__ (fun vs H Q E h => ?_) (fun cdv A outer s H vs Q E hr h => ?_)
    · obtain ⟨p, dx, j, fr, rfl, _⟩ := h
      rfl
    obtain ⟨p, dx, j, fr, rfl, hp, ok, k⟩ := h
    have j0 : 0 ≤ j := by have := ok.lo; rw [← Rat.intCast_zero] at this; exact Rat.intCast_le_intCast.mp this
    have j1 : j ≤ 1 := by have := ok.hi; rw [← Rat.intCast_one] at this; exact Rat.intCast_le_intCast.mp this
    -- slots: 0 self, 1 threshold, 2 is_from
    refine ⟨_, (pss_cons (ps_if (PW.pt (pw_or (pt_not (pt_val (pe_fnR G_is_number (hr.mono (by decide)) T.k_is_number T.m_is_number pass0 (pa_cons (pv 1) pa_nil)))) (pw_or (pt_cmpR uLt (pv 1) pe_int (nomark _)) (pw_or1 (pt_cmpR uGt (pv 1) pe_int (nomark _)))))) pss_never pss_nil)
      (pss_cons (ps_if (pt_not (pt_val (pe_callB uIsi (by rfl) T.n_isinstance (by decide +kernel) (pa_cons (pv 2) (pa_cons (pe_bltn (v := .ty "bool") (by rfl) T.n_bool (by decide +kernel) rfl) pa_nil))))) pss_never pss_nil)
      (pss_cons (ps_if (pt_cmpR (uEq hr.units) (pv 1) (pe_ifExp (pt_val (pv 2)) pe_int pe_int) (nomark _)) pss_never pss_nil)
      (pss_cons (ps_fld (pv 0) (pe_smeth (pe_glob (v := .ref _) rfl T.m_Ratio rfl) T.s_Ratio_of G_Ratio_of (hr.mono (by decide)) pass0 (pa_cons (pv 1) pa_nil)) rfl)
      (pss_one (ps_fld (pv 0) (pv 2) rfl)))))), ?_⟩
    refine ⟨_, rfl, ⟨_, (j : Rat), rfl, num_i, true, rfl, iteF ?_⟩⟩
    refine ⟨_, rfl, Or.inl ⟨_, _, rfl, rfl, _, rfl, ifF (decide_eq_false (by omega)) ?_⟩⟩
    refine ⟨_, rfl, Or.inl ⟨_, _, rfl, rfl, _, rfl, ifF (decide_eq_false (by omega)) ?_⟩⟩
    refine ⟨_, rfl, Or.inl ⟨_, _, _, _, true, rfl, .ty _, .base (.bl fr), T.i_bool_is_bool, true, rfl, iteF ?_⟩⟩
    have fin : ∀ b H4, Same H H4 → IsRat d.Ratio H4 b (j : Rat) → H4 p = some (.ins d.Rounding dx []) ∧ Q V.non (upd (upd H4 p (.ins d.Rounding dx [("threshold", .ref b)])) p (.ins d.Rounding dx [("threshold", .ref b), ("is_from", .bl fr)])) := fun b H4 e4 hb => by
      have hp4 : H4 p = some (.ins d.Rounding dx []) := e4 _ _ hp
      obtain ⟨db, hb4⟩ := hb
      have hbp : b ≠ p := ne_of hb4 hp4 (by intro z; injection z with z1 z2 z3; cases z3)
      refine ⟨hp4, k _ (fun z o e n => by rw [upd_ne n, upd_ne n]; exact e4 _ _ e) ⟨ok, dx, b, upd_same, db, by rw [upd_ne hbp, upd_ne hbp]; exact hb4⟩⟩
    refine ⟨_, rfl, _, rfl, _, rfl, if2 (fun hf => ?_) (fun hf => ?_)⟩
    · have n0 : j ≠ 0 := fun e => ok.f hf (by rw [e]; rfl)
      refine Or.inl ⟨rfl, _, rfl, ifF (by simp [n0]) ?_⟩
      refine ⟨rfl, _, rfl, ⟨_, (j : Rat), rfl, num_i, fun b H4 e4 hb => ?_⟩⟩
      obtain ⟨h4, q⟩ := fin b H4 e4 hb
      refine ⟨_, rfl, p, _, dx, _, rfl, h4, T.c_Rounding, T.a_Rounding_threshold, (by show 0 < 1000; decide), ?_⟩
      exact ⟨_, rfl, _, rfl, p, _, dx, _, rfl, upd_same, T.c_Rounding, T.a_Rounding_is_from, (by show 1 < 1000; decide), q⟩
    · have n1 : j ≠ 1 := fun e => ok.a hf (by rw [e]; rfl)
      refine Or.inl ⟨rfl, _, rfl, ifF (by simp [n1]) ?_⟩
      refine ⟨rfl, _, rfl, ⟨_, (j : Rat), rfl, num_i, fun b H4 e4 hb => ?_⟩⟩
      obtain ⟨h4, q⟩ := fin b H4 e4 hb
      refine ⟨_, rfl, p, _, dx, _, rfl, h4, T.c_Rounding, T.a_Rounding_threshold, (by show 0 < 1000; decide), ?_⟩
      exact ⟨_, rfl, _, rfl, p, _, dx, _, rfl, upd_same, T.c_Rounding, T.a_Rounding_is_from, (by show 1 < 1000; decide), q⟩
  obtain ⟨ds0, r0, b0⟩ := F.binds1 (ps := ["self", "threshold", "is_from"]) 3 1 (by simp) rfl fun T kV doc pm an cdv ct us its h1 h2 => match us, its, h1, h2 with
    | [_, _, _], [_], _, _ => ⟨_, rfl, by dsimp only; rfl⟩
  obtain ⟨ds1, r1, b1⟩ := F.binds1 (ps := ["self", "threshold", "is_from"]) 2 0 (by simp) rfl fun T kV doc pm an cdv ct us its h1 h2 => match us, its, h1, h2 with
    | [_, _], [_], _, _ => ⟨_, rfl, by dsimp only; rfl⟩
  exact FnR.or ((FnOk.raw G b0 r0).imp fun vs H Q E h => by rw [show vs ++ List.drop 1 [V.bl true] = vs from List.append_nil vs]; exact h) (FnOk.raw G b1 r1)
end

end AZ
namespace AZ
open PySem L2
/-! ## the law's own reckoning -/
def spFrac : Sp := fun vs H Q _ => ∃ (a b : Int), vs = [.int a, .int b] ∧ b ≠ 0 ∧ a.natAbs < 2 ^ 2000 ∧ b.natAbs < 2 ^ 2000 ∧
  ∀ p H', Same H H' → H' p = some (.tup [.int (Rat.divInt a b).num, .int ((Rat.divInt a b).den : Int)]) → Q (.ref p) H'
theorem fr_num {a b : Int} (hb : b ≠ 0) : ((if 0 < b then 1 else -1) * a).fdiv ((Nat.gcd a.natAbs b.natAbs : Nat) : Int) = (Rat.divInt a b).num := by
  have hg : ((Nat.gcd a.natAbs b.natAbs : Nat) : Int) = (Int.gcd a b : Int) := rfl
  rw [num_di a b hb, hg]
  by_cases h : 0 < b
  · rw [if_pos h, if_neg (by omega), Int.one_mul]
  · rw [if_neg h, if_pos (by omega), show -1 * a = -a by omega, ← Int.neg_fdiv_neg, Int.neg_neg]
theorem fr_den {a b : Int} (hb : b ≠ 0) : ((if 0 < b then 1 else -1) * b).fdiv ((Nat.gcd a.natAbs b.natAbs : Nat) : Int) = ((Rat.divInt a b).den : Int) := by
  have hg : ((Nat.gcd a.natAbs b.natAbs : Nat) : Int) = (Int.gcd a b : Int) := rfl
  rw [den_di a b hb, hg]
  by_cases h : 0 < b
  · rw [if_pos h, if_neg (by omega), Int.one_mul]
  · rw [if_neg h, if_pos (by omega), show -1 * b = -b by omega, ← Int.neg_fdiv_neg, Int.neg_neg]
theorem absI (a : Int) : (if a < 0 then -a else a) = (a.natAbs : Int) := by split <;> omega
def meas (i : Nat) (σ : St) : Nat := match σ[i]? with
  | some (some (V.int j)) => j.toNat
  | _ => 0
section
variable {P : Program} {w : World} {K : PySem.W.Frag} {mg : Str → Option Value} {base : Heap} {d : Ad}
theorem G__law_frac (T : Tx K mg d) : FnR P w K mg base CX0 1 d._law_frac spFrac := by
  obtain ⟨fd, F⟩ := T.F__law_frac
  refine FnR.imp (FnOk.raw (F.ok sc__law_frac (k := 0) (sp := spFrac) (fun vs H Q E h => ?_) (fun cdv A outer s H vs Q E hr h => ?_)) (F.binds fun _ _ _ _ _ _ us hl => match us, hl with | [_, _], _ => rfl) .nil) fun vs H Q E h => by rw [List.append_nil]; exact h
  · obtain ⟨a, b, rfl, _⟩ := h
    rfl
  · obtain ⟨a, b, rfl, hb, za, zb, k⟩ := h
    -- slots: 0 _law_over, 1 _law_under, 2 _law_one, 3 _law_other, 4 _law_sign
    refine ⟨_, (pss_cons (ps_par (i := 2) (j := 3) (by rfl) sc__law_frac.nd rfl rfl (by decide) rfl rfl (pa_cons (pe_callB call_abs (by rfl) T.n_abs (by decide +kernel) (pa_cons (pv 0) pa_nil)) (pa_cons (pe_callB call_abs (by rfl) T.n_abs (by decide +kernel) (pa_cons (pv 1) pa_nil)) pa_nil)) (by rfl))
      (pss_cons (ps_while PassesOwn.never (pt_cmpR (uNe hr.units) (pv 3) pe_int (nomark _)) (pss_one (ps_par (i := 2) (j := 3) (by rfl) sc__law_frac.nd rfl rfl (by decide) rfl rfl (pa_cons (pv 3) (pa_cons (pe_op uMod (pe_callTy call_int1 (by rfl) T.n_int (by decide +kernel) (pa_cons (pv 2) pa_nil)) (pv 3)) pa_nil)) (by rfl))))
      (pss_cons (ps_set (i := 4) sc__law_frac.nd rfl (Or.inl rfl) (pe_ifExp (pt_cmpR uGt (pv 1) pe_int (nomark _)) pe_int (pe_un uNeg pe_int)))
      (pss_one (ps_ret (pe_ifExp (pt_cmpR uGt (pv 2) pe_int (nomark _)) (pe_tup (pa_cons (pe_op uDiv (pe_op uMul (pv 4) (pv 0)) (pv 2)) (pa_cons (pe_op uDiv (pe_op uMul (pv 4) (pv 1)) (pv 2)) pa_nil))) (pe_tup (pa_cons pe_int (pa_cons pe_int pa_nil))))))))), ?_⟩
    refine ⟨_, rfl, ⟨_, rfl, ⟨_, rfl, ⟨_, rfl, ⟨_, _, rfl, ?_⟩⟩⟩⟩⟩
    refine while_by (fun σ H' => ∃ m n : Nat, σ = [some (.int a), some (.int b), some (.int (m : Int)), some (.int (n : Int)), none] ∧ Nat.gcd m n = Nat.gcd a.natAbs b.natAbs ∧ H' = H)
      (fun σ _ => meas 3 σ) ⟨a.natAbs, b.natAbs, by simp only [absI]; rfl, rfl, rfl⟩ ?_ ?_
    · rintro σ H' ⟨m, n, rfl, hg, rfl⟩
      refine ⟨_, rfl, Or.inl ⟨rfl, _, rfl, if2 (fun h => ?_) (fun h => ?_)⟩⟩
      · have hn : n ≠ 0 := by
          intro z; subst z; simp at h
        refine ⟨_, rfl, ⟨_, rfl, Or.inl ⟨_, rfl, ⟨_, rfl, Or.inl ⟨_, _, rfl, rfl, nz (by omega), ⟨_, _, rfl, ?_⟩⟩⟩⟩⟩⟩
        have hm : (m : Int).fmod (n : Int) = ((m % n : Nat) : Int) := by
          rw [Int.fmod_eq_emod_of_nonneg _ (by omega)]; rfl
        refine ⟨⟨n, m % n, by simp only [hm]; rfl, ?_, rfl⟩, ?_⟩
        · rw [← hg, Nat.gcd_comm n, ← Nat.gcd_rec, Nat.gcd_comm]
        · show ((m : Int).fmod (n : Int)).toNat < (n : Int).toNat
          rw [hm]
          have := Nat.mod_lt m (Nat.pos_of_ne_zero hn)
          omega
      · have hn : n = 0 := by
          simp at h; omega
        subst hn
        rw [Nat.gcd_zero_right] at hg
        subst hg
        have g0 : 0 < Nat.gcd a.natAbs b.natAbs := gcd_pos a b hb
        have g1 : Nat.gcd a.natAbs b.natAbs ≤ b.natAbs := gcd_le a b hb
        have e1 := fr_num (a := a) hb
        have e2 := fr_den (a := a) hb
        have dz : ∀ i : Int, CDivZ i ((Nat.gcd a.natAbs b.natAbs : Nat) : Int) := fun i => divZ (b := 2000) (by omega) (Nat.lt_of_le_of_lt g1 zb) (by decide) (by decide)
        generalize Nat.gcd a.natAbs b.natAbs = g at g0 e1 e2 dz
        have fin : ∀ p, H' p = none → ∀ x y : Int, x = (Rat.divInt a b).num → y = ((Rat.divInt a b).den : Int) → Q (.ref p) (upd H' p (.tup [.int x, .int y])) := fun p hp x y ex ey => by
          refine k p _ (fun z o e => by rw [upd_ne (ne_of_none e hp)]; exact e) ?_
          rw [upd_same, ex, ey]
        refine ⟨_, rfl, Or.inl ⟨_, _, rfl, rfl, _, rfl, if2 (fun h => ?_) (fun h => ?_)⟩⟩
        · have h' : 0 < b := of_decide_eq_true h
          rw [if_pos h'] at e1 e2
          refine ⟨_, rfl, Or.inl ⟨_, _, rfl, rfl, _, rfl, ifT (decide_eq_true (by omega)) ?_⟩⟩
          exact ⟨_, rfl, _, rfl, Or.inl ⟨_, _, rfl, rfl, mulL (by decide), _, rfl, Or.inl ⟨_, _, rfl, rfl, dz _, _, rfl, _, rfl, Or.inl ⟨_, _, rfl, rfl, mulL (by decide), _, rfl, Or.inl ⟨_, _, rfl, rfl, dz _, (by show 2 ≤ sizeLine; decide), fun p hp => fin p hp _ _ e1 e2⟩⟩⟩⟩⟩
        · have h' : ¬ 0 < b := of_decide_eq_false h
          rw [if_neg h'] at e1 e2
          refine Or.inl ⟨_, rfl, ?_⟩
          refine ⟨_, rfl, Or.inl ⟨_, _, rfl, rfl, _, rfl, ifT (decide_eq_true (by omega)) ?_⟩⟩
          exact ⟨_, rfl, _, rfl, Or.inl ⟨_, _, rfl, rfl, mulL (by decide), _, rfl, Or.inl ⟨_, _, rfl, rfl, dz _, _, rfl, _, rfl, Or.inl ⟨_, _, rfl, rfl, mulL (by decide), _, rfl, Or.inl ⟨_, _, rfl, rfl, dz _, (by show 2 ≤ sizeLine; decide), fun p hp => fin p hp _ _ e1 e2⟩⟩⟩⟩⟩
    · rintro σ H' Q Q' hq ⟨v, e, q⟩
      refine ⟨v, e, ?_⟩
      rcases q with ⟨s, c, e2, z⟩ | ⟨d, e, h1, h2, h3, h4, c, e2, z⟩
      · exact Or.inl ⟨s, c, e2, hq _ _ z⟩
      · exact Or.inr ⟨d, e, h1, h2, h3, h4, c, e2, hq _ _ z⟩
/-- a tuple of the lowest terms of q -/
def PairQ (H : Hp) (v : V) (q : Rat) : Prop := ∃ a, v = .ref a ∧ H a = some (.tup [.int q.num, .int (q.den : Int)])
def kinds : List (List V) := [[.int 1, .int 2, .bl true], [.int 1, .int 2, .bl true], [.int 1, .int 2, .bl false], [.int 1, .int 1, .bl true], [.int 0, .int 1, .bl false], [.int 1, .int 3, .bl true], [.int 2, .int 3, .bl false], [.int 1, .int 4, .bl false]]
def kinds2 : List (List V) := [[.int 3, .int 5, .bl true], [.int 0, .int 1, .bl false], [.int 1, .int 1, .bl true], [.int 1, .int 2, .bl true]]
def spKind : Sp := fun vs H Q _ => ∃ (p : Addr) (n : Nat), vs = [.ref p] ∧ PenAt H p n ∧ n < 90000 ∧ ∀ x a c H', x = .ref a → H' a = some (.tup c) → c ∈ kinds ++ kinds2 → PenAt H' p (n + 1) → Up p H H' → Q x H'
theorem PenAt.up {H H' : Hp} {p : Addr} {n : Nat} (h : PenAt H p n) (e : Same H H') : PenAt H' p n := by
  obtain ⟨l, ns, s, g, a, b, c, r⟩ := h
  exact ⟨l, ns, s, g, a, e _ _ b, e _ _ c, r⟩
theorem PenAt.mono {H : Hp} {p : Addr} {n m : Nat} (h : PenAt H p n) (e : n ≤ m) : PenAt H p m := by
  obtain ⟨l, ns, s, g, a, b, c, r, r2, r3⟩ := h
  exact ⟨l, ns, s, g, a, b, c, r, r2, by omega⟩
theorem PenAt.some {H : Hp} {p : Addr} {n : Nat} (h : PenAt H p n) : ∃ o, H p = some o := by
  obtain ⟨l, ns, s, g, a, b, _⟩ := h
  exact ⟨_, b⟩
theorem G__law_kind (T : Tx K mg d) : FnR P w K mg base CX0 3 d._law_kind spKind := by
  have G__law_pick : FnR P w K mg base CX0 2 d._law_pick spPick := G__law_pick T
  obtain ⟨fd, F⟩ := T.F__law_kind
  refine FnR.imp (FnOk.raw (F.ok sc__law_kind (k := 2) (sp := spKind) (fun vs H Q E h => ?_) (fun cdv A outer s H vs Q E hr h => ?_)) (F.binds fun _ _ _ _ _ _ us hl => match us, hl with | [_], _ => rfl) .nil) fun vs H Q E h => by rw [List.append_nil]; exact h
  · obtain ⟨p, n, rfl, _⟩ := h
    rfl
  · obtain ⟨p, n, rfl, hp, hn, k⟩ := h
    -- slots: 0 _law_pen_here, 1 _law_some
    refine ⟨_, (pss_cons (ps_set (i := 1) sc__law_kind.nd rfl (Or.inl rfl) (pe_lst (pa_cons (pe_tup (pa_cons pe_int (pa_cons pe_int (pa_cons pe_bl pa_nil)))) (pa_cons (pe_tup (pa_cons pe_int (pa_cons pe_int (pa_cons pe_bl pa_nil)))) (pa_cons (pe_tup (pa_cons pe_int (pa_cons pe_int (pa_cons pe_bl pa_nil)))) (pa_cons (pe_tup (pa_cons pe_int (pa_cons pe_int (pa_cons pe_bl pa_nil)))) (pa_cons (pe_tup (pa_cons pe_int (pa_cons pe_int (pa_cons pe_bl pa_nil)))) (pa_cons (pe_tup (pa_cons pe_int (pa_cons pe_int (pa_cons pe_bl pa_nil)))) (pa_cons (pe_tup (pa_cons pe_int (pa_cons pe_int (pa_cons pe_bl pa_nil)))) (pa_cons (pe_tup (pa_cons pe_int (pa_cons pe_int (pa_cons pe_bl pa_nil)))) pa_nil))))))))))
      (pss_one (ps_ret (pe_fnR G__law_pick (hr.mono (by decide)) T.k__law_pick T.m__law_pick pass0 (pa_cons (pv 0) (pa_cons (pe_op uAdd (pv 1) (pe_lst (pa_cons (pe_tup (pa_cons pe_int (pa_cons pe_int (pa_cons pe_bl pa_nil)))) (pa_cons (pe_tup (pa_cons pe_int (pa_cons pe_int (pa_cons pe_bl pa_nil)))) (pa_cons (pe_tup (pa_cons pe_int (pa_cons pe_int (pa_cons pe_bl pa_nil)))) (pa_cons (pe_tup (pa_cons pe_int (pa_cons pe_int (pa_cons pe_bl pa_nil)))) pa_nil)))))) pa_nil)))))), ?_⟩
    refine go_sa ?_
    refine lMenu_ok (cs := kinds) (by decide) (by decide) fun ps H1 a e1 pr1 ha => ?_
    refine ⟨_, rfl, _, rfl, ?_⟩
    refine lMenu_ok (cs := kinds2) (by decide) (by decide) fun qs H2 b e2 pr2 hb => ?_
    have s1 : Same H1 (upd H1 a (.lst (ps.map V.ref))) := fun z o e => by rw [upd_ne (ne_of_none e ha)]; exact e
    have s2 : Same H2 (upd H2 b (.lst (qs.map V.ref))) := fun z o e => by rw [upd_ne (ne_of_none e hb)]; exact e
    have l1 : upd H2 b (.lst (qs.map V.ref)) a = some (.lst (ps.map V.ref)) := s2 _ _ (e2 _ _ upd_same)
    refine Or.inr (Or.inr (Or.inl ⟨a, b, _, _, rfl, rfl, l1, upd_same, ?_, fun c hc => ?_⟩))
    · rw [List.length_map, List.length_map, pr1.length, pr2.length]; decide
    have s3 : Same H (upd (upd H2 b (.lst (qs.map V.ref))) c (.lst (ps.map V.ref ++ qs.map V.ref))) := ((e1.trans s1).trans (e2.trans s2)).trans fun z o e => by rw [upd_ne (ne_of_none e hc)]; exact e
    have hp' := hp.up s3
    obtain ⟨o, hpo⟩ := ((hp.up ((e1.trans s1).trans (e2.trans s2)))).some
    refine ⟨p, c, n, _, rfl, hp', by omega, Or.inl ⟨upd_same, (ne_of_none hpo hc).symm⟩, ?_, ?_, fun x H' hx hp2 up => ?_⟩
    · rw [List.length_append, List.length_map, pr1.length]; show 0 < 8 + _; omega
    · rw [List.length_append, List.length_map, List.length_map, pr1.length, pr2.length]; decide
    have up' : Up p H H' := (Up.same s3).trans up
    rcases List.mem_append.mp hx with hx | hx
    · obtain ⟨t, ht, rfl⟩ := List.mem_map.mp hx
      obtain ⟨q, hq, f⟩ := paired_mem pr1 ht
      exact k _ t q H' rfl (up.tup (by rw [upd_ne (ne_of_none (s2 _ _ (e2 _ _ (s1 _ _ f))) hc)]; exact s2 _ _ (e2 _ _ (s1 _ _ f)))) (List.mem_append_left _ hq) hp2 up'
    · obtain ⟨t, ht, rfl⟩ := List.mem_map.mp hx
      obtain ⟨q, hq, f⟩ := paired_mem pr2 ht
      exact k _ t q H' rfl (up.tup (by rw [upd_ne (ne_of_none (s2 _ _ f) hc)]; exact s2 _ _ f)) (List.mem_append_right _ hq) hp2 up'
theorem e30 : (10 : Int) ^ Int.toNat 30 = 1000000000000000000000000000000 := by decide
theorem e29 : (10 : Int) ^ Int.toNat 29 = 100000000000000000000000000000 := by decide
def spNumber : Sp := fun vs H Q _ => ∃ (p : Addr) (n : Nat), vs = [.ref p] ∧ PenAt H p n ∧ n < 90000 ∧ ∀ v q H', PairQ H' v q → Sz 110 q → PenAt H' p (n + 5) → Up p H H' → Q v H'
/-- what the law's kinds are -/
structure KindOk (x y : Int) (fr : Bool) : Prop where
  ne : y ≠ 0
  small : y.natAbs < 2 ^ 100
  sz : Sz 100 (Rat.divInt x y)
  rnd : RndOk (Rat.divInt x y) fr
theorem kind_ok : ∀ c ∈ kinds ++ kinds2, ∃ (x y : Int) (fr : Bool), c = [.int x, .int y, .bl fr] ∧ KindOk x y fr := by
  intro c hc
  simp only [kinds, kinds2, List.cons_append, List.nil_append, List.mem_cons, List.not_mem_nil, or_false] at hc
  rcases hc with rfl | rfl | rfl | rfl | rfl | rfl | rfl | rfl | rfl | rfl | rfl | rfl <;>
    exact ⟨_, _, _, rfl, by decide, by decide, ⟨by decide +kernel, by decide +kernel⟩, ⟨⟨by decide +kernel, by decide +kernel⟩, by decide +kernel, by decide +kernel, by decide +kernel, by decide +kernel⟩⟩
def KindAt (H : Hp) (a : Addr) (x y : Int) (fr : Bool) : Prop := H a = some (.tup [.int x, .int y, .bl fr]) ∧ KindOk x y fr
theorem KindAt.up {H H' : Hp} {p a : Addr} {x y : Int} {fr : Bool} (h : KindAt H a x y fr) (e : Up p H H') : KindAt H' a x y fr := ⟨e.tup h.1, h.2⟩
theorem KindAt.same {H H' : Hp} {a : Addr} {x y : Int} {fr : Bool} (h : KindAt H a x y fr) (e : Same H H') : KindAt H' a x y fr := ⟨e _ _ h.1, h.2⟩
def spRounding (C D : Addr) : Sp := fun vs H Q _ => ∃ a x y fr, vs = [.ref a] ∧ KindAt H a x y fr ∧ ∀ r H', Same H H' → IsRnd C D H' r (Rat.divInt x y) fr → Q (.ref r) H'
theorem G__law_rounding (T : Tx K mg d) : FnR P w K mg base CX0 8 d._law_rounding (spRounding d.Ratio d.Rounding) := by
  have G_Ratio___init__ : FnR P w K mg base CX0 2 d.Ratio___init__ _ := G_Ratio___init__ T
  have G_Rounding___init__ : FnR P w K mg base CX0 6 d.Rounding___init__ _ := G_Rounding___init__ T
  obtain ⟨fd, F⟩ := T.F__law_rounding
  refine FnR.imp (FnOk.raw (F.ok sc__law_rounding (k := 7) (sp := spRounding d.Ratio d.Rounding) (fun vs H Q E h => ?_) (fun cdv A outer s H vs Q E hr h => ?_)) (F.binds fun _ _ _ _ _ _ us hl => match us, hl with | [_], _ => rfl) .nil) fun vs H Q E h => by rw [List.append_nil]; exact h
  · obtain ⟨a, x, y, fr, rfl, _⟩ := h
    rfl
  · obtain ⟨a, x, y, fr, rfl, ⟨ha, ok⟩, k⟩ := h
    -- slots: 0 _law_kind_here
    refine ⟨_, (pss_one (ps_ret (StX.pe_makeR T.mk_Rounding G_Rounding___init__ (hr.mono (by decide)) rfl T.m_Rounding pass0 (pa_cons (StX.pe_makeR T.mk_Ratio G_Ratio___init__ (hr.mono (by decide)) rfl T.m_Ratio pass0 (pa_cons (pe_ix ix_seq (pv 0) pe_int (fun _ _ => rfl)) (pa_cons (pe_ix ix_seq (pv 0) pe_int (fun _ _ => rfl)) pa_nil))) (pa_cons (pe_ix ix_seq (pv 0) pe_int (fun _ _ => rfl)) pa_nil))))), ?_⟩
    refine ⟨_, rfl, Or.inr (Or.inl ⟨a, _, 0, _, rfl, rfl, SqT.of ha, at_of (j := 0) rfl rfl, ⟨_, rfl, Or.inr (Or.inl ⟨a, _, 1, _, rfl, rfl, SqT.of ha, at_of (j := 1) rfl rfl, ?_⟩)⟩⟩)⟩
    intro p dp np nd ne
    refine Or.inl (made' np nd ok.ne (Nat.lt_of_lt_of_le ok.small (Nat.pow_le_pow_right (by decide) (by decide))) fun H1 e1 hp => ⟨rfl, ?_⟩)
    refine ⟨_, rfl, Or.inr (Or.inl ⟨a, _, 2, _, rfl, rfl, SqT.of (e1 _ _ ha), at_of (j := 2) rfl rfl, ?_⟩)⟩
    intro r dr nr ndr ner
    exact Or.inl (rmade nr ndr hp ok.rnd fun H2 e2 hr => k r H2 (e1.trans e2) hr)
theorem insR {X : Cx} {C D r : Addr} {H : Hp} {t : Rat} {fr : Bool} (h : IsRnd C D H r t fr) : StX.InsC X H r D := let ⟨_, dx, _, x, _⟩ := h; Or.inr ⟨dx, _, x⟩
theorem sz_den {n : Nat} {q : Rat} (h : Sz n q) (e : n ≤ 8000) : (q.den : Int).natAbs < 2 ^ 8000 := Nat.lt_of_lt_of_le (szD h) (Nat.pow_le_pow_right (by decide) e)
end

end AZ
namespace AZ
open PySem L2
/-! ## texts read as numbers -/
/-- what is raised: the line and the word that cannot stand -/
def RaiW (CB : Addr) (i j : Int) (H : Hp) (E : XK) : Prop := ∀ H' dx, Same H H' → H' dx = none → E (.ref CB) (some dx) (upd H' dx (.xd [("word", .int j), ("line", .int i)]))
theorem RaiW.up {CB : Addr} {i j : Int} {H H1 : Hp} {E : XK} (h : RaiW CB i j H E) (e : Same H H1) : RaiW CB i j H1 E := fun H' dx s n => h H' dx (e.trans s) n
/-- no text -/
def NoTx (K : PySem.W.Frag) (H : Hp) (v : V) : Prop := ∃ t, TyX K H v t ∧ PySem.W.kitOne K t (.type "str") = some false
def spWords (K : PySem.W.Frag) (CB : Addr) : Sp := fun vs H Q E => (∃ x : Str, vs = [.str x] ∧ x.length ≤ 200 ∧ ∀ p, H p = none → Q (.ref p) (upd H p (.lst ((Txt.split x " ").map V.str)))) ∨ ∃ v, vs = [v] ∧ NoTx K H v ∧ RaiW CB 0 0 H E
/-- a number, or None -/
def oI : Option Int → V
  | some n => .int n
  | none => .non
def spWhole : Sp := fun vs H Q _ => ∃ x : Str, vs = [.str x] ∧ x.length ≤ 200 ∧ Q (oI (rdL (TL.tl x))) H
section
variable {P : Program} {w : World} {K : PySem.W.Frag} {mg : Str → Option Value} {base : Heap} {d : Ad}
theorem GX_BadText___init__ (T : Tx K mg d) : FnG P w K mg base CX0 1 d.BadText___init__ (spErrX2 K d.BadText "line" "word") := by
  obtain ⟨fd, F⟩ := T.F_BadText___init__
  refine (fnOG (k := 0) F sc_BadText___init__ (sp := spErrX2 K d.BadText "line" "word") (fun vs H Q E h => ?_) (fun cdv A outer s H vs Q E ng hr h => ?_)).pos (fun vs H Q E h => by obtain ⟨a, v, u, e, e2, rfl, _⟩ := h; rfl) (F.binds fun _ _ _ _ _ _ us hl => match us, hl with | [_, _, _], _ => rfl)
  · obtain ⟨a, v, u, e, e2, rfl, _⟩ := h
    rfl
  · obtain ⟨a, v, u, e, e2, rfl, ha, S, n, S2, n2, k⟩ := h
    -- slots: 0 self, 1 line, 2 word
    refine ⟨_, (pss_cons (ps_expr (pe_sinit T.vi_SnapError rfl T.m_SnapError (pa_cons (pv 0) (pa_cons (pe_joined (PJ.cons pe_str (PJ.cons (pe_fmtA ng hr.units (pv 1)) (PJ.cons pe_str (PJ.cons (pe_fmtA ng hr.units (pv 2)) PJ.nil))))) pa_nil))))
      (pss_cons (ps_ost (pv 0) (pv 1))
      (pss_one (ps_ost (pv 0) (pv 2))))), ?_⟩
    exact err2x_body T.ex_BadText T.a_BadText_line T.a_BadText_word ha S n S2 n2 rfl rfl rfl (by decide) (by decide) k
/-- BadText(i, j), small numbers -/
theorem mkW {i j : Int} {H : Hp} {σ : St} {Q : XK} (hi : Shn (.int i)) (hj : Shn (.int j)) (k : RaiW C i j H Q) : tMkX C (spErrX2 K C "line" "word") (tCons (tC (.int i)) (tCons (tC (.int j)) tNil)) σ H Q :=
  mkX2 (e := .int i) (e2 := .int j) (fun Q' q => q) (fun Q' q => q) (.dp (.int _) rfl) hi (.dp (.int _) rfl) hj fun dx hd => k _ dx (Same.refl H) hd
theorem shn0 : Shn (.int 0) := ⟨by decide +kernel, by decide +kernel, by decide +kernel⟩
theorem shn1 : Shn (.int 1) := ⟨by decide +kernel, by decide +kernel, by decide +kernel⟩
theorem shn2 : Shn (.int 2) := ⟨by decide +kernel, by decide +kernel, by decide +kernel⟩
theorem GX_split_words (T : Tx K mg d) : FnG P w K mg base (CXx P w) 3 d.split_words (spWords K d.BadText) := by
  have GX_BadText___init__ := GX_BadText___init__ (P := P) (w := w) (base := base) T
  obtain ⟨fd, F⟩ := T.F_split_words
  refine fnX_of (k := 2) F sc_split_words (sp := spWords K d.BadText) (fun vs H Q E h => ?_) (fun cdv A outer s H vs Q E ng hr tk h => ?_) (F.binds fun _ _ _ _ _ _ us hl => match us, hl with | [_], _ => rfl)
  · rcases h with ⟨x, rfl, _⟩ | ⟨v, rfl, _⟩ <;> rfl
  · -- slots: 0 text
    refine ⟨_, (pss_cons (ps_if (pt_not (pt_val (pe_callB uIsi (by rfl) T.n_isinstance (by decide +kernel) (pa_cons (pv 0) (pa_cons (pe_bltn (v := .ty "str") (by rfl) T.n_str (by decide +kernel) rfl) pa_nil))))) (pss_one (ps_raise rfl tk (pmk_err T.ex_BadText.err GX_BadText___init__ ng (hr.mono (by decide)) pass0 rfl T.m_BadText (pa_cons pe_int (pa_cons pe_int pa_nil))))) pss_nil)
      (pss_one (ps_ret (pe_split (pv 0) pe_str)))), ?_⟩
    rcases h with ⟨x, rfl, hx, k⟩ | ⟨v, rfl, ⟨t, ty, kt⟩, k⟩
    · refine ⟨_, rfl, Or.inl ⟨_, _, _, _, true, rfl, .ty _, .base (.str x), T.i_str_is_str, true, rfl, iteF ?_⟩⟩
      exact ⟨_, rfl, ⟨_, rfl⟩, x, _, rfl, rfl, by decide, Nat.le_trans (Nat.add_le_add_right hx 2) (by decide), k⟩
    · refine ⟨_, rfl, Or.inl ⟨_, _, _, _, false, rfl, .ty _, ty, kt, false, rfl, iteT ?_⟩⟩
      exact mkW shn0 shn0 k
theorem G_whole_number (T : Tx K mg d) : FnR P w K mg base CX0 1 d.whole_number spWhole := by
  obtain ⟨fd, F⟩ := T.F_whole_number
  refine FnR.imp (FnOk.raw (F.ok sc_whole_number (k := 0) (sp := spWhole) (fun vs H Q E h => ?_) (fun cdv A outer s H vs Q E hr h => ?_)) (F.binds fun _ _ _ _ _ _ us hl => match us, hl with | [_], _ => rfl) .nil) fun vs H Q E h => by rw [List.append_nil]; exact h
  · obtain ⟨x, rfl, _⟩ := h
    rfl
  · obtain ⟨x, rfl, hx, k⟩ := h
    -- slots: 0 word, 1 digits
    refine ⟨_, (pss_cons (ps_set (i := 1) sc_whole_number.nd rfl (Or.inl rfl) (pe_m1 PySem.F.slot_str_removeprefix PySem.F.type_str_removeprefix mt_removeprefix (pv 0) pe_str))
      (pss_cons (ps_if (PW.pt (pw_or (pt_not (PW.pt (pw_and (pt_val (pe_m0 PySem.F.slot_str_isascii PySem.F.type_str_isascii mt_isascii (pv 1))) (pw_and1 (pt_val (pe_m0 PySem.F.slot_str_isdigit PySem.F.type_str_isdigit mt_isdigit (pv 1))))))) (pw_or1 (pt_cmpR uGt (pe_callB call_len_str (by rfl) T.n_len (by decide +kernel) (pa_cons (pv 1) pa_nil)) (pe_glob (v := .int 4000) rfl T.mi_MOST_DIGITS.choose_spec ⟨_, rfl⟩) (nomark _))))) (pss_one (ps_ret pe_non)) pss_nil)
      (pss_cons (ps_if (PW.pt (pw_and (pt_val (pe_m1 PySem.F.slot_str_startswith PySem.F.type_str_startswith mt_startswith (pv 1) pe_str)) (pw_and1 (pt_cmpR (uNe hr.units) (pv 0) pe_str (nomark _))))) (pss_one (ps_ret pe_non)) pss_nil)
      (pss_one (ps_ret (pe_callTy call_int_str (by rfl) T.n_int (by decide +kernel) (pa_cons (pv 0) pa_nil))))))), ?_⟩
    have hs : x.length ≤ sizeLine := Nat.le_trans hx (by decide)
    refine ⟨_, rfl, ⟨_, rfl⟩, x, _, rfl, rfl, hs, ?_⟩
    have eb := rm_minus x
    generalize Txt.removeprefix x "-" = D at eb ⊢
    have hD : D.length ≤ 200 := by
      rw [TL.len_tl, eb]
      refine Nat.le_trans ?_ hx
      rw [TL.len_tl]
      unfold bodyL
      split
      · rw [List.length_tail]; omega
      · exact Nat.le_refl _
    have ed := dg_txt D
    rw [eb] at ed
    have none1 : (Txt.isascii D && Txt.isdigit D) = false → Q .non H := fun z => by
      rw [ed] at z
      rw [rdL_no1 (l := TL.tl x) (by
        cases e : dgL (bodyL (TL.tl x)) with
        | false => exact Or.inl rfl
        | true =>
          rw [e] at z
          refine Or.inr ?_
          cases e2 : bodyL (TL.tl x) with
          | nil => rfl
          | cons a b => rw [e2] at z; cases z)] at k
      exact k
    refine ⟨_, rfl, ⟨_, rfl⟩, D, rfl, rfl, trivial, _, rfl, ite2 (fun h1 => ?_) (fun h1 => ?_)⟩
    rotate_left
    · exact iteT (none1 (by rw [(Bool.not_eq_true _).mp h1]; rfl))
    refine ⟨_, rfl, ⟨_, rfl⟩, D, rfl, rfl, trivial, _, rfl, ?_⟩
    cases h2 : Txt.isdigit D with
    | false => exact iteT (none1 (by rw [h2, Bool.and_false]))
    | true =>
    refine iteF ?_
    refine ⟨_, rfl, D, rfl, Nat.le_trans hD (by decide), Or.inl ⟨_, _, rfl, rfl, _, rfl, ?_⟩⟩
    rw [decide_eq_false (show ¬ (4000 : Int) < (D.length : Int) by omega)]
    refine iteF ?_
    rw [h1, h2] at ed
    have dg : dgL (bodyL (TL.tl x)) = true ∧ bodyL (TL.tl x) ≠ [] := by
      have ed := ed.symm
      rw [Bool.and_self, Bool.and_eq_true] at ed
      refine ⟨ed.1, fun z => ?_⟩
      rw [z] at ed
      cases ed.2
    obtain ⟨v, ev, _, hv⟩ := rdL_yes (x := x) dg.1 dg.2 (Nat.le_trans hx (by decide))
    refine ⟨_, rfl, ⟨_, rfl⟩, D, _, rfl, rfl, _, rfl, ?_⟩
    rw [sw_zero, eb]
    have fin : ((bodyL (TL.tl x)).head? ≠ some 48 ∨ TL.tl x = [48]) → Q (.int v) H := fun z => by
      rw [hv z] at k
      exact k
    by_cases h3 : (bodyL (TL.tl x)).head? = some 48
    · rw [decide_eq_true h3]
      refine iteT ?_
      refine ⟨_, rfl, Or.inl ⟨rfl, _, rfl, ite2 (fun h4 => ?_) (fun h4 => ?_)⟩⟩
      · have nz : TL.tl x ≠ [48] := fun z => by
          have : x = "0" := TL.ext_tl z
          rw [this] at h4
          revert h4
          decide
        rw [rdL_no2 h3 nz] at k
        exact k
      · have : x = "0" := by
          have h4 := (Bool.not_eq_true _).mp h4
          rw [Bool.not_eq_false'] at h4
          exact V.str.inj (of_decide_eq_true h4)
        exact ⟨_, rfl, x, v, rfl, ev, Nat.le_trans hx (by decide), fin (Or.inr (by rw [this]; rfl))⟩
    · rw [decide_eq_false h3]
      refine iteF ?_
      exact ⟨_, rfl, x, v, rfl, ev, Nat.le_trans hx (by decide), fin (Or.inl h3)⟩/-! ### numbers told by a text -/
theorem val_lt : ∀ (n : Nat) (l : List Nat), l.length = n → dgL l = true → NumText.digitsVal l < 10 ^ n
  | 0, l, e, _ => by
    rw [List.length_eq_zero_iff.mp e]
    decide
  | n + 1, l, e, h => by
    rcases List.eq_nil_or_concat l with rfl | ⟨r, c, rfl⟩
    · cases e
    rw [List.concat_eq_append] at *
    have dd : NumText.AllDigits (r ++ [c]) := dgL_iff.mp h
    have hc := dd c (List.mem_append_right _ (List.mem_singleton.mpr rfl))
    have ih := val_lt n r (by rw [List.length_append] at e; simpa using e) (dgL_iff.mpr fun z hz => dd z (List.mem_append_left _ hz))
    rw [val_app, Nat.pow_succ]
    omega
theorem rdL_lt {l : List Nat} {n : Int} (h : rdL l = some n) : n.natAbs < 10 ^ l.length := by
  unfold rdL at h
  split at h
  · split at h
    · rename_i hc
      rw [Bool.and_eq_true] at hc
      injection h with h
      have := val_lt _ l.tail rfl (canon_dg hc.1).1
      rw [List.length_tail] at this
      have m : 10 ^ (l.length - 1) ≤ 10 ^ l.length := Nat.pow_le_pow_right (by decide) (Nat.sub_le _ _)
      omega
    · cases h
  · split at h
    · rename_i hc
      injection h with h
      have := val_lt _ l rfl (canon_dg hc).1
      omega
    · cases h
/-- what told_number tells -/
def tdQ (x : Str) : Option Rat :=
  match rdL (TL.tl (Txt.partition x "/").1) with
  | none => none
  | some a => if (Txt.partition x "/").2.1.length = 0 then some (Rat.divInt a 1) else
    match rdL (TL.tl (Txt.partition x "/").2.2) with
    | none => none
    | some b => if b < 2 ∨ 1 < (Int.gcd a b : Int) then none else some (Rat.divInt a b)
def spTold (C : Addr) : Sp := fun vs H Q _ => ∃ x : Str, vs = [.str x] ∧ x.length ≤ 200 ∧ ∀ H', Same H H' → (tdQ x = none → Q .non H') ∧ ∀ q p, tdQ x = some q → IsRat C H' p q → Q (.ref p) H'
/-- a text at the first sign s -/
theorem cut_at (s : Nat) (x : Str) : s ∉ TL.tl x ∨ ∃ a b : Str, x = a ++ ⟨#[s]⟩ ++ b ∧ s ∉ TL.tl a := by
  by_cases h : s ∈ TL.tl x
  · obtain ⟨as, bs, e, hn⟩ := List.eq_append_cons_of_mem h
    refine Or.inr ⟨⟨as.toArray⟩, ⟨bs.toArray⟩, ?_, hn⟩
    apply TL.ext_tl
    rw [e, TL.tl_append, TL.tl_append]
    show as ++ s :: bs = as ++ [s] ++ bs
    simp
  · exact Or.inl h
theorem part_len (x : Str) (h : x.length ≤ 200) : (Txt.partition x "/").1.length ≤ 200 ∧ (Txt.partition x "/").2.1.length ≤ 200 ∧ (Txt.partition x "/").2.2.length ≤ 200 := by
  rcases cut_at 47 x with hn | ⟨a, b, rfl, hn⟩
  · rw [TL.partition_none (y := "/") (s := 47) (S := []) rfl hn]
    exact ⟨h, Nat.zero_le _, Nat.zero_le _⟩
  · rw [show (⟨#[47]⟩ : Str) = "/" from rfl, TL.partition_app (y := "/") (s := 47) (S := []) rfl hn]
    rw [slen, slen] at h
    have e1 : (⟨#[47]⟩ : Str).length = 1 := rfl
    exact ⟨(by show a.length ≤ 200; omega), (by show ("/" : Str).length ≤ 200; decide), (by show b.length ≤ 200; omega)⟩
theorem G_told_number (T : Tx K mg d) : FnR P w K mg base CX0 4 d.told_number (spTold d.Ratio) := by
  have G_whole_number : FnR P w K mg base CX0 1 d.whole_number spWhole := G_whole_number T
  have G_Ratio___init__ : FnR P w K mg base CX0 2 d.Ratio___init__ _ := G_Ratio___init__ T
  obtain ⟨fd, F⟩ := T.F_told_number
  refine FnR.imp (FnOk.raw (F.ok sc_told_number (k := 3) (sp := spTold d.Ratio) (fun vs H Q E h => ?_) (fun cdv A outer s H vs Q E hr h => ?_)) (F.binds fun _ _ _ _ _ _ us hl => match us, hl with | [_], _ => rfl) .nil) fun vs H Q E h => by rw [List.append_nil]; exact h
  · obtain ⟨x, rfl, _⟩ := h
    rfl
  · obtain ⟨x, rfl, hx, k⟩ := h
    -- slots: 0 word, 1 over, 2 stroke, 3 under, 4 above, 5 below
    refine ⟨_, (pss_cons (ps_asg (pe_partition (pv 0) pe_str) (pg_tup (by rfl) (pgs_cons (pg_name (i := 1) sc_told_number.nd rfl (Or.inl rfl)) (pgs_cons (pg_name (i := 2) sc_told_number.nd rfl (Or.inl rfl)) (pgs_cons (pg_name (i := 3) sc_told_number.nd rfl (Or.inl rfl)) pgs_nil)))))
      (pss_cons (ps_par (i := 4) (j := 5) (by rfl) sc_told_number.nd rfl rfl (by decide) rfl rfl (pa_cons (pe_fnR G_whole_number (hr.mono (by decide)) T.k_whole_number T.m_whole_number pass0 (pa_cons (pv 1) pa_nil)) (pa_cons (pe_fnR G_whole_number (hr.mono (by decide)) T.k_whole_number T.m_whole_number pass0 (pa_cons (pv 3) pa_nil)) pa_nil)) (by rfl))
      (pss_cons (ps_if (pt_cmp (pc_isN (pv 4)) rfl) (pss_one (ps_ret pe_non)) pss_nil)
      (pss_cons (ps_if (pt_not (pt_truth (pv 2) (by intro _; rfl))) (pss_one (ps_ret (StX.pe_makeR T.mk_Ratio G_Ratio___init__ (hr.mono (by decide)) rfl T.m_Ratio pass0 (pa_cons (pv 4) pa_nil)))) pss_nil)
      (pss_cons (ps_if (PW.pt (pw_or (pt_cmp (pc_isN (pv 5)) rfl) (pw_or (pt_cmpR uLt (pv 5) pe_int (nomark _)) (pw_or1 (pt_cmpR uGt (pe_callBfun cr_gcd rfl T.m_gcd (pa_cons (pv 4) (pa_cons (pv 5) pa_nil))) pe_int (nomark _)))))) (pss_one (ps_ret pe_non)) pss_nil)
      (pss_one (ps_ret (StX.pe_makeR T.mk_Ratio G_Ratio___init__ (hr.mono (by decide)) rfl T.m_Ratio pass0 (pa_cons (pv 4) (pa_cons (pv 5) pa_nil)))))))))), ?_⟩
    obtain ⟨la, ls, lb⟩ := part_len x hx
    unfold tdQ at k
    refine ⟨_, rfl, ⟨_, rfl⟩, x, _, rfl, rfl, by decide, Nat.le_trans hx (by decide), fun p hp => ⟨p, _, rfl, Or.inl (Or.inl upd_same), rfl, ⟨_, _, rfl, ⟨_, _, rfl, ⟨_, _, rfl, rfl, ?_⟩⟩⟩⟩⟩
    generalize Txt.partition x "/" = pr at la ls lb k ⊢
    obtain ⟨a, st, b⟩ := pr
    dsimp only [gName] at la ls lb k ⊢
    have s1 : Same H (upd H p (.tup [.str a, .str st, .str b])) := sameNew hp
    replace k := fun H' e => k H' (s1.trans e)
    generalize upd H p (.tup [.str a, .str st, .str b]) = H1 at k s1 ⊢
    refine ⟨_, rfl, a, rfl, la, ⟨_, rfl, b, rfl, lb, ?_⟩⟩
    dsimp only
    refine ⟨_, _, rfl, ?_⟩
    cases ea : rdL (TL.tl a) with
    | none =>
      rw [ea] at k
      exact ⟨_, rfl, _, rfl, iteT ((k H1 (Same.refl H1)).1 rfl)⟩
    | some i =>
    rw [ea] at k
    refine ⟨_, rfl, _, rfl, iteF ?_⟩
    have zi : i.natAbs < 10 ^ 200 := Nat.lt_of_lt_of_le (rdL_lt ea) (Nat.pow_le_pow_right (by decide) (by rw [← TL.len_tl]; exact la))
    by_cases hs : st.length = 0
    · refine ⟨_, rfl, _, ⟨Nat.le_trans ls (by decide), rfl⟩, ?_⟩
      rw [hs]
      refine iteT ?_
      refine ⟨_, rfl, fun z dx nx nd ne => Or.inr (made nx nd (by decide) (by decide) fun H' e r => ?_)⟩
      exact (k H' e).2 _ z (by simp only [if_pos hs]) r
    · refine ⟨_, rfl, _, ⟨Nat.le_trans ls (by decide), rfl⟩, ?_⟩
      have : ((st.length : Int) != 0) = true := by simpa using hs
      rw [this]
      refine iteF ?_
      simp only [if_neg hs] at k
      cases eb : rdL (TL.tl b) with
      | none =>
        rw [eb] at k
        exact ⟨_, rfl, _, rfl, iteT (iteT ((k H1 (Same.refl H1)).1 rfl))⟩
      | some j =>
      rw [eb] at k
      have zj : j.natAbs < 10 ^ 200 := Nat.lt_of_lt_of_le (rdL_lt eb) (Nat.pow_le_pow_right (by decide) (by rw [← TL.len_tl]; exact lb))
      refine ⟨_, rfl, _, rfl, iteF ?_⟩
      refine ⟨_, rfl, Or.inl ⟨_, _, rfl, rfl, _, rfl, ?_⟩⟩
      by_cases h2 : j < 2
      · rw [decide_eq_true h2]
        exact iteT (iteT ((k H1 (Same.refl H1)).1 (if_pos (Or.inl h2))))
      rw [decide_eq_false h2]
      refine iteF ?_
      refine ⟨_, rfl, _, rfl, i, j, rfl, Or.inl ⟨_, _, rfl, rfl, _, rfl, ?_⟩⟩
      by_cases h3 : 1 < (Int.gcd i j : Int)
      · rw [decide_eq_true (show (1 : Int) < ((Nat.gcd i.natAbs j.natAbs : Nat) : Int) from h3)]
        exact iteT ((k H1 (Same.refl H1)).1 (if_pos (Or.inr h3)))
      rw [decide_eq_false (show ¬ (1 : Int) < ((Nat.gcd i.natAbs j.natAbs : Nat) : Int) from h3)]
      refine iteF ?_
      refine ⟨_, rfl, _, rfl, fun z dx nx nd ne => Or.inl (made nx nd (by omega) (Nat.lt_trans zj (by decide +kernel)) fun H' e r => ?_)⟩
      exact (k H' e).2 _ z (if_neg (by rintro (h | h) <;> contradiction)) r
end

end AZ
namespace AZ
open PySem L2
/-! ## roundings read -/
theorem tdQ_sz {x : Str} {q : Rat} (hx : x.length ≤ 200) (h : tdQ x = some q) : Sz 800 q := by
  obtain ⟨la, _, lb⟩ := part_len x hx
  have up : ∀ {i : Int} {y : Str}, y.length ≤ 200 → rdL (TL.tl y) = some i → i.natAbs < 2 ^ 800 := fun hy e =>
    Nat.lt_of_lt_of_le (Nat.lt_of_lt_of_le (rdL_lt e) (Nat.pow_le_pow_right (by decide) (by rw [← TL.len_tl]; exact hy))) (by decide +kernel)
  unfold tdQ at h
  generalize Txt.partition x "/" = pr at la lb h
  obtain ⟨a, st, b⟩ := pr
  dsimp only at la lb h
  cases ea : rdL (TL.tl a) with
  | none => rw [ea] at h; cases h
  | some i =>
    rw [ea] at h
    dsimp only at h
    split at h
    · injection h with h
      rw [← h]
      exact sz_di (by decide) (up la ea) (by decide)
    · cases eb : rdL (TL.tl b) with
      | none => rw [eb] at h; cases h
      | some j =>
        rw [eb] at h
        dsimp only at h
        split at h
        · cases h
        · rename_i hn
          injection h with h
          rw [← h]
          exact sz_di (fun z => hn (Or.inl (by omega))) (up la ea) (up lb eb)
/-- what told_rounding tells -/
def tdR (x : Str) (fr : Bool) : Option Rat :=
  match tdQ x with
  | none => none
  | some q => if q < ((0 : Int) : Rat) ∨ q > ((1 : Int) : Rat) ∨ q = (if fr then ((0 : Int) : Rat) else ((1 : Int) : Rat)) then none else some q
theorem tdR_ok {x : Str} {fr : Bool} {q : Rat} (hx : x.length ≤ 200) (h : tdR x fr = some q) : RndOk q fr := by
  unfold tdR at h
  cases e : tdQ x with
  | none => rw [e] at h; cases h
  | some t =>
    rw [e] at h
    dsimp only at h
    by_cases hn : t < ((0 : Int) : Rat) ∨ t > ((1 : Int) : Rat) ∨ t = (if fr then ((0 : Int) : Rat) else ((1 : Int) : Rat))
    · rw [if_pos hn] at h
      cases h
    · rw [if_neg hn] at h
      injection h with h
      subst h
      have h0 : ¬ t < ((0 : Int) : Rat) := fun z => hn (Or.inl z)
      have h1 : ¬ t > ((1 : Int) : Rat) := fun z => hn (Or.inr (Or.inl z))
      refine ⟨(tdQ_sz hx e).mono (by decide), by grind, by grind, fun z w => hn (Or.inr (Or.inr ?_)), fun z w => hn (Or.inr (Or.inr ?_))⟩
      · rw [z, w]; rfl
      · rw [z, w]; rfl
def spTR (C D : Addr) : Sp := fun vs H Q _ => ∃ kd x : Str, vs = [.str kd, .str x] ∧ x.length ≤ 200 ∧ ∀ H', Same H H' → (tdR x (decide (kd = "from")) = none → Q .non H') ∧ ∀ q r, tdR x (decide (kd = "from")) = some q → IsRnd C D H' r q (decide (kd = "from")) → Q (.ref r) H'
section
variable {P : Program} {w : World} {K : PySem.W.Frag} {mg : Str → Option Value} {base : Heap} {d : Ad}
theorem G_told_rounding (T : Tx K mg d) : FnR P w K mg base CX0 8 d.told_rounding (spTR d.Ratio d.Rounding) := by
  have G_told_number : FnR P w K mg base CX0 4 d.told_number (spTold d.Ratio) := G_told_number T
  have G_lt : FnR P w K mg base CX0 5 d.Ratio___lt__ (spCmp d.Ratio fun x y => decide (x < y)) := G_Ratio___lt__ T
  have G_gt : FnR P w K mg base CX0 5 d.Ratio___gt__ (spCmp d.Ratio fun x y => decide (x > y)) := G_Ratio___gt__ T
  have G_eq : FnR P w K mg base CX0 2 d.Ratio___eq__ (spCmp d.Ratio fun x y => decide (x = y)) := G_Ratio___eq__ T
  have G_Rounding___init__ : FnR P w K mg base CX0 6 d.Rounding___init__ _ := G_Rounding___init__ T
  obtain ⟨fd, F⟩ := T.F_told_rounding
  refine FnR.imp (FnOk.raw (F.ok sc_told_rounding (k := 7) (sp := spTR d.Ratio d.Rounding) (fun vs H Q E h => ?_) (fun cdv A outer s H vs Q E hr h => ?_)) (F.binds fun _ _ _ _ _ _ us hl => match us, hl with | [_, _], _ => rfl) .nil) fun vs H Q E h => by rw [List.append_nil]; exact h
  · obtain ⟨kd, x, rfl, _⟩ := h
    rfl
  · obtain ⟨kd, x, rfl, hx, k⟩ := h
    have hok := fun q => tdR_ok (x := x) (fr := decide (kd = "from")) (q := q) hx
    unfold tdR at k hok
    -- slots: 0 kind, 1 word, 2 threshold, 3 is_from
    refine ⟨_, (pss_cons (ps_set (i := 2) sc_told_rounding.nd rfl (Or.inl rfl) (pe_fnR G_told_number (hr.mono (by decide)) T.k_told_number T.m_told_number pass0 (pa_cons (pv 1) pa_nil)))
      (pss_cons (ps_if (PW.pt (pw_or (pt_cmp (pc_isN (pv 2)) rfl) (pw_or (pt_cmpR uLt (pv 2) pe_int (nomark _)) (pw_or1 (pt_cmpR uGt (pv 2) pe_int (nomark _)))))) (pss_one (ps_ret pe_non)) pss_nil)
      (pss_cons (ps_set (i := 3) sc_told_rounding.nd rfl (Or.inl rfl) (pe_cmpR (uEq hr.units) (pv 0) pe_str (nomark _)))
      (pss_cons (ps_if (pt_cmpR (uEq hr.units) (pv 2) (pe_ifExp (pt_val (pv 3)) pe_int pe_int) (nomark _)) (pss_one (ps_ret pe_non)) pss_nil)
      (pss_one (ps_ret (StX.pe_makeR T.mk_Rounding G_Rounding___init__ (hr.mono (by decide)) rfl T.m_Rounding pass0 (pa_cons (pv 2) (pa_cons (pv 3) pa_nil))))))))), ?_⟩
    refine ⟨_, rfl, x, rfl, hx, fun H1 e1 => ⟨fun hn => ?_, fun q a hq ha => ?_⟩⟩
    · rw [hn] at k
      exact ⟨_, rfl, _, rfl, iteT (iteT ((k H1 e1).1 rfl))⟩
    have zt : Sz 2000 q := (tdQ_sz hx hq).mono (by decide)
    have z0 : Sz 2000 ((0 : Int) : Rat) := sz_i (by decide) (by decide)
    have z1 : Sz 2000 ((1 : Int) : Rat) := sz_i (by decide) (by decide)
    rw [hq] at k hok
    dsimp only at k hok
    refine ⟨_, rfl, _, rfl, iteF ?_⟩
    refine ⟨_, rfl, Or.inr (own_cmp T.q_Ratio_lt G_lt (hr.mono (by decide)) ha num_i zt z0 fun H2 e2 => ⟨_, rfl, ?_⟩)⟩
    by_cases h1 : q < ((0 : Int) : Rat)
    · rw [decide_eq_true h1]
      exact iteT (iteT ((k H2 (e1.trans e2)).1 (if_pos (Or.inl h1))))
    rw [decide_eq_false h1]
    refine iteF ?_
    refine ⟨_, rfl, Or.inr (own_cmp T.q_Ratio_gt G_gt (hr.mono (by decide)) (ha.same e2) num_i zt z1 fun H3 e3 => ⟨_, rfl, ?_⟩)⟩
    have e13 := (e1.trans e2).trans e3
    by_cases h2 : q > ((1 : Int) : Rat)
    · rw [decide_eq_true h2]
      exact iteT ((k H3 e13).1 (if_pos (Or.inr (Or.inl h2))))
    rw [decide_eq_false h2]
    refine iteF ?_
    refine ⟨_, rfl, Or.inl ⟨rfl, ?_⟩⟩
    have ed : decide (V.str kd = V.str (Str.ofString "from")) = decide (kd = "from") := by
      by_cases z : kd = "from"
      · rw [decide_eq_true z, decide_eq_true (by rw [z])]
      · rw [decide_eq_false z, decide_eq_false (fun y => z (V.str.inj y))]
    rw [ed]
    generalize decide (kd = "from") = fr at k hok ⊢
    have fin : ∀ H4, Same H1 H4 → ¬ q = (if fr then ((0 : Int) : Rat) else ((1 : Int) : Rat)) → ∀ z dx, H4 z = none → H4 dx = none → spRInit d.Ratio d.Rounding [.ref z, .ref a, .bl fr] (upd (upd H4 dx (.own z)) z (.ins d.Rounding dx [])) (fun v H2 => v = .non ∧ Q (.ref z) H2) E0 := fun H4 e4 h3 z dx nz nd => by
      have hn : ¬ (q < ((0 : Int) : Rat) ∨ q > ((1 : Int) : Rat) ∨ q = (if fr then ((0 : Int) : Rat) else ((1 : Int) : Rat))) := by
        rintro (h | h | h)
        · exact h1 h
        · exact h2 h
        · exact h3 h
      refine rmade nz nd (ha.same e4) (hok q (if_neg hn)) fun H5 e5 r => ?_
      exact (k H5 ((e1.trans e4).trans e5)).2 q z (if_neg hn) r
    dsimp only [gName]
    cases fr with
    | true =>
      refine ⟨_, rfl, _, rfl, _, rfl, iteT (Or.inr (Or.inl (own_cmp T.q_Ratio_eq G_eq (hr.mono (by decide)) ((ha.same e2).same e3) num_i zt z0 fun H4 e4 => ⟨_, rfl, ?_⟩)))⟩
      by_cases h3 : q = ((0 : Int) : Rat)
      · rw [decide_eq_true h3]
        exact iteT ((k H4 (e13.trans e4)).1 (if_pos (Or.inr (Or.inr h3))))
      · rw [decide_eq_false h3]
        refine iteF ⟨_, rfl, _, rfl, fun z dx nz nd ne => Or.inl ?_⟩
        exact fin H4 ((e2.trans e3).trans e4) h3 z dx nz nd
    | false =>
      refine ⟨_, rfl, _, rfl, _, rfl, iteF (Or.inr (Or.inl (own_cmp T.q_Ratio_eq G_eq (hr.mono (by decide)) ((ha.same e2).same e3) num_i zt z1 fun H4 e4 => ⟨_, rfl, ?_⟩)))⟩
      by_cases h3 : q = ((1 : Int) : Rat)
      · rw [decide_eq_true h3]
        exact iteT ((k H4 (e13.trans e4)).1 (if_pos (Or.inr (Or.inr h3))))
      · rw [decide_eq_false h3]
        refine iteF ⟨_, rfl, _, rfl, fun z dx nz nd ne => Or.inl ?_⟩
        exact fin H4 ((e2.trans e3).trans e4) h3 z dx nz nd
end

end AZ
namespace AZ
open PySem L2
/-! ## words of a text -/
theorem split_one {s : Nat} (hs : s < 256) {x : Str} (h : s ∉ TL.tl x) : Txt.split x ⟨#[s]⟩ = [x] := by
  have e := TL.split_spl x ⟨#[s]⟩ (by simp [TL.tl]) (TL.kind_ok (by simpa using hs))
  rw [show TL.tl (⟨#[s]⟩ : Str) = [s] from rfl, TL.spl_last1 h] at e
  exact TL.map_tl_inj (m := [x]) e
theorem split_cons {s : Nat} (hs : s < 256) {a b : Str} (h : s ∉ TL.tl a) : Txt.split (a ++ ⟨#[s]⟩ ++ b) ⟨#[s]⟩ = a :: Txt.split b ⟨#[s]⟩ := by
  have e := TL.split_spl (a ++ ⟨#[s]⟩ ++ b) ⟨#[s]⟩ (by simp [TL.tl]) (TL.kind_ok (by simpa using hs))
  have e2 := TL.split_spl b ⟨#[s]⟩ (by simp [TL.tl]) (TL.kind_ok (by simpa using hs))
  rw [show TL.tl (⟨#[s]⟩ : Str) = [s] from rfl] at e e2
  rw [TL.tl_append, TL.tl_append, show TL.tl (⟨#[s]⟩ : Str) = [s] from rfl, List.append_assoc, TL.spl_part1 h, ← e2] at e
  exact TL.map_tl_inj (m := a :: Txt.split b ⟨#[s]⟩) e
theorem split_ne {s : Nat} (hs : s < 256) (x : Str) : Txt.split x ⟨#[s]⟩ ≠ [] := by
  rcases cut_at s x with h | ⟨a, b, rfl, h⟩
  · rw [split_one hs h]; exact List.cons_ne_nil _ _
  · rw [split_cons hs h]; exact List.cons_ne_nil _ _
theorem split_le {s : Nat} (hs : s < 256) : ∀ (n : Nat) (x : Str), x.length ≤ n → ∀ w ∈ Txt.split x ⟨#[s]⟩, w.length ≤ n
  | n, x, hx, w, hw => by
    rcases cut_at s x with h | ⟨a, b, rfl, h⟩
    · rw [split_one hs h] at hw
      rw [List.mem_singleton.mp hw]
      exact hx
    · rw [split_cons hs h] at hw
      rw [slen, slen] at hx
      have e1 : (⟨#[s]⟩ : Str).length = 1 := rfl
      rcases List.mem_cons.mp hw with rfl | hw
      · omega
      · cases n with
        | zero => omega
        | succ n => exact Nat.le_succ_of_le (split_le hs n b (by omega) w hw)
theorem split_many {s : Nat} (hs : s < 256) : ∀ (n : Nat) (x : Str), x.length ≤ n → (Txt.split x ⟨#[s]⟩).length ≤ n + 1
  | n, x, hx => by
    rcases cut_at s x with h | ⟨a, b, rfl, h⟩
    · rw [split_one hs h]
      show 1 ≤ n + 1
      omega
    · rw [split_cons hs h]
      rw [slen, slen] at hx
      have e1 : (⟨#[s]⟩ : Str).length = 1 := rfl
      cases n with
      | zero => omega
      | succ n =>
        have := split_many hs n b (by omega)
        show (Txt.split b ⟨#[s]⟩).length + 1 ≤ n + 1 + 1
        omega
/-- what a text is read as: a rounding, or the word that cannot stand -/
def dueR : List Str → (Rat × Bool) ⊕ Int
  | [] => .inr 0
  | w0 :: r => if w0 ≠ "from" ∧ w0 ≠ "above" then .inr 0 else
    match r with
    | [] => .inr 1
    | w1 :: r2 =>
      match tdR w1 (decide (w0 = "from")) with
      | none => .inr 1
      | some q => if r2 = [] then .inl (q, decide (w0 = "from")) else .inr 2
theorem dueR_one {w0 : Str} (h : ¬(w0 ≠ "from" ∧ w0 ≠ "above")) : dueR [w0] = .inr 1 := if_neg h
theorem dueR_none {w0 w1 : Str} {r : List Str} (h : ¬(w0 ≠ "from" ∧ w0 ≠ "above")) (e : tdR w1 (decide (w0 = "from")) = none) : dueR (w0 :: w1 :: r) = .inr 1 := by
  refine (if_neg h).trans ?_
  simp only [e]
theorem dueR_some {w0 w1 : Str} {r : List Str} {q : Rat} (h : ¬(w0 ≠ "from" ∧ w0 ≠ "above")) (e : tdR w1 (decide (w0 = "from")) = some q) : dueR (w0 :: w1 :: r) = if r = [] then .inl (q, decide (w0 = "from")) else .inr 2 := by
  refine (if_neg h).trans ?_
  simp only [e]
def spRead (K : PySem.W.Frag) (d : Ad) : Sp := fun vs H Q E =>
  (∃ (c : V) (x : Str), vs = [c, .str x] ∧ x.length ≤ 200 ∧ ((∃ q fr, dueR (Txt.split x " ") = .inl (q, fr) ∧ ∀ r H', Same H H' → IsRnd d.Ratio d.Rounding H' r q fr → Q (.ref r) H') ∨ ∃ n, dueR (Txt.split x " ") = .inr n ∧ RaiW d.BadText 0 n H E)) ∨
  ∃ (c v : V), vs = [c, v] ∧ NoTx K H v ∧ RaiW d.BadText 0 0 H E
theorem spRead_len {K : PySem.W.Frag} {d : Ad} : ∀ vs H Q E, spRead K d vs H Q E → vs.length = 2 := fun vs H Q E h => by
  rcases h with ⟨c, x, rfl, _⟩ | ⟨c, v, rfl, _⟩ <;> rfl
theorem tAnd_both {a b : L2.St → Hp → (Bool → Hp → Prop) → Prop} {x y : Bool} {σ : L2.St} {H : Hp} {R : Bool → Hp → Prop} (ha : ∀ R, R x H → a σ H R) (hb : ∀ R, R y H → b σ H R) (k : R (x && y) H) : tAnd a b σ H R :=
  ha _ (by
    cases x with
    | true => exact iteT (hb _ k)
    | false => exact iteF k)
section
variable {P : Program} {w : World} {K : PySem.W.Frag} {mg : Str → Option Value} {base : Heap} {d : Ad}
theorem GO_Rounding_read (T : Tx K mg d) : ∃ fd, Binds K fd ["cls", "text"] [] ∧ (∀ a b : Value, bindArgs fd ⟨[a], [(("text" : Str), b)]⟩ = pure [(("cls" : Str), a), (("text" : Str), b)]) ∧ FnOG P w K mg base (CXx P w) 9 d.Rounding_read fd ["cls", "text"] (spRead K d) := by
  have GX_split_words := GX_split_words (P := P) (w := w) (base := base) T
  have G_told_rounding : FnR P w K mg base CX0 8 d.told_rounding (spTR d.Ratio d.Rounding) := G_told_rounding T
  have GX_BadText___init__ := GX_BadText___init__ (P := P) (w := w) (base := base) T
  obtain ⟨fd, F⟩ := T.F_Rounding_read
  refine ⟨fd, F.binds fun _ _ _ _ _ _ us hl => match us, hl with | [_, _], _ => rfl, ?_, fnXO_of (k := 8) F sc_Rounding_read spRead_len (fun cdv A out z H vs Q E ng hr tk h => ?_)⟩
  · obtain ⟨oc, od, kV, doc, pm, an, cdv, ct, osl, rfl, lk, cg⟩ := F.ex
    exact fun a b => rfl
  · -- slots: 0 cls, 1 text, 2 words, 3 rounding
    refine ⟨_, (pss_cons (ps_set (i := 2) sc_Rounding_read.nd rfl (Or.inl rfl) (pe_fnG GX_split_words ng (hr.mono (by decide)) T.k_split_words T.m_split_words (on tk) (pa_cons (pv 1) pa_nil)))
      (pss_cons (ps_if (PW.pt (pw_and (pt_cmpR (uNe hr.units) (pe_ix ix_seq (pv 2) pe_int (fun _ _ => rfl)) pe_str (nomark _)) (pw_and1 (pt_cmpR (uNe hr.units) (pe_ix ix_seq (pv 2) pe_int (fun _ _ => rfl)) pe_str (nomark _))))) (pss_one (ps_raise rfl tk (pmk_err T.ex_BadText.err GX_BadText___init__ ng (hr.mono (by decide)) pass0 rfl T.m_BadText (pa_cons pe_int (pa_cons pe_int pa_nil))))) pss_nil)
      (pss_cons (ps_set (i := 3) sc_Rounding_read.nd rfl (Or.inl rfl) (pe_ifExp (pt_cmpR uGt (pe_callB call_len_seq (by rfl) T.n_len (by decide +kernel) (pa_cons (pv 2) pa_nil)) pe_int (nomark _)) (pe_fnR G_told_rounding (hr.mono (by decide)) T.k_told_rounding T.m_told_rounding pass0 (pa_cons (pe_ix ix_seq (pv 2) pe_int (fun _ _ => rfl)) (pa_cons (pe_ix ix_seq (pv 2) pe_int (fun _ _ => rfl)) pa_nil))) pe_non))
      (pss_cons (ps_if (pt_cmp (pc_isN (pv 3)) rfl) (pss_one (ps_raise rfl tk (pmk_err T.ex_BadText.err GX_BadText___init__ ng (hr.mono (by decide)) pass0 rfl T.m_BadText (pa_cons pe_int (pa_cons pe_int pa_nil))))) pss_nil)
      (pss_cons (ps_if (pt_cmpR uGt (pe_callB call_len_seq (by rfl) T.n_len (by decide +kernel) (pa_cons (pv 2) pa_nil)) pe_int (nomark _)) (pss_one (ps_raise rfl tk (pmk_err T.ex_BadText.err GX_BadText___init__ ng (hr.mono (by decide)) pass0 rfl T.m_BadText (pa_cons pe_int (pa_cons pe_int pa_nil))))) pss_nil)
      (pss_one (ps_ret (pv 3)))))))), ?_⟩
    rcases h with ⟨c, x, rfl, hx, k⟩ | ⟨c, v, rfl, hn, k⟩
    rotate_left
    · exact ⟨_, rfl, Or.inr ⟨v, rfl, hn, k⟩⟩
    refine ⟨_, rfl, Or.inl ⟨x, rfl, hx, fun p hp => ?_⟩⟩
    have wl := split_le (s := 32) (by decide) 200 x hx
    have wm := split_many (s := 32) (by decide) 200 x hx
    have wn := split_ne (s := 32) (by decide) x
    rw [show (⟨#[32]⟩ : Str) = " " from rfl] at wl wm wn
    generalize Txt.split x " " = ws at k wl wm wn ⊢
    have s1 : Same H (upd H p (.lst (ws.map V.str))) := sameNew hp
    have l1 : upd H p (.lst (ws.map V.str)) p = some (.lst (ws.map V.str)) := upd_same
    generalize upd H p (.lst (ws.map V.str)) = H1 at s1 l1 ⊢
    dsimp only [gName]
    have ixw : ∀ {H' : Hp} {j : Nat} {u : Str} {W : VK}, Same H1 H' → ws[j]? = some u → W (.str u) H' → rIx K (.ref p) (.int (j : Int)) H' W := fun {H' j u W} e hj q =>
      Or.inl ⟨p, _, _, .str u, rfl, rfl, SqL.of (e _ _ l1), atI_nat (by rw [List.getElem?_map, hj]; rfl), q⟩
    have rz : ∀ {n : Int}, dueR ws = .inr n → ∀ {H'}, Same H1 H' → RaiW d.BadText 0 n H' E := fun {n} hd {H'} e => by
      rcases k with ⟨q, fr, hq, _⟩ | ⟨m, hm, kr⟩
      · rw [hq] at hd; cases hd
      · rw [hm] at hd
        injection hd with hd
        subst hd
        exact kr.up (s1.trans e)
    cases ws with
    | nil => exact absurd rfl wn
    | cons w0 r =>
    have ds : ∀ {a b : Str}, (!decide (V.str a = V.str b)) = !decide (a = b) := fun {a b} => by
      congr 1
      by_cases z : a = b
      · rw [z, decide_eq_true rfl, decide_eq_true rfl]
      · rw [decide_eq_false z, decide_eq_false (fun y => z (V.str.inj y))]
    refine tAnd_both (x := !decide (w0 = "from")) (y := !decide (w0 = "above")) (fun R hR => ⟨_, rfl, ixw (j := 0) (Same.refl _) rfl (Or.inl ⟨rfl, _, by rw [ds], hR⟩)⟩) (fun R hR => ⟨_, rfl, ixw (j := 0) (Same.refl _) rfl (Or.inl ⟨rfl, _, by rw [ds], hR⟩)⟩) ?_
    by_cases h0 : w0 ≠ "from" ∧ w0 ≠ "above"
    · rw [decide_eq_false h0.1, decide_eq_false h0.2]
      exact iteT (mkW shn0 shn0 (rz (if_pos h0) (Same.refl _)))
    have hf : (!decide (w0 = "from") && !decide (w0 = "above")) = false := by
      by_cases a : w0 = "from"
      · rw [decide_eq_true a]; rfl
      · by_cases b : w0 = "above"
        · rw [decide_eq_true b, Bool.not_true, Bool.and_false]
        · exact absurd ⟨a, b⟩ h0
    rw [hf]
    refine iteF ?_
    refine ⟨_, rfl, p, _, rfl, Or.inl (SqL.of l1), Or.inl ⟨_, _, rfl, rfl, _, rfl, ?_⟩⟩
    cases r with
    | nil =>
      refine iteF ?_
      exact ⟨_, rfl, _, rfl, iteT (mkW shn0 shn1 (rz (dueR_one h0) (Same.refl _)))⟩
    | cons w1 r2 =>
    rw [decide_eq_true (show (1 : Int) < ((((w0 :: w1 :: r2).map V.str).length : Nat) : Int) by rw [List.length_map]; simp only [List.length_cons]; omega)]
    refine iteT ?_
    refine ⟨_, rfl, ixw (j := 0) (Same.refl _) rfl ⟨_, rfl, ixw (j := 1) (Same.refl _) rfl ⟨w0, w1, rfl, wl w1 (List.mem_cons_of_mem _ (List.mem_cons_self ..)), fun H2 e2 => ⟨fun hn => ?_, fun q rr hq hrr => ?_⟩⟩⟩⟩
    · have due : dueR (w0 :: w1 :: r2) = .inr 1 := dueR_none h0 hn
      exact ⟨_, rfl, _, rfl, iteT (mkW shn0 shn1 (rz due e2))⟩
    have due : dueR (w0 :: w1 :: r2) = if r2 = [] then .inl (q, decide (w0 = "from")) else .inr 2 := dueR_some h0 hq
    refine ⟨_, rfl, _, rfl, iteF ?_⟩
    refine ⟨_, rfl, p, _, rfl, Or.inl (SqL.of (e2 _ _ l1)), Or.inl ⟨_, _, rfl, rfl, _, rfl, ?_⟩⟩
    cases r2 with
    | nil =>
      refine iteF ⟨_, rfl, ?_⟩
      rcases k with ⟨q2, fr, h2, k⟩ | ⟨n, h2, _⟩
      · rw [due, if_pos rfl] at h2
        injection h2 with h2
        injection h2 with h2 h3
        subst h2 h3
        exact k rr H2 (s1.trans e2) hrr
      · rw [due, if_pos rfl] at h2
        cases h2
    | cons w2 r3 =>
      rw [decide_eq_true (show (2 : Int) < ((((w0 :: w1 :: w2 :: r3).map V.str).length : Nat) : Int) by rw [List.length_map]; simp only [List.length_cons]; omega)]
      exact iteT (mkW shn0 shn2 (rz (due.trans (if_neg (List.cons_ne_nil _ _))) e2))
theorem GX_Rounding_read (T : Tx K mg d) : FnG P w K mg base (CXx P w) 9 d.Rounding_read (spRead K d) :=
  let ⟨_, b, _, F⟩ := GO_Rounding_read (P := P) (w := w) (base := base) T
  F.pos spRead_len b
theorem GK_Rounding_read (T : Tx K mg d) : FnGk P w K mg base (CXx P w) 9 d.Rounding_read ["text"] g11 (spRead K d) :=
  let ⟨_, _, b, F⟩ := GO_Rounding_read (P := P) (w := w) (base := base) T
  F.key11 spRead_len b
end

end AZ
namespace AZ
open PySem L2
/-! ## the law's own reading -/
/-- signs that a text may have -/
def SgOk (x : Str) : Prop := ∀ c ∈ TL.tl x, c < 0x110000
def spLInt : Sp := fun vs H Q _ => ∃ x : Str, vs = [.str x] ∧ x.length ≤ 200 ∧ SgOk x ∧ ∀ H', Same H H' → Q (.bl (rdL (TL.tl x)).isSome) H'
theorem seq_join {s u : TS} {D : Ends} {σ : L2.St} {H : Hp} (I : L2.St → Hp → Prop) (h : ∀ N : L2.St → Hp → Prop, (∀ σ' H', I σ' H' → N σ' H') → s { D with nx := N } σ H) (k : ∀ σ' H', I σ' H' → u D σ' H') : tSeq s u D σ H := h (u D) k
theorem dp_strs {K : PySem.W.Frag} {H : Hp} : ∀ bs : List Str, DpAll K H (bs.map V.str) (bs.map PyData.str)
  | [] => .nil
  | b :: bs => .cons (.str b) (dp_strs bs)
theorem canAll_strs : ∀ bs : List Str, (∀ s ∈ bs, PyData.strOk s = true) → PyData.canLayAll0 (bs.map PyData.str) = true
  | [], _ => by simp [PyData.canLayAll0]
  | b :: bs, h => by
    simp [PyData.canLayAll0, PyData.canLay0, canAll_strs bs fun s hs => h s (List.mem_cons_of_mem _ hs), h b (List.mem_cons_self ..)]
theorem depthAll_strs : ∀ bs : List Str, PyData.depthAll (bs.map PyData.str) ≤ 1
  | [] => by simp [PyData.depthAll]
  | b :: bs => by
    have h := depthAll_strs bs
    simp [PyData.depthAll, PyData.depth] at *
    omega
theorem shaped_strs (bs : List Str) (hb : ∀ s ∈ bs, PyData.strOk s = true) : SeqAt.shaped (.list (bs.map PyData.str)) = true := by
  have h := depthAll_strs bs
  simp [SeqAt.shaped, PyData.canLay0, PyData.depth, canAll_strs bs hb]
  omega
theorem dgL_app (l : List Nat) (c : Nat) : dgL (l ++ [c]) = (dgL l && (decide (48 ≤ c) && decide (c ≤ 57))) := by
  unfold dgL
  rw [List.all_append]
  simp
theorem ten_iff (c : Nat) : decide (c ∈ (Str.ofString "0123456789").cps.toList) = (decide (48 ≤ c) && decide (c ≤ 57)) := by
  have e : (Str.ofString "0123456789").cps.toList = [48, 49, 50, 51, 52, 53, 54, 55, 56, 57] := by rfl
  rw [e, Bool.eq_iff_iff]
  simp
  omega
theorem eqv_strs0 (as : List Str) : PyData.eqv (.list (as.map PyData.str)) (.list []) = as.isEmpty := by
  cases as <;> simp [PyData.eqv, PyData.eqvAll]
theorem int_lt {x : Str} {v : Int} (h : dgL (bodyL (TL.tl x)) = true) (h1 : bodyL (TL.tl x) ≠ []) (hn : x.length ≤ 200) (ev : intText? x = some v) : v.natAbs < 10 ^ 200 := by
  have hn2 : x.length ≤ 4300 := Nat.le_trans hn (by decide)
  have lx := TL.len_tl x
  unfold bodyL at h h1
  by_cases h45 : (TL.tl x).head? = some 45
  · rw [if_pos h45] at h h1
    cases ex : TL.tl x with
    | nil => rw [ex] at h45; cases h45
    | cons a b =>
      rw [ex] at h45 h h1 lx
      obtain rfl : a = 45 := by injection h45
      have h : dgL b = true := h
      rw [intText_neg (cs := b) ex (dgL_iff.mp h) h1 hn2] at ev
      injection ev with ev
      have := val_lt _ b rfl h
      have m : 10 ^ b.length ≤ 10 ^ 200 := Nat.pow_le_pow_right (by decide) (by rw [List.length_cons] at lx; omega)
      omega
  · rw [if_neg h45] at h h1
    rw [intText_digits (dgL_iff.mp h) h1 hn2] at ev
    injection ev with ev
    have := val_lt _ (TL.tl x) rfl h
    have m : 10 ^ (TL.tl x).length ≤ 10 ^ 200 := Nat.pow_le_pow_right (by decide) (by omega)
    show v.natAbs < 10 ^ 200
    have e : x.cps.toList = TL.tl x := rfl
    rw [e] at ev
    omega
theorem dec_str {a b : Str} : decide (V.str a = V.str b) = decide (a = b) := by
  by_cases z : a = b
  · rw [z, decide_eq_true rfl, decide_eq_true rfl]
  · rw [decide_eq_false z, decide_eq_false (fun y => z (V.str.inj y))]
section
variable {P : Program} {w : World} {K : PySem.W.Frag} {mg : Str → Option Value} {base : Heap} {d : Ad}
theorem G__law_is_integer (T : Tx K mg d) : FnR P w K mg base CX0 1 d._law_is_integer spLInt := by
  obtain ⟨fd, F⟩ := T.F__law_is_integer
  refine FnR.imp (FnOk.raw (F.ok sc__law_is_integer (k := 0) (sp := spLInt) (fun vs H Q E h => ?_) (fun cdv A outer s H vs Q E hr h => ?_)) (F.binds fun _ _ _ _ _ _ us hl => match us, hl with | [_], _ => rfl) .nil) fun vs H Q E h => by rw [List.append_nil]; exact h
  · obtain ⟨x, rfl, _⟩ := h
    rfl
  · obtain ⟨x, rfl, hx, sg, k⟩ := h
    -- slots: 0 _law_word, 1 _law_body, 2 _law_sign
    refine ⟨_, (pss_cons (ps_set (i := 1) sc__law_is_integer.nd rfl (Or.inl rfl) (pe_ifExp (pt_cmpR (uEq hr.units) (pe_slice sl_str (pv 0) po_none (po_some pe_int)) pe_str (nomark _)) (pe_slice sl_str (pv 0) (po_some pe_int) po_none) (pv 0)))
      (pss_one (ps_ret (pe_and (pe_cmpR (uNe hr.units) (pv 1) pe_str (nomark _)) (pe_and (pe_cmpR (uEq hr.units) (pe_lc (own := [("_law_sign", 2)]) (g := gName 2) (by rfl) sc__law_is_integer.nd (pi_str (pv 1)) (blkOk_by (own := [("_law_sign", 2)]) (N := ["_law_word", "_law_body", "_law_sign"]) (sc := defScope s__law_is_integer) (by decide +kernel)) (fun _ _ _ _ _ => pg_name (i := 2) sc__law_is_integer.nd rfl (Or.inl rfl)) (fun _ _ _ _ _ => pts_one (pt_cmpR (op_notIn_sign) (pv 2) pe_str rfl)) (fun _ _ _ _ _ => (pv 2))) (pe_lst pa_nil) (nomark _)) (pe_one (pe_cmpR (uEq hr.units) (pe_callTy uStr (by rfl) T.n_str (by decide +kernel) (pa_cons (pe_callTy call_int_str (by rfl) T.n_int (by decide +kernel) (pa_cons (pv 0) pa_nil)) pa_nil)) (pv 0) (nomark _)))))))), ?_⟩
    have hs : x.length ≤ sizeLine := Nat.le_trans hx (by decide)
    refine seq_join (fun σ' H' => ∃ D : Str, σ' = [some (.str x), some (.str D), none] ∧ TL.tl D = bodyL (TL.tl x) ∧ H' = H) (fun N hN => ?_) ?_
    · refine ⟨_, rfl, 1, rfl, x, rfl, hs, Or.inl ⟨rfl, _, by rw [dec_str], ?_⟩⟩
      by_cases h1 : (TL.tl x).head? = some 45
      · rw [show decide (cutS x none (some 1) = Str.ofString "-") = true from decide_eq_true ((cut_head x 45).mpr h1)]
        refine iteT ⟨_, rfl, 1, rfl, x, rfl, hs, hN _ _ ⟨_, rfl, ?_, rfl⟩⟩
        rw [cut_tail]
        unfold bodyL
        rw [if_pos h1]
      · rw [show decide (cutS x none (some 1) = Str.ofString "-") = false from decide_eq_false (fun z => h1 ((cut_head x 45).mp z))]
        refine iteF ⟨_, rfl, hN _ _ ⟨_, rfl, ?_, rfl⟩⟩
        unfold bodyL
        rw [if_neg h1]
    rintro σ' H' ⟨D, rfl, eb, rfl⟩
    refine ⟨_, rfl, Or.inl ⟨rfl, _, rfl, ?_⟩⟩
    rw [dec_str]
    by_cases hD : D = ""
    · have k := k _ (Same.refl _)
      rw [rdL_no1 (Or.inr (by rw [← eb, hD]; rfl))] at k
      rw [decide_eq_true hD]
      exact k
    rw [decide_eq_false hD]
    refine ⟨_, rfl, D, rfl, fun L hL => ?_⟩
    refine lc_it walk_str (fun i H2 => ∃ acc : List Str, H2 = upd H' L (.lst (acc.map V.str)) ∧ acc.length ≤ i ∧ (∀ s ∈ acc, PyData.strOk s = true) ∧ (acc = [] ↔ dgL ((TL.tl D).take i) = true)) ⟨[], rfl, Nat.le_refl _, (fun _ z => nomatch z), by simp [dgL]⟩ (fun _ _ _ _ => trivial) ?_ ?_
    · rintro i v H2 H3 hi ⟨acc, rfl, hl, ho, ha⟩ ⟨rfl, c, hc, rfl⟩
      have et : (TL.tl D).take (i + 1) = (TL.tl D).take i ++ [c] := by
        rw [List.take_succ]
        congr 1
        have : (TL.tl D)[i]? = some c := by rw [← hc]; exact Array.getElem?_toList
        rw [this]
        rfl
      refine ⟨rfl, _, rfl, c, _, rfl, rfl, _, rfl, ?_⟩
      rw [ten_iff, et, dgL_app]
      have hDs : D.cps.size ≤ 200 := by
        have e1 := TL.len_tl D
        have e2 := TL.len_tl x
        rw [eb] at e1
        have : (bodyL (TL.tl x)).length ≤ (TL.tl x).length := by
          unfold bodyL
          split
          · rw [List.length_tail]; omega
          · exact Nat.le_refl _
        have e3 : D.length = D.cps.size := rfl
        omega
      cases hc2 : (decide (48 ≤ c) && decide (c ≤ 57)) with
      | true =>
        exact iteF ⟨acc, rfl, by omega, ho, by rw [Bool.and_true]; exact ha⟩
      | false =>
        refine iteT ⟨_, rfl, acc.map V.str, upd_same, ?_, acc ++ [⟨#[c]⟩], ?_, ?_, ?_, ?_⟩
        · rw [List.length_map]
          exact Nat.lt_of_le_of_lt (show acc.length ≤ 200 by omega) (by decide)
        · rw [upd_upd, List.map_append]; rfl
        · rw [List.length_append]
          show acc.length + 1 ≤ i + 1
          omega
        · intro s hs
          rcases List.mem_append.mp hs with h | h
          · exact ho s h
          · rw [List.mem_singleton.mp h]
            have hcD : c ∈ TL.tl D := List.mem_of_getElem? (i := i) (by rw [← hc]; exact Array.getElem?_toList)
            have hcx : c ∈ TL.tl x := by
              rw [eb] at hcD
              unfold bodyL at hcD
              split at hcD
              · exact List.mem_of_mem_tail hcD
              · exact hcD
            have := sg c hcx
            show (#[c] : Array Nat).all (· < 0x110000) = true
            simpa using this
        · rw [Bool.and_false]
          simp
    · rintro H2 ⟨acc, rfl, hl, ho, ha⟩
      have hA : (TL.tl D).take D.cps.size = TL.tl D := List.take_of_length_le (by show D.cps.toList.length ≤ _; simp)
      rw [hA] at ha
      refine ⟨(by show 0 ≤ sizeLine; exact Nat.zero_le _), fun p hp => Or.inr (Or.inr ⟨_, .list [], Dp.lst (SqL.of ?_) (dp_strs acc), Dp.lst (SqL.of upd_same) .nil, shaped_strs acc ho, by decide, ?_⟩)⟩
      · rw [upd_ne (fun z => by rw [← z, upd_same] at hp; cases hp), upd_same]
      · rw [show PyData.eqv (.list (acc.map PyData.str)) (.list []) = acc.isEmpty from eqv_strs0 acc]
        have kk : ∀ b : Bool, (rdL (TL.tl x)).isSome = b → Q (.bl b) (upd (upd H' L (.lst (acc.map V.str))) p (.lst [])) := fun b hb => by
          rw [← hb]
          exact k _ ((sameNew hL).trans (sameNew hp))
        refine ⟨_, rfl, ?_⟩
        by_cases hA : acc = []
        · subst hA
          have dg : dgL (bodyL (TL.tl x)) = true := by rw [← eb]; exact ha.mp rfl
          have ne : bodyL (TL.tl x) ≠ [] := fun z => hD (TL.ext_tl (by rw [eb, z]; rfl))
          obtain ⟨v, ev, hu, hv⟩ := rdL_yes (x := x) dg ne (Nat.le_trans hx (by decide))
          have vb := int_lt dg ne hx ev
          refine iteT ⟨_, rfl, x, v, rfl, ev, Nat.le_trans hx (by decide), Or.inl ⟨v, rfl, ?_, _, rfl, Or.inl ⟨rfl, ?_⟩⟩⟩
          · by_cases z : v.natAbs = 0
            · rw [z]; decide
            · exact (Nat.log2_lt z).mpr (Nat.lt_trans vb (by decide +kernel))
          · rw [dec_str]
            cases er : rdL (TL.tl x) with
            | none =>
              rw [decide_eq_false]
              · exact kk false (by rw [er]; rfl)
              · intro z
                rw [← z, rdL_text] at er
                cases er
            | some u =>
              obtain rfl := hu u er
              rw [decide_eq_true (rdL_eq er).symm]
              exact kk true (by rw [er]; rfl)
        · have : acc.isEmpty = false := by
            cases acc with
            | nil => exact absurd rfl hA
            | cons _ _ => rfl
          rw [this]
          refine iteF (kk false ?_)
          rw [rdL_no1 (Or.inl ?_)]
          · rfl
          · rw [← eb]
            exact (Bool.not_eq_true _).mp fun z => hA (ha.mpr z)
end

end AZ
namespace AZ
open PySem L2
/-! ## the law's threshold -/
theorem rdL_no47 {l : Str} {n : Int} (h : rdL (TL.tl l) = some n) : 47 ∉ TL.tl l := by
  rw [rdL_eq h]
  by_cases hn : 0 ≤ n
  · obtain ⟨m, rfl⟩ := Int.eq_ofNat_of_zero_le hn
    rw [tl_nat]
    exact TL.numL_free (Or.inl (by decide))
  · obtain ⟨m, rfl⟩ : ∃ m : Nat, n = -((m + 1 : Nat) : Int) := ⟨n.natAbs - 1, by omega⟩
    rw [tl_neg]
    intro h
    rcases List.mem_cons.mp h with h | h
    · cases h
    · exact TL.numL_free (Or.inl (by decide)) h
theorem tdQ_one {x : Str} (h : 47 ∉ TL.tl x) : tdQ x = (rdL (TL.tl x)).map (fun i => Rat.divInt i 1) := by
  unfold tdQ
  rw [TL.partition_none (y := "/") (s := 47) (S := []) rfl h]
  dsimp only
  cases rdL (TL.tl x) with
  | none => rfl
  | some i => exact if_pos rfl
/-- what two texts with a stroke between them tell -/
def tw (a b : Option Int) : Option Rat :=
  match a, b with
  | some i, some j => if j < 2 ∨ 1 < (Int.gcd i j : Int) then none else some (Rat.divInt i j)
  | _, _ => none
theorem tdQ_two {a b : Str} (h : 47 ∉ TL.tl a) : tdQ (a ++ ⟨#[47]⟩ ++ b) = tw (rdL (TL.tl a)) (rdL (TL.tl b)) := by
  unfold tdQ
  rw [show (⟨#[47]⟩ : Str) = "/" from rfl, TL.partition_app (y := "/") (s := 47) (S := []) rfl h]
  dsimp only
  cases rdL (TL.tl a) with
  | none => rfl
  | some i =>
    refine (if_neg (by decide)).trans ?_
    cases rdL (TL.tl b) with
    | none => rfl
    | some j => rfl
theorem app_inj {s : Nat} {a b c e : List Nat} (ha : s ∉ a) (hc : s ∉ c) (h : a ++ s :: b = c ++ s :: e) : a = c ∧ b = e := by
  induction a generalizing c with
  | nil =>
    cases c with
    | nil => injection h with _ h; exact ⟨rfl, h⟩
    | cons z c =>
      injection h with h _
      exact absurd (by rw [h]; exact List.mem_cons_self ..) hc
  | cons y a ih =>
    cases c with
    | nil =>
      injection h with h _
      exact absurd (by rw [← h]; exact List.mem_cons_self ..) ha
    | cons z c =>
      injection h with h1 h2
      obtain ⟨h3, h4⟩ := ih (fun z => ha (List.mem_cons_of_mem _ z)) (fun z => hc (List.mem_cons_of_mem _ z)) h2
      exact ⟨by rw [h1, h3], h4⟩
/-- the lowest terms' text is the text itself where the terms are the lowest -/
theorem low_text {a b : Str} {i j : Int} (ea : rdL (TL.tl a) = some i) (eb : rdL (TL.tl b) = some j) (hj : 2 ≤ j) :
    (Str.ofString (toString (Rat.divInt i j).num) ++ "/" ++ Str.ofString (toString ((Rat.divInt i j).den : Int)) = a ++ ⟨#[47]⟩ ++ b) ↔ ¬ 1 < (Int.gcd i j : Int) := by
  have hb : j ≠ 0 := by omega
  have hg : 0 < Int.gcd i j := Int.gcd_pos_of_ne_zero_right i hb
  constructor
  · intro h
    have e := congrArg TL.tl h
    rw [TL.tl_append, TL.tl_append, TL.tl_append, TL.tl_append, List.append_assoc, List.append_assoc] at e
    have e : TL.tl (Str.ofString (toString (Rat.divInt i j).num)) ++ 47 :: TL.tl (Str.ofString (toString ((Rat.divInt i j).den : Int))) = TL.tl a ++ 47 :: TL.tl b := e
    obtain ⟨h1, h2⟩ := app_inj (s := 47) (rdL_no47 (rdL_text _)) (rdL_no47 ea) e
    have e1 := rdL_text (Rat.divInt i j).num
    rw [h1, ea] at e1
    have e2 := rdL_text ((Rat.divInt i j).den : Int)
    rw [h2, eb] at e2
    injection e1 with e1
    injection e2 with e2
    have red := (Rat.divInt i j).reduced
    intro hgt
    have : Int.gcd i j = 1 := by
      unfold Int.gcd
      have e3 : j.natAbs = (Rat.divInt i j).den := by omega
      rw [e3]
      rw [show i.natAbs = (Rat.divInt i j).num.natAbs from congrArg Int.natAbs e1]
      exact red
    omega
  · intro h
    have h1 : Int.gcd i j = 1 := by omega
    have n := num_di i j hb
    have dn := den_di i j hb
    rw [h1] at n dn
    rw [if_neg (show ¬ j < 0 by omega)] at n dn
    have n : (Rat.divInt i j).num = i := n.trans (Int.fdiv_one i)
    have dn : ((Rat.divInt i j).den : Int) = j := dn.trans (Int.fdiv_one j)
    rw [n, dn, ← rdL_eq ea, ← rdL_eq eb]
    rfl
theorem int_of {x : Str} {n : Int} (h : rdL (TL.tl x) = some n) (hx : x.length ≤ 200) : intText? x = some n := by
  have dg : dgL (bodyL (TL.tl x)) = true := by
    cases e : dgL (bodyL (TL.tl x)) with
    | true => rfl
    | false => rw [rdL_no1 (Or.inl e)] at h; cases h
  have ne : bodyL (TL.tl x) ≠ [] := fun z => by rw [rdL_no1 (Or.inr z)] at h; cases h
  obtain ⟨v, ev, hu, _⟩ := rdL_yes (x := x) dg ne (Nat.le_trans hx (by decide))
  rw [ev, hu n h]
def spThr : Sp := fun vs H Q _ => ∃ x : Str, vs = [.str x] ∧ x.length ≤ 200 ∧ SgOk x ∧ ∀ H', Same H H' → (tdQ x = none → Q .non H') ∧ ∀ q v, tdQ x = some q → PairQ H' v q → Q v H'

end AZ
namespace AZ
open PySem L2
section
variable {P : Program} {w : World} {K : PySem.W.Frag} {mg : Str → Option Value} {base : Heap} {d : Ad}
theorem split_sg {s : Nat} (hs : s < 256) : ∀ (n : Nat) (x : Str), x.length ≤ n → SgOk x → ∀ y ∈ Txt.split x ⟨#[s]⟩, SgOk y
  | n, x, hx, sg, y, hy => by
    rcases cut_at s x with h | ⟨a, b, rfl, h⟩
    · rw [split_one hs h] at hy
      rw [List.mem_singleton.mp hy]
      exact sg
    · rw [split_cons hs h] at hy
      rw [slen, slen] at hx
      have e1 : (⟨#[s]⟩ : Str).length = 1 := rfl
      have sa : SgOk a := fun c hc => sg c (by rw [TL.tl_append, TL.tl_append]; exact List.mem_append_left _ (List.mem_append_left _ hc))
      have sb : SgOk b := fun c hc => sg c (by rw [TL.tl_append]; exact List.mem_append_right _ hc)
      rcases List.mem_cons.mp hy with rfl | hy
      · exact sa
      · cases n with
        | zero => omega
        | succ n => exact split_sg hs n b (by omega) sb y hy
/-- one part, two, or more -/
theorem split_cases (x : Str) : (Txt.split x "/" = [x] ∧ tdQ x = (rdL (TL.tl x)).map fun i => Rat.divInt i 1) ∨
    (∃ a b, Txt.split x "/" = [a, b] ∧ x = a ++ ⟨#[47]⟩ ++ b ∧ tdQ x = tw (rdL (TL.tl a)) (rdL (TL.tl b))) ∨
    (2 < (Txt.split x "/").length ∧ tdQ x = none) := by
  rcases cut_at 47 x with h | ⟨a, b, rfl, h⟩
  · exact Or.inl ⟨split_one (by decide) h, tdQ_one h⟩
  · have e := split_cons (s := 47) (by decide) (b := b) h
    rcases cut_at 47 b with hb | ⟨b1, b2, rfl, hb⟩
    · rw [split_one (by decide) hb] at e
      exact Or.inr (Or.inl ⟨a, b, e, rfl, tdQ_two h⟩)
    · rw [split_cons (by decide) hb] at e
      refine Or.inr (Or.inr ⟨?_, ?_⟩)
      · rw [show ("/" : Str) = ⟨#[47]⟩ from rfl, e]
        have := split_ne (s := 47) (by decide) b2
        cases e2 : Txt.split b2 ⟨#[47]⟩ with
        | nil => exact absurd e2 this
        | cons _ _ => simp
      · rw [tdQ_two h]
        have : rdL (TL.tl (b1 ++ ⟨#[47]⟩ ++ b2)) = none := by
          cases er : rdL (TL.tl (b1 ++ ⟨#[47]⟩ ++ b2)) with
          | none => rfl
          | some n =>
            refine absurd ?_ (rdL_no47 er)
            rw [TL.tl_append, TL.tl_append]
            exact List.mem_append_left _ (List.mem_append_right _ (List.mem_singleton.mpr rfl))
        rw [this]
        cases rdL (TL.tl a) <;> rfl
theorem G__law_threshold (T : Tx K mg d) : FnR P w K mg base CX0 2 d._law_threshold spThr := by
  have G__law_is_integer : FnR P w K mg base CX0 1 d._law_is_integer spLInt := G__law_is_integer T
  have G__law_frac : FnR P w K mg base CX0 1 d._law_frac spFrac := G__law_frac T
  obtain ⟨fd, F⟩ := T.F__law_threshold
  refine FnR.imp (FnOk.raw (F.ok sc__law_threshold (k := 1) (sp := spThr) (fun vs H Q E h => ?_) (fun cdv A outer s H vs Q E hr h => ?_)) (F.binds fun _ _ _ _ _ _ us hl => match us, hl with | [_], _ => rfl) .nil) fun vs H Q E h => by rw [List.append_nil]; exact h
  · obtain ⟨x, rfl, _⟩ := h
    rfl
  · obtain ⟨x, rfl, hx, sg, k⟩ := h
    -- slots: 0 _law_word, 1 _law_parts, 2 _law_part, 3 _law_found
    refine ⟨_, (pss_cons (ps_set (i := 1) sc__law_threshold.nd rfl (Or.inl rfl) (pe_split (pv 0) pe_str))
      (pss_cons (ps_if (PW.pt (pw_or (pt_cmpR uGt (pe_callB call_len_seq (by rfl) T.n_len (by decide +kernel) (pa_cons (pv 1) pa_nil)) pe_int (nomark _)) (pw_or1 (pt_cmpR (uNe hr.units) (pe_lc (own := [("_law_part", 2)]) (g := gName 2) (by rfl) sc__law_threshold.nd (pi_list (pv 1)) (blkOk_by (own := [("_law_part", 2)]) (N := ["_law_word", "_law_parts", "_law_part", "_law_found"]) (sc := defScope s__law_threshold) (by decide +kernel)) (fun _ _ _ _ _ => pg_name (i := 2) sc__law_threshold.nd rfl (Or.inl rfl)) (fun _ _ _ _ _ => pts_one (pt_not (pt_val (pe_fnR G__law_is_integer (hr.mono (by decide)) T.k__law_is_integer T.m__law_is_integer pass0 (pa_cons (pv 2) pa_nil))))) (fun _ _ _ _ _ => (pv 2))) (pe_lst pa_nil) (nomark _))))) (pss_one (ps_ret pe_non)) pss_nil)
      (pss_cons (ps_if (pt_cmpR (uEq hr.units) (pe_callB call_len_seq (by rfl) T.n_len (by decide +kernel) (pa_cons (pv 1) pa_nil)) pe_int (nomark _)) (pss_one (ps_ret (pe_tup (pa_cons (pe_callTy call_int_str (by rfl) T.n_int (by decide +kernel) (pa_cons (pv 0) pa_nil)) (pa_cons pe_int pa_nil))))) pss_nil)
      (pss_cons (ps_if (pt_cmpR uLt (pe_callTy call_int_str (by rfl) T.n_int (by decide +kernel) (pa_cons (pe_ix ix_seq (pv 1) pe_int (fun _ _ => rfl)) pa_nil)) pe_int (nomark _)) (pss_one (ps_ret pe_non)) pss_nil)
      (pss_cons (ps_set (i := 3) sc__law_threshold.nd rfl (Or.inl rfl) (pe_fnR G__law_frac (hr.mono (by decide)) T.k__law_frac T.m__law_frac pass0 (pa_cons (pe_callTy call_int_str (by rfl) T.n_int (by decide +kernel) (pa_cons (pe_ix ix_seq (pv 1) pe_int (fun _ _ => rfl)) pa_nil)) (pa_cons (pe_callTy call_int_str (by rfl) T.n_int (by decide +kernel) (pa_cons (pe_ix ix_seq (pv 1) pe_int (fun _ _ => rfl)) pa_nil)) pa_nil))))
      (pss_one (ps_ret (pe_ifExp (pt_cmpR (uEq hr.units) (pe_op (op_add_str) (pe_op (op_add_str) (pe_callTy uStr (by rfl) T.n_str (by decide +kernel) (pa_cons (pe_ix ix_seq (pv 3) pe_int (fun _ _ => rfl)) pa_nil)) pe_str) (pe_callTy uStr (by rfl) T.n_str (by decide +kernel) (pa_cons (pe_ix ix_seq (pv 3) pe_int (fun _ _ => rfl)) pa_nil))) (pv 0) (nomark _)) (pv 3) pe_non)))))))), ?_⟩
    have hs : x.length ≤ sizeLine := Nat.le_trans hx (by decide)
    refine ⟨_, rfl, ⟨_, rfl⟩, x, _, rfl, rfl, by decide, Nat.le_trans (Nat.add_le_add_right hx 2) (by decide), fun p hp => ?_⟩
    have wl := split_le (s := 47) (by decide) 200 x hx
    have wm := split_many (s := 47) (by decide) 200 x hx
    have wsg : ∀ y ∈ Txt.split x "/", SgOk y := split_sg (s := 47) (by decide) 200 x hx sg
    have cases3 := split_cases x
    rw [show (⟨#[47]⟩ : Str) = "/" from rfl] at wl wm
    generalize Txt.split x "/" = ps at wl wm wsg cases3 ⊢
    have s1 : Same H (upd H p (.lst (ps.map V.str))) := sameNew hp
    have l1 : upd H p (.lst (ps.map V.str)) p = some (.lst (ps.map V.str)) := upd_same
    generalize upd H p (.lst (ps.map V.str)) = H1 at s1 l1 ⊢
    dsimp only [gName]
    refine ⟨_, rfl, p, _, rfl, Or.inl (SqL.of l1), Or.inl ⟨_, _, rfl, rfl, _, rfl, ?_⟩⟩
    rw [List.length_map]
    by_cases h2 : (2 : Int) < (ps.length : Int)
    · rw [decide_eq_true h2]
      refine iteT (iteT ((k H1 s1).1 ?_))
      rcases cases3 with ⟨e, _⟩ | ⟨a, b, e, _⟩ | ⟨_, e⟩
      · rw [e] at h2; exact absurd h2 (by simp)
      · rw [e] at h2; exact absurd h2 (by simp)
      · exact e
    rw [decide_eq_false h2]
    refine iteF ?_
    have l2 : ps.length ≤ 2 := by omega
    refine ⟨_, rfl, p, rfl, ⟨_, SqL.of l1⟩, fun L hL => ?_⟩
    refine lc_list (xs := ps.map V.str) (fun i H2 => ∃ acc : List Str, Same H1 H2 ∧ H2 L = some (.lst (acc.map V.str)) ∧ acc.length ≤ i ∧ (∀ s ∈ acc, s ∈ ps) ∧ (acc = [] ↔ (ps.take i).all (fun y => (rdL (TL.tl y)).isSome) = true))
      ⟨[], sameNew hL, upd_same, Nat.le_refl _, (fun _ z => nomatch z), by simp⟩ ?_ ?_ ?_
    · rintro i H2 hi ⟨acc, e2, _⟩
      exact SqL.of (e2 _ _ l1)
    · rintro i v H2 hv ⟨acc, e2, al, an, am, ai⟩
      rw [List.getElem?_map] at hv
      obtain ⟨y, hy, rfl⟩ : ∃ y, ps[i]? = some y ∧ v = .str y := by
        cases e : ps[i]? with
        | none => rw [e] at hv; cases hv
        | some y => rw [e] at hv; injection hv with hv; exact ⟨y, rfl, hv.symm⟩
      have ym : y ∈ ps := List.mem_of_getElem? hy
      have et : (ps.take (i + 1)).all (fun y => (rdL (TL.tl y)).isSome) = ((ps.take i).all (fun y => (rdL (TL.tl y)).isSome) && (rdL (TL.tl y)).isSome) := by
        rw [List.take_succ, hy, List.all_append]
        simp
      have il : i < ps.length := (List.getElem?_eq_some_iff.mp hy).1
      refine ⟨rfl, _, rfl, y, rfl, wl y ym, wsg y ym, fun H3 e3 => ⟨_, rfl, ?_⟩⟩
      rw [et]
      cases hg : (rdL (TL.tl y)).isSome with
      | true =>
        exact iteF ⟨acc, e2.trans e3, e3 _ _ al, by omega, am, by rw [Bool.and_true]; exact ai⟩
      | false =>
        refine iteT ⟨_, rfl, acc.map V.str, e3 _ _ al, ?_, acc ++ [y], ?_, ?_, ?_, ?_, ?_⟩
        · rw [List.length_map]
          exact Nat.lt_of_le_of_lt (show acc.length ≤ 2 by omega) (by decide)
        · exact fun z o e => by
            by_cases hz : z = L
            · rw [hz, hL] at e; cases e
            · rw [upd_ne hz]; exact e3 _ _ (e2 _ _ e)
        · rw [upd_same, List.map_append]; rfl
        · rw [List.length_append]
          show acc.length + 1 ≤ i + 1
          omega
        · intro s hs
          rcases List.mem_append.mp hs with h | h
          · exact am s h
          · rw [List.mem_singleton.mp h]; exact ym
        · rw [Bool.and_false]
          simp
    · rintro H2 ⟨acc, e2, al, an, am, ai⟩
      rw [List.length_map, List.take_length] at ai
      have ok : ∀ s ∈ acc, PyData.strOk s = true := fun s hs => by
        have := wsg s (am s hs)
        show s.cps.all (· < 0x110000) = true
        rw [← Array.all_toList, List.all_eq_true]
        exact fun c hc => decide_eq_true (this c hc)
      refine ⟨(by show 0 ≤ sizeLine; exact Nat.zero_le _), fun r hr => Or.inr ⟨_, .list [], Dp.lst (SqL.of ?_) (dp_strs acc), Dp.lst (SqL.of upd_same) .nil, shaped_strs acc ok, by decide, ?_⟩⟩
      · rw [upd_ne (fun z => by rw [← z, al] at hr; cases hr), al]
      rw [show PyData.eqv (.list (acc.map PyData.str)) (.list []) = acc.isEmpty from eqv_strs0 acc]
      have s2 : Same H (upd H2 r (.lst [])) := (s1.trans e2).trans (sameNew hr)
      have l2' : upd H2 r (.lst []) p = some (.lst (ps.map V.str)) := sameNew hr _ _ (e2 _ _ l1)
      generalize upd H2 r (.lst []) = H3 at s2 l2' ⊢
      refine ⟨_, rfl, ?_⟩
      by_cases hA : acc = []
      · have ag := ai.mp hA
        subst hA
        refine iteF ?_
        rcases cases3 with ⟨e, t⟩ | ⟨a, b, e, ex, t⟩ | ⟨z, _⟩
        · subst e
          refine ⟨_, rfl, p, _, rfl, Or.inl (SqL.of l2'), Or.inl ⟨rfl, _, rfl, ?_⟩⟩
          refine iteT ?_
          cases er : rdL (TL.tl x) with
          | none => simp [er] at ag
          | some n =>
            rw [er] at t
            refine ⟨_, rfl, x, n, rfl, int_of er hx, Nat.le_trans hx (by decide), (by show 2 ≤ sizeLine; decide), fun z hz => ?_⟩
            refine (k _ (s2.trans (sameNew hz))).2 _ _ t ⟨z, rfl, ?_⟩
            show _ = some (HO.tup [.int (Rat.divInt n 1).num, .int ((Rat.divInt n 1).den : Int)])
            rw [upd_same, r_int, Rat.num_intCast, Rat.den_intCast]
            rfl
        · subst e
          refine ⟨_, rfl, p, _, rfl, Or.inl (SqL.of l2'), Or.inl ⟨rfl, _, rfl, ?_⟩⟩
          refine iteF ?_
          cases ea : rdL (TL.tl a) with
          | none => simp [ea] at ag
          | some i =>
          cases eb : rdL (TL.tl b) with
          | none => simp [eb] at ag
          | some j =>
          rw [ea, eb] at t
          have la : a.length ≤ 200 := wl a (List.mem_cons_self ..)
          have lb : b.length ≤ 200 := wl b (List.mem_cons_of_mem _ (List.mem_cons_self ..))
          have ixp : ∀ {H' : Hp} {j : Nat} {u : Str} {W : VK}, Same H3 H' → [a, b][j]? = some u → W (.str u) H' → rIx K (.ref p) (.int (j : Int)) H' W := fun {H' j u W} e hj q =>
            Or.inl ⟨p, _, _, .str u, rfl, rfl, SqL.of (e _ _ l2'), atI_nat (by rw [List.getElem?_map, hj]; rfl), q⟩
          have ia := int_of ea la
          have ib := int_of eb lb
          have l6 : ∀ {y : Str}, y.length ≤ 200 → y.length ≤ 640 := fun h => Nat.le_trans h (by decide)
          have zi : i.natAbs < 10 ^ 200 := Nat.lt_of_lt_of_le (rdL_lt ea) (Nat.pow_le_pow_right (by decide) (by rw [← TL.len_tl]; exact la))
          have zj : j.natAbs < 10 ^ 200 := Nat.lt_of_lt_of_le (rdL_lt eb) (Nat.pow_le_pow_right (by decide) (by rw [← TL.len_tl]; exact lb))
          refine ⟨_, rfl, ixp (j := 1) (Same.refl _) rfl ⟨b, j, rfl, ib, l6 lb, Or.inl ⟨_, _, rfl, rfl, _, rfl, ?_⟩⟩⟩
          by_cases h3 : j < 2
          · rw [decide_eq_true h3]
            exact iteT ((k H3 s2).1 (t.trans (if_pos (Or.inl h3))))
          rw [decide_eq_false h3]
          refine iteF ?_
          have up : ∀ {u : Int}, u.natAbs < 10 ^ 200 → u.natAbs < 2 ^ 2000 := fun h => Nat.lt_trans h (by decide +kernel)
          refine ⟨_, rfl, ixp (j := 0) (Same.refl _) rfl ⟨a, i, rfl, ia, l6 la, ⟨_, rfl, ixp (j := 1) (Same.refl _) rfl ⟨b, j, rfl, ib, l6 lb, ⟨i, j, rfl, by omega, up zi, up zj, fun q H4 e4 hq => ?_⟩⟩⟩⟩⟩
          dsimp only [gName]
          have sz : Sz 900 (Rat.divInt i j) := sz_di (by omega) (Nat.lt_trans zi (by decide +kernel)) (Nat.lt_trans zj (by decide +kernel))
          have zn : (Rat.divInt i j).num.natAbs.log2 < 1920 := Nat.lt_of_lt_of_le (PySem.Flt.log2_lt_of (by decide) sz.1) (by decide)
          have zd : ((Rat.divInt i j).den : Int).natAbs.log2 < 1920 := Nat.lt_of_lt_of_le (PySem.Flt.log2_lt_of (by decide) (szD sz)) (by decide)
          refine ⟨_, rfl, Or.inr (Or.inl ⟨q, _, _, _, rfl, rfl, Or.inl (Or.inl hq), atI_nat (j := 0) rfl, Or.inl ⟨_, rfl, ?_, ?_⟩⟩)⟩
          · exact zn
          have ln := PyProof.Rows.int_text_len_1921 zn
          have ld := PyProof.Rows.int_text_len_1921 zd
          have l1 : ("/" : Str).length = 1 := rfl
          refine ⟨_, _, rfl, rfl, Nat.le_trans (Nat.add_le_add ln (Nat.le_of_eq l1)) (by decide), ?_⟩
          refine ⟨_, rfl, Or.inr (Or.inl ⟨q, _, _, _, rfl, rfl, Or.inl (Or.inl hq), atI_nat (j := 1) rfl, Or.inl ⟨_, rfl, zd, ?_⟩⟩)⟩
          refine ⟨_, _, rfl, rfl, (by rw [slen]; exact Nat.le_trans (Nat.add_le_add (Nat.add_le_add ln (Nat.le_of_eq l1)) ld) (by decide)), ?_⟩
          refine ⟨_, rfl, Or.inl ⟨rfl, _, rfl, ?_⟩⟩
          rw [dec_str, ex]
          have lt := low_text ea eb (show 2 ≤ j by omega)
          by_cases hg : 1 < (Int.gcd i j : Int)
          · rw [decide_eq_false (fun z => lt.mp z hg)]
            exact iteF ((k H4 (s2.trans e4)).1 (t.trans (if_pos (Or.inr hg))))
          · rw [decide_eq_true (lt.mpr hg)]
            refine iteT ⟨_, rfl, (k H4 (s2.trans e4)).2 _ _ (t.trans (if_neg (by rintro (h | h) <;> contradiction))) ⟨q, rfl, hq⟩⟩
        · exact absurd z (by omega)
      · have : acc.isEmpty = false := by
          cases acc with
          | nil => exact absurd rfl hA
          | cons _ _ => rfl
        rw [this]
        have na : ps.all (fun y => (rdL (TL.tl y)).isSome) = false := (Bool.not_eq_true _).mp fun z => hA (ai.mpr z)
        refine iteT ((k H3 s2).1 ?_)
        rcases cases3 with ⟨e, t⟩ | ⟨a, b, e, _, t⟩ | ⟨_, t⟩
        · rw [e] at na
          rw [t]
          cases er : rdL (TL.tl x) with
          | none => rfl
          | some n => simp [er] at na
        · rw [e] at na
          rw [t]
          cases er : rdL (TL.tl a) with
          | none => rfl
          | some n =>
            cases er2 : rdL (TL.tl b) with
            | none => rfl
            | some m => simp [er, er2] at na
        · exact t
end

end AZ
namespace AZ
open PySem L2
/-! ## what the law is due -/
def spLess4 : Sp := fun vs H Q _ => ∃ (s t : Addr) (a b c e : Int), vs = [.ref s, .ref t] ∧ H s = some (.tup [.int a, .int b]) ∧ H t = some (.tup [.int c, .int e]) ∧ a.natAbs < 2 ^ 2000 ∧ b.natAbs < 2 ^ 2000 ∧ c.natAbs < 2 ^ 2000 ∧ e.natAbs < 2 ^ 2000 ∧ Q (.bl (decide (a * e < c * b))) H
def DueAt (d : Ad) (H : Hp) (v : V) : (Rat × Bool) ⊕ Int → Prop
  | .inl (q, fr) => ∃ l r, v = .ref l ∧ H l = some (.lst [.ref r]) ∧ IsRnd d.Ratio d.Rounding H r q fr
  | .inr n => ∃ t, v = .ref t ∧ H t = some (.tup [.int 0, .int n])
def spDue (d : Ad) : Sp := fun vs H Q _ => ∃ x : Str, vs = [.str x] ∧ x.length ≤ 200 ∧ SgOk x ∧ ∀ v H', Same H H' → DueAt d H' v (dueR (Txt.split x " ")) → Q v H'
theorem pair_eqv (q : Rat) (n : Int) : PyData.eqv (.tuple [.int q.num, .int (q.den : Int)]) (.tuple [.int n, .int 1]) = decide (q = (n : Rat)) := by
  have e : PyData.eqv (.tuple [.int q.num, .int (q.den : Int)]) (.tuple [.int n, .int 1]) = (decide (q.num = n) && decide ((q.den : Int) = 1)) := by
    simp [PyData.eqv, PyData.eqvAll]
    rfl
  rw [e, Bool.eq_iff_iff]
  simp only [Bool.and_eq_true, decide_eq_true_eq]
  constructor
  · rintro ⟨h1, h2⟩
    exact Rat.ext (h1.trans (Rat.num_intCast n).symm) ((by omega : q.den = 1).trans (Rat.den_intCast n).symm)
  · rintro rfl
    exact ⟨Rat.num_intCast n, by rw [Rat.den_intCast]; rfl⟩
section
variable {P : Program} {w : World} {K : PySem.W.Frag} {mg : Str → Option Value} {base : Heap} {d : Ad}
theorem G__law_less (T : Tx K mg d) : FnR P w K mg base CX0 1 d._law_less spLess4 := by
  obtain ⟨fd, F⟩ := T.F__law_less
  refine FnR.imp (FnOk.raw (F.ok sc__law_less (k := 0) (sp := spLess4) (fun vs H Q E h => ?_) (fun cdv A outer s H vs Q E hr h => ?_)) (F.binds fun _ _ _ _ _ _ us hl => match us, hl with | [_, _], _ => rfl) .nil) fun vs H Q E h => by rw [List.append_nil]; exact h
  · obtain ⟨s, t, a, b, c, e, rfl, _⟩ := h
    rfl
  · obtain ⟨s, t, a, b, c, e, rfl, hs, ht, za, zb, zc, ze, k⟩ := h
    -- slots: 0 _law_one, 1 _law_other
    refine ⟨_, (pss_one (ps_ret (pe_cmpR uLt (pe_op uMul (pe_ix ix_seq (pv 0) pe_int (fun _ _ => rfl)) (pe_ix ix_seq (pv 1) pe_int (fun _ _ => rfl))) (pe_op uMul (pe_ix ix_seq (pv 1) pe_int (fun _ _ => rfl)) (pe_ix ix_seq (pv 0) pe_int (fun _ _ => rfl))) (nomark _)))), ?_⟩
    have ix : ∀ {u : Addr} {x y : Int} {j : Nat} {z : Int} {W : VK}, H u = some (.tup [.int x, .int y]) → [V.int x, V.int y][j]? = some (.int z) → W (.int z) H → rIx K (.ref u) (.int (j : Int)) H W := fun {u x y j z W} hu hj q =>
      Or.inr (Or.inl ⟨u, _, _, _, rfl, rfl, Or.inl (Or.inl hu), atI_nat hj, q⟩)
    refine ⟨_, rfl, ix (j := 0) hs rfl ⟨_, rfl, ix (j := 1) ht rfl (Or.inl ⟨_, _, rfl, rfl, mul2 za ze, ?_⟩)⟩⟩
    refine ⟨_, rfl, ix (j := 0) ht rfl ⟨_, rfl, ix (j := 1) hs rfl (Or.inl ⟨_, _, rfl, rfl, mul2 zc zb, Or.inl ⟨_, _, rfl, rfl, ?_⟩⟩)⟩⟩
    exact k
theorem G__law_due (T : Tx K mg d) : FnR P w K mg base CX0 8 d._law_due (spDue d) := by
  have G__law_threshold : FnR P w K mg base CX0 2 d._law_threshold spThr := G__law_threshold T
  have G__law_less : FnR P w K mg base CX0 1 d._law_less spLess4 := G__law_less T
  have G_Ratio___init__ : FnR P w K mg base CX0 2 d.Ratio___init__ _ := G_Ratio___init__ T
  have G_Rounding___init__ : FnR P w K mg base CX0 6 d.Rounding___init__ _ := G_Rounding___init__ T
  obtain ⟨fd, F⟩ := T.F__law_due
  refine FnR.imp (FnOk.raw (F.ok sc__law_due (k := 7) (sp := spDue d) (fun vs H Q E h => ?_) (fun cdv A outer s H vs Q E hr h => ?_)) (F.binds fun _ _ _ _ _ _ us hl => match us, hl with | [_], _ => rfl) .nil) fun vs H Q E h => by rw [List.append_nil]; exact h
  · obtain ⟨x, rfl, _⟩ := h
    rfl
  · obtain ⟨x, rfl, hx, sg, k⟩ := h
    -- slots: 0 _law_text, 1 _law_words, 2 _law_told, 3 _law_is_from
    refine ⟨_, (pss_cons (ps_set (i := 1) sc__law_due.nd rfl (Or.inl rfl) (pe_split (pv 0) pe_str))
      (pss_cons (ps_if (pt_cmpR op_notIn_seq (pe_ix ix_seq (pv 1) pe_int (fun _ _ => rfl)) (pe_tup (pa_cons pe_str (pa_cons pe_str pa_nil))) rfl) (pss_one (ps_ret (pe_tup (pa_cons pe_int (pa_cons pe_int pa_nil))))) pss_nil)
      (pss_cons (ps_if (pt_cmpR (uEq hr.units) (pe_callB call_len_seq (by rfl) T.n_len (by decide +kernel) (pa_cons (pv 1) pa_nil)) pe_int (nomark _)) (pss_one (ps_ret (pe_tup (pa_cons pe_int (pa_cons pe_int pa_nil))))) pss_nil)
      (pss_cons (ps_par (i := 2) (j := 3) (by rfl) sc__law_due.nd rfl rfl (by decide) rfl rfl (pa_cons (pe_fnR G__law_threshold (hr.mono (by decide)) T.k__law_threshold T.m__law_threshold pass0 (pa_cons (pe_ix ix_seq (pv 1) pe_int (fun _ _ => rfl)) pa_nil)) (pa_cons (pe_cmpR (uEq hr.units) (pe_ix ix_seq (pv 1) pe_int (fun _ _ => rfl)) pe_str (nomark _)) pa_nil)) (by rfl))
      (pss_cons (ps_if (PW.pt (pw_or (pt_cmp (pc_isN (pv 2)) rfl) (pw_or (pt_val (pe_fnR G__law_less (hr.mono (by decide)) T.k__law_less T.m__law_less pass0 (pa_cons (pv 2) (pa_cons (pe_tup (pa_cons pe_int (pa_cons pe_int pa_nil))) pa_nil)))) (pw_or (pt_val (pe_fnR G__law_less (hr.mono (by decide)) T.k__law_less T.m__law_less pass0 (pa_cons (pe_tup (pa_cons pe_int (pa_cons pe_int pa_nil))) (pa_cons (pv 2) pa_nil)))) (pw_or1 (pt_cmpR (uEq hr.units) (pv 2) (pe_ifExp (pt_val (pv 3)) (pe_tup (pa_cons pe_int (pa_cons pe_int pa_nil))) (pe_tup (pa_cons pe_int (pa_cons pe_int pa_nil)))) (nomark _))))))) (pss_one (ps_ret (pe_tup (pa_cons pe_int (pa_cons pe_int pa_nil))))) pss_nil)
      (pss_one (ps_ret (pe_ifExp (pt_cmpR uGt (pe_callB call_len_seq (by rfl) T.n_len (by decide +kernel) (pa_cons (pv 1) pa_nil)) pe_int (nomark _)) (pe_tup (pa_cons pe_int (pa_cons pe_int pa_nil))) (pe_lst (pa_cons (StX.pe_makeR T.mk_Rounding G_Rounding___init__ (hr.mono (by decide)) rfl T.m_Rounding pass0 (pa_cons (StX.pe_makeR T.mk_Ratio G_Ratio___init__ (hr.mono (by decide)) rfl T.m_Ratio pass0 (pa_cons (pe_ix ix_seq (pv 2) pe_int (fun _ _ => rfl)) (pa_cons (pe_ix ix_seq (pv 2) pe_int (fun _ _ => rfl)) pa_nil))) (pa_cons (pv 3) pa_nil))) pa_nil)))))))))), ?_⟩
    refine ⟨_, rfl, ⟨_, rfl⟩, x, _, rfl, rfl, by decide, Nat.le_trans (Nat.add_le_add_right hx 2) (by decide), fun p hp => ?_⟩
    have wl := split_le (s := 32) (by decide) 200 x hx
    have wsg : ∀ y ∈ Txt.split x " ", SgOk y := split_sg (s := 32) (by decide) 200 x hx sg
    have wn := split_ne (s := 32) (by decide) x
    rw [show (⟨#[32]⟩ : Str) = " " from rfl] at wl wn
    generalize Txt.split x " " = ws at wl wsg wn k ⊢
    have s1 : Same H (upd H p (.lst (ws.map V.str))) := sameNew hp
    have l1 : upd H p (.lst (ws.map V.str)) p = some (.lst (ws.map V.str)) := upd_same
    generalize upd H p (.lst (ws.map V.str)) = H1 at s1 l1 ⊢
    dsimp only [gName]
    have ixw : ∀ {H' : Hp} {j : Nat} {u : Str} {W : VK}, Same H1 H' → ws[j]? = some u → W (.str u) H' → rIx K (.ref p) (.int (j : Int)) H' W := fun {H' j u W} e hj q =>
      Or.inl ⟨p, _, _, .str u, rfl, rfl, SqL.of (e _ _ l1), atI_nat (by rw [List.getElem?_map, hj]; rfl), q⟩
    have ret : ∀ {n : Int} {H'}, dueR ws = .inr n → Same H1 H' → ∀ t, H' t = none → Q (.ref t) (upd H' t (.tup [.int 0, .int n])) := fun {n H'} hd e t ht =>
      k _ _ ((s1.trans e).trans (sameNew ht)) (by rw [hd]; exact ⟨t, rfl, upd_same⟩)
    cases ws with
    | nil => exact absurd rfl wn
    | cons w0 r =>
    have iv : inV (.str w0) [.str (Str.ofString "from"), .str (Str.ofString "above")] = (decide (w0 = "from") || decide (w0 = "above")) := by
      show ((decide ((Str.ofString "from") = w0)) || ((decide ((Str.ofString "above") = w0)) || false)) = _
      rw [Bool.or_false]
      congr 1 <;> exact decide_eq_decide.mpr eq_comm
    have z2 : ∀ {y z : V}, [y, z].length ≤ sizeLine := by
      intro y z
      show 2 ≤ sizeLine
      decide
    refine ⟨_, rfl, ixw (j := 0) (Same.refl _) rfl ⟨z2, fun t ht => ⟨t, _, rfl, Or.inr (SqT.of upd_same), rfl, rfl, ?_⟩⟩⟩
    rw [if_pos rfl, iv]
    refine ⟨_, rfl, ?_⟩
    have st := sameNew (o := HO.tup [V.str (Str.ofString "from"), V.str (Str.ofString "above")]) ht
    by_cases h0 : w0 ≠ "from" ∧ w0 ≠ "above"
    · rw [decide_eq_false h0.1, decide_eq_false h0.2]
      exact iteT ⟨z2, fun t2 ht2 => ret (if_pos h0) st t2 ht2⟩
    have hf : (!(decide (w0 = "from") || decide (w0 = "above"))) = false := by
      by_cases a : w0 = "from"
      · rw [decide_eq_true a]; rfl
      · by_cases b : w0 = "above"
        · rw [decide_eq_true b, Bool.or_true]; rfl
        · exact absurd ⟨a, b⟩ h0
    rw [hf]
    refine iteF ?_
    refine ⟨_, rfl, p, _, rfl, Or.inl (SqL.of (st _ _ l1)), Or.inl ⟨rfl, _, rfl, ?_⟩⟩
    generalize upd H1 t (.tup [V.str (Str.ofString "from"), V.str (Str.ofString "above")]) = H2 at st ⊢
    cases r with
    | nil =>
      exact iteT ⟨z2, fun t2 ht2 => ret (dueR_one h0) st t2 ht2⟩
    | cons w1 r2 =>
    rw [decide_eq_false (show ¬ V.int ((((w0 :: w1 :: r2).map V.str).length : Nat) : Int) = V.int 1 by
      rw [List.length_map]
      simp only [List.length_cons]
      intro z
      injection z with z
      omega)]
    refine iteF ?_
    refine ⟨_, rfl, ixw (j := 1) st rfl ⟨w1, rfl, wl w1 (List.mem_cons_of_mem _ (List.mem_cons_self ..)), wsg w1 (List.mem_cons_of_mem _ (List.mem_cons_self ..)), fun H3 e3 => ⟨fun hn => ?_, fun q v hq hv => ?_⟩⟩⟩
    · have due : dueR (w0 :: w1 :: r2) = .inr 1 := dueR_none h0 (by unfold tdR; rw [hn])
      refine ⟨_, rfl, ixw (j := 0) (st.trans e3) rfl (Or.inl ⟨rfl, ⟨_, _, rfl, ?_⟩⟩)⟩
      exact ⟨_, rfl, _, rfl, iteT (iteT ⟨z2, fun t2 ht2 => ret due (st.trans e3) t2 ht2⟩)⟩
    refine ⟨_, rfl, ixw (j := 0) (st.trans e3) rfl (Or.inl ⟨rfl, ⟨_, _, rfl, ?_⟩⟩)⟩
    obtain ⟨a, rfl, ha⟩ := hv
    have zq := tdQ_sz (wl w1 (List.mem_cons_of_mem _ (List.mem_cons_self ..))) hq
    have up : ∀ {i : Int}, i.natAbs < 2 ^ 800 → i.natAbs < 2 ^ 2000 := fun h => Nat.lt_of_lt_of_le h (Nat.pow_le_pow_right (by decide) (by decide))
    have zn := up zq.1
    have zd := up (szD zq)
    have hok := fun q' => tdR_ok (x := w1) (fr := decide (w0 = "from")) (q := q') (wl w1 (List.mem_cons_of_mem _ (List.mem_cons_self ..)))
    have e13 := st.trans e3
    rw [dec_str]
    have eR : tdR w1 (decide (w0 = "from")) = if q < ((0 : Int) : Rat) ∨ q > ((1 : Int) : Rat) ∨ q = (if decide (w0 = "from") then ((0 : Int) : Rat) else ((1 : Int) : Rat)) then none else some q := by
      unfold tdR
      rw [hq]
    have du1 : tdR w1 (decide (w0 = "from")) = none → dueR (w0 :: w1 :: r2) = .inr 1 := dueR_none h0
    have du2 : ∀ {q}, tdR w1 (decide (w0 = "from")) = some q → dueR (w0 :: w1 :: r2) = if r2 = [] then .inl (q, decide (w0 = "from")) else .inr 2 := fun h => dueR_some h0 h
    rw [show (Str.ofString "from" : Str) = "from" from rfl]
    generalize decide (w0 = "from") = fr at eR hok du1 du2 ⊢
    clear iv hf
    refine ⟨_, rfl, _, rfl, iteF ?_⟩
    refine ⟨_, rfl, ⟨z2, fun u hu => ⟨a, u, q.num, (q.den : Int), 0, 1, rfl, sameNew hu _ _ ha, upd_same, zn, zd, by decide, by decide, _, rfl, ?_⟩⟩⟩
    have su := sameNew (o := HO.tup [V.int 0, V.int 1]) hu
    generalize upd H3 u (.tup [V.int 0, V.int 1]) = H4 at su ⊢
    have c1 : decide (q.num * 1 < 0 * (q.den : Int)) = decide (q < ((0 : Int) : Rat)) := decide_eq_decide.mpr (Rat.lt_iff q ((0 : Int) : Rat)).symm
    rw [c1]
    by_cases h1 : q < ((0 : Int) : Rat)
    · rw [decide_eq_true h1]
      exact iteT (iteT ⟨z2, fun t2 ht2 => ret (du1 (eR.trans (if_pos (Or.inl h1)))) (e13.trans su) t2 ht2⟩)
    rw [decide_eq_false h1]
    refine iteF ?_
    refine ⟨z2, fun v hv => ⟨_, rfl, ⟨v, a, 1, 1, q.num, (q.den : Int), rfl, upd_same, sameNew hv _ _ (su _ _ ha), by decide, by decide, zn, zd, _, rfl, ?_⟩⟩⟩
    have sv := sameNew (o := HO.tup [V.int 1, V.int 1]) hv
    generalize upd H4 v (.tup [V.int 1, V.int 1]) = H5 at sv ⊢
    have c2 : decide (1 * (q.den : Int) < q.num * 1) = decide (q > ((1 : Int) : Rat)) := decide_eq_decide.mpr (Rat.lt_iff ((1 : Int) : Rat) q).symm
    rw [c2]
    have s5 := (e13.trans su).trans sv
    by_cases h2 : q > ((1 : Int) : Rat)
    · rw [decide_eq_true h2]
      exact iteT (iteT ⟨z2, fun t2 ht2 => ret (du1 (eR.trans (if_pos (Or.inr (Or.inl h2))))) s5 t2 ht2⟩)
    rw [decide_eq_false h2]
    refine iteF ?_
    have ha5 : H5 a = some (.tup [.int q.num, .int (q.den : Int)]) := sv _ _ (su _ _ ha)
    refine ⟨_, rfl, _, rfl, _, rfl, ?_⟩
    have sh : ∀ i j : Int, SeqAt.shaped (.tuple [.int i, .int j]) = true := fun i j => by
      simp [SeqAt.shaped, PyData.canLay0, PyData.canLayAll0, PyData.depth, PyData.depthAll]
    have dpt : ∀ {H' : Hp} {b : Addr} {i j : Int}, H' b = some (.tup [.int i, .int j]) → Dp K H' (.ref b) (.tuple [.int i, .int j]) := fun h => .tup (SqT.of h) (.cons (.int _) (.cons (.int _) .nil))
    cases fr with
    | false =>
      refine iteF ⟨z2, fun c hc => ?_⟩
      refine Or.inr (Or.inr ⟨_, _, dpt (sameNew hc _ _ ha5), dpt upd_same, sh _ _, sh _ _, _, rfl, ?_⟩)
      rw [pair_eqv]
      have s6 : Same H1 _ := s5.trans (sameNew (o := HO.tup [V.int 1, V.int 1]) hc)
      have ha6 := sameNew (o := HO.tup [V.int 1, V.int 1]) hc _ _ ha5
      generalize upd H5 c (.tup [V.int 1, V.int 1]) = H6 at s6 ha6 ⊢
      by_cases h3 : q = ((1 : Int) : Rat)
      · rw [decide_eq_true h3]
        exact iteT ⟨z2, fun t2 ht2 => ret (du1 (eR.trans (if_pos (Or.inr (Or.inr h3))))) s6 t2 ht2⟩
      rw [decide_eq_false h3]
      refine iteF ?_
      have hT := eR.trans (if_neg (by rintro (h | h | h) <;> contradiction))
      have due := du2 hT
      refine ⟨_, rfl, p, _, rfl, Or.inl (SqL.of (s6 _ _ l1)), Or.inl ⟨_, _, rfl, rfl, _, rfl, ?_⟩⟩
      cases r2 with
      | cons w2 r3 =>
        rw [decide_eq_true (show (2 : Int) < ((((w0 :: w1 :: w2 :: r3).map V.str).length : Nat) : Int) by rw [List.length_map]; simp only [List.length_cons]; omega)]
        exact iteT ⟨z2, fun t2 ht2 => ret (due.trans (if_neg (List.cons_ne_nil _ _))) s6 t2 ht2⟩
      | nil =>
      refine iteF ?_
      refine ⟨_, rfl, Or.inr (Or.inl ⟨a, _, 0, _, rfl, rfl, SqT.of ha6, at_of (j := 0) rfl rfl, ⟨_, rfl, Or.inr (Or.inl ⟨a, _, 1, _, rfl, rfl, SqT.of ha6, at_of (j := 1) rfl rfl, ?_⟩)⟩⟩)⟩
      intro y dy ny ndy ne
      refine Or.inl (made' ny ndy (by have := q.den_nz; omega) (Nat.lt_of_lt_of_le zd (Nat.pow_le_pow_right (by decide) (by decide))) fun H7 e7 hp7 => ⟨rfl, ?_⟩)
      rw [Rat.num_divInt_den] at hp7
      refine ⟨_, rfl, ?_⟩
      intro z dz nz ndz nez
      refine Or.inl (rmade' nz ndz hp7 (hok q hT) fun H8 e8 hr8 => ⟨rfl, (by show 1 ≤ sizeLine; decide), fun l hl => ?_⟩)
      exact k _ _ ((((s1.trans s6).trans e7).trans e8).trans (sameNew hl)) (by rw [due]; exact ⟨l, z, rfl, upd_same, hr8.same (sameNew hl)⟩)
    | true =>
      refine iteT ⟨z2, fun c hc => ?_⟩
      refine Or.inr (Or.inr ⟨_, _, dpt (sameNew hc _ _ ha5), dpt upd_same, sh _ _, sh _ _, _, rfl, ?_⟩)
      rw [pair_eqv]
      have s6 : Same H1 _ := s5.trans (sameNew (o := HO.tup [V.int 0, V.int 1]) hc)
      have ha6 := sameNew (o := HO.tup [V.int 0, V.int 1]) hc _ _ ha5
      generalize upd H5 c (.tup [V.int 0, V.int 1]) = H6 at s6 ha6 ⊢
      by_cases h3 : q = ((0 : Int) : Rat)
      · rw [decide_eq_true h3]
        exact iteT ⟨z2, fun t2 ht2 => ret (du1 (eR.trans (if_pos (Or.inr (Or.inr h3))))) s6 t2 ht2⟩
      rw [decide_eq_false h3]
      refine iteF ?_
      have hT := eR.trans (if_neg (by rintro (h | h | h) <;> contradiction))
      have due := du2 hT
      refine ⟨_, rfl, p, _, rfl, Or.inl (SqL.of (s6 _ _ l1)), Or.inl ⟨_, _, rfl, rfl, _, rfl, ?_⟩⟩
      cases r2 with
      | cons w2 r3 =>
        rw [decide_eq_true (show (2 : Int) < ((((w0 :: w1 :: w2 :: r3).map V.str).length : Nat) : Int) by rw [List.length_map]; simp only [List.length_cons]; omega)]
        exact iteT ⟨z2, fun t2 ht2 => ret (due.trans (if_neg (List.cons_ne_nil _ _))) s6 t2 ht2⟩
      | nil =>
      refine iteF ?_
      refine ⟨_, rfl, Or.inr (Or.inl ⟨a, _, 0, _, rfl, rfl, SqT.of ha6, at_of (j := 0) rfl rfl, ⟨_, rfl, Or.inr (Or.inl ⟨a, _, 1, _, rfl, rfl, SqT.of ha6, at_of (j := 1) rfl rfl, ?_⟩)⟩⟩)⟩
      intro y dy ny ndy ne
      refine Or.inl (made' ny ndy (by have := q.den_nz; omega) (Nat.lt_of_lt_of_le zd (Nat.pow_le_pow_right (by decide) (by decide))) fun H7 e7 hp7 => ⟨rfl, ?_⟩)
      rw [Rat.num_divInt_den] at hp7
      refine ⟨_, rfl, ?_⟩
      intro z dz nz ndz nez
      refine Or.inl (rmade' nz ndz hp7 (hok q hT) fun H8 e8 hr8 => ⟨rfl, (by show 1 ≤ sizeLine; decide), fun l hl => ?_⟩)
      exact k _ _ ((((s1.trans s6).trans e7).trans e8).trans (sameNew hl)) (by rw [due]; exact ⟨l, z, rfl, upd_same, hr8.same (sameNew hl)⟩)
end

end AZ
namespace AZ
open PySem L2
/-! ## texts bent -/
theorem cutS_sg {z : Str} (h : SgOk z) (lo hi : Option Int) : SgOk (cutS z lo hi) := fun c hc => by
  have hc : c ∈ (z.cps.toList.drop (HT.sIx z.length 0 lo)).take (HT.sIx z.length z.length hi - HT.sIx z.length 0 lo) := hc
  exact h c (List.mem_of_mem_drop (List.mem_of_mem_take hc))
theorem SgOk.app {x y : Str} (hx : SgOk x) (hy : SgOk y) : SgOk (x ++ y) := fun c hc => by
  rw [TL.tl_append] at hc
  exact (List.mem_append.mp hc).elim (hx c) (hy c)
theorem sgD {x : Str} (h : x.cps.toList.all (fun c => decide (c < 0x110000)) = true) : SgOk x := fun c hc => of_decide_eq_true (List.all_eq_true.mp h c hc)
theorem split_sum {s : Nat} (hs : s < 256) : ∀ (n : Nat) (x : Str), x.length ≤ n → ((Txt.split x ⟨#[s]⟩).map (·.length)).sum + (Txt.split x ⟨#[s]⟩).length = x.length + 1
  | n, x, hx => by
    rcases cut_at s x with h | ⟨a, b, rfl, h⟩
    · rw [split_one hs h]
      simp
    · rw [split_cons hs h]
      rw [slen, slen] at hx ⊢
      have e1 : (⟨#[s]⟩ : Str).length = 1 := rfl
      rw [e1] at hx ⊢
      cases n with
      | zero => omega
      | succ n =>
        have ih := split_sum hs n b (by omega)
        rw [List.map_cons, List.sum_cons, List.length_cons]
        omega
theorem join_sg {s : Str} (hs : SgOk s) : ∀ ys : List Str, (∀ y ∈ ys, SgOk y) → SgOk (Str.join s ys)
  | [], _ => fun _ z => nomatch z
  | [x], h => h x (List.mem_singleton.mpr rfl)
  | x :: y :: r, h => by
    show SgOk (x ++ s ++ Str.join s (y :: r))
    exact ((h x (List.mem_cons_self ..)).app hs).app (join_sg hs (y :: r) fun z hz => h z (List.mem_cons_of_mem _ hz))
abbrev sgns : List V := sgV (Str.ofString "0123456789") ++ [.str (Str.ofString "-"), .str (Str.ofString "/"), .str (Str.ofString " "), .str (Str.ofString "+"), .str (Str.ofString "f"), .str (Str.ofString "\n")]
theorem sgns_ok : ∀ v ∈ sgns, ∃ s : Str, v = .str s ∧ s.length ≤ 1 ∧ SgOk s := by
  have e : sgns = [48, 49, 50, 51, 52, 53, 54, 55, 56, 57, 45, 47, 32, 43, 102, 10].map fun c => V.str ⟨#[c]⟩ := by rfl
  rw [e]
  intro v hv
  obtain ⟨c, hc, rfl⟩ := List.mem_map.mp hv
  refine ⟨_, rfl, Nat.le_refl _, fun z hz => ?_⟩
  have : z = c := List.mem_singleton.mp hz
  subst this
  clear hv hz
  exact (by decide : ∀ c ∈ [48, 49, 50, 51, 52, 53, 54, 55, 56, 57, 45, 47, 32, 43, 102, 10], c < 0x110000) z hc
def spBent : Sp := fun vs H Q _ => ∃ (p : Addr) (n : Nat) (x : Str), vs = [.ref p, .str x] ∧ PenAt H p n ∧ n < 90000 ∧ x.length ≤ 90 ∧ SgOk x ∧ ∀ y H', y.length ≤ 200 → SgOk y → PenAt H' p (n + 4) → Up p H H' → Q (.str y) H'
section
variable {P : Program} {w : World} {K : PySem.W.Frag} {mg : Str → Option Value} {base : Heap} {d : Ad}
theorem G__law_bent (T : Tx K mg d) : FnR P w K mg base CX0 3 d._law_bent spBent := by
  have G__law_pick : FnR P w K mg base CX0 2 d._law_pick spPick := G__law_pick T
  have G__law_draw : FnR P w K mg base CX0 1 d._law_draw spDraw := G__law_draw T
  obtain ⟨fd, F⟩ := T.F__law_bent
  refine FnR.imp (FnOk.raw (F.ok sc__law_bent (k := 2) (sp := spBent) (fun vs H Q E h => ?_) (fun cdv A outer s H vs Q E hr h => ?_)) (F.binds fun _ _ _ _ _ _ us hl => match us, hl with | [_, _], _ => rfl) .nil) fun vs H Q E h => by rw [List.append_nil]; exact h
  · obtain ⟨p, n, x, rfl, _⟩ := h
    rfl
  · obtain ⟨p, n, x, rfl, hp, hn, hx, sg, k⟩ := h
    -- slots: 0 _law_pen_here, 1 _law_text, 2 _law_way, 3 _law_at, 4 _law_sign, 5 _law_words
    refine ⟨_, (pss_cons (ps_par (i := 2) (j := 3) (by rfl) sc__law_bent.nd rfl rfl (by decide) rfl rfl (pa_cons (pe_fnR G__law_draw (hr.mono (by decide)) T.k__law_draw T.m__law_draw pass0 (pa_cons (pv 0) (pa_cons pe_int pa_nil))) (pa_cons (pe_fnR G__law_draw (hr.mono (by decide)) T.k__law_draw T.m__law_draw pass0 (pa_cons (pv 0) (pa_cons (pe_op ((op_or2 uAdd op_add_str)) (pe_callB call_len_str (by rfl) T.n_len (by decide +kernel) (pa_cons (pv 1) pa_nil)) pe_int) pa_nil))) pa_nil)) (by rfl))
      (pss_cons (ps_set (i := 4) sc__law_bent.nd rfl (Or.inl rfl) (pe_fnR G__law_pick (hr.mono (by decide)) T.k__law_pick T.m__law_pick pass0 (pa_cons (pv 0) (pa_cons (pe_op ((op_or2 uAdd op_add_str)) (pe_callTy (call_list_txt rfl) (by rfl) T.n_list (by decide +kernel) (pa_cons pe_str pa_nil)) (pe_lst (pa_cons pe_str (pa_cons pe_str (pa_cons pe_str (pa_cons pe_str (pa_cons pe_str (pa_cons pe_str pa_nil)))))))) pa_nil))))
      (pss_cons (ps_if (pt_cmpR (uEq hr.units) (pv 2) pe_int (nomark _)) (pss_one (ps_ret (pe_op ((op_or2 uAdd op_add_str)) (pe_op ((op_or2 uAdd op_add_str)) (pe_slice sl_str (pv 1) po_none (po_some (pv 3))) (pv 4)) (pe_slice sl_str (pv 1) (po_some (pv 3)) po_none)))) pss_nil)
      (pss_cons (ps_if (pt_cmpR (uEq hr.units) (pv 2) pe_int (nomark _)) (pss_one (ps_ret (pe_op ((op_or2 uAdd op_add_str)) (pe_slice sl_str (pv 1) po_none (po_some (pv 3))) (pe_slice sl_str (pv 1) (po_some (pe_op ((op_or2 uAdd op_add_str)) (pv 3) pe_int)) po_none)))) pss_nil)
      (pss_cons (ps_if (pt_cmpR (uEq hr.units) (pv 2) pe_int (nomark _)) (pss_one (ps_ret (pe_op ((op_or2 uAdd op_add_str)) (pe_op ((op_or2 uAdd op_add_str)) (pe_slice sl_str (pv 1) po_none (po_some (pv 3))) (pv 4)) (pe_slice sl_str (pv 1) (po_some (pe_op ((op_or2 uAdd op_add_str)) (pv 3) pe_int)) po_none)))) pss_nil)
      (pss_cons (ps_set (i := 5) sc__law_bent.nd rfl (Or.inl rfl) (pe_split (pv 1) pe_str))
      (pss_one (ps_ret (pe_ifExp (pt_cmpR (uEq hr.units) (pv 2) pe_int (nomark _)) (pe_join pe_str (pe_revL (pv 5))) (pe_op ((op_or2 uAdd op_add_str)) (pe_op ((op_or2 uAdd op_add_str)) (pv 1) pe_str) (pe_fnR G__law_pick (hr.mono (by decide)) T.k__law_pick T.m__law_pick pass0 (pa_cons (pv 0) (pa_cons (pe_op ((op_or2 uAdd op_add_str)) (pv 5) (pe_lst (pa_cons pe_str (pa_cons pe_str pa_nil)))) pa_nil))))))))))))), ?_⟩
    have hs : x.length ≤ sizeLine := Nat.le_trans hx (by decide)
    refine ⟨_, rfl, ⟨p, n, 5, rfl, hp, by omega, by decide, by decide, fun d1 H1 a0 a1 p1 u1 => ⟨_, rfl, ⟨_, rfl, x, rfl, hs, Or.inl (Or.inl ⟨_, _, rfl, rfl, ?_⟩)⟩⟩⟩⟩
    refine ⟨p, n + 1, _, rfl, p1, by omega, by omega, by omega, fun d2 H2 b0 b1 p2 u2 => ⟨_, _, rfl, ?_⟩⟩
    refine ⟨_, rfl, ⟨_, rfl, ?_⟩⟩
    refine ⟨(by show 10 ≤ sizeLine; decide), fun l hl => ⟨(by show 6 ≤ sizeLine; decide), fun b hb => ?_⟩⟩
    have s3 := sameNew (o := HO.lst (sgV (Str.ofString "0123456789"))) hl
    have s4 := sameNew (o := HO.lst [V.str (Str.ofString "-"), V.str (Str.ofString "/"), V.str (Str.ofString " "), V.str (Str.ofString "+"), V.str (Str.ofString "f"), V.str (Str.ofString "\n")]) hb
    refine Or.inl (Or.inr (Or.inr (Or.inl ⟨l, b, _, _, rfl, rfl, s4 _ _ upd_same, upd_same, (by show 16 ≤ sizeLine; decide), fun c hc => ?_⟩)))
    have s5 := sameNew (o := HO.lst sgns) hc
    have s35 := (s3.trans s4).trans s5
    obtain ⟨o, hpo⟩ := ((p2.up (s3.trans s4))).some
    refine ⟨p, c, n + 2, sgns, rfl, p2.up s35, by omega, Or.inl ⟨upd_same, (ne_of_none hpo hc).symm⟩, (by show 0 < 16; decide), (by show 16 ≤ 1000; decide), fun v H3 hv p3 u3 => ?_⟩
    have u13 : Up p H H3 := (u1.trans u2).trans ((Up.same s35).trans u3)
    obtain ⟨sn, rfl, hsn, sgn⟩ := sgns_ok v hv
    clear s3 s4 s5 s35 hpo hv hb hc hl
    have lc := fun lo hi => cutS_length x lo hi
    have sc := fun lo hi => cutS_sg sg lo hi
    have small : ∀ {i : Nat}, i ≤ 1000 → i ≤ sizeLine := fun h => Nat.le_trans h (by decide)
    have fin : ∀ y : Str, y.length ≤ 200 → SgOk y → Q (.str y) H3 := fun y a b => k y H3 a b (p3.mono (by omega)) u13
    refine ⟨_, rfl, Or.inl ⟨rfl, _, rfl, ite2 (fun h => ?_) (fun h => ?_)⟩⟩
    · have l1 := lc none (some d2)
      have l2 := lc (some d2) none
      refine ⟨_, rfl, _, rfl, d2, rfl, x, rfl, hs, _, rfl, Or.inr ⟨_, _, rfl, rfl, small (by omega), ?_⟩⟩
      refine ⟨_, rfl, _, rfl, d2, rfl, x, rfl, hs, Or.inr ⟨_, _, rfl, rfl, small (by rw [slen]; omega), ?_⟩⟩
      exact fin _ (by rw [slen, slen]; omega) (((sc _ _).app sgn).app (sc _ _))
    refine ⟨_, rfl, Or.inl ⟨rfl, _, rfl, ite2 (fun h => ?_) (fun h => ?_)⟩⟩
    · have l1 := lc none (some d2)
      have l2 := lc (some (d2 + 1)) none
      refine ⟨_, rfl, _, rfl, d2, rfl, x, rfl, hs, ?_⟩
      refine ⟨_, rfl, _, rfl, Or.inl (Or.inl ⟨_, _, rfl, rfl, ?_⟩)⟩
      refine ⟨_, rfl, x, rfl, hs, Or.inr ⟨_, _, rfl, rfl, small (by omega), ?_⟩⟩
      exact fin _ (by rw [slen]; omega) ((sc _ _).app (sc _ _))
    refine ⟨_, rfl, Or.inl ⟨rfl, _, rfl, ite2 (fun h => ?_) (fun h => ?_)⟩⟩
    · have l1 := lc none (some d2)
      have l2 := lc (some (d2 + 1)) none
      refine ⟨_, rfl, _, rfl, d2, rfl, x, rfl, hs, _, rfl, Or.inr ⟨_, _, rfl, rfl, small (by omega), ?_⟩⟩
      refine ⟨_, rfl, _, rfl, Or.inl (Or.inl ⟨_, _, rfl, rfl, ?_⟩)⟩
      refine ⟨_, rfl, x, rfl, hs, Or.inr ⟨_, _, rfl, rfl, small (by rw [slen]; omega), ?_⟩⟩
      exact fin _ (by rw [slen, slen]; omega) (((sc _ _).app sgn).app (sc _ _))
    refine ⟨_, rfl, ⟨_, rfl⟩, x, _, rfl, rfl, by decide, Nat.le_trans (Nat.add_le_add_right hx 2) (by decide), fun q hq => ?_⟩
    have wl := split_le (s := 32) (by decide) 90 x hx
    have wm := split_many (s := 32) (by decide) 90 x hx
    have wsg : ∀ y ∈ Txt.split x " ", SgOk y := split_sg (s := 32) (by decide) 90 x hx sg
    have wn := split_ne (s := 32) (by decide) x
    have wsum := split_sum (s := 32) (by decide) 90 x hx
    rw [show (⟨#[32]⟩ : Str) = " " from rfl] at wl wn wm wsum
    generalize Txt.split x " " = ws at wl wsg wn wm wsum ⊢
    have sq : Same H3 (upd H3 q (.lst (ws.map V.str))) := sameNew hq
    have lq : upd H3 q (.lst (ws.map V.str)) q = some (.lst (ws.map V.str)) := upd_same
    have p4 := p3.up sq
    have u14 := u13.trans (Up.same sq)
    generalize upd H3 q (.lst (ws.map V.str)) = H4 at sq lq p4 u14 ⊢
    refine ⟨_, rfl, Or.inl ⟨rfl, _, rfl, ite2 (fun h => ?_) (fun h => ?_)⟩⟩
    · refine ⟨⟨_, rfl⟩, _, rfl, q, _, rfl, SqL.of lq, fun q2 hq2 => ⟨_, q2, ws.reverse, rfl, rfl, Or.inl (SqL.of (by rw [upd_same, List.map_reverse])), ?_, ?_⟩⟩
      · rw [List.map_reverse, List.sum_reverse, List.length_reverse]
        exact Nat.le_trans (Nat.add_le_add (show _ ≤ 91 by omega) (Nat.mul_le_mul wm (show _ ≤ 1 by decide))) (by decide)
      · have ej : Txt.join (Str.ofString " ") ws.reverse = Str.join (Str.ofString " ") ws.reverse := StrLaws.glued_eq_join _ _
        rw [ej]
        have jl := StrLaws.join_length_le (Str.ofString " ") ws.reverse
        rw [List.map_reverse, List.sum_reverse, List.length_reverse, show (Str.ofString " ").length = 1 from rfl, Nat.mul_one] at jl
        exact k _ _ (by omega) (join_sg (sgD (by decide)) _ fun y hy => wsg y (List.mem_reverse.mp hy)) ((p4.up (sameNew hq2)).mono (by omega)) (u14.trans (Up.new hq2))
    · refine ⟨_, rfl, Or.inr ⟨_, _, rfl, rfl, Nat.le_trans (Nat.add_le_add_right hx 1) (by decide), ?_⟩⟩
      refine ⟨_, rfl, _, rfl, ⟨(by show 2 ≤ sizeLine; decide), fun b hb => ?_⟩⟩
      have hqb := sameNew (o := HO.lst [V.str Str.empty, V.str (Str.ofString "1/2")]) hb
      refine Or.inl (Or.inr (Or.inr (Or.inl ⟨q, b, _, _, rfl, rfl, hqb _ _ lq, upd_same, (by rw [List.length_map]; exact Nat.le_trans (Nat.add_le_add_right wm 2) (by decide)), fun c hc => ?_⟩)))
      obtain ⟨o, hpo⟩ := (p4.up hqb).some
      have s5 := hqb.trans (sameNew (o := HO.lst (ws.map V.str ++ [V.str Str.empty, V.str (Str.ofString "1/2")])) hc)
      refine ⟨p, c, n + 3, ws.map V.str ++ [V.str Str.empty, V.str (Str.ofString "1/2")], rfl, p4.up s5, by omega, Or.inl ⟨upd_same, (ne_of_none hpo hc).symm⟩, ?_, ?_, fun v H5 hv p5 u5 => ?_⟩
      · rw [List.length_append]
        exact Nat.lt_of_lt_of_le (by decide) (Nat.le_add_left 2 _)
      · rw [List.length_append, List.length_map]
        exact Nat.le_trans (Nat.add_le_add_right wm 2) (by decide)
      have uf := u14.trans ((Up.same s5).trans u5)
      obtain ⟨y, rfl, hy, gy⟩ : ∃ y : Str, v = .str y ∧ y.length ≤ 90 ∧ SgOk y := by
        rcases List.mem_append.mp hv with hv | hv
        · obtain ⟨y, hy, rfl⟩ := List.mem_map.mp hv
          exact ⟨y, rfl, wl y hy, wsg y hy⟩
        · rcases List.mem_cons.mp hv with rfl | hv
          · exact ⟨_, rfl, by decide, fun c z => by cases z⟩
          · rw [List.mem_singleton.mp hv]
            exact ⟨_, rfl, by decide, sgD (by decide)⟩
      have l1 : (Str.ofString " ").length = 1 := rfl
      refine Or.inr ⟨_, _, rfl, rfl, small (by rw [slen, l1]; omega), ?_⟩
      exact k _ _ (by rw [slen, slen, l1]; omega) ((sg.app (sgD (by decide))).app gy) (p5.mono (by omega)) uf
end

end AZ
namespace AZ
open PySem L2
/-! ## texts of roundings read back -/
theorem rdL_sg {l : List Nat} {n : Int} (h : rdL l = some n) : ∀ c ∈ l, c = 45 ∨ (48 ≤ c ∧ c ≤ 57) := by
  have dg : dgL (bodyL l) = true := by
    cases e : dgL (bodyL l) with
    | true => rfl
    | false => rw [rdL_no1 (Or.inl e)] at h; cases h
  have dd := dgL_iff.mp dg
  intro c hc
  unfold bodyL at dd
  by_cases h45 : l.head? = some 45
  · rw [if_pos h45] at dd
    cases l with
    | nil => cases hc
    | cons a b =>
      rcases List.mem_cons.mp hc with rfl | hc
      · exact Or.inl (by injection h45)
      · exact Or.inr (dd c hc)
  · rw [if_neg h45] at dd
    exact Or.inr (dd c hc)
theorem rat_sg (q : Rat) : ∀ c ∈ TL.tl (ratS q), c = 45 ∨ c = 47 ∨ (48 ≤ c ∧ c ≤ 57) := by
  intro c hc
  have nn := rdL_sg (rdL_text q.num)
  have dd := rdL_sg (rdL_text (q.den : Int))
  have w : ∀ {c : Nat}, (c = 45 ∨ (48 ≤ c ∧ c ≤ 57)) → (c = 45 ∨ c = 47 ∨ (48 ≤ c ∧ c ≤ 57)) := fun h => h.elim Or.inl fun h => Or.inr (Or.inr h)
  unfold ratS at hc
  split at hc
  · exact w (nn c hc)
  · rw [TL.tl_append, TL.tl_append] at hc
    rcases List.mem_append.mp hc with hc | hc
    · rcases List.mem_append.mp hc with hc | hc
      · exact w (nn c hc)
      · exact Or.inr (Or.inl (List.mem_singleton.mp hc))
    · exact w (dd c hc)
theorem rat_read (q : Rat) : tdQ (ratS q) = some q := by
  unfold ratS
  by_cases h : (q.den : Int) = 1
  · rw [if_pos h, tdQ_one (rdL_no47 (rdL_text _)), rdL_text]
    show some (Rat.divInt q.num 1) = some q
    rw [← h, Rat.num_divInt_den]
  · rw [if_neg h]
    have e := tdQ_two (a := Str.ofString (toString q.num)) (b := Str.ofString (toString (q.den : Int))) (rdL_no47 (rdL_text _))
    rw [rdL_text, rdL_text] at e
    refine e.trans ?_
    have g : Int.gcd q.num (q.den : Int) = 1 := q.reduced
    have dn := q.den_nz
    show (if (q.den : Int) < 2 ∨ 1 < (Int.gcd q.num (q.den : Int) : Int) then none else some (Rat.divInt q.num (q.den : Int))) = some q
    rw [if_neg (by rw [g]; omega), Rat.num_divInt_den]
theorem told_cut (q : Rat) (fr : Bool) : Txt.split (rndS q fr) " " = [if fr then ("from" : Str) else "above", ratS q] := by
  have e : rndS q fr = (if fr then ("from" : Str) else "above") ++ ⟨#[32]⟩ ++ ratS q := by
    unfold rndS
    cases fr <;> rfl
  rw [e, show (" " : Str) = ⟨#[32]⟩ from rfl, split_cons (by decide) (by cases fr <;> decide), split_one (by decide)]
  intro h
  have := rat_sg q 32 h
  omega
theorem told_due {q : Rat} {fr : Bool} (ok : RndOk q fr) : dueR (Txt.split (rndS q fr) " ") = .inl (q, fr) := by
  rw [told_cut]
  have hf : decide ((if fr then ("from" : Str) else "above") = "from") = fr := by cases fr <;> decide
  have h0 : ¬((if fr then ("from" : Str) else "above") ≠ "from" ∧ (if fr then ("from" : Str) else "above") ≠ "above") := by cases fr <;> decide
  have e : tdR (ratS q) fr = some q := by
    unfold tdR
    rw [rat_read]
    have lo := ok.lo
    have hi := ok.hi
    refine if_neg ?_
    rintro (h | h | h)
    · exact absurd h (by grind)
    · exact absurd h (by grind)
    · cases fr with
      | true => exact ok.f rfl (by rw [h]; rfl)
      | false => exact ok.a rfl (by rw [h]; rfl)
  rw [dueR_some h0 (by rw [hf]; exact e), if_pos rfl, hf]
theorem told_sg (q : Rat) (fr : Bool) : SgOk (rndS q fr) := by
  unfold rndS
  refine SgOk.app (by cases fr <;> exact sgD (by decide)) fun c hc => ?_
  have := rat_sg q c hc
  omega
theorem told_len {q : Rat} (z : Sz 100 q) (fr : Bool) : (rndS q fr).length ≤ 90 := by
  have b : (2 : Nat) ^ 100 ≤ 10 ^ 31 := by decide
  have l1 : (Str.ofString (toString q.num)).length ≤ 32 := by
    rw [PySem.ofString_length]; exact PySem.int_text_length_le10 (k := 31) (by decide) (Nat.lt_of_lt_of_le z.1 b)
  have l2 : (Str.ofString (toString (q.den : Int))).length ≤ 32 := by
    rw [PySem.ofString_length]; exact PySem.int_text_length_le10 (k := 31) (by decide) (Nat.lt_of_lt_of_le (szD z) b)
  have l3 : (if fr then ("from " : Str) else "above ").length ≤ 6 := by cases fr <;> decide
  have l4 : (ratS q).length ≤ 65 := by
    unfold ratS
    split
    · omega
    · rw [slen, slen]
      have : ("/" : Str).length = 1 := rfl
      omega
  unfold rndS
  rw [slen]
  omega
/-! ## what is heard -/
theorem IsRat.ext {C a : Addr} {H H' : Hp} {q : Rat} (h : IsRat C H a q) (e : LamX.ExtN H H') : IsRat C H' a q := let ⟨dx, x⟩ := h; ⟨dx, e _ _ x fun _ z => nomatch z⟩
theorem IsRnd.ext {C D a : Addr} {H H' : Hp} {t : Rat} {fr : Bool} (h : IsRnd C D H a t fr) (e : LamX.ExtN H H') : IsRnd C D H' a t fr := let ⟨o, dx, b, x, y⟩ := h; ⟨o, dx, b, e _ _ x (fun _ z => nomatch z), y.ext e⟩
theorem PenAt.ext {p : Addr} {n : Nat} {H H' : Hp} (h : PenAt H p n) (e : LamX.ExtN H H') : PenAt H' p n := by
  obtain ⟨l, ns, s, g, a, b, c, r⟩ := h
  exact ⟨l, ns, s, g, a, e _ _ b (fun _ z => nomatch z), e _ _ c (fun _ z => nomatch z), r⟩
theorem DueAt.same {d : Ad} {H H' : Hp} {v : V} : ∀ {r : (Rat × Bool) ⊕ Int}, DueAt d H v r → Same H H' → DueAt d H' v r
  | .inl (q, fr), ⟨l, a, x, y, z⟩, e => ⟨l, a, x, e _ _ y, z.same e⟩
  | .inr n, ⟨t, x, y⟩, e => ⟨t, x, e _ _ y⟩
abbrev CaughtR (CB : Addr) (n : Int) (H : Hp) : XK := fun cls dd H' => cls = .ref CB ∧ ∃ dx, dd = some dx ∧ Same H H' ∧ H' dx = some (.xd [("word", .int n), ("line", .int 0)])
theorem caughtR_rai {CB : Addr} {n : Int} {H H1 : Hp} (e : Same H H1) : RaiW CB 0 n H1 (CaughtR CB n H) := fun H' dx s h => ⟨rfl, dx, rfl, (e.trans s).trans (sameNew h), upd_same⟩
def TTr (d : Ad) : (XK → Hp → VK → Prop) → Hp → VK → Prop := fun tl H Q => ∃ r : (Rat × Bool) ⊕ Int, (∀ n, r = .inr n → ∀ Q', tl (CaughtR d.BadText n H) H Q') ∧
  (∀ q fr, r = .inl (q, fr) → ∀ Q' : VK, (∀ a H', Same H H' → IsRnd d.Ratio d.Rounding H' a q fr → Q' (.ref a) H') → tl (fun _ _ _ => False) H Q') ∧ ∀ v H', Same H H' → DueAt d H' v r → Q v H'
section
variable {d : Ad} {X : Cx}
theorem pss_ex {α : Type} {body : List Stmt} {t : α → TS} {t' : TS} (h : ∀ e, PSs X body (t e)) (k : ∀ D σ H, t' D σ H → ∃ e, t e D σ H) : PSs X body t' :=
  ⟨fun pins s σ H D I q => let ⟨e, q'⟩ := k D σ H q; (h e).run pins s σ H D I q'⟩
theorem lk_word {n : Int} : List.lookup ("word" : Str) ([("word", V.int n), ("line", V.int 0)] : List (Str × V)) = some (V.int n) := by
  simp [List.lookup]
theorem lk_line {n : Int} : List.lookup ("line" : Str) ([("word", V.int n), ("line", V.int 0)] : List (Str × V)) = some (V.int 0) := by
  simp [List.lookup, show (("line" : Str) == ("word" : Str)) = false by decide +kernel]
theorem heardR (T : Tx X.K X.mg d) {cdg : Value} {q : Str} : GivesG X ["_law_ask", "_law_caught", "error"] "_law_heard" (defScope s__law_heard) d._law_heard cdg (defBody s__law_heard) "_law_ask" q (TTr d) := by
  have _ := T.F__law_heard
  intro f c' s H Q tl ng act hr hc h
  refine ⟨_, pss_cons (ps_set (i := 1) sc__law_heard.nd rfl (Or.inl rfl) pe_non)
    (pss_cons (ps_try_keep (x := "SnapError") (c := .ref d.SnapError) (i := 2) (Wout := fun _ _ _ _ => False)
        (tb := fun W D σ H => ∃ Ech : XK, σ[0]? = some (some (.ref f)) ∧ H c' = some (LamX.CodeO c' q) ∧ (∀ cls dd H', Ech cls dd H' → W cls dd σ H') ∧ tl Ech H (fun v H' => 1 ≤ sizeLine ∧ ∀ l, H' l = none → D.rt (.ref l) (upd H' l (.lst [v]))))
        (ts := fun a cls dd => tAsg (tVar 2) (gName 1)) rfl rfl rfl sc__law_heard.nd rfl rfl ⟨rfl, by decide, Or.inl T.m_SnapError⟩ L2.takes0 (fun W pn xe tk _ => ?_)
        (fun a oe cls dd pn _ _ => pss_one (ps_set (i := 1) sc__law_heard.nd rfl (Or.inl rfl) (pv 2))))
      (pss_one (ps_ret (pe_ifExp (pt_val (pe_callB call_isEK (by rfl) T.n_isinstance (by decide +kernel) (pa_cons (pv 1) (pa_cons (pe_glob (v := .ref _) rfl T.m_BadText rfl) pa_nil))))
          (pe_tup (pa_cons (pe_xfK (pv 1)) (pa_cons (pe_xfK (pv 1)) pa_nil))) (pe_tup (pa_cons pe_str pa_nil)))))), ?_⟩
  · exact pss_ex (fun Ech => pss_one (ps_ret (pe_lst (pa_cons (act W pn xe Ech _ _ tk) pa_nil)))) fun D σ H' ⟨Ech, h1, h2, h3, h4⟩ => ⟨Ech, h1, h2, h3, h4⟩
  · obtain ⟨r, raises, tells, k⟩ := h
    cases r with
    | inr n =>
      refine ⟨CaughtR d.BadText n H, rfl, hc, fun cls dd H' ⟨ec, dx, ed, s1, hd⟩ => ⟨true, ?_, fun _ a na => ⟨_, rfl, fun _ => ?_⟩, fun z => nomatch z⟩, raises n rfl _⟩
      · subst ec; exact T.ex_BadText.exm T.sx_SnapError
      · subst ec ed
        have nad : dx ≠ a := fun z => by rw [z, na] at hd; cases hd
        have s2 : Same H' (upd H' a (exk a (.ref d.BadText) (some dx))) := sameNew na
        have ek : ErrK (upd H' a (exk a (.ref d.BadText) (some dx))) a d.BadText [("word", .int n), ("line", .int 0)] := ⟨dx, upd_same, by rw [upd_ne nad]; exact hd⟩
        dsimp only [List.set, L2.start]
        refine ⟨_, rfl, a, _, _, _, _, _, _, true, _, rfl, T.gx_object, T.ex_BadText, ek, .own _, kit_rr, true, rfl, iteT ?_⟩
        refine ⟨_, rfl, a, d.BadText, _, _, rfl, T.ex_BadText.xf, T.a_BadText_line, ek, lk_line, ?_⟩
        refine ⟨_, rfl, a, d.BadText, _, _, rfl, T.ex_BadText.xf, T.a_BadText_word, ek, lk_word, (by show 2 ≤ sizeLine; decide), fun t ht => ?_⟩
        exact k _ _ ((s1.trans s2).trans (sameNew ht)) ⟨t, rfl, upd_same⟩
    | inl qf =>
      obtain ⟨q, fr⟩ := qf
      refine ⟨fun _ _ _ => False, rfl, hc, fun _ _ _ z => z.elim, tells q fr rfl _ fun a H' e ha => ⟨(by show 1 ≤ sizeLine; decide), fun l hl => ?_⟩⟩
      exact k _ _ (e.trans (sameNew hl)) ⟨l, a, rfl, upd_same, ha.same (sameNew hl)⟩
end

end AZ
namespace AZ
open PySem L2
/-! ## the law -/
-- asks T.i_NoneType_is_str T.i_int_is_str T.i_bool_is_str T.i_Rounding_is_str T.i_tuple_is_str T.i_list_is_str T.i_dict_is_str T.tab_law T.m__law_heard T.q_Rounding_eq
abbrev lamQ : Str := (PyProof.Rows.envOfC "law" (defScope s_law) 0 0 .none).qual ++ "<lambda>"
def levelLaw : Nat := 13
def spLaw (K : PySem.W.Frag) (cs : List (Addr × Addr)) : Sp := fun vs H Q _ => ∃ (a : Addr) (ns : List Int), vs = [.ref a] ∧ SqL K H a (ns.map V.int) ∧ ns.length ≤ 63 ∧ (∀ p ∈ cs, H p.2 = some (.tbl #[])) ∧ ∀ H', Q (.bl true) H'
theorem lamS_comp {scope sc lam : Scope} {cl : List (Str × Addr)} {C : Addr} {env : Env} (hs : env.scope = sc) (h : LamX.lamSB (relS scope sc) lam = true) : LamX.LamS (compEnvC scope cl C env).scope lam := by
  have e : (compEnvC scope cl C env).scope = relS scope sc := by rw [← hs]; rfl
  rw [e]
  exact LamX.lamS_by h
/-! roundings compared -/
def RRd (C D : Addr) : Addr → V → Hp → Bool → Prop := fun a v H r => ∃ b t u fr gr, v = .ref b ∧ IsRnd C D H a t fr ∧ IsRnd C D H b u gr ∧ r = (decide (t = u) && decide (V.bl fr = V.bl gr))
theorem rrd_ext {C D : Addr} (a : Addr) (b : V) (H H' : Hp) (r : Bool) (e : Ext H H') (h : RRd C D a b H r) : RRd C D a b H' r :=
  let ⟨b, t, u, fr, gr, x, y, z, w⟩ := h; ⟨b, t, u, fr, gr, x, y.same e, z.same e, w⟩
theorem isRnd_uniq {C D : Addr} {H : Hp} {a : Addr} {t u : Rat} {fr gr : Bool} (h : IsRnd C D H a t fr) (h' : IsRnd C D H a u gr) : t = u ∧ fr = gr := by
  obtain ⟨_, dx, b, h1, d1, h2⟩ := h
  obtain ⟨_, dy, c, h3, d2, h4⟩ := h'
  rw [h1] at h3
  injection h3 with h3
  injection h3 with _ _ h3
  simp only [List.cons.injEq, Prod.mk.injEq, V.ref.injEq, V.bl.injEq, true_and, and_true] at h3
  obtain ⟨rfl, rfl⟩ := h3
  rw [h2] at h4
  injection h4 with h4
  injection h4 with _ _ h4
  simp only [List.cons.injEq, Prod.mk.injEq, V.int.injEq, true_and, and_true] at h4
  exact ⟨Rat.ext h4.1 (by omega), rfl⟩
theorem rrd_rfl {C D : Addr} (a : Addr) (H : Hp) (r : Bool) (h : RRd C D a (.ref a) H r) : r = true := by
  obtain ⟨b, t, u, fr, gr, e, h1, h2, rfl⟩ := h
  injection e with e
  subst e
  obtain ⟨rfl, rfl⟩ := isRnd_uniq h1 h2
  simp
abbrev BRd (C D : Addr) : Eqw := BOwn D (RRd C D)
theorem monB_rd {C D : Addr} : MonB (BRd C D) := monB_own rrd_ext
theorem eqB_rd {X : Cx} {C D f : Addr} {k : Nat} (M : CmpM X.K D .Eq f) (F : FnR X.prog X.w X.K X.mg X.base CX0 k f (spREq C D)) : EqB X k (BRd C D) :=
  eqB_own (FnR.imp F fun vs H Q E h => by
    obtain ⟨a, y, r, rfl, ⟨b, t, u, fr, gr, rfl, h1, h2, rfl⟩, q⟩ := h
    exact ⟨a, b, t, u, fr, gr, rfl, h1, h2, fun H' e => q H' e⟩) M pass0 rrd_rfl
theorem due_eq {d : Ad} {H : Hp} {v v' : V} {Q : VK} {r : (Rat × Bool) ⊕ Int} (h1 : DueAt d H v r) (h2 : DueAt d H v' r) (k : ∀ H', Same H H' → Q (.bl false) H') : orR (rNeB (BList (BRd d.Ratio d.Rounding))) (rNeB (BTu BFlat)) v v' H Q := by
  cases r with
  | inl qf =>
    obtain ⟨q, fr⟩ := qf
    obtain ⟨l, a, rfl, h1, r1⟩ := h1
    obtain ⟨m, b, rfl, h2, r2⟩ := h2
    obtain ⟨_, dx, _, i1, _⟩ := id r1
    obtain ⟨_, dy, _, i2, _⟩ := id r2
    refine Or.inl ⟨true, ⟨l, m, _, _, rfl, rfl, h1, h2, Or.inr ⟨rfl, fun _ => true, ?_, (allT_true fun _ _ => rfl).symm⟩⟩, fun H' e => k H' e⟩
    intro i x y hx hy
    cases i with
    | zero =>
      injection hx with hx
      injection hy with hy
      subst hx hy
      exact ⟨a, dx, _, rfl, i1, Or.inr ⟨b, dy, _, rfl, i2⟩, b, q, q, fr, fr, rfl, r1, r2, by simp⟩
    | succ i => cases hx
  | inr n =>
    obtain ⟨s, rfl, h1⟩ := h1
    obtain ⟨t, rfl, h2⟩ := h2
    refine Or.inr ⟨true, ⟨s, t, _, _, rfl, rfl, h1, h2, fun _ => true, ?_, by rw [allT_true fun _ _ => rfl]; rfl⟩, fun H' e => k H' e⟩
    intro i x y hx hy
    rw [hx] at hy
    injection hy with hy
    subst hy
    match i, hx with
    | 0, hx => injection hx with hx; subst hx; exact ⟨rfl, rfl, rfl⟩
    | 1, hx => injection hx with hx; subst hx; exact ⟨rfl, rfl, by simp [eqV]⟩
    | i + 2, hx => cases hx
/-! what is heard of a text, of no text -/
section
variable {d : Ad} {K : PySem.W.Frag} {σ : L2.St} {H : Hp} {Q : VK} {i : Nat}
theorem hear_txt {x : Str} (hi : σ[i]? = some (some (.str x))) (hx : x.length ≤ 200) (tabs : LamX.Tabs [(d.cp_law, lamQ)] H) (k : ∀ v H', LamX.ExtN H H' → LamX.Tabs [(d.cp_law, lamQ)] H' → DueAt d H' v (dueR (Txt.split x " ")) → Q v H') :
    LamX.tLam [(d.cp_law, lamQ)] (TTr d) (fun E => ClX.tCMeth d.Rounding (spRead K d) E (tC (.ref d.Rounding)) (tCons (tVar i) tNil)) σ H Q :=
  ⟨tabs, fun H1 eN t1 => ⟨dueR (Txt.split x " "), fun n hn Q' => ⟨rfl, _, hi, Or.inl ⟨_, x, rfl, hx, Or.inr ⟨n, hn, caughtR_rai (Same.refl _)⟩⟩⟩,
    fun q fr hq Q' k' => ⟨rfl, _, hi, Or.inl ⟨_, x, rfl, hx, Or.inl ⟨q, fr, hq, fun r H' e hr => k' r H' e hr⟩⟩⟩, fun v H' e hv => k v H' (LamX.ExtN.trans eN (ExtN.same e)) (t1.ext e) hv⟩⟩
theorem hear_odd {y : V} (hi : σ[i]? = some (some y)) (no : ∀ H', LamX.ExtN H H' → NoTx K H' y) (tabs : LamX.Tabs [(d.cp_law, lamQ)] H) (k : ∀ v H', LamX.ExtN H H' → LamX.Tabs [(d.cp_law, lamQ)] H' → DueAt d H' v (.inr 0) → Q v H') :
    LamX.tLam [(d.cp_law, lamQ)] (TTr d) (fun E => ClX.tCMeth d.Rounding (spRead K d) E (tC (.ref d.Rounding)) (tCons (tVar i) tNil)) σ H Q :=
  ⟨tabs, fun H1 eN t1 => ⟨.inr 0, fun n hn Q' => ⟨rfl, _, hi, Or.inr ⟨_, _, rfl, no H1 eN, by injection hn with hn; subst hn; exact caughtR_rai (Same.refl _)⟩⟩,
    fun q fr hq Q' k' => (nomatch hq), fun v H' e hv => k v H' (LamX.ExtN.trans eN (ExtN.same e)) (t1.ext e) hv⟩⟩
theorem sifI {tc : TT} {t w : TS} {D : Ends} (I : Hp → Prop) (h : ∀ N : Bool → Hp → Prop, (∀ H2, I H2 → N false H2) → tc σ H N) (k : ∀ H2, I H2 → w D σ H2) : tSeq (tIfS tc t tNext) w D σ H := h _ fun H2 e => iteF (k H2 e)
theorem sifJ {tc : TT} {t : TS} {D : Ends} (I : Hp → Prop) (h : ∀ N : Bool → Hp → Prop, (∀ H2, I H2 → N false H2) → tc σ H N) (k : ∀ H2, I H2 → D.nx σ H2) : tIfS tc t tNext D σ H := h _ fun H2 e => iteF (k H2 e)
end
abbrev fixT : List Str := ["", "from", "above", "from 0", "above 1", "above 0", "from 1", "from 2", "from -1/2", "from 2/4", "from 1/2 ", "from  1/2", "from 1/1", "above 0/1", "1/2", "from 01", "from 1/0"]
theorem fixT_ok : ∀ x ∈ fixT, x.length ≤ 200 ∧ SgOk x := fun x hx => by
  have h : fixT.all (fun x => decide (x.length ≤ 200) && x.cps.toList.all (fun c => decide (c < 0x110000))) = true := by decide +kernel
  have := List.all_eq_true.mp h x hx
  rw [Bool.and_eq_true] at this
  exact ⟨of_decide_eq_true this.1, sgD this.2⟩
theorem st_eq' {t : TS} {D : Ends} {σ : L2.St} {H H' : Hp} (e : H = H') (h : t D σ H') : t D σ H := e ▸ h
theorem odd_no {K : PySem.W.Frag} {mg : Str → Option Value} {d : Ad} (T : Tx K mg d) {H : Hp} {r t l dd : Addr} {x : V} {a b c : V} {q : Rat} {fr : Bool} (hx : x ∈ [V.non, .int 0, .bl true, .ref r, .ref t, .ref l, .ref dd, .int 1])
    (h1 : H t = some (.tup [a])) (h2 : H l = some (.lst [b, c])) (h3 : H dd = some (.dK [])) (h4 : IsRnd d.Ratio d.Rounding H r q fr) : NoTx K H x := by
  obtain ⟨_, dx, _, h4, _⟩ := h4
  simp only [List.mem_cons, List.not_mem_nil, or_false] at hx
  rcases hx with rfl | rfl | rfl | rfl | rfl | rfl | rfl | rfl
  · exact ⟨_, .base .non, T.i_NoneType_is_str⟩
  · exact ⟨_, .base (.int _), T.i_int_is_str⟩
  · exact ⟨_, .base (.bl _), T.i_bool_is_str⟩
  · exact ⟨_, T.y_Rounding.ty T.c_Rounding h4, T.i_Rounding_is_str⟩
  · exact ⟨_, .base (.tup h1), T.i_tuple_is_str⟩
  · exact ⟨_, .base (.lst h2), T.i_list_is_str⟩
  · exact ⟨_, .base (.dK h3), T.i_dict_is_str⟩
  · exact ⟨_, .base (.int _), T.i_int_is_str⟩
theorem kind_sm : ∀ c ∈ kinds ++ kinds2, ∀ (x y : Int) (fr : Bool), c = [.int x, .int y, .bl fr] → x.natAbs < 2 ^ 100 := by
  intro c hc x y fr e
  have h : x.natAbs ≤ 3 := by
    simp only [kinds, kinds2, List.cons_append, List.nil_append, List.mem_cons, List.not_mem_nil, or_false] at hc
    rcases hc with rfl | rfl | rfl | rfl | rfl | rfl | rfl | rfl | rfl | rfl | rfl | rfl <;>
      (injection e with e; injection e with e; omega)
  exact Nat.lt_of_le_of_lt h (by decide)
theorem kind2_rnd : ∀ a : Fin 40, ∀ b : Fin 9, (0 : Rat) < Rat.divInt (1 + (a.val : Int)) (41 + (b.val : Int)) ∧ Rat.divInt (1 + (a.val : Int)) (41 + (b.val : Int)) < 1 := by decide +kernel
theorem kind2_ok {a b : Int} (fr : Bool) (a0 : 0 ≤ a) (a1 : a < 40) (b0 : 0 ≤ b) (b1 : b < 9) : KindOk (1 + a) (41 + b) fr := by
  have sz : Sz 100 (Rat.divInt (1 + a) (41 + b)) := sz_di (by omega) (Nat.lt_of_lt_of_le (show (1 + a).natAbs < 100 by omega) (by decide)) (Nat.lt_of_lt_of_le (show (41 + b).natAbs < 100 by omega) (by decide))
  obtain ⟨lo, hi⟩ := kind2_rnd ⟨a.toNat, by omega⟩ ⟨b.toNat, by omega⟩
  rw [show ((a.toNat : Nat) : Int) = a by omega, show ((b.toNat : Nat) : Int) = b by omega] at lo hi
  exact ⟨by omega, Nat.lt_of_lt_of_le (show (41 + b).natAbs < 100 by omega) (by decide), sz, sz.mono (by decide), by grind, by grind, fun _ z => by rw [z] at lo; exact absurd lo (by decide), fun _ z => by rw [z] at hi; exact absurd hi (by decide)⟩
section
variable {P : Program} {w : World} {K : PySem.W.Frag} {mg : Str → Option Value} {base : Heap} {d : Ad}
theorem G_law (T : Tx K mg d) (TB : LamX.TabB base mg d.cc_law d.cp_law) : FnG P w K mg base CX0 levelLaw d.law (spLaw K [(d.cc_law, d.cp_law)]) := by
  have G__law_pen : FnR P w K mg base CX0 1 d._law_pen (spPen K) := G__law_pen T
  have G__law_draw : FnR P w K mg base CX0 1 d._law_draw spDraw := G__law_draw T
  have G__law_pick : FnR P w K mg base CX0 2 d._law_pick spPick := G__law_pick T
  have G__law_kind : FnR P w K mg base CX0 3 d._law_kind spKind := G__law_kind T
  have G__law_frac : FnR P w K mg base CX0 1 d._law_frac spFrac := G__law_frac T
  have G__law_rounding : FnR P w K mg base CX0 8 d._law_rounding (spRounding d.Ratio d.Rounding) := G__law_rounding T
  have G__law_due : FnR P w K mg base CX0 8 d._law_due (spDue d) := G__law_due T
  have G__law_bent : FnR P w K mg base CX0 3 d._law_bent spBent := G__law_bent T
  have GX_Rounding_read := GX_Rounding_read (P := P) (w := w) (base := base) T
  have GK_Rounding_read := GK_Rounding_read (P := P) (w := w) (base := base) T
  have G_req : FnR P w K mg base CX0 3 d.Rounding___eq__ (spREq d.Ratio d.Rounding) := G_Rounding___eq__ T
  have G_Rounding___str__ := G_Rounding___str__ (P := P) (w := w) (base := base) T
  obtain ⟨fdH, Fh⟩ := T.F__law_heard
  have hbH := Fh.binds (ps := ["_law_ask"]) fun _ _ _ _ _ _ us hl => match us, hl with | [_], _ => rfl
  obtain ⟨ocH, odH, kVH, docH, pmH, anH, cdvH, ctH, oslH, rfl, lkH, cgH⟩ := Fh.ex
  obtain ⟨fd, F⟩ := T.F_law
  refine fnC_of (k := 12) F sc_law (sp := spLaw K [(d.cc_law, d.cp_law)]) (fun vs H Q E h => ?_) (fun cdv A outer s H vs Q E hcode ng hr h => ?_) (F.binds fun _ _ _ _ _ _ us hl => match us, hl with | [_], _ => rfl)
  · obtain ⟨a, ns, rfl, _⟩ := h
    rfl
  · obtain ⟨a, ns, rfl, hS, hlen, htab, k⟩ := h
    have hc := T.tab_law.code_eq hcode
    subst hc
    -- slots: 0 _law_script, 1 _law_pen_here, 2 _law_turn, 3 _law_kind_here, 4 _law_least, 5 _law_made, 6 _law_told, 7 _law_lap, 8 _law_bent_here, 9 _law_odd, 10 _law_fixed, 11 _law_text
    refine ⟨_, (pss_cons (ps_set (i := 1) sc_law.nd rfl (Or.inl rfl) (pe_fnR G__law_pen (hr.mono (by decide)) T.k__law_pen T.m__law_pen pass0 (pa_cons (pv 0) pa_nil)))
      (pss_cons (ps_for PassesOwn.never rfl (pi_range1 rfl T.n_range (pa_cons pe_int pa_nil)) (pg_name (i := 2) sc_law.nd rfl (Or.inl rfl)) (pss_cons (ps_set (i := 3) sc_law.nd rfl (Or.inl rfl) (pe_fnR G__law_pick (hr.mono (by decide)) T.k__law_pick T.m__law_pick pass0 (pa_cons (pv 1) (pa_cons (pe_lst (pa_cons (pe_fnR G__law_kind (hr.mono (by decide)) T.k__law_kind T.m__law_kind pass0 (pa_cons (pv 1) pa_nil)) (pa_cons (pe_tup (pa_cons (pe_op ((op_or2 uAdd op_add_str)) pe_int (pe_fnR G__law_draw (hr.mono (by decide)) T.k__law_draw T.m__law_draw pass0 (pa_cons (pv 1) (pa_cons pe_int pa_nil)))) (pa_cons (pe_op ((op_or2 uAdd op_add_str)) pe_int (pe_fnR G__law_draw (hr.mono (by decide)) T.k__law_draw T.m__law_draw pass0 (pa_cons (pv 1) (pa_cons pe_int pa_nil)))) (pa_cons (pe_cmpR (uEq hr.units) (pe_fnR G__law_draw (hr.mono (by decide)) T.k__law_draw T.m__law_draw pass0 (pa_cons (pv 1) (pa_cons pe_int pa_nil))) pe_int (nomark _)) pa_nil)))) pa_nil))) pa_nil))))
      (pss_cons (ps_set (i := 4) sc_law.nd rfl (Or.inl rfl) (pe_fnR G__law_frac (hr.mono (by decide)) T.k__law_frac T.m__law_frac pass0 (pa_cons (pe_ix ix_seq (pv 3) pe_int (fun _ _ => rfl)) (pa_cons (pe_ix ix_seq (pv 3) pe_int (fun _ _ => rfl)) pa_nil))))
      (pss_cons (ps_set (i := 5) sc_law.nd rfl (Or.inl rfl) (pe_fnR G__law_rounding (hr.mono (by decide)) T.k__law_rounding T.m__law_rounding pass0 (pa_cons (pv 3) pa_nil)))
      (pss_cons (ps_set (i := 6) sc_law.nd rfl (Or.inl rfl) (pe_op ((op_or2 uAdd op_add_str)) (pe_ifExp (pt_val (pe_ix ix_seq (pv 3) pe_int (fun _ _ => rfl))) pe_str pe_str) (pe_ifExp (pt_cmpR (uEq hr.units) (pe_ix ix_seq (pv 4) pe_int (fun _ _ => rfl)) pe_int (nomark _)) (pe_callTy uStr (by rfl) T.n_str (by decide +kernel) (pa_cons (pe_ix ix_seq (pv 4) pe_int (fun _ _ => rfl)) pa_nil)) (pe_op ((op_or2 uAdd op_add_str)) (pe_op ((op_or2 uAdd op_add_str)) (pe_callTy uStr (by rfl) T.n_str (by decide +kernel) (pa_cons (pe_ix ix_seq (pv 4) pe_int (fun _ _ => rfl)) pa_nil)) pe_str) (pe_callTy uStr (by rfl) T.n_str (by decide +kernel) (pa_cons (pe_ix ix_seq (pv 4) pe_int (fun _ _ => rfl)) pa_nil))))))
      (pss_cons (ps_if (PW.pt (pw_or (pt_cmpR (op_or2 op_ne (op_or2 op_ownN (op_or2 (op_neB (ncB_list monB_rd (eqB_rd T.q_Rounding_eq G_req)) (hr.mono (by decide))) (op_neB (ncB_tu monB_flat eqB_flat) (hr.mono (by decide)))))) (pe_callTy uStr (by rfl) T.n_str (by decide +kernel) (pa_cons (pv 5) pa_nil)) (pv 6) (nomark _)) (pw_or (pt_cmpR (op_or2 op_ne (op_or2 op_ownN (op_or2 (op_neB (ncB_list monB_rd (eqB_rd T.q_Rounding_eq G_req)) (hr.mono (by decide))) (op_neB (ncB_tu monB_flat eqB_flat) (hr.mono (by decide)))))) (pe_cmethGk (pe_glob (v := .ref _) rfl T.m_Rounding rfl) T.km_Rounding_read GK_Rounding_read ng (hr.mono (by decide)) passF (pk_cons (pv 6) pk_nil)) (pv 5) (nomark _)) (pw_or1 (pt_cmpR (op_or2 op_ne (op_or2 op_ownN (op_or2 (op_neB (ncB_list monB_rd (eqB_rd T.q_Rounding_eq G_req)) (hr.mono (by decide))) (op_neB (ncB_tu monB_flat eqB_flat) (hr.mono (by decide)))))) (pe_fnR G__law_due (hr.mono (by decide)) T.k__law_due T.m__law_due pass0 (pa_cons (pv 6) pa_nil)) (pe_lst (pa_cons (pv 5) pa_nil)) (nomark _)))))) (pss_one (ps_ret pe_bl)) pss_nil)
      (pss_cons (ps_for PassesOwn.never rfl (pi_range1 rfl T.n_range (pa_cons pe_int pa_nil)) (pg_name (i := 7) sc_law.nd rfl (Or.inl rfl)) (pss_cons (ps_set (i := 8) sc_law.nd rfl (Or.inr rfl) (pe_fnR G__law_bent (hr.mono (by decide)) T.k__law_bent T.m__law_bent pass0 (pa_cons (pv 1) (pa_cons (pv 6) pa_nil))))
      (pss_one (ps_if (pt_cmpR (op_or2 op_ne (op_or2 op_ownN (op_or2 (op_neB (ncB_list monB_rd (eqB_rd T.q_Rounding_eq G_req)) (hr.mono (by decide))) (op_neB (ncB_tu monB_flat eqB_flat) (hr.mono (by decide)))))) (pe_lamG (k := 9) (t := _) (T := [(d.cp_law, lamQ)]) (TT := TTr d) ng rfl T.m__law_heard T.k__law_heard lkH cgH hbH sc__law_heard rfl (Or.inl rfl) (heardR T) TB rfl (List.mem_cons_self ..) (fun p hp _ => by rw [List.mem_singleton.mp hp]; rfl) (hr.mono (by decide)) (LamX.lamS_by (sc := defScope s_law) (by decide +kernel)) rfl (fun _ _ _ _ _ => rfl) (fun A outer s H E f c' ng hr => (pe_cmethG (pe_glob (v := .ref _) rfl T.m_Rounding rfl) T.km_Rounding_read GX_Rounding_read ng (hr.mono (by decide)) (on (takes_of rfl rfl rfl rfl)) (pa_cons (pv 8) pa_nil)))) (pe_fnR G__law_due (hr.mono (by decide)) T.k__law_due T.m__law_due pass0 (pa_cons (pv 8) pa_nil)) (nomark _)) (pss_one (ps_ret pe_bl)) pss_nil))))
      (pss_cons (ps_set (i := 9) sc_law.nd rfl (Or.inr rfl) (pe_fnR G__law_pick (hr.mono (by decide)) T.k__law_pick T.m__law_pick pass0 (pa_cons (pv 1) (pa_cons (pe_lst (pa_cons pe_non (pa_cons pe_int (pa_cons pe_bl (pa_cons (pv 5) (pa_cons (pe_tup (pa_cons pe_str pa_nil)) (pa_cons (pe_lst (pa_cons pe_str (pa_cons pe_str pa_nil))) (pa_cons pe_dnewK (pa_cons pe_int pa_nil))))))))) pa_nil))))
      (pss_one (ps_if (pt_cmpR (op_or2 op_ne (op_or2 op_ownN (op_or2 (op_neB (ncB_list monB_rd (eqB_rd T.q_Rounding_eq G_req)) (hr.mono (by decide))) (op_neB (ncB_tu monB_flat eqB_flat) (hr.mono (by decide)))))) (pe_lamG (k := 9) (t := _) (T := [(d.cp_law, lamQ)]) (TT := TTr d) ng rfl T.m__law_heard T.k__law_heard lkH cgH hbH sc__law_heard rfl (Or.inl rfl) (heardR T) TB rfl (List.mem_cons_self ..) (fun p hp _ => by rw [List.mem_singleton.mp hp]; rfl) (hr.mono (by decide)) (LamX.lamS_by (sc := defScope s_law) (by decide +kernel)) rfl (fun _ _ _ _ _ => rfl) (fun A outer s H E f c' ng hr => (pe_cmethG (pe_glob (v := .ref _) rfl T.m_Rounding rfl) T.km_Rounding_read GX_Rounding_read ng (hr.mono (by decide)) (on (takes_of rfl rfl rfl rfl)) (pa_cons (pv 9) pa_nil)))) (pe_tup (pa_cons pe_int (pa_cons pe_int pa_nil))) (nomark _)) (pss_one (ps_ret pe_bl)) pss_nil))))))))))
      (pss_cons (ps_set (i := 10) sc_law.nd rfl (Or.inl rfl) (pe_lst (pa_cons pe_str (pa_cons pe_str (pa_cons pe_str (pa_cons pe_str (pa_cons pe_str (pa_cons pe_str (pa_cons pe_str (pa_cons pe_str (pa_cons pe_str (pa_cons pe_str (pa_cons pe_str (pa_cons pe_str (pa_cons pe_str (pa_cons pe_str (pa_cons pe_str (pa_cons pe_str (pa_cons pe_str pa_nil)))))))))))))))))))
      (pss_one (ps_ret (pe_cmpR (uEq hr.units) (pe_lc (own := [("_law_text", 11)]) (g := gName 11) (by rfl) sc_law.nd (pi_list (pv 10)) (blkOk_by (own := [("_law_text", 11)]) (N := ["_law_script", "_law_pen_here", "_law_turn", "_law_kind_here", "_law_least", "_law_made", "_law_told", "_law_lap", "_law_bent_here", "_law_odd", "_law_fixed", "_law_text"]) (sc := defScope s_law) (by decide +kernel)) (fun _ _ _ _ _ => pg_name (i := 11) sc_law.nd rfl (.inr rfl)) (fun _ _ _ _ _ => pts_one (pt_cmpR (op_or2 (op_neB (ncB_list monB_rd (eqB_rd T.q_Rounding_eq G_req)) (hr.mono (by decide))) (op_neB (ncB_tu monB_flat eqB_flat) (hr.mono (by decide)))) (pe_lamG (k := 9) (t := _) (T := [(d.cp_law, lamQ)]) (TT := TTr d) ng rfl T.m__law_heard T.k__law_heard lkH cgH hbH sc__law_heard rfl (Or.inl rfl) (heardR T) TB rfl (List.mem_cons_self ..) (fun p hp _ => by rw [List.mem_singleton.mp hp]; rfl) (hr.mono (by decide)) (lamS_comp (sc := defScope s_law) rfl (by decide +kernel)) rfl (fun _ _ _ _ _ => rfl) (fun A outer s H E f c' ng hr => (pe_cmethG (pe_glob (v := .ref _) rfl T.m_Rounding rfl) T.km_Rounding_read GX_Rounding_read ng (hr.mono (by decide)) (on (takes_of rfl rfl rfl rfl)) (pa_cons (pv 11) pa_nil)))) (pe_fnR G__law_due (hr.mono (by decide)) T.k__law_due T.m__law_due pass0 (pa_cons (pv 11) pa_nil)) (nomark _))) (fun _ _ _ _ _ => (pv 11))) (pe_lst pa_nil) (nomark _))))))), ?_⟩
    have tabs : LamX.Tabs [(d.cp_law, lamQ)] H := fun q hq => by
      rw [List.mem_singleton.mp hq]
      exact ⟨#[], htab _ (List.mem_singleton.mpr rfl), trivial, fun _ _ hc => nomatch hc⟩
    refine ⟨_, rfl, ⟨a, ns, rfl, hS, hlen, fun p H1 np e1 hp => ?_⟩⟩
    have tabs := LamX.Tabs.ext tabs e1
    clear htab hS np e1
    try dsimp only [tNext, gName]
    refine ⟨8, rfl, by decide, by decide, for_range (n := 8) (fun i σ H' => ∃ z2 z3 z4 z5 z6 z7 z8 z9, σ = [some (.ref a), some (.ref p), z2, z3, z4, z5, z6, z7, z8, z9, none, none] ∧ PenAt H' p (40 * i) ∧ LamX.Tabs [(d.cp_law, lamQ)] H') ⟨_, _, _, _, _, _, _, _, rfl, hp, tabs⟩ (fun i σ H' hi h => ?_) (fun σ H' h => ?_)⟩
    · obtain ⟨z2, z3, z4, z5, z6, z7, z8, z9, rfl, hp, tabs⟩ := h
      dsimp only [gName, List.set]
      refine ⟨_, rfl, ⟨_, rfl, ⟨p, 40 * i, rfl, hp, by omega, fun v0 ka c H2 ev hka hc p2 u2 => ?_⟩⟩⟩
      subst ev
      obtain ⟨x0, y0, f0, rfl, k0⟩ := kind_ok c hc
      have sm0 := kind_sm _ hc _ _ _ rfl
      clear hc
      refine ⟨_, rfl, p, 40 * i + 1, 40, rfl, p2, by omega, by decide, by decide, fun d1 H3 a0 a1 p3 u3 => Or.inl (Or.inl ⟨_, _, rfl, rfl, ?_⟩)⟩
      refine ⟨_, rfl, p, 40 * i + 1 + 1, 9, rfl, p3, by omega, by decide, by decide, fun d2 H4 b0 b1 p4 u4 => Or.inl (Or.inl ⟨_, _, rfl, rfl, ?_⟩)⟩
      refine ⟨_, rfl, p, 40 * i + 1 + 1 + 1, 2, rfl, p4, by omega, by decide, by decide, fun d3 H5 c0 c1 p5 u5 => Or.inl ⟨rfl, ?_⟩⟩
      refine ⟨(by show 3 ≤ sizeLine; decide), fun tk htk => ⟨(by show 2 ≤ sizeLine; decide), fun lk hlk => ?_⟩⟩
      have s5 := (sameNew (o := HO.tup [.int (1 + d1), .int (41 + d2), V.bl (decide (V.int d3 = V.int 0))]) htk).trans (sameNew (o := HO.lst [.ref ka, .ref tk]) hlk)
      obtain ⟨o, hpo⟩ := (p5.up (sameNew (o := HO.tup [.int (1 + d1), .int (41 + d2), V.bl (decide (V.int d3 = V.int 0))]) htk)).some
      refine ⟨p, lk, 40 * i + 4, [.ref ka, .ref tk], rfl, p5.up s5, by omega, Or.inl ⟨upd_same, (ne_of_none hpo hlk).symm⟩, (by show 0 < 2; decide), (by show 2 ≤ 1000; decide), fun v H6 hv p6 u6 => ?_⟩
      have u26 := ((u3.trans u4).trans u5).trans ((Up.same s5).trans u6)
      obtain ⟨kk, x, y, fr, rfl, smx, hka⟩ : ∃ kk x y fr, v = .ref kk ∧ x.natAbs < 2 ^ 100 ∧ KindAt H6 kk x y fr := by
        rcases List.mem_cons.mp hv with rfl | hv
        · exact ⟨ka, x0, y0, f0, rfl, sm0, u26.tup hka, k0⟩
        · rw [List.mem_singleton.mp hv]
          exact ⟨tk, _, _, _, rfl, Nat.lt_of_lt_of_le (show (1 + d1).natAbs < 100 by omega) (by decide), u6.tup (sameNew hlk _ _ upd_same), kind2_ok _ a0 a1 b0 b1⟩
      have tabs := Tabs.up tabs ((u2.trans u26))
      clear u26 u6 u5 u4 u3 u2 s5 hpo hv htk hlk p5 p4 p3 p2 hp a0 a1 b0 b1 c0 c1
      dsimp only [gName, List.set]
      obtain ⟨hka, kok⟩ := hka
      have ixk : ∀ {H' : Hp} {j : Nat} {u : V} {W : VK}, Same H6 H' → [V.int x, .int y, .bl fr][j]? = some u → W u H' → rIx K (.ref kk) (.int (j : Int)) H' W := fun {H' j u W} e hj q =>
        Or.inr (Or.inl ⟨kk, _, _, _, rfl, rfl, Or.inl (Or.inl (e _ _ hka)), atI_nat hj, q⟩)
      refine ⟨_, rfl, ixk (j := 0) (Same.refl _) rfl ⟨_, rfl, ixk (j := 1) (Same.refl _) rfl ⟨x, y, rfl, kok.ne, ?_, Nat.lt_of_lt_of_le kok.small (Nat.pow_le_pow_right (by decide) (by decide)), fun lq H7 e7 hlq => ?_⟩⟩⟩
      · exact Nat.lt_of_lt_of_le smx (Nat.pow_le_pow_right (by decide) (by decide))
      have ixk : ∀ {H' : Hp} {j : Nat} {u : V} {W : VK}, Same H7 H' → [V.int x, .int y, .bl fr][j]? = some u → W u H' → rIx K (.ref kk) (.int (j : Int)) H' W := fun {H' j u W} e => ixk (e7.trans e)
      dsimp only [gName, List.set]
      refine ⟨_, rfl, ⟨kk, x, y, fr, rfl, ⟨e7 _ _ hka, kok⟩, fun r H8 e8 hr8 => ?_⟩⟩
      have p8 := (p6.up e7).up e8
      have tabs := (LamX.Tabs.ext (LamX.Tabs.ext tabs e7) e8)
      have hlq := e8 _ _ hlq
      have hka := e8 _ _ (e7 _ _ hka)
      clear ixk
      have ixk : ∀ {j : Nat} {u : V} {W : VK}, [V.int x, .int y, .bl fr][j]? = some u → W u H8 → rIx K (.ref kk) (.int (j : Int)) H8 W := fun {j u W} hj q =>
        Or.inr (Or.inl ⟨kk, _, _, _, rfl, rfl, Or.inl (Or.inl hka), atI_nat hj, q⟩)
      have ixq : ∀ {j : Nat} {u : V} {W : VK}, [V.int (Rat.divInt x y).num, .int ((Rat.divInt x y).den : Int)][j]? = some u → W u H8 → rIx K (.ref lq) (.int (j : Int)) H8 W := fun {j u W} hj q =>
        Or.inr (Or.inl ⟨lq, _, _, _, rfl, rfl, Or.inl (Or.inl hlq), atI_nat hj, q⟩)
      clear e7 e8 p6
      have sz := kok.sz
      have rok := kok.rnd
      clear kok
      generalize Rat.divInt x y = q at hlq ixq sz rok hr8
      dsimp only [gName, List.set]
      refine seq_join (I := fun σ' H' => σ' = [some (.ref a), some (.ref p), some (.int (0 + ↑i)), some (.ref kk), some (.ref lq), some (.ref r), some (.str (rndS q fr)), z7, z8, z9, none, none] ∧ H' = H8) (fun N hN => ?_) ?_
      · have zn : q.num.natAbs.log2 < 1920 := Nat.lt_of_lt_of_le (PySem.Flt.log2_lt_of (by decide) sz.1) (by decide)
        have zd : (q.den : Int).natAbs.log2 < 1920 := Nat.lt_of_lt_of_le (PySem.Flt.log2_lt_of (by decide) (szD sz)) (by decide)
        have tl := told_len sz fr
        have fin : ∀ y : Str, y = rndS q fr → N [some (.ref a), some (.ref p), some (.int (0 + ↑i)), some (.ref kk), some (.ref lq), some (.ref r), some (.str y), z7, z8, z9, none, none] H8 := fun y e => hN _ _ ⟨by rw [e], rfl⟩
        clear hN
        unfold rndS at tl fin
        have fin2 : ∀ pre : Str, pre = (if fr then ("from " : Str) else "above ") → ∀ y : Str, y = ratS q → pre.length + y.length ≤ sizeLine ∧ N [some (.ref a), some (.ref p), some (.int (0 + ↑i)), some (.ref kk), some (.ref lq), some (.ref r), some (.str (pre ++ y)), z7, z8, z9, none, none] H8 := fun pre e1 y e2 => by
          subst e1 e2
          rw [slen] at tl
          exact ⟨Nat.le_trans tl (by decide), fin _ rfl⟩
        clear fin tl
        refine ⟨_, rfl, ixk (j := 2) rfl ⟨_, rfl, ?_⟩⟩
        have ln := PyProof.Rows.int_text_len_1921 zn
        have ld := PyProof.Rows.int_text_len_1921 zd
        have l1 : (Str.ofString "/").length = 1 := rfl
        cases fr
        all_goals
          first | refine iteT ?_ | refine iteF ?_
          refine ⟨_, rfl, ixq (j := 1) rfl (Or.inl ⟨rfl, _, rfl, ?_⟩)⟩
          by_cases hd : (q.den : Int) = 1
          · rw [hd, decide_eq_true rfl]
            obtain ⟨z, f⟩ := fin2 _ rfl _ (if_pos hd).symm
            exact iteT ⟨_, rfl, ixq (j := 0) rfl (Or.inl ⟨_, rfl, zn, Or.inr ⟨_, _, rfl, rfl, z, f⟩⟩)⟩
          · rw [decide_eq_false (fun z => hd (V.int.inj z))]
            obtain ⟨z, f⟩ := fin2 _ rfl _ (if_neg hd).symm
            refine iteF ⟨_, rfl, ixq (j := 0) rfl (Or.inl ⟨_, rfl, zn, Or.inr ⟨_, _, rfl, rfl, Nat.le_trans (Nat.add_le_add ln (Nat.le_of_eq l1)) (by decide), ?_⟩⟩)⟩
            refine ⟨_, rfl, ixq (j := 1) rfl (Or.inl ⟨_, rfl, zd, Or.inr ⟨_, _, rfl, rfl, ?_, Or.inr ⟨_, _, rfl, rfl, z, f⟩⟩⟩)⟩
            rw [slen]
            exact Nat.le_trans (Nat.add_le_add (Nat.add_le_add ln (Nat.le_of_eq l1)) ld) (by decide)
      rintro σ' H' ⟨rfl, rfl⟩
      clear ixq ixk hlq hka
      have due := told_due rok
      have tsg := told_sg q fr
      have tlen := told_len sz fr
      have tl2 : (rndS q fr).length ≤ 200 := Nat.le_trans tlen (by decide)
      obtain ⟨_, dr, br, hr0, hbr⟩ := id hr8
      refine sifI (fun H9 => Same H' H9) (fun N hN => ?_) (fun H9 e9 => ?_)
      · refine ⟨_, rfl, Or.inr ⟨_, rfl, r, _, dr, _, _, CX0, 5, _, E0, rfl, hr0, T.t_Rounding, G_Rounding___str__, hr.mono (by decide), pass0, ⟨r, _, _, rfl, hr8, ?_⟩⟩⟩
        refine ⟨_, rfl, _, rfl, Or.inl ⟨rfl, false, by simp, iteF ?_⟩⟩
        refine ⟨rfl, _, rfl, Or.inl ⟨_, _, rfl, tl2, Or.inl ⟨q, fr, due, fun r2 Ha ea hr2 => ?_⟩⟩⟩
        refine ⟨_, rfl, Or.inr (Or.inl (rnd_ne T.z_Rounding G_req (hr.mono (by decide)) hr2 (hr8.same ea) fun Hb eb => ⟨false, by simp, iteF ?_⟩))⟩
        refine ⟨_, rfl, ⟨_, rfl, tl2, tsg, fun v Hc ec hd => ?_⟩⟩
        rw [due] at hd
        have e3 := (ea.trans eb).trans ec
        refine ⟨_, rfl, (by show 1 ≤ sizeLine; decide), fun l hl => Or.inr (Or.inr (due_eq (r := .inl (q, fr)) (hd.same (sameNew hl)) ⟨l, r, rfl, upd_same, (hr8.same e3).same (sameNew hl)⟩ fun Hd ed => ⟨false, rfl, ?_⟩))⟩
        exact hN _ ((e3.trans (sameNew hl)).trans ed)
      have p9 := p8.up e9
      have tabs := LamX.Tabs.ext tabs e9
      have hr9 := hr8.same e9
      clear e9 p8 hr0 hbr hr8
      refine ⟨4, rfl, by decide, by decide, for_range (n := 4) (fun j σ H' => ∃ z7 z8, σ = [some (.ref a), some (.ref p), some (.int (0 + ↑i)), some (.ref kk), some (.ref lq), some (.ref r), some (.str (rndS q fr)), z7, z8, z9, none, none] ∧ PenAt H' p (40 * i + 5 + 4 * j) ∧ LamX.Tabs [(d.cp_law, lamQ)] H' ∧ IsRnd d.Ratio d.Rounding H' r q fr) ⟨_, _, rfl, p9, tabs, hr9⟩ (fun j σ H2 hj h => ?_) (fun σ H2 h => ?_)⟩
      · obtain ⟨z7, z8, rfl, hp, tabs, hR⟩ := h
        dsimp only [gName, List.set]
        refine ⟨_, rfl, _, rfl, ⟨p, 40 * i + 5 + 4 * j, _, rfl, hp, by omega, tlen, tsg, fun y H3 ly sy p3 u3 => ?_⟩⟩
        dsimp only [gName, List.set]
        refine sifJ (fun H4 => LamX.ExtN H3 H4 ∧ LamX.Tabs [(d.cp_law, lamQ)] H4) (fun N hN => ?_) (fun H4 ⟨e4, t4⟩ => ?_)
        · refine hear_txt (i := 8) rfl ly (Tabs.up tabs u3) fun v Ha ea ta hv => ?_
          refine ⟨_, rfl, ⟨y, rfl, ly, sy, fun v2 Hb eb hv2 => Or.inr (Or.inr (due_eq (hv.same eb) hv2 fun Hc ec => ⟨false, rfl, hN _ ⟨?_, ?_⟩⟩))⟩⟩
          · exact LamX.ExtN.trans ea (ExtN.same (eb.trans ec))
          · exact LamX.Tabs.ext ta (eb.trans ec)
        · exact ⟨_, _, rfl, (p3.ext e4).mono (by omega), t4, (hR.up u3).ext e4⟩
      obtain ⟨z7, z8, rfl, hp, tabs, hR⟩ := h
      dsimp only [gName, List.set]
      refine ⟨_, rfl, ⟨_, rfl, ⟨(by show 1 ≤ sizeLine; decide), fun tt htt => ⟨(by show 2 ≤ sizeLine; decide), fun ll hll => fun dd hdd => ⟨(by show 8 ≤ sizeLine; decide), fun L hL => ?_⟩⟩⟩⟩⟩
      have sa := sameNew (o := HO.tup [V.str (Str.ofString "from 1")]) htt
      have sb := sameNew (o := HO.lst [V.str (Str.ofString "from"), V.str (Str.ofString "1")]) hll
      have sc := sameNew (o := HO.dK []) hdd
      have s3 := (sa.trans sb).trans sc
      have sL := sameNew (o := HO.lst [V.non, .int 0, .bl true, .ref r, .ref tt, .ref ll, .ref dd, .int 1]) hL
      obtain ⟨o1, hpo1⟩ := (hp.up sa).some
      obtain ⟨o2, hpo2⟩ := (hp.up s3).some
      have nlp := (ne_of_none hpo1 hll).symm
      refine ⟨p, L, 40 * i + 5 + 4 * 4, [V.non, .int 0, .bl true, .ref r, .ref tt, .ref ll, .ref dd, .int 1], rfl, hp.up (s3.trans sL), by omega, Or.inl ⟨upd_same, (ne_of_none hpo2 hL).symm⟩, (by show 0 < 8; decide), (by show 8 ≤ 1000; decide), fun y H5 hy p5 u5 => ?_⟩
      have b1 : H5 tt = some (.tup [V.str (Str.ofString "from 1")]) := u5.tup (sL _ _ (sc _ _ (sb _ _ upd_same)))
      have b2 : H5 ll = some (.lst [V.str (Str.ofString "from"), V.str (Str.ofString "1")]) := u5.lst (sL _ _ (sc _ _ upd_same)) nlp
      have b3 : H5 dd = some (.dK []) := u5 _ _ (sL _ _ upd_same) fun _ => rfl
      have hR5 := (hR.same (s3.trans sL)).up u5
      have tabs := Tabs.up (LamX.Tabs.ext tabs (s3.trans sL)) u5
      dsimp only [gName, List.set]
      refine sifJ (fun H6 => LamX.ExtN H5 H6 ∧ LamX.Tabs [(d.cp_law, lamQ)] H6) (fun N hN => ?_) (fun H6 ⟨e6, t6⟩ => ?_)
      · refine hear_odd (i := 9) rfl (fun H' e => odd_no T hy (e _ _ b1 fun _ z => nomatch z) (e _ _ b2 fun _ z => nomatch z) (e _ _ b3 fun _ z => nomatch z) (hR5.ext e)) tabs fun v Ha ea ta hv => ?_
        refine ⟨(by show 2 ≤ sizeLine; decide), fun tz htz => Or.inr (Or.inr (due_eq (hv.same (sameNew htz)) ⟨tz, rfl, upd_same⟩ fun Hc ec => ⟨false, rfl, hN _ ⟨?_, ?_⟩⟩))⟩
        · exact LamX.ExtN.trans ea (ExtN.same ((sameNew htz).trans ec))
        · exact LamX.Tabs.ext ta ((sameNew htz).trans ec)
      · exact ⟨_, _, _, _, _, _, _, _, rfl, (p5.ext e6).mono (by omega), t6⟩
    obtain ⟨z2, z3, z4, z5, z6, z7, z8, z9, rfl, hp, tabs⟩ := h
    dsimp only [gName, List.set]
    refine seq_join (I := fun σ' H2 => ∃ lf, σ' = [some (.ref a), some (.ref p), z2, z3, z4, z5, z6, z7, z8, z9, some (.ref lf), none] ∧ H2 lf = some (.lst (fixT.map V.str)) ∧ LamX.Tabs [(d.cp_law, lamQ)] H2)
      (fun N hN => ⟨(by show 17 ≤ sizeLine; decide), fun lf hlf => hN _ _ ⟨lf, rfl, upd_same, LamX.Tabs.ext tabs (sameNew hlf)⟩⟩) ?_
    rintro _ H2 ⟨lf, rfl, l1, tabs⟩
    clear hp
    refine ⟨_, rfl, lf, rfl, ⟨_, SqL.of l1⟩, fun L hL => ?_⟩
    refine lc_list (xs := fixT.map V.str) (fun i H3 => LamX.ExtN H2 H3 ∧ LamX.Tabs [(d.cp_law, lamQ)] H3 ∧ H3 L = some (.lst [])) ⟨ExtN.same (sameNew hL), LamX.Tabs.ext tabs (sameNew hL), upd_same⟩ ?_ ?_ ?_
    · rintro i H3 hi ⟨e3, _⟩
      exact SqL.of (e3 _ _ l1 fun _ z => nomatch z)
    · rintro i v H3 hv ⟨e3, t3, h3⟩
      rw [List.getElem?_map] at hv
      obtain ⟨x, hx, rfl⟩ : ∃ x, fixT[i]? = some x ∧ v = .str x := by
        cases e : fixT[i]? with
        | none => rw [e] at hv; cases hv
        | some x => rw [e] at hv; injection hv with hv; exact ⟨x, rfl, hv.symm⟩
      obtain ⟨lx, sx⟩ := fixT_ok x (List.mem_of_getElem? hx)
      refine ⟨rfl, ?_⟩
      refine hear_txt (i := 11) rfl lx t3 fun v Ha ea ta hv => ?_
      refine ⟨_, rfl, ⟨x, rfl, lx, sx, fun v2 Hb eb hv2 => due_eq (hv.same eb) hv2 fun Hc ec => ⟨false, rfl, iteF ⟨?_, ?_, ?_⟩⟩⟩⟩
      · exact LamX.ExtN.trans e3 (LamX.ExtN.trans ea (ExtN.same (eb.trans ec)))
      · exact LamX.Tabs.ext ta (eb.trans ec)
      · exact ec _ _ (eb _ _ (ea _ _ h3 fun _ z => nomatch z))
    · rintro H3 ⟨e3, t3, h3⟩
      refine ⟨(by show 0 ≤ sizeLine; exact Nat.zero_le _), fun r hr => Or.inr (Or.inr ⟨.list [], .list [], Dp.lst (SqL.of (sameNew hr _ _ h3)) .nil, Dp.lst (SqL.of upd_same) .nil, by decide, by decide, ?_⟩)⟩
      exact k _
theorem law_end {q : Program} {fa : Addr} {h : Heap} (hq : ((PyProof.Rows.recsOf q).any fun e => e.name == "law") = true) (hfa : mg "law" = some (.ref fa)) (T : Tx K mg d) :
    ∃ cs : List (Addr × Addr), (∀ p ∈ cs, ∃ (x : Str) (f : Addr), ((PyProof.Rows.recsOf q).any fun e => e.name == x) = true ∧ mg x = some (.ref f) ∧ TabK K f p.1 p.2) ∧
      ∀ base : Heap, K.In base → base.Ns mainGlobals mg → (∀ p ∈ cs, LamX.TabB base mg p.1 p.2) → FnG P w K mg base CX0 levelLaw fa (spLaw K cs) := by
  have e := hfa.symm.trans T.m_law
  cases e
  exact ⟨[(d.cc_law, d.cp_law)], fun p hp => by rw [List.mem_singleton.mp hp]; exact ⟨_, _, hq, T.m_law, T.tab_law⟩, fun base _ _ tb => G_law T (tb _ (List.mem_singleton.mpr rfl))⟩
end

end AZ
theorem PySem.Challenge.cw_allzooms_k10_texts_of_roundings_holds : PySem.Challenge.rw_allzooms_k10_texts_of_roundings.Holds :=
  AZ.pre fun {_ _ _ _ _ _} hd hn hY hq0 fs => AZ.walk (l := PySem.Challenge.rw_allzooms_k10_texts_of_roundings) rfl hd hY fun w mg _ h KX G hmg => fs w mg h KX G _ fun L__law_pen L__law_draw L__law_pick L_Ratio L_is_integer L_is_number L_fraction_of L_Rounding L__law_frac L__law_kind L__law_rounding L_SnapError L_BadText L_split_words L_whole_number L_told_number L_told_rounding L__law_is_integer L__law_threshold L__law_less L__law_due L__law_bent L__law_heard L_law L_Ratio___init__ L_Ratio___add__ L_Ratio___sub__ L_Ratio___mul__ L_Ratio___lt__ L_Ratio___le__ L_Ratio___gt__ L_Ratio___ge__ L_Ratio___eq__ L_Ratio_floor L_Ratio_ceiling L_Rounding_drawn_at L_Ratio___rsub__ L_Rounding___call__ L_Rounding_behind L_Rounding___init__ L_Ratio___neg__ L_Rounding___eq__ L_Rounding___invert__ L_Ratio___str__ L_Rounding___str__ L_BadText___init__ s_Ratio_of_r km_Rounding_read_r s_Ratio_of_a km_Rounding_read_a s_Ratio_of_q km_Rounding_read_q F__law_pen_l F__law_draw_l F__law_pick_l F_is_integer_l D_Ratio___init___l F_Ratio_of_l F_Ratio___add___l F_Ratio___sub___l F_Ratio___mul___l F_Ratio___lt___l F_Ratio___le___l F_Ratio___gt___l F_Ratio___ge___l F_Ratio___eq___l F_Ratio_floor_l F_Ratio_ceiling_l F_is_number_l F_fraction_of_l F_Rounding_drawn_at_l F_Rounding___call___l F_Rounding_behind_l D_Rounding___init___l F_Ratio___neg___l F_Ratio___rsub___l F_Rounding___eq___l F_Rounding___invert___l F_Ratio___str___l F_Rounding___str___l F__law_frac_l F__law_kind_l F__law_rounding_l F_BadText___init___l F_split_words_l F_whole_number_l F_told_number_l F_told_rounding_l F_Rounding_read_l F__law_is_integer_l F__law_threshold_l F__law_less_l F__law_due_l F__law_bent_l F__law_heard_l F_law_l F__law_pen_c F__law_pen_k n_list_a F__law_draw_c F__law_draw_k n_int_a n_len_a n_abs_a F__law_pick_c F__law_pick_k y_Ratio_a y_Ratio_n y_Ratio_t y_Ratio_m c_Ratio_p c_Ratio_h c_Ratio_o c_Ratio_s i_Ratio_is_int_a i_Ratio_is_bool_a F_is_integer_c F_is_integer_k n_isinstance_a n_bool_a D_Ratio___init___c D_Ratio___init___k D_Ratio___init___t m_gcd_a a_Ratio_over_a a_Ratio_under_a F_Ratio_of_c F_Ratio_of_k mk_Ratio_m mk_Ratio_f mk_Ratio_k i_int_is_Ratio_c i_int_is_Ratio_t i_int_is_Ratio_a F_Ratio___add___c F_Ratio___add___k s_Ratio_of_g F_Ratio___sub___c F_Ratio___sub___k F_Ratio___mul___c F_Ratio___mul___k F_Ratio___lt___c F_Ratio___lt___k F_Ratio___le___c F_Ratio___le___k F_Ratio___gt___c F_Ratio___gt___k F_Ratio___ge___c F_Ratio___ge___k F_Ratio___eq___c F_Ratio___eq___k F_Ratio_floor_c F_Ratio_floor_k F_Ratio_ceiling_c F_Ratio_ceiling_k F_is_number_c F_is_number_k F_fraction_of_c F_fraction_of_k F_Rounding_drawn_at_c F_Rounding_drawn_at_k h_Ratio_floor_f h_Ratio_ceiling_f c_Rounding_p c_Rounding_h c_Rounding_o c_Rounding_s a_Rounding_threshold_a b_Ratio_sub_f b_Ratio_sub_c b_Ratio_sub_t b_Ratio_sub_u a_Rounding_is_from_a F_Rounding___call___c F_Rounding___call___k h_Rounding_drawn_at_f F_Rounding_behind_c F_Rounding_behind_k D_Rounding___init___c D_Rounding___init___k D_Rounding___init___t q_Ratio_lt_f q_Ratio_lt_n q_Ratio_gt_f q_Ratio_eq_f F_Ratio___neg___c F_Ratio___neg___k F_Ratio___rsub___c F_Ratio___rsub___k F_Rounding___eq___c F_Rounding___eq___k y_Rounding_a y_Rounding_m F_Rounding___invert___c F_Rounding___invert___k mk_Rounding_m mk_Rounding_f mk_Rounding_k v_Ratio_sub_f F_Ratio___str___c F_Ratio___str___k n_str_a F_Rounding___str___c F_Rounding___str___k t_Ratio_f t_Ratio_g F__law_frac_c F__law_frac_k F__law_kind_c F__law_kind_k F__law_rounding_c F__law_rounding_k F_BadText___init___c F_BadText___init___k vi_SnapError_r vi_SnapError_g vi_SnapError_v ex_BadText_l ex_BadText_s ex_BadText_g ex_BadText_h ex_BadText_c ex_BadText_f ex_BadText_k a_BadText_line_a a_BadText_word_a F_split_words_c F_split_words_k F_whole_number_c F_whole_number_k mi_MOST_DIGITS_a F_told_number_c F_told_number_k F_told_rounding_c F_told_rounding_k F_Rounding_read_c F_Rounding_read_k F__law_is_integer_c F__law_is_integer_k F__law_threshold_c F__law_threshold_k F__law_less_c F__law_less_k F__law_due_c F__law_due_k F__law_bent_c F__law_bent_k F__law_heard_c F__law_heard_k sx_SnapError_l i_Rounding_is_str_a tab_law_l tab_law_c tab_law_v tab_law_o tab_law_h q_Rounding_eq_f q_Rounding_eq_n F_law_c F_law_k n_range_a km_Rounding_read_g km_Rounding_read_f t_Rounding_f t_Rounding_g z_Rounding_e => AZ.law_end (h := h) hq0 (hn ▸ hmg) (AZ.tx_mk KX G L__law_pen L__law_draw L__law_pick L_Ratio L_is_integer L_is_number L_fraction_of L_Rounding L__law_frac L__law_kind L__law_rounding L_SnapError L_BadText L_split_words L_whole_number L_told_number L_told_rounding L__law_is_integer L__law_threshold L__law_less L__law_due L__law_bent L__law_heard L_law L_Ratio___init__ L_Ratio___add__ L_Ratio___sub__ L_Ratio___mul__ L_Ratio___lt__ L_Ratio___le__ L_Ratio___gt__ L_Ratio___ge__ L_Ratio___eq__ L_Ratio_floor L_Ratio_ceiling L_Rounding_drawn_at L_Ratio___rsub__ L_Rounding___call__ L_Rounding_behind L_Rounding___init__ L_Ratio___neg__ L_Rounding___eq__ L_Rounding___invert__ L_Ratio___str__ L_Rounding___str__ L_BadText___init__ s_Ratio_of_r km_Rounding_read_r s_Ratio_of_a km_Rounding_read_a s_Ratio_of_q km_Rounding_read_q F__law_pen_l F__law_draw_l F__law_pick_l F_is_integer_l D_Ratio___init___l F_Ratio_of_l F_Ratio___add___l F_Ratio___sub___l F_Ratio___mul___l F_Ratio___lt___l F_Ratio___le___l F_Ratio___gt___l F_Ratio___ge___l F_Ratio___eq___l F_Ratio_floor_l F_Ratio_ceiling_l F_is_number_l F_fraction_of_l F_Rounding_drawn_at_l F_Rounding___call___l F_Rounding_behind_l D_Rounding___init___l F_Ratio___neg___l F_Ratio___rsub___l F_Rounding___eq___l F_Rounding___invert___l F_Ratio___str___l F_Rounding___str___l F__law_frac_l F__law_kind_l F__law_rounding_l F_BadText___init___l F_split_words_l F_whole_number_l F_told_number_l F_told_rounding_l F_Rounding_read_l F__law_is_integer_l F__law_threshold_l F__law_less_l F__law_due_l F__law_bent_l F__law_heard_l F_law_l F__law_pen_c F__law_pen_k n_list_a F__law_draw_c F__law_draw_k n_int_a n_len_a n_abs_a F__law_pick_c F__law_pick_k y_Ratio_a y_Ratio_n y_Ratio_t y_Ratio_m c_Ratio_p c_Ratio_h c_Ratio_o c_Ratio_s i_Ratio_is_int_a i_Ratio_is_bool_a F_is_integer_c F_is_integer_k n_isinstance_a n_bool_a D_Ratio___init___c D_Ratio___init___k D_Ratio___init___t m_gcd_a a_Ratio_over_a a_Ratio_under_a F_Ratio_of_c F_Ratio_of_k mk_Ratio_m mk_Ratio_f mk_Ratio_k i_int_is_Ratio_c i_int_is_Ratio_t i_int_is_Ratio_a F_Ratio___add___c F_Ratio___add___k s_Ratio_of_g F_Ratio___sub___c F_Ratio___sub___k F_Ratio___mul___c F_Ratio___mul___k F_Ratio___lt___c F_Ratio___lt___k F_Ratio___le___c F_Ratio___le___k F_Ratio___gt___c F_Ratio___gt___k F_Ratio___ge___c F_Ratio___ge___k F_Ratio___eq___c F_Ratio___eq___k F_Ratio_floor_c F_Ratio_floor_k F_Ratio_ceiling_c F_Ratio_ceiling_k F_is_number_c F_is_number_k F_fraction_of_c F_fraction_of_k F_Rounding_drawn_at_c F_Rounding_drawn_at_k h_Ratio_floor_f h_Ratio_ceiling_f c_Rounding_p c_Rounding_h c_Rounding_o c_Rounding_s a_Rounding_threshold_a b_Ratio_sub_f b_Ratio_sub_c b_Ratio_sub_t b_Ratio_sub_u a_Rounding_is_from_a F_Rounding___call___c F_Rounding___call___k h_Rounding_drawn_at_f F_Rounding_behind_c F_Rounding_behind_k D_Rounding___init___c D_Rounding___init___k D_Rounding___init___t q_Ratio_lt_f q_Ratio_lt_n q_Ratio_gt_f q_Ratio_eq_f F_Ratio___neg___c F_Ratio___neg___k F_Ratio___rsub___c F_Ratio___rsub___k F_Rounding___eq___c F_Rounding___eq___k y_Rounding_a y_Rounding_m F_Rounding___invert___c F_Rounding___invert___k mk_Rounding_m mk_Rounding_f mk_Rounding_k v_Ratio_sub_f F_Ratio___str___c F_Ratio___str___k n_str_a F_Rounding___str___c F_Rounding___str___k t_Ratio_f t_Ratio_g F__law_frac_c F__law_frac_k F__law_kind_c F__law_kind_k F__law_rounding_c F__law_rounding_k F_BadText___init___c F_BadText___init___k vi_SnapError_r vi_SnapError_g vi_SnapError_v ex_BadText_l ex_BadText_s ex_BadText_g ex_BadText_h ex_BadText_c ex_BadText_f ex_BadText_k a_BadText_line_a a_BadText_word_a F_split_words_c F_split_words_k F_whole_number_c F_whole_number_k mi_MOST_DIGITS_a F_told_number_c F_told_number_k F_told_rounding_c F_told_rounding_k F_Rounding_read_c F_Rounding_read_k F__law_is_integer_c F__law_is_integer_k F__law_threshold_c F__law_threshold_k F__law_less_c F__law_less_k F__law_due_c F__law_due_k F__law_bent_c F__law_bent_k F__law_heard_c F__law_heard_k sx_SnapError_l i_Rounding_is_str_a tab_law_l tab_law_c tab_law_v tab_law_o tab_law_h q_Rounding_eq_f q_Rounding_eq_n F_law_c F_law_k n_range_a km_Rounding_read_g km_Rounding_read_f t_Rounding_f t_Rounding_g z_Rounding_e)
