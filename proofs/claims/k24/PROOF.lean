import PyProof.Rows.All
import Wide.All
import OpenK.AllK
import Wide.FinOn
import HandS.ForExc
import HandS.Comp
import HandS.More
import HandS.Star
import HandS.Gcd
import HandS.Defaults
import HandS.IsInst
import HandS.Wide
import HandS.ClsMeth
import HandS.Flow
import HandS.Style
import HandS.SortInts
import HandS.OwnEq
import HandS.FStr
import PyProof.Rows.ReprR
import HandS.MakeKw
import HandS.ExcInit
import HandS.ExcIs
import HandS.ExcField
import HandS.Dict
import PyProof.ReprRoads
import KE.KExcIs
import HandS.Lambda
import HandS.WordsExc
import HandS.HeadWalk
import KE.KCallOwn
import OpenK.KMeth
import KE.OsRunLaw
import PySem.Challenge.RW_allzooms_k24_zooms_between_and_beyond

set_option Elab.async false
set_option maxRecDepth 100000
set_option maxHeartbeats 4000000
set_option linter.all false
namespace AZ
open PySem L2
def top (i : Nat) : Stmt := PySem.Challenge.pw_allzooms_k24_zooms_between_and_beyond.main.body.getD i (.Pass ⟨0, 0, 0, 0⟩)
abbrev s__law_pen : Stmt := top 42
abbrev s__law_draw : Stmt := top 43
abbrev s__law_pick : Stmt := top 44
abbrev s_is_integer : Stmt := top 14
abbrev s_Ratio___init__ : Stmt := inClass (top 19) 0
abbrev s_Ratio_of : Stmt := inClass (top 19) 1
abbrev s_Ratio___add__ : Stmt := inClass (top 19) 6
abbrev s_Ratio___sub__ : Stmt := inClass (top 19) 8
abbrev s_Ratio___mul__ : Stmt := inClass (top 19) 10
abbrev s_Ratio___lt__ : Stmt := inClass (top 19) 18
abbrev s_Ratio___le__ : Stmt := inClass (top 19) 19
abbrev s_Ratio___gt__ : Stmt := inClass (top 19) 20
abbrev s_Ratio___ge__ : Stmt := inClass (top 19) 21
abbrev s_Ratio___eq__ : Stmt := inClass (top 19) 22
abbrev s_Ratio_floor : Stmt := inClass (top 19) 25
abbrev s_Ratio_ceiling : Stmt := inClass (top 19) 26
abbrev s_Ratio___str__ : Stmt := inClass (top 19) 24
abbrev s_Ratio___bool__ : Stmt := inClass (top 19) 23
abbrev s_BadRatio___init__ : Stmt := inClass (top 4) 0
abbrev s_all_numbers : Stmt := top 17
abbrev s_bound_of : Stmt := top 18
abbrev s_Ratio_highest : Stmt := inClass (top 19) 2
abbrev s_Ratio_lowest : Stmt := inClass (top 19) 3
abbrev s_is_number : Stmt := top 15
abbrev s_is_zoom : Stmt := top 21
abbrev s_is_place : Stmt := top 33
abbrev s_many_upto : Stmt := top 25
abbrev s_state_ahead : Stmt := top 24
abbrev s_changing : Stmt := top 23
abbrev s_is_mark : Stmt := top 34
abbrev s_checked_marks : Stmt := top 35
abbrev s_least_turn : Stmt := top 26
abbrev s_least_begin : Stmt := top 27
abbrev s_normal_form : Stmt := top 28
abbrev s_Zooms___init__ : Stmt := inClass (top 40) 1
abbrev s_Zooms_everything : Stmt := inClass (top 40) 2
abbrev s_Zooms_nothing : Stmt := inClass (top 40) 3
abbrev s_BadZooms___init__ : Stmt := inClass (top 5) 0
abbrev s_Zooms_beyond : Stmt := inClass (top 40) 5
abbrev s_Zooms_between : Stmt := inClass (top 40) 4
abbrev s_Zooms_mark : Stmt := inClass (top 40) 7
abbrev s_Zooms_state_behind : Stmt := inClass (top 40) 9
abbrev s_Zooms___bool__ : Stmt := inClass (top 40) 18
abbrev s_Ratio_divided : Stmt := inClass (top 19) 13
abbrev s_Ratio___rsub__ : Stmt := inClass (top 19) 9
abbrev s_Zooms___contains__ : Stmt := inClass (top 40) 17
abbrev s_Zooms___eq__ : Stmt := inClass (top 40) 19
abbrev s_Zooms___invert__ : Stmt := inClass (top 40) 16
abbrev s_Zooms_joined : Stmt := inClass (top 40) 11
abbrev s_Zooms___sub__ : Stmt := inClass (top 40) 14
abbrev s_common_multiple : Stmt := top 29
abbrev s_joined_truth : Stmt := top 30
abbrev s_marks_joined : Stmt := top 31
abbrev s__law_number : Stmt := top 45
abbrev s__law_heard : Stmt := top 46
abbrev s__law_beside : Stmt := top 47
abbrev s__law_between_right : Stmt := top 48
abbrev s__law_beyond_right : Stmt := top 49
abbrev s__law_refused_right : Stmt := top 50
abbrev s_law : Stmt := top 51
abbrev s_Ratio_common : Stmt := inClass (top 19) 4
abbrev s_Zooms_marks_upto : Stmt := inClass (top 40) 8
end AZ
section
-- what the head leaves keeps its premise: it stands in the goal while the head clears what it does not need
local macro_rules
  | `(tactic| refine $f:ident $args*) => do
    let n := f.getId.eraseMacroScopes
    if n.isStr && n.getString!.startsWith "holds_open" then
      let F := Lean.mkIdent `F
      let hc := Lean.mkIdent `hc
      `(tactic| (refine' $f $args*; (case' $hc:ident => revert $F:ident)))
    else Lean.Macro.throwUnsupported
namespace AZ
open PySem L2
def Wants (K : PySem.W.Frag) (mg : Str → Option Value) : Prop := ∀ C : Prop, (∀ {A__law_pen A__law_draw A__law_pick A_Ratio A_is_integer A_Ratio___init__ A_Ratio_of A_Ratio___add__ A_Ratio___sub__ A_Ratio___mul__ A_Ratio___lt__ A_Ratio___le__ A_Ratio___gt__ A_Ratio___ge__ A_Ratio___eq__ A_Ratio_floor A_Ratio_ceiling A_Ratio___str__ A_Ratio___bool__ A_BadRatio___init__ A_SnapError A_BadRatio A_all_numbers A_bound_of A_Ratio_highest A_Ratio_lowest A_is_number A_is_zoom A_is_place A_many_upto A_state_ahead A_changing A_is_mark A_checked_marks A_least_turn A_least_begin A_Ratio___radd__ A_Ratio___rsub__ A_normal_form A_Zooms___init__ A_Zooms A_Zooms_everything A_Zooms_nothing A_BadZooms___init__ A_BadZooms A_Zooms_beyond A_Zooms_between A_Zooms_mark A_Zooms_state_behind A_Zooms___bool__ A_Ratio_divided A_Zooms___contains__ A_Zooms___eq__ A_Zooms___invert__ A_Zooms_joined A_Zooms___sub__ A_common_multiple A_joined_truth A_marks_joined A__law_number A__law_heard A__law_beside A__law_between_right A__law_beyond_right A__law_refused_right A_law A_Zooms_marks_upto A_Ratio_common A_Ratio___rmul__ A_cp_law A_cp__law_between_right A_cp__law_refused_right A_cc_law A_cc__law_between_right A_cc__law_refused_right : Addr} {cd2__law_between_right cd2__law_refused_right cd2_law cd_BadRatio___init__ cd_BadZooms___init__ cd_Ratio___add__ cd_Ratio___bool__ cd_Ratio___eq__ cd_Ratio___ge__ cd_Ratio___gt__ cd_Ratio___init__ cd_Ratio___le__ cd_Ratio___lt__ cd_Ratio___mul__ cd_Ratio___rsub__ cd_Ratio___str__ cd_Ratio___sub__ cd_Ratio_ceiling cd_Ratio_common cd_Ratio_divided cd_Ratio_floor cd_Ratio_highest cd_Ratio_lowest cd_Ratio_of cd_Zooms___bool__ cd_Zooms___contains__ cd_Zooms___eq__ cd_Zooms___init__ cd_Zooms___invert__ cd_Zooms___sub__ cd_Zooms_between cd_Zooms_beyond cd_Zooms_everything cd_Zooms_joined cd_Zooms_mark cd_Zooms_marks_upto cd_Zooms_nothing cd_Zooms_state_behind cd__law_beside cd__law_between_right cd__law_beyond_right cd__law_draw cd__law_heard cd__law_number cd__law_pen cd__law_pick cd__law_refused_right cd_all_numbers cd_bound_of cd_changing cd_checked_marks cd_common_multiple cd_is_integer cd_is_mark cd_is_number cd_is_place cd_is_zoom cd_joined_truth cd_law cd_least_begin cd_least_turn cd_many_upto cd_marks_joined cd_normal_form cd_state_ahead ct2__law_between_right ct2__law_refused_right ct2_law ct_BadRatio___init__ ct_BadZooms___init__ ct_Ratio___add__ ct_Ratio___bool__ ct_Ratio___eq__ ct_Ratio___ge__ ct_Ratio___gt__ ct_Ratio___init__ ct_Ratio___le__ ct_Ratio___lt__ ct_Ratio___mul__ ct_Ratio___rsub__ ct_Ratio___str__ ct_Ratio___sub__ ct_Ratio_ceiling ct_Ratio_common ct_Ratio_divided ct_Ratio_floor ct_Ratio_highest ct_Ratio_lowest ct_Ratio_of ct_Zooms___bool__ ct_Zooms___contains__ ct_Zooms___eq__ ct_Zooms___init__ ct_Zooms___invert__ ct_Zooms___sub__ ct_Zooms_between ct_Zooms_beyond ct_Zooms_everything ct_Zooms_joined ct_Zooms_mark ct_Zooms_marks_upto ct_Zooms_nothing ct_Zooms_state_behind ct__law_beside ct__law_between_right ct__law_beyond_right ct__law_draw ct__law_heard ct__law_number ct__law_pen ct__law_pick ct__law_refused_right ct_all_numbers ct_bound_of ct_changing ct_checked_marks ct_common_multiple ct_is_integer ct_is_mark ct_is_number ct_is_place ct_is_zoom ct_joined_truth ct_law ct_least_begin ct_least_turn ct_many_upto ct_marks_joined ct_normal_form ct_state_ahead dc2__law_between_right dc2__law_refused_right dc2_law dc_BadRatio___init__ dc_BadZooms___init__ dc_Ratio___add__ dc_Ratio___bool__ dc_Ratio___eq__ dc_Ratio___ge__ dc_Ratio___gt__ dc_Ratio___init__ dc_Ratio___le__ dc_Ratio___lt__ dc_Ratio___mul__ dc_Ratio___rsub__ dc_Ratio___str__ dc_Ratio___sub__ dc_Ratio_ceiling dc_Ratio_common dc_Ratio_divided dc_Ratio_floor dc_Ratio_highest dc_Ratio_lowest dc_Ratio_of dc_Zooms___bool__ dc_Zooms___contains__ dc_Zooms___eq__ dc_Zooms___init__ dc_Zooms___invert__ dc_Zooms___sub__ dc_Zooms_between dc_Zooms_beyond dc_Zooms_everything dc_Zooms_joined dc_Zooms_mark dc_Zooms_marks_upto dc_Zooms_nothing dc_Zooms_state_behind dc__law_beside dc__law_between_right dc__law_beyond_right dc__law_draw dc__law_heard dc__law_number dc__law_pen dc__law_pick dc__law_refused_right dc_all_numbers dc_bound_of dc_changing dc_checked_marks dc_common_multiple dc_is_integer dc_is_mark dc_is_number dc_is_place dc_is_zoom dc_joined_truth dc_law dc_least_begin dc_least_turn dc_many_upto dc_marks_joined dc_normal_form dc_state_ahead kV2__law_between_right kV2__law_refused_right kV2_law kV_BadRatio___init__ kV_BadZooms___init__ kV_Ratio___add__ kV_Ratio___bool__ kV_Ratio___eq__ kV_Ratio___ge__ kV_Ratio___gt__ kV_Ratio___init__ kV_Ratio___le__ kV_Ratio___lt__ kV_Ratio___mul__ kV_Ratio___rsub__ kV_Ratio___str__ kV_Ratio___sub__ kV_Ratio_ceiling kV_Ratio_common kV_Ratio_divided kV_Ratio_floor kV_Ratio_highest kV_Ratio_lowest kV_Ratio_of kV_Zooms___bool__ kV_Zooms___contains__ kV_Zooms___eq__ kV_Zooms___init__ kV_Zooms___invert__ kV_Zooms___sub__ kV_Zooms_between kV_Zooms_beyond kV_Zooms_everything kV_Zooms_joined kV_Zooms_mark kV_Zooms_marks_upto kV_Zooms_nothing kV_Zooms_state_behind kV__law_beside kV__law_between_right kV__law_beyond_right kV__law_draw kV__law_heard kV__law_number kV__law_pen kV__law_pick kV__law_refused_right kV_all_numbers kV_bound_of kV_changing kV_checked_marks kV_common_multiple kV_is_integer kV_is_mark kV_is_number kV_is_place kV_is_zoom kV_joined_truth kV_law kV_least_begin kV_least_turn kV_many_upto kV_marks_joined kV_normal_form kV_state_ahead oc2__law_between_right oc2__law_refused_right oc2_law oc_BadRatio___init__ oc_BadZooms___init__ oc_Ratio___add__ oc_Ratio___bool__ oc_Ratio___eq__ oc_Ratio___ge__ oc_Ratio___gt__ oc_Ratio___init__ oc_Ratio___le__ oc_Ratio___lt__ oc_Ratio___mul__ oc_Ratio___rsub__ oc_Ratio___str__ oc_Ratio___sub__ oc_Ratio_ceiling oc_Ratio_common oc_Ratio_divided oc_Ratio_floor oc_Ratio_highest oc_Ratio_lowest oc_Ratio_of oc_Zooms___bool__ oc_Zooms___contains__ oc_Zooms___eq__ oc_Zooms___init__ oc_Zooms___invert__ oc_Zooms___sub__ oc_Zooms_between oc_Zooms_beyond oc_Zooms_everything oc_Zooms_joined oc_Zooms_mark oc_Zooms_marks_upto oc_Zooms_nothing oc_Zooms_state_behind oc__law_beside oc__law_between_right oc__law_beyond_right oc__law_draw oc__law_heard oc__law_number oc__law_pen oc__law_pick oc__law_refused_right oc_all_numbers oc_bound_of oc_changing oc_checked_marks oc_common_multiple oc_is_integer oc_is_mark oc_is_number oc_is_place oc_is_zoom oc_joined_truth oc_law oc_least_begin oc_least_turn oc_many_upto oc_marks_joined oc_normal_form oc_state_ahead pm2__law_between_right pm2__law_refused_right pm2_law pm_BadRatio___init__ pm_BadZooms___init__ pm_Ratio___add__ pm_Ratio___bool__ pm_Ratio___eq__ pm_Ratio___ge__ pm_Ratio___gt__ pm_Ratio___init__ pm_Ratio___le__ pm_Ratio___lt__ pm_Ratio___mul__ pm_Ratio___rsub__ pm_Ratio___str__ pm_Ratio___sub__ pm_Ratio_ceiling pm_Ratio_common pm_Ratio_divided pm_Ratio_floor pm_Ratio_highest pm_Ratio_lowest pm_Ratio_of pm_Zooms___bool__ pm_Zooms___contains__ pm_Zooms___eq__ pm_Zooms___init__ pm_Zooms___invert__ pm_Zooms___sub__ pm_Zooms_between pm_Zooms_beyond pm_Zooms_everything pm_Zooms_joined pm_Zooms_mark pm_Zooms_marks_upto pm_Zooms_nothing pm_Zooms_state_behind pm__law_beside pm__law_between_right pm__law_beyond_right pm__law_draw pm__law_heard pm__law_number pm__law_pen pm__law_pick pm__law_refused_right pm_all_numbers pm_bound_of pm_changing pm_checked_marks pm_common_multiple pm_is_integer pm_is_mark pm_is_number pm_is_place pm_is_zoom pm_joined_truth pm_law pm_least_begin pm_least_turn pm_many_upto pm_marks_joined pm_normal_form pm_state_ahead tc_Ratio___init__ tc_Zooms_between tc_Zooms_beyond : Value} {an2__law_between_right an2__law_refused_right an2_law an_BadRatio___init__ an_BadZooms___init__ an_Ratio___add__ an_Ratio___bool__ an_Ratio___eq__ an_Ratio___ge__ an_Ratio___gt__ an_Ratio___init__ an_Ratio___le__ an_Ratio___lt__ an_Ratio___mul__ an_Ratio___rsub__ an_Ratio___str__ an_Ratio___sub__ an_Ratio_ceiling an_Ratio_common an_Ratio_divided an_Ratio_floor an_Ratio_highest an_Ratio_lowest an_Ratio_of an_Zooms___bool__ an_Zooms___contains__ an_Zooms___eq__ an_Zooms___init__ an_Zooms___invert__ an_Zooms___sub__ an_Zooms_between an_Zooms_beyond an_Zooms_everything an_Zooms_joined an_Zooms_mark an_Zooms_marks_upto an_Zooms_nothing an_Zooms_state_behind an__law_beside an__law_between_right an__law_beyond_right an__law_draw an__law_heard an__law_number an__law_pen an__law_pick an__law_refused_right an_all_numbers an_bound_of an_changing an_checked_marks an_common_multiple an_is_integer an_is_mark an_is_number an_is_place an_is_zoom an_joined_truth an_law an_least_begin an_least_turn an_many_upto an_marks_joined an_normal_form an_state_ahead od2__law_between_right od2__law_refused_right od2_law od_BadRatio___init__ od_BadZooms___init__ od_Ratio___add__ od_Ratio___bool__ od_Ratio___eq__ od_Ratio___ge__ od_Ratio___gt__ od_Ratio___init__ od_Ratio___le__ od_Ratio___lt__ od_Ratio___mul__ od_Ratio___rsub__ od_Ratio___str__ od_Ratio___sub__ od_Ratio_ceiling od_Ratio_common od_Ratio_divided od_Ratio_floor od_Ratio_highest od_Ratio_lowest od_Ratio_of od_Zooms___bool__ od_Zooms___contains__ od_Zooms___eq__ od_Zooms___init__ od_Zooms___invert__ od_Zooms___sub__ od_Zooms_between od_Zooms_beyond od_Zooms_everything od_Zooms_joined od_Zooms_mark od_Zooms_marks_upto od_Zooms_nothing od_Zooms_state_behind od__law_beside od__law_between_right od__law_beyond_right od__law_draw od__law_heard od__law_number od__law_pen od__law_pick od__law_refused_right od_all_numbers od_bound_of od_changing od_checked_marks od_common_multiple od_is_integer od_is_mark od_is_number od_is_place od_is_zoom od_joined_truth od_law od_least_begin od_least_turn od_many_upto od_marks_joined od_normal_form od_state_ahead td2__law_between_right td2__law_refused_right td2_law td_Ratio___init__ td_Zooms_between td_Zooms_beyond : Option Addr} {sl2__law_between_right sl2__law_refused_right sl2_law sl_BadRatio___init__ sl_BadZooms___init__ sl_Ratio___add__ sl_Ratio___bool__ sl_Ratio___eq__ sl_Ratio___ge__ sl_Ratio___gt__ sl_Ratio___init__ sl_Ratio___le__ sl_Ratio___lt__ sl_Ratio___mul__ sl_Ratio___rsub__ sl_Ratio___str__ sl_Ratio___sub__ sl_Ratio_ceiling sl_Ratio_common sl_Ratio_divided sl_Ratio_floor sl_Ratio_highest sl_Ratio_lowest sl_Ratio_of sl_Zooms___bool__ sl_Zooms___contains__ sl_Zooms___eq__ sl_Zooms___init__ sl_Zooms___invert__ sl_Zooms___sub__ sl_Zooms_between sl_Zooms_beyond sl_Zooms_everything sl_Zooms_joined sl_Zooms_mark sl_Zooms_marks_upto sl_Zooms_nothing sl_Zooms_state_behind sl__law_beside sl__law_between_right sl__law_beyond_right sl__law_draw sl__law_heard sl__law_number sl__law_pen sl__law_pick sl__law_refused_right sl_all_numbers sl_bound_of sl_changing sl_checked_marks sl_common_multiple sl_is_integer sl_is_mark sl_is_number sl_is_place sl_is_zoom sl_joined_truth sl_law sl_least_begin sl_least_turn sl_many_upto sl_marks_joined sl_normal_form sl_state_ahead ts2__law_between_right ts2__law_refused_right ts2_law ts_Ratio___init__ ts_Zooms_between ts_Zooms_beyond : Array (Option Value)} {tn_Ratio___init__ tn_Zooms_between tn_Zooms_beyond : Nat} {tk0_Ratio___init__ tk0_cv_Zooms_MOST_MARKS : Tok} {dT_Ratio___init__ dT_Zooms_between dT_Zooms_beyond pp_Ratio_common pp_Ratio_highest pp_Ratio_lowest pp_Ratio_of pp_Zooms_between pp_Zooms_beyond pp_Zooms_everything pp_Zooms_nothing : Addr} {fv__law_between_right fv__law_refused_right fv_law rr_Ratio_common rr_Ratio_highest rr_Ratio_lowest rr_Ratio_of rr_Zooms_between rr_Zooms_beyond rr_Zooms_everything rr_Zooms_nothing : List Value} {fo_Ratio_add fo_Ratio_mul fo_Ratio_sub fo_Zooms_sub ro_Ratio_add ro_Ratio_mul ro_Ratio_sub ro_Zooms_sub : Option Value} {e0_BadRatio e0_BadZooms e0_SnapError : Option Value} {e1_BadRatio e1_BadZooms e1_SnapError : Option Value} {e2_BadRatio e2_BadZooms e2_SnapError : Option Value} {e3_BadRatio e3_BadZooms e3_SnapError : Option Value} {e5_BadRatio e5_BadZooms e5_SnapError : Option Value} {eN_BadRatio eN_BadZooms eN_SnapError : Addr} {ea_BadRatio ea_BadZooms ea_SnapError : Bool} {eb_BadRatio eb_BadZooms eb_SnapError : List Value} {ec_BadRatio ec_BadZooms ec_SnapError : Option Bool} {ed_BadRatio ed_BadZooms ed_SnapError : Option Addr} {en_BadRatio en_BadZooms en_SnapError : List Str} {eq_BadRatio eq_BadZooms eq_SnapError : Str} {eu_BadRatio eu_BadZooms eu_SnapError : List Value} , (PySem.W.nsIn K mainGlobals "_law_pen" = some (some (.ref A__law_pen))) → (PySem.W.nsIn K mainGlobals "_law_draw" = some (some (.ref A__law_draw))) → (PySem.W.nsIn K mainGlobals "_law_pick" = some (some (.ref A__law_pick))) → (PySem.W.nsIn K mainGlobals "Ratio" = some (some (.ref A_Ratio))) → (PySem.W.nsIn K mainGlobals "is_integer" = some (some (.ref A_is_integer))) → (PySem.W.nsIn K mainGlobals "SnapError" = some (some (.ref A_SnapError))) → (PySem.W.nsIn K mainGlobals "BadRatio" = some (some (.ref A_BadRatio))) → (PySem.W.nsIn K mainGlobals "all_numbers" = some (some (.ref A_all_numbers))) → (PySem.W.nsIn K mainGlobals "bound_of" = some (some (.ref A_bound_of))) → (PySem.W.nsIn K mainGlobals "is_number" = some (some (.ref A_is_number))) → (PySem.W.nsIn K mainGlobals "is_zoom" = some (some (.ref A_is_zoom))) → (PySem.W.nsIn K mainGlobals "is_place" = some (some (.ref A_is_place))) → (PySem.W.nsIn K mainGlobals "many_upto" = some (some (.ref A_many_upto))) → (PySem.W.nsIn K mainGlobals "state_ahead" = some (some (.ref A_state_ahead))) → (PySem.W.nsIn K mainGlobals "changing" = some (some (.ref A_changing))) → (PySem.W.nsIn K mainGlobals "is_mark" = some (some (.ref A_is_mark))) → (PySem.W.nsIn K mainGlobals "checked_marks" = some (some (.ref A_checked_marks))) → (PySem.W.nsIn K mainGlobals "least_turn" = some (some (.ref A_least_turn))) → (PySem.W.nsIn K mainGlobals "least_begin" = some (some (.ref A_least_begin))) → (PySem.W.nsIn K mainGlobals "normal_form" = some (some (.ref A_normal_form))) → (PySem.W.nsIn K mainGlobals "Zooms" = some (some (.ref A_Zooms))) → (PySem.W.nsIn K mainGlobals "BadZooms" = some (some (.ref A_BadZooms))) → (PySem.W.nsIn K mainGlobals "common_multiple" = some (some (.ref A_common_multiple))) → (PySem.W.nsIn K mainGlobals "joined_truth" = some (some (.ref A_joined_truth))) → (PySem.W.nsIn K mainGlobals "marks_joined" = some (some (.ref A_marks_joined))) → (PySem.W.nsIn K mainGlobals "_law_number" = some (some (.ref A__law_number))) → (PySem.W.nsIn K mainGlobals "_law_heard" = some (some (.ref A__law_heard))) → (PySem.W.nsIn K mainGlobals "_law_beside" = some (some (.ref A__law_beside))) → (PySem.W.nsIn K mainGlobals "_law_between_right" = some (some (.ref A__law_between_right))) → (PySem.W.nsIn K mainGlobals "_law_beyond_right" = some (some (.ref A__law_beyond_right))) → (PySem.W.nsIn K mainGlobals "_law_refused_right" = some (some (.ref A__law_refused_right))) → (PySem.W.nsIn K mainGlobals "law" = some (some (.ref A_law))) → (PySem.W.findIn K (.ref A_Ratio) "__init__" = some (some (.ref A_Ratio___init__))) → (PySem.W.findIn K (.ref A_Ratio) "__add__" = some (some (.ref A_Ratio___add__))) → (PySem.W.findIn K (.ref A_Ratio) "__sub__" = some (some (.ref A_Ratio___sub__))) → (PySem.W.findIn K (.ref A_Ratio) "__mul__" = some (some (.ref A_Ratio___mul__))) → (PySem.W.findIn K (.ref A_Ratio) "__lt__" = some (some (.ref A_Ratio___lt__))) → (PySem.W.findIn K (.ref A_Ratio) "__le__" = some (some (.ref A_Ratio___le__))) → (PySem.W.findIn K (.ref A_Ratio) "__gt__" = some (some (.ref A_Ratio___gt__))) → (PySem.W.findIn K (.ref A_Ratio) "__ge__" = some (some (.ref A_Ratio___ge__))) → (PySem.W.findIn K (.ref A_Ratio) "__eq__" = some (some (.ref A_Ratio___eq__))) → (PySem.W.findIn K (.ref A_Ratio) "floor" = some (some (.ref A_Ratio_floor))) → (PySem.W.findIn K (.ref A_Ratio) "ceiling" = some (some (.ref A_Ratio_ceiling))) → (PySem.W.findIn K (.ref A_Ratio) "__str__" = some (some (.ref A_Ratio___str__))) → (PySem.W.findIn K (.ref A_Ratio) "__bool__" = some (some (.ref A_Ratio___bool__))) → (PySem.W.findIn K (.ref A_BadRatio) "__init__" = some (some (.ref A_BadRatio___init__))) → (PySem.W.findIn K (.ref A_Ratio) "__radd__" = some (some (.ref A_Ratio___radd__))) → (PySem.W.findIn K (.ref A_Ratio) "__rsub__" = some (some (.ref A_Ratio___rsub__))) → (PySem.W.findIn K (.ref A_Zooms) "__init__" = some (some (.ref A_Zooms___init__))) → (PySem.W.findIn K (.ref A_BadZooms) "__init__" = some (some (.ref A_BadZooms___init__))) → (PySem.W.findIn K (.ref A_Zooms) "mark" = some (some (.ref A_Zooms_mark))) → (PySem.W.findIn K (.ref A_Zooms) "state_behind" = some (some (.ref A_Zooms_state_behind))) → (PySem.W.findIn K (.ref A_Zooms) "__bool__" = some (some (.ref A_Zooms___bool__))) → (PySem.W.findIn K (.ref A_Ratio) "divided" = some (some (.ref A_Ratio_divided))) → (PySem.W.findIn K (.ref A_Zooms) "__contains__" = some (some (.ref A_Zooms___contains__))) → (PySem.W.findIn K (.ref A_Zooms) "__eq__" = some (some (.ref A_Zooms___eq__))) → (PySem.W.findIn K (.ref A_Zooms) "__invert__" = some (some (.ref A_Zooms___invert__))) → (PySem.W.findIn K (.ref A_Zooms) "joined" = some (some (.ref A_Zooms_joined))) → (PySem.W.findIn K (.ref A_Zooms) "__sub__" = some (some (.ref A_Zooms___sub__))) → (PySem.W.findIn K (.ref A_Zooms) "marks_upto" = some (some (.ref A_Zooms_marks_upto))) → (PySem.W.findIn K (.ref A_Ratio) "__rmul__" = some (some (.ref A_Ratio___rmul__))) → (PySem.W.readsIn K A_Ratio (.type "type") = true) → (PySem.W.readsIn K A_Ratio (.type "type") = true) → (PySem.W.readsIn K A_Ratio (.type "type") = true) → (PySem.W.readsIn K A_Ratio (.type "type") = true) → (PySem.W.readsIn K A_Zooms (.type "type") = true) → (PySem.W.readsIn K A_Zooms (.type "type") = true) → (PySem.W.readsIn K A_Zooms (.type "type") = true) → (PySem.W.readsIn K A_Zooms (.type "type") = true) → (PySem.W.findCls K (.ref A_Ratio) (.type "type") "of" = some (.get (.builtin "staticmethod.__get__") (.ref pp_Ratio_of) .none (.ref A_Ratio))) → (PySem.W.findCls K (.ref A_Ratio) (.type "type") "highest" = some (.get (.builtin "staticmethod.__get__") (.ref pp_Ratio_highest) .none (.ref A_Ratio))) → (PySem.W.findCls K (.ref A_Ratio) (.type "type") "common" = some (.get (.builtin "staticmethod.__get__") (.ref pp_Ratio_common) .none (.ref A_Ratio))) → (PySem.W.findCls K (.ref A_Ratio) (.type "type") "lowest" = some (.get (.builtin "staticmethod.__get__") (.ref pp_Ratio_lowest) .none (.ref A_Ratio))) → (PySem.W.findCls K (.ref A_Zooms) (.type "type") "between" = some (.get (.builtin "staticmethod.__get__") (.ref pp_Zooms_between) .none (.ref A_Zooms))) → (PySem.W.findCls K (.ref A_Zooms) (.type "type") "beyond" = some (.get (.builtin "staticmethod.__get__") (.ref pp_Zooms_beyond) .none (.ref A_Zooms))) → (PySem.W.findCls K (.ref A_Zooms) (.type "type") "everything" = some (.get (.builtin "staticmethod.__get__") (.ref pp_Zooms_everything) .none (.ref A_Zooms))) → (PySem.W.findCls K (.ref A_Zooms) (.type "type") "nothing" = some (.get (.builtin "staticmethod.__get__") (.ref pp_Zooms_nothing) .none (.ref A_Zooms))) → (PySem.W.recIn K pp_Ratio_of "staticmethod" = some (.ref A_Ratio_of :: rr_Ratio_of)) → (PySem.W.recIn K pp_Ratio_highest "staticmethod" = some (.ref A_Ratio_highest :: rr_Ratio_highest)) → (PySem.W.recIn K pp_Ratio_common "staticmethod" = some (.ref A_Ratio_common :: rr_Ratio_common)) → (PySem.W.recIn K pp_Ratio_lowest "staticmethod" = some (.ref A_Ratio_lowest :: rr_Ratio_lowest)) → (PySem.W.recIn K pp_Zooms_between "staticmethod" = some (.ref A_Zooms_between :: rr_Zooms_between)) → (PySem.W.recIn K pp_Zooms_beyond "staticmethod" = some (.ref A_Zooms_beyond :: rr_Zooms_beyond)) → (PySem.W.recIn K pp_Zooms_everything "staticmethod" = some (.ref A_Zooms_everything :: rr_Zooms_everything)) → (PySem.W.recIn K pp_Zooms_nothing "staticmethod" = some (.ref A_Zooms_nothing :: rr_Zooms_nothing)) → (K.lookup A__law_pen = some ⟨oc__law_pen, od__law_pen, .func (PySem.W.fnOf "_law_pen" "_law_pen" (defArgs s__law_pen) (defBody s__law_pen) (defScope s__law_pen) .none kV__law_pen dc__law_pen pm__law_pen an__law_pen cd__law_pen ct__law_pen), sl__law_pen⟩) → (K.lookup A__law_draw = some ⟨oc__law_draw, od__law_draw, .func (PySem.W.fnOf "_law_draw" "_law_draw" (defArgs s__law_draw) (defBody s__law_draw) (defScope s__law_draw) .none kV__law_draw dc__law_draw pm__law_draw an__law_draw cd__law_draw ct__law_draw), sl__law_draw⟩) → (K.lookup A__law_pick = some ⟨oc__law_pick, od__law_pick, .func (PySem.W.fnOf "_law_pick" "_law_pick" (defArgs s__law_pick) (defBody s__law_pick) (defScope s__law_pick) .none kV__law_pick dc__law_pick pm__law_pick an__law_pick cd__law_pick ct__law_pick), sl__law_pick⟩) → (K.lookup A_is_integer = some ⟨oc_is_integer, od_is_integer, .func (PySem.W.fnOf "is_integer" "is_integer" (defArgs s_is_integer) (defBody s_is_integer) (defScope s_is_integer) .none kV_is_integer dc_is_integer pm_is_integer an_is_integer cd_is_integer ct_is_integer), sl_is_integer⟩) → (K.lookup A_Ratio___init__ = some ⟨oc_Ratio___init__, od_Ratio___init__, .func (PySem.W.fnOf "__init__" "Ratio.__init__" (defArgs s_Ratio___init__) (defBody s_Ratio___init__) (defScope s_Ratio___init__) (.ref dT_Ratio___init__) kV_Ratio___init__ dc_Ratio___init__ pm_Ratio___init__ an_Ratio___init__ cd_Ratio___init__ ct_Ratio___init__), sl_Ratio___init__⟩) → (K.lookup A_Ratio_of = some ⟨oc_Ratio_of, od_Ratio_of, .func (PySem.W.fnOf "of" "Ratio.of" (defArgs s_Ratio_of) (defBody s_Ratio_of) (defScope s_Ratio_of) .none kV_Ratio_of dc_Ratio_of pm_Ratio_of an_Ratio_of cd_Ratio_of ct_Ratio_of), sl_Ratio_of⟩) → (K.lookup A_Ratio___add__ = some ⟨oc_Ratio___add__, od_Ratio___add__, .func (PySem.W.fnOf "__add__" "Ratio.__add__" (defArgs s_Ratio___add__) (defBody s_Ratio___add__) (defScope s_Ratio___add__) .none kV_Ratio___add__ dc_Ratio___add__ pm_Ratio___add__ an_Ratio___add__ cd_Ratio___add__ ct_Ratio___add__), sl_Ratio___add__⟩) → (K.lookup A_Ratio___sub__ = some ⟨oc_Ratio___sub__, od_Ratio___sub__, .func (PySem.W.fnOf "__sub__" "Ratio.__sub__" (defArgs s_Ratio___sub__) (defBody s_Ratio___sub__) (defScope s_Ratio___sub__) .none kV_Ratio___sub__ dc_Ratio___sub__ pm_Ratio___sub__ an_Ratio___sub__ cd_Ratio___sub__ ct_Ratio___sub__), sl_Ratio___sub__⟩) → (K.lookup A_Ratio___mul__ = some ⟨oc_Ratio___mul__, od_Ratio___mul__, .func (PySem.W.fnOf "__mul__" "Ratio.__mul__" (defArgs s_Ratio___mul__) (defBody s_Ratio___mul__) (defScope s_Ratio___mul__) .none kV_Ratio___mul__ dc_Ratio___mul__ pm_Ratio___mul__ an_Ratio___mul__ cd_Ratio___mul__ ct_Ratio___mul__), sl_Ratio___mul__⟩) → (K.lookup A_Ratio___lt__ = some ⟨oc_Ratio___lt__, od_Ratio___lt__, .func (PySem.W.fnOf "__lt__" "Ratio.__lt__" (defArgs s_Ratio___lt__) (defBody s_Ratio___lt__) (defScope s_Ratio___lt__) .none kV_Ratio___lt__ dc_Ratio___lt__ pm_Ratio___lt__ an_Ratio___lt__ cd_Ratio___lt__ ct_Ratio___lt__), sl_Ratio___lt__⟩) → (K.lookup A_Ratio___le__ = some ⟨oc_Ratio___le__, od_Ratio___le__, .func (PySem.W.fnOf "__le__" "Ratio.__le__" (defArgs s_Ratio___le__) (defBody s_Ratio___le__) (defScope s_Ratio___le__) .none kV_Ratio___le__ dc_Ratio___le__ pm_Ratio___le__ an_Ratio___le__ cd_Ratio___le__ ct_Ratio___le__), sl_Ratio___le__⟩) → (K.lookup A_Ratio___gt__ = some ⟨oc_Ratio___gt__, od_Ratio___gt__, .func (PySem.W.fnOf "__gt__" "Ratio.__gt__" (defArgs s_Ratio___gt__) (defBody s_Ratio___gt__) (defScope s_Ratio___gt__) .none kV_Ratio___gt__ dc_Ratio___gt__ pm_Ratio___gt__ an_Ratio___gt__ cd_Ratio___gt__ ct_Ratio___gt__), sl_Ratio___gt__⟩) → (K.lookup A_Ratio___ge__ = some ⟨oc_Ratio___ge__, od_Ratio___ge__, .func (PySem.W.fnOf "__ge__" "Ratio.__ge__" (defArgs s_Ratio___ge__) (defBody s_Ratio___ge__) (defScope s_Ratio___ge__) .none kV_Ratio___ge__ dc_Ratio___ge__ pm_Ratio___ge__ an_Ratio___ge__ cd_Ratio___ge__ ct_Ratio___ge__), sl_Ratio___ge__⟩) → (K.lookup A_Ratio___eq__ = some ⟨oc_Ratio___eq__, od_Ratio___eq__, .func (PySem.W.fnOf "__eq__" "Ratio.__eq__" (defArgs s_Ratio___eq__) (defBody s_Ratio___eq__) (defScope s_Ratio___eq__) .none kV_Ratio___eq__ dc_Ratio___eq__ pm_Ratio___eq__ an_Ratio___eq__ cd_Ratio___eq__ ct_Ratio___eq__), sl_Ratio___eq__⟩) → (K.lookup A_Ratio_floor = some ⟨oc_Ratio_floor, od_Ratio_floor, .func (PySem.W.fnOf "floor" "Ratio.floor" (defArgs s_Ratio_floor) (defBody s_Ratio_floor) (defScope s_Ratio_floor) .none kV_Ratio_floor dc_Ratio_floor pm_Ratio_floor an_Ratio_floor cd_Ratio_floor ct_Ratio_floor), sl_Ratio_floor⟩) → (K.lookup A_Ratio_ceiling = some ⟨oc_Ratio_ceiling, od_Ratio_ceiling, .func (PySem.W.fnOf "ceiling" "Ratio.ceiling" (defArgs s_Ratio_ceiling) (defBody s_Ratio_ceiling) (defScope s_Ratio_ceiling) .none kV_Ratio_ceiling dc_Ratio_ceiling pm_Ratio_ceiling an_Ratio_ceiling cd_Ratio_ceiling ct_Ratio_ceiling), sl_Ratio_ceiling⟩) → (K.lookup A_Ratio___str__ = some ⟨oc_Ratio___str__, od_Ratio___str__, .func (PySem.W.fnOf "__str__" "Ratio.__str__" (defArgs s_Ratio___str__) (defBody s_Ratio___str__) (defScope s_Ratio___str__) .none kV_Ratio___str__ dc_Ratio___str__ pm_Ratio___str__ an_Ratio___str__ cd_Ratio___str__ ct_Ratio___str__), sl_Ratio___str__⟩) → (K.lookup A_Ratio___bool__ = some ⟨oc_Ratio___bool__, od_Ratio___bool__, .func (PySem.W.fnOf "__bool__" "Ratio.__bool__" (defArgs s_Ratio___bool__) (defBody s_Ratio___bool__) (defScope s_Ratio___bool__) .none kV_Ratio___bool__ dc_Ratio___bool__ pm_Ratio___bool__ an_Ratio___bool__ cd_Ratio___bool__ ct_Ratio___bool__), sl_Ratio___bool__⟩) → (K.lookup A_BadRatio___init__ = some ⟨oc_BadRatio___init__, od_BadRatio___init__, .func (PySem.W.fnOf "__init__" "BadRatio.__init__" (defArgs s_BadRatio___init__) (defBody s_BadRatio___init__) (defScope s_BadRatio___init__) .none kV_BadRatio___init__ dc_BadRatio___init__ pm_BadRatio___init__ an_BadRatio___init__ cd_BadRatio___init__ ct_BadRatio___init__), sl_BadRatio___init__⟩) → (K.lookup A_all_numbers = some ⟨oc_all_numbers, od_all_numbers, .func (PySem.W.fnOf "all_numbers" "all_numbers" (defArgs s_all_numbers) (defBody s_all_numbers) (defScope s_all_numbers) .none kV_all_numbers dc_all_numbers pm_all_numbers an_all_numbers cd_all_numbers ct_all_numbers), sl_all_numbers⟩) → (K.lookup A_bound_of = some ⟨oc_bound_of, od_bound_of, .func (PySem.W.fnOf "bound_of" "bound_of" (defArgs s_bound_of) (defBody s_bound_of) (defScope s_bound_of) .none kV_bound_of dc_bound_of pm_bound_of an_bound_of cd_bound_of ct_bound_of), sl_bound_of⟩) → (K.lookup A_Ratio_highest = some ⟨oc_Ratio_highest, od_Ratio_highest, .func (PySem.W.fnOf "highest" "Ratio.highest" (defArgs s_Ratio_highest) (defBody s_Ratio_highest) (defScope s_Ratio_highest) .none kV_Ratio_highest dc_Ratio_highest pm_Ratio_highest an_Ratio_highest cd_Ratio_highest ct_Ratio_highest), sl_Ratio_highest⟩) → (K.lookup A_Ratio_lowest = some ⟨oc_Ratio_lowest, od_Ratio_lowest, .func (PySem.W.fnOf "lowest" "Ratio.lowest" (defArgs s_Ratio_lowest) (defBody s_Ratio_lowest) (defScope s_Ratio_lowest) .none kV_Ratio_lowest dc_Ratio_lowest pm_Ratio_lowest an_Ratio_lowest cd_Ratio_lowest ct_Ratio_lowest), sl_Ratio_lowest⟩) → (K.lookup A_is_number = some ⟨oc_is_number, od_is_number, .func (PySem.W.fnOf "is_number" "is_number" (defArgs s_is_number) (defBody s_is_number) (defScope s_is_number) .none kV_is_number dc_is_number pm_is_number an_is_number cd_is_number ct_is_number), sl_is_number⟩) → (K.lookup A_is_zoom = some ⟨oc_is_zoom, od_is_zoom, .func (PySem.W.fnOf "is_zoom" "is_zoom" (defArgs s_is_zoom) (defBody s_is_zoom) (defScope s_is_zoom) .none kV_is_zoom dc_is_zoom pm_is_zoom an_is_zoom cd_is_zoom ct_is_zoom), sl_is_zoom⟩) → (K.lookup A_is_place = some ⟨oc_is_place, od_is_place, .func (PySem.W.fnOf "is_place" "is_place" (defArgs s_is_place) (defBody s_is_place) (defScope s_is_place) .none kV_is_place dc_is_place pm_is_place an_is_place cd_is_place ct_is_place), sl_is_place⟩) → (K.lookup A_many_upto = some ⟨oc_many_upto, od_many_upto, .func (PySem.W.fnOf "many_upto" "many_upto" (defArgs s_many_upto) (defBody s_many_upto) (defScope s_many_upto) .none kV_many_upto dc_many_upto pm_many_upto an_many_upto cd_many_upto ct_many_upto), sl_many_upto⟩) → (K.lookup A_state_ahead = some ⟨oc_state_ahead, od_state_ahead, .func (PySem.W.fnOf "state_ahead" "state_ahead" (defArgs s_state_ahead) (defBody s_state_ahead) (defScope s_state_ahead) .none kV_state_ahead dc_state_ahead pm_state_ahead an_state_ahead cd_state_ahead ct_state_ahead), sl_state_ahead⟩) → (K.lookup A_changing = some ⟨oc_changing, od_changing, .func (PySem.W.fnOf "changing" "changing" (defArgs s_changing) (defBody s_changing) (defScope s_changing) .none kV_changing dc_changing pm_changing an_changing cd_changing ct_changing), sl_changing⟩) → (K.lookup A_is_mark = some ⟨oc_is_mark, od_is_mark, .func (PySem.W.fnOf "is_mark" "is_mark" (defArgs s_is_mark) (defBody s_is_mark) (defScope s_is_mark) .none kV_is_mark dc_is_mark pm_is_mark an_is_mark cd_is_mark ct_is_mark), sl_is_mark⟩) → (K.lookup A_checked_marks = some ⟨oc_checked_marks, od_checked_marks, .func (PySem.W.fnOf "checked_marks" "checked_marks" (defArgs s_checked_marks) (defBody s_checked_marks) (defScope s_checked_marks) .none kV_checked_marks dc_checked_marks pm_checked_marks an_checked_marks cd_checked_marks ct_checked_marks), sl_checked_marks⟩) → (K.lookup A_least_turn = some ⟨oc_least_turn, od_least_turn, .func (PySem.W.fnOf "least_turn" "least_turn" (defArgs s_least_turn) (defBody s_least_turn) (defScope s_least_turn) .none kV_least_turn dc_least_turn pm_least_turn an_least_turn cd_least_turn ct_least_turn), sl_least_turn⟩) → (K.lookup A_least_begin = some ⟨oc_least_begin, od_least_begin, .func (PySem.W.fnOf "least_begin" "least_begin" (defArgs s_least_begin) (defBody s_least_begin) (defScope s_least_begin) .none kV_least_begin dc_least_begin pm_least_begin an_least_begin cd_least_begin ct_least_begin), sl_least_begin⟩) → (K.lookup A_normal_form = some ⟨oc_normal_form, od_normal_form, .func (PySem.W.fnOf "normal_form" "normal_form" (defArgs s_normal_form) (defBody s_normal_form) (defScope s_normal_form) .none kV_normal_form dc_normal_form pm_normal_form an_normal_form cd_normal_form ct_normal_form), sl_normal_form⟩) → (K.lookup A_Zooms___init__ = some ⟨oc_Zooms___init__, od_Zooms___init__, .func (PySem.W.fnOf "__init__" "Zooms.__init__" (defArgs s_Zooms___init__) (defBody s_Zooms___init__) (defScope s_Zooms___init__) .none kV_Zooms___init__ dc_Zooms___init__ pm_Zooms___init__ an_Zooms___init__ cd_Zooms___init__ ct_Zooms___init__), sl_Zooms___init__⟩) → (K.lookup A_Zooms_everything = some ⟨oc_Zooms_everything, od_Zooms_everything, .func (PySem.W.fnOf "everything" "Zooms.everything" (defArgs s_Zooms_everything) (defBody s_Zooms_everything) (defScope s_Zooms_everything) .none kV_Zooms_everything dc_Zooms_everything pm_Zooms_everything an_Zooms_everything cd_Zooms_everything ct_Zooms_everything), sl_Zooms_everything⟩) → (K.lookup A_Zooms_nothing = some ⟨oc_Zooms_nothing, od_Zooms_nothing, .func (PySem.W.fnOf "nothing" "Zooms.nothing" (defArgs s_Zooms_nothing) (defBody s_Zooms_nothing) (defScope s_Zooms_nothing) .none kV_Zooms_nothing dc_Zooms_nothing pm_Zooms_nothing an_Zooms_nothing cd_Zooms_nothing ct_Zooms_nothing), sl_Zooms_nothing⟩) → (K.lookup A_BadZooms___init__ = some ⟨oc_BadZooms___init__, od_BadZooms___init__, .func (PySem.W.fnOf "__init__" "BadZooms.__init__" (defArgs s_BadZooms___init__) (defBody s_BadZooms___init__) (defScope s_BadZooms___init__) .none kV_BadZooms___init__ dc_BadZooms___init__ pm_BadZooms___init__ an_BadZooms___init__ cd_BadZooms___init__ ct_BadZooms___init__), sl_BadZooms___init__⟩) → (K.lookup A_Zooms_beyond = some ⟨oc_Zooms_beyond, od_Zooms_beyond, .func (PySem.W.fnOf "beyond" "Zooms.beyond" (defArgs s_Zooms_beyond) (defBody s_Zooms_beyond) (defScope s_Zooms_beyond) (.ref dT_Zooms_beyond) kV_Zooms_beyond dc_Zooms_beyond pm_Zooms_beyond an_Zooms_beyond cd_Zooms_beyond ct_Zooms_beyond), sl_Zooms_beyond⟩) → (K.lookup A_Zooms_between = some ⟨oc_Zooms_between, od_Zooms_between, .func (PySem.W.fnOf "between" "Zooms.between" (defArgs s_Zooms_between) (defBody s_Zooms_between) (defScope s_Zooms_between) (.ref dT_Zooms_between) kV_Zooms_between dc_Zooms_between pm_Zooms_between an_Zooms_between cd_Zooms_between ct_Zooms_between), sl_Zooms_between⟩) → (K.lookup A_Zooms_mark = some ⟨oc_Zooms_mark, od_Zooms_mark, .func (PySem.W.fnOf "mark" "Zooms.mark" (defArgs s_Zooms_mark) (defBody s_Zooms_mark) (defScope s_Zooms_mark) .none kV_Zooms_mark dc_Zooms_mark pm_Zooms_mark an_Zooms_mark cd_Zooms_mark ct_Zooms_mark), sl_Zooms_mark⟩) → (K.lookup A_Zooms_state_behind = some ⟨oc_Zooms_state_behind, od_Zooms_state_behind, .func (PySem.W.fnOf "state_behind" "Zooms.state_behind" (defArgs s_Zooms_state_behind) (defBody s_Zooms_state_behind) (defScope s_Zooms_state_behind) .none kV_Zooms_state_behind dc_Zooms_state_behind pm_Zooms_state_behind an_Zooms_state_behind cd_Zooms_state_behind ct_Zooms_state_behind), sl_Zooms_state_behind⟩) → (K.lookup A_Zooms___bool__ = some ⟨oc_Zooms___bool__, od_Zooms___bool__, .func (PySem.W.fnOf "__bool__" "Zooms.__bool__" (defArgs s_Zooms___bool__) (defBody s_Zooms___bool__) (defScope s_Zooms___bool__) .none kV_Zooms___bool__ dc_Zooms___bool__ pm_Zooms___bool__ an_Zooms___bool__ cd_Zooms___bool__ ct_Zooms___bool__), sl_Zooms___bool__⟩) → (K.lookup A_Ratio_divided = some ⟨oc_Ratio_divided, od_Ratio_divided, .func (PySem.W.fnOf "divided" "Ratio.divided" (defArgs s_Ratio_divided) (defBody s_Ratio_divided) (defScope s_Ratio_divided) .none kV_Ratio_divided dc_Ratio_divided pm_Ratio_divided an_Ratio_divided cd_Ratio_divided ct_Ratio_divided), sl_Ratio_divided⟩) → (K.lookup A_Ratio___rsub__ = some ⟨oc_Ratio___rsub__, od_Ratio___rsub__, .func (PySem.W.fnOf "__rsub__" "Ratio.__rsub__" (defArgs s_Ratio___rsub__) (defBody s_Ratio___rsub__) (defScope s_Ratio___rsub__) .none kV_Ratio___rsub__ dc_Ratio___rsub__ pm_Ratio___rsub__ an_Ratio___rsub__ cd_Ratio___rsub__ ct_Ratio___rsub__), sl_Ratio___rsub__⟩) → (K.lookup A_Zooms___contains__ = some ⟨oc_Zooms___contains__, od_Zooms___contains__, .func (PySem.W.fnOf "__contains__" "Zooms.__contains__" (defArgs s_Zooms___contains__) (defBody s_Zooms___contains__) (defScope s_Zooms___contains__) .none kV_Zooms___contains__ dc_Zooms___contains__ pm_Zooms___contains__ an_Zooms___contains__ cd_Zooms___contains__ ct_Zooms___contains__), sl_Zooms___contains__⟩) → (K.lookup A_Zooms___eq__ = some ⟨oc_Zooms___eq__, od_Zooms___eq__, .func (PySem.W.fnOf "__eq__" "Zooms.__eq__" (defArgs s_Zooms___eq__) (defBody s_Zooms___eq__) (defScope s_Zooms___eq__) .none kV_Zooms___eq__ dc_Zooms___eq__ pm_Zooms___eq__ an_Zooms___eq__ cd_Zooms___eq__ ct_Zooms___eq__), sl_Zooms___eq__⟩) → (K.lookup A_Zooms___invert__ = some ⟨oc_Zooms___invert__, od_Zooms___invert__, .func (PySem.W.fnOf "__invert__" "Zooms.__invert__" (defArgs s_Zooms___invert__) (defBody s_Zooms___invert__) (defScope s_Zooms___invert__) .none kV_Zooms___invert__ dc_Zooms___invert__ pm_Zooms___invert__ an_Zooms___invert__ cd_Zooms___invert__ ct_Zooms___invert__), sl_Zooms___invert__⟩) → (K.lookup A_Zooms_joined = some ⟨oc_Zooms_joined, od_Zooms_joined, .func (PySem.W.fnOf "joined" "Zooms.joined" (defArgs s_Zooms_joined) (defBody s_Zooms_joined) (defScope s_Zooms_joined) .none kV_Zooms_joined dc_Zooms_joined pm_Zooms_joined an_Zooms_joined cd_Zooms_joined ct_Zooms_joined), sl_Zooms_joined⟩) → (K.lookup A_Zooms___sub__ = some ⟨oc_Zooms___sub__, od_Zooms___sub__, .func (PySem.W.fnOf "__sub__" "Zooms.__sub__" (defArgs s_Zooms___sub__) (defBody s_Zooms___sub__) (defScope s_Zooms___sub__) .none kV_Zooms___sub__ dc_Zooms___sub__ pm_Zooms___sub__ an_Zooms___sub__ cd_Zooms___sub__ ct_Zooms___sub__), sl_Zooms___sub__⟩) → (K.lookup A_common_multiple = some ⟨oc_common_multiple, od_common_multiple, .func (PySem.W.fnOf "common_multiple" "common_multiple" (defArgs s_common_multiple) (defBody s_common_multiple) (defScope s_common_multiple) .none kV_common_multiple dc_common_multiple pm_common_multiple an_common_multiple cd_common_multiple ct_common_multiple), sl_common_multiple⟩) → (K.lookup A_joined_truth = some ⟨oc_joined_truth, od_joined_truth, .func (PySem.W.fnOf "joined_truth" "joined_truth" (defArgs s_joined_truth) (defBody s_joined_truth) (defScope s_joined_truth) .none kV_joined_truth dc_joined_truth pm_joined_truth an_joined_truth cd_joined_truth ct_joined_truth), sl_joined_truth⟩) → (K.lookup A_marks_joined = some ⟨oc_marks_joined, od_marks_joined, .func (PySem.W.fnOf "marks_joined" "marks_joined" (defArgs s_marks_joined) (defBody s_marks_joined) (defScope s_marks_joined) .none kV_marks_joined dc_marks_joined pm_marks_joined an_marks_joined cd_marks_joined ct_marks_joined), sl_marks_joined⟩) → (K.lookup A__law_number = some ⟨oc__law_number, od__law_number, .func (PySem.W.fnOf "_law_number" "_law_number" (defArgs s__law_number) (defBody s__law_number) (defScope s__law_number) .none kV__law_number dc__law_number pm__law_number an__law_number cd__law_number ct__law_number), sl__law_number⟩) → (K.lookup A__law_heard = some ⟨oc__law_heard, od__law_heard, .func (PySem.W.fnOf "_law_heard" "_law_heard" (defArgs s__law_heard) (defBody s__law_heard) (defScope s__law_heard) .none kV__law_heard dc__law_heard pm__law_heard an__law_heard cd__law_heard ct__law_heard), sl__law_heard⟩) → (K.lookup A__law_beside = some ⟨oc__law_beside, od__law_beside, .func (PySem.W.fnOf "_law_beside" "_law_beside" (defArgs s__law_beside) (defBody s__law_beside) (defScope s__law_beside) .none kV__law_beside dc__law_beside pm__law_beside an__law_beside cd__law_beside ct__law_beside), sl__law_beside⟩) → (K.lookup A__law_between_right = some ⟨oc__law_between_right, od__law_between_right, .func (PySem.W.fnOf "_law_between_right" "_law_between_right" (defArgs s__law_between_right) (defBody s__law_between_right) (defScope s__law_between_right) .none kV__law_between_right dc__law_between_right pm__law_between_right an__law_between_right cd__law_between_right ct__law_between_right), sl__law_between_right⟩) → (K.lookup A__law_beyond_right = some ⟨oc__law_beyond_right, od__law_beyond_right, .func (PySem.W.fnOf "_law_beyond_right" "_law_beyond_right" (defArgs s__law_beyond_right) (defBody s__law_beyond_right) (defScope s__law_beyond_right) .none kV__law_beyond_right dc__law_beyond_right pm__law_beyond_right an__law_beyond_right cd__law_beyond_right ct__law_beyond_right), sl__law_beyond_right⟩) → (K.lookup A__law_refused_right = some ⟨oc__law_refused_right, od__law_refused_right, .func (PySem.W.fnOf "_law_refused_right" "_law_refused_right" (defArgs s__law_refused_right) (defBody s__law_refused_right) (defScope s__law_refused_right) .none kV__law_refused_right dc__law_refused_right pm__law_refused_right an__law_refused_right cd__law_refused_right ct__law_refused_right), sl__law_refused_right⟩) → (K.lookup A_law = some ⟨oc_law, od_law, .func (PySem.W.fnOf "law" "law" (defArgs s_law) (defBody s_law) (defScope s_law) .none kV_law dc_law pm_law an_law cd_law ct_law), sl_law⟩) → (K.lookup A_Ratio_common = some ⟨oc_Ratio_common, od_Ratio_common, .func (PySem.W.fnOf "common" "Ratio.common" (defArgs s_Ratio_common) (defBody s_Ratio_common) (defScope s_Ratio_common) .none kV_Ratio_common dc_Ratio_common pm_Ratio_common an_Ratio_common cd_Ratio_common ct_Ratio_common), sl_Ratio_common⟩) → (K.lookup A_Zooms_marks_upto = some ⟨oc_Zooms_marks_upto, od_Zooms_marks_upto, .func (PySem.W.fnOf "marks_upto" "Zooms.marks_upto" (defArgs s_Zooms_marks_upto) (defBody s_Zooms_marks_upto) (defScope s_Zooms_marks_upto) .none kV_Zooms_marks_upto dc_Zooms_marks_upto pm_Zooms_marks_upto an_Zooms_marks_upto cd_Zooms_marks_upto ct_Zooms_marks_upto), sl_Zooms_marks_upto⟩) → (PySem.W.codeIn K cd__law_pen "_law_pen" = true) → (PySem.W.keepIn K (.ref A__law_pen) = true) → (PySem.W.nsIn K mainGlobals "list" = some none) → (PySem.W.codeIn K cd__law_draw "_law_draw" = true) → (PySem.W.keepIn K (.ref A__law_draw) = true) → (PySem.W.nsIn K mainGlobals "int" = some none) → (PySem.W.nsIn K mainGlobals "len" = some none) → (PySem.W.nsIn K mainGlobals "abs" = some none) → (PySem.W.codeIn K cd__law_pick "_law_pick" = true) → (PySem.W.keepIn K (.ref A__law_pick) = true) → (PySem.W.keepIn K (.ref A__law_draw) = true) → (PySem.W.nsIn K mainGlobals "_law_draw" = some (some (.ref A__law_draw))) → (PySem.W.findIn K (.ref A_Ratio) "__class__" = some (some (.builtin "object.__class__"))) → (PySem.W.specialIn K (.builtin "object.__class__") "__get__" = some (some (.builtin "getset_descriptor.__get__"))) → (PySem.W.takesIn K (.builtin "object.__class__") = some true) → (PySem.W.mroIn K A_Ratio (.type "object") = some true) → (PySem.W.plainGet K A_Ratio Str.empty = true) → (PySem.W.hasDictIn K A_Ratio = true) → (PySem.W.plainOver K A_Ratio = true) → (PySem.W.findIn K (.ref A_Ratio) "__setattr__" = some (some (.builtin "object.__setattr__"))) → (PySem.W.subIn K (.ref A_Ratio) (.type "int") = some false) → (PySem.W.subIn K (.ref A_Ratio) (.type "bool") = some false) → (PySem.W.codeIn K cd_is_integer "is_integer" = true) → (PySem.W.keepIn K (.ref A_is_integer) = true) → (PySem.W.nsIn K mainGlobals "isinstance" = some none) → (PySem.W.nsIn K mainGlobals "bool" = some none) → (PySem.W.codeIn K cd_Ratio___init__ "Ratio.__init__" = true) → (PySem.W.keepIn K (.ref A_Ratio___init__) = true) → (K.lookup dT_Ratio___init__ = some ⟨tc_Ratio___init__, td_Ratio___init__, .seq (List.toArray [.int 1 tk0_Ratio___init__]) tn_Ratio___init__, ts_Ratio___init__⟩) → (PySem.W.keepIn K (.ref A_is_integer) = true) → (PySem.W.nsIn K mainGlobals "is_integer" = some (some (.ref A_is_integer))) → (PySem.W.nsIn K mainGlobals "gcd" = some (some (.builtin "math.gcd"))) → (PySem.W.findIn K (.ref A_Ratio) "over" = some none) → (PySem.W.findIn K (.ref A_Ratio) "under" = some none) → (PySem.W.codeIn K cd_Ratio_of "Ratio.of" = true) → (PySem.W.keepIn K (.ref A_Ratio_of) = true) → (PySem.W.nsIn K mainGlobals "Ratio" = some (some (.ref A_Ratio))) → (PySem.W.makesIn K A_Ratio = true) → (PySem.W.findIn K (.ref A_Ratio) "__init__" = some (some (.ref A_Ratio___init__))) → (PySem.W.isFn K (.ref A_Ratio___init__) = true) → (PySem.W.keepIn K (.ref A_Ratio) = true) → (PySem.W.isClsIn K A_Ratio = true) → (PySem.W.typeIn K (.ref A_Ratio) = some (.type "type")) → (PySem.W.subIn K (.type "int") (.ref A_Ratio) = some false) → (PySem.W.codeIn K cd_Ratio___add__ "Ratio.__add__" = true) → (PySem.W.keepIn K (.ref A_Ratio___add__) = true) → (PySem.W.specialIn K (.ref A_Ratio) "__getattribute__" = some (some (.builtin "type.__getattribute__"))) → (PySem.W.keepIn K (.ref A_Ratio_of) = true) → (PySem.W.codeIn K cd_Ratio___sub__ "Ratio.__sub__" = true) → (PySem.W.keepIn K (.ref A_Ratio___sub__) = true) → (PySem.W.codeIn K cd_Ratio___mul__ "Ratio.__mul__" = true) → (PySem.W.keepIn K (.ref A_Ratio___mul__) = true) → (PySem.W.codeIn K cd_Ratio___lt__ "Ratio.__lt__" = true) → (PySem.W.keepIn K (.ref A_Ratio___lt__) = true) → (PySem.W.codeIn K cd_Ratio___le__ "Ratio.__le__" = true) → (PySem.W.keepIn K (.ref A_Ratio___le__) = true) → (PySem.W.codeIn K cd_Ratio___gt__ "Ratio.__gt__" = true) → (PySem.W.keepIn K (.ref A_Ratio___gt__) = true) → (PySem.W.codeIn K cd_Ratio___ge__ "Ratio.__ge__" = true) → (PySem.W.keepIn K (.ref A_Ratio___ge__) = true) → (PySem.W.codeIn K cd_Ratio___eq__ "Ratio.__eq__" = true) → (PySem.W.keepIn K (.ref A_Ratio___eq__) = true) → (PySem.W.codeIn K cd_Ratio_floor "Ratio.floor" = true) → (PySem.W.keepIn K (.ref A_Ratio_floor) = true) → (PySem.W.codeIn K cd_Ratio_ceiling "Ratio.ceiling" = true) → (PySem.W.keepIn K (.ref A_Ratio_ceiling) = true) → (PySem.W.codeIn K cd_Ratio___str__ "Ratio.__str__" = true) → (PySem.W.keepIn K (.ref A_Ratio___str__) = true) → (PySem.W.nsIn K mainGlobals "str" = some none) → (PySem.W.codeIn K cd_Ratio___bool__ "Ratio.__bool__" = true) → (PySem.W.keepIn K (.ref A_Ratio___bool__) = true) → (PySem.W.codeIn K cd_BadRatio___init__ "BadRatio.__init__" = true) → (PySem.W.keepIn K (.ref A_BadRatio___init__) = true) → (PySem.W.readsIn K A_SnapError (.type "type") = true) → (PySem.W.specialIn K (.ref A_SnapError) "__getattribute__" = some (some (.builtin "type.__getattribute__"))) → (PySem.W.findCls K (.ref A_SnapError) (.type "type") "__init__" = some (.val (.builtin "ValueError.__init__"))) → (PySem.W.nsIn K mainGlobals "SnapError" = some (some (.ref A_SnapError))) → (K.lookup A_BadRatio = some (excClassObj "BadRatio" eq_BadRatio A_BadRatio eN_BadRatio eb_BadRatio (.ref A_SnapError :: PySem.HandSPX.veTail) true en_BadRatio eu_BadRatio ea_BadRatio ec_BadRatio ed_BadRatio e0_BadRatio e1_BadRatio e2_BadRatio e3_BadRatio e5_BadRatio "ValueError.__new__")) → (PySem.W.findIn K (.ref A_BadRatio) "__setattr__" = some (some (.builtin "object.__setattr__"))) → (PySem.W.findIn K (.ref A_BadRatio) "__getattribute__" = some (some (.builtin "BaseException.__getattribute__"))) → (PySem.W.findIn K (.ref A_BadRatio) "__getattr__" = some none) → (PySem.W.findIn K (.ref A_BadRatio) "__class__" = some (some (.builtin "object.__class__"))) → (PySem.W.findIn K (.ref A_BadRatio) "__init__" = some (some (.ref A_BadRatio___init__))) → (PySem.W.typeIn K (.ref A_BadRatio___init__) = some (.type "function")) → (PySem.W.keepIn K (.ref A_BadRatio) = true) → (PySem.W.findIn K (.ref A_BadRatio) "value" = some none) → (PySem.W.nsIn K mainGlobals "BadRatio" = some (some (.ref A_BadRatio))) → (PySem.W.codeIn K cd_all_numbers "all_numbers" = true) → (PySem.W.keepIn K (.ref A_all_numbers) = true) → (PySem.W.nsIn K mainGlobals "tuple" = some none) → (PySem.W.codeIn K cd_bound_of "bound_of" = true) → (PySem.W.keepIn K (.ref A_bound_of) = true) → (PySem.W.keepIn K (.ref A_all_numbers) = true) → (PySem.W.nsIn K mainGlobals "all_numbers" = some (some (.ref A_all_numbers))) → (PySem.W.findIn K (.ref A_Ratio) "__gt__" = some (some (.ref A_Ratio___gt__))) → (PySem.W.isFn K (.ref A_Ratio___gt__) = true) → (PySem.W.notFirst K A_Ratio (.type "int") = true) → (PySem.W.findIn K (.ref A_Ratio) "__lt__" = some (some (.ref A_Ratio___lt__))) → (PySem.W.isFn K (.ref A_Ratio___lt__) = true) → (PySem.W.notFirst K A_Ratio (.type "int") = true) → (PySem.W.codeIn K cd_Ratio_highest "Ratio.highest" = true) → (PySem.W.keepIn K (.ref A_Ratio_highest) = true) → (PySem.W.keepIn K (.ref A_bound_of) = true) → (PySem.W.nsIn K mainGlobals "bound_of" = some (some (.ref A_bound_of))) → (PySem.W.codeIn K cd_Ratio_lowest "Ratio.lowest" = true) → (PySem.W.keepIn K (.ref A_Ratio_lowest) = true) → (PySem.W.codeIn K cd_is_number "is_number" = true) → (PySem.W.keepIn K (.ref A_is_number) = true) → (PySem.W.codeIn K cd_is_zoom "is_zoom" = true) → (PySem.W.keepIn K (.ref A_is_zoom) = true) → (PySem.W.keepIn K (.ref A_is_number) = true) → (PySem.W.nsIn K mainGlobals "is_number" = some (some (.ref A_is_number))) → (PySem.W.codeIn K cd_is_place "is_place" = true) → (PySem.W.keepIn K (.ref A_is_place) = true) → (PySem.W.findIn K (.ref A_Ratio) "__ge__" = some (some (.ref A_Ratio___ge__))) → (PySem.W.isFn K (.ref A_Ratio___ge__) = true) → (PySem.W.notFirst K A_Ratio (.type "int") = true) → (PySem.W.codeIn K cd_many_upto "many_upto" = true) → (PySem.W.keepIn K (.ref A_many_upto) = true) → (PySem.W.findIn K (.ref A_Ratio) "__le__" = some (some (.ref A_Ratio___le__))) → (PySem.W.isFn K (.ref A_Ratio___le__) = true) → (PySem.W.notFirst K A_Ratio (.type "int") = true) → (PySem.W.codeIn K cd_state_ahead "state_ahead" = true) → (PySem.W.keepIn K (.ref A_state_ahead) = true) → (PySem.W.codeIn K cd_changing "changing" = true) → (PySem.W.keepIn K (.ref A_changing) = true) → (PySem.W.codeIn K cd_is_mark "is_mark" = true) → (PySem.W.keepIn K (.ref A_is_mark) = true) → (PySem.W.keepIn K (.ref A_is_zoom) = true) → (PySem.W.nsIn K mainGlobals "is_zoom" = some (some (.ref A_is_zoom))) → (PySem.W.codeIn K cd_checked_marks "checked_marks" = true) → (PySem.W.keepIn K (.ref A_checked_marks) = true) → (PySem.W.keepIn K (.ref A_is_mark) = true) → (PySem.W.nsIn K mainGlobals "is_mark" = some (some (.ref A_is_mark))) → (PySem.W.codeIn K cd_least_turn "least_turn" = true) → (PySem.W.keepIn K (.ref A_least_turn) = true) → (PySem.W.codeIn K cd_least_begin "least_begin" = true) → (PySem.W.keepIn K (.ref A_least_begin) = true) → (PySem.W.keepIn K (.ref A_many_upto) = true) → (PySem.W.nsIn K mainGlobals "many_upto" = some (some (.ref A_many_upto))) → (PySem.W.specialIn K (.ref A_Ratio) "__getattribute__" = some (some (.builtin "type.__getattribute__"))) → (PySem.W.keepIn K (.ref A_Ratio_highest) = true) → (PySem.W.findIn K (.ref A_Ratio) "__add__" = some (some (.ref A_Ratio___add__))) → (PySem.W.isFn K (.ref A_Ratio___add__) = true) → (PySem.W.selfFirst K A_Ratio = true) → (PySem.W.findIn K (.ref A_Ratio) "__radd__" = some (some (.ref A_Ratio___radd__))) → (PySem.W.findIn K (.type "int") "__add__" = some fo_Ratio_add) → (PySem.W.findIn K (.type "int") "__radd__" = some ro_Ratio_add) → (PySem.W.subIn K (.type "int") (.ref A_Ratio) = some false) → (PySem.W.findIn K (.ref A_Ratio) "__eq__" = some (some (.ref A_Ratio___eq__))) → (PySem.W.isFn K (.ref A_Ratio___eq__) = true) → (PySem.W.notFirst K A_Ratio (.type "int") = true) → (PySem.W.findIn K (.ref A_Ratio) "__sub__" = some (some (.ref A_Ratio___sub__))) → (PySem.W.isFn K (.ref A_Ratio___sub__) = true) → (PySem.W.selfFirst K A_Ratio = true) → (PySem.W.findIn K (.ref A_Ratio) "__rsub__" = some (some (.ref A_Ratio___rsub__))) → (PySem.W.findIn K (.type "int") "__sub__" = some fo_Ratio_sub) → (PySem.W.findIn K (.type "int") "__rsub__" = some ro_Ratio_sub) → (PySem.W.subIn K (.type "int") (.ref A_Ratio) = some false) → (PySem.W.findIn K (.ref A_Ratio) "__ne__" = some (some (.builtin "object.__ne__"))) → (PySem.W.findIn K (.ref A_Ratio) "__eq__" = some (some (.ref A_Ratio___eq__))) → (PySem.W.isFn K (.ref A_Ratio___eq__) = true) → (PySem.W.mroIn K A_Ratio (.type "object") = some true) → (PySem.W.notFirst K A_Ratio (.type "int") = true) → (PySem.W.codeIn K cd_normal_form "normal_form" = true) → (PySem.W.keepIn K (.ref A_normal_form) = true) → (PySem.W.keepIn K (.ref A_changing) = true) → (PySem.W.nsIn K mainGlobals "changing" = some (some (.ref A_changing))) → (PySem.W.keepIn K (.ref A_least_turn) = true) → (PySem.W.nsIn K mainGlobals "least_turn" = some (some (.ref A_least_turn))) → (PySem.W.keepIn K (.ref A_least_begin) = true) → (PySem.W.nsIn K mainGlobals "least_begin" = some (some (.ref A_least_begin))) → (PySem.W.codeIn K cd_Zooms___init__ "Zooms.__init__" = true) → (PySem.W.keepIn K (.ref A_Zooms___init__) = true) → (PySem.W.keepIn K (.ref A_is_place) = true) → (PySem.W.nsIn K mainGlobals "is_place" = some (some (.ref A_is_place))) → (PySem.W.keepIn K (.ref A_checked_marks) = true) → (PySem.W.nsIn K mainGlobals "checked_marks" = some (some (.ref A_checked_marks))) → (PySem.W.keepIn K (.ref A_state_ahead) = true) → (PySem.W.nsIn K mainGlobals "state_ahead" = some (some (.ref A_state_ahead))) → (PySem.W.keepIn K (.ref A_normal_form) = true) → (PySem.W.nsIn K mainGlobals "normal_form" = some (some (.ref A_normal_form))) → (PySem.W.plainGet K A_Zooms Str.empty = true) → (PySem.W.hasDictIn K A_Zooms = true) → (PySem.W.plainOver K A_Zooms = true) → (PySem.W.findIn K (.ref A_Zooms) "__setattr__" = some (some (.builtin "object.__setattr__"))) → (PySem.W.findIn K (.ref A_Zooms) "begin" = some none) → (PySem.W.findIn K (.ref A_Zooms) "turn" = some none) → (PySem.W.findIn K (.ref A_Zooms) "marks" = some none) → (PySem.W.findIn K (.ref A_Zooms) "is_first" = some none) → (PySem.W.findIn K (.ref A_Zooms) "once" = some none) → (PySem.W.codeIn K cd_Zooms_everything "Zooms.everything" = true) → (PySem.W.keepIn K (.ref A_Zooms_everything) = true) → (PySem.W.makesIn K A_Zooms = true) → (PySem.W.findIn K (.ref A_Zooms) "__init__" = some (some (.ref A_Zooms___init__))) → (PySem.W.isFn K (.ref A_Zooms___init__) = true) → (PySem.W.keepIn K (.ref A_Zooms) = true) → (PySem.W.nsIn K mainGlobals "Zooms" = some (some (.ref A_Zooms))) → (PySem.W.codeIn K cd_Zooms_nothing "Zooms.nothing" = true) → (PySem.W.keepIn K (.ref A_Zooms_nothing) = true) → (PySem.W.codeIn K cd_BadZooms___init__ "BadZooms.__init__" = true) → (PySem.W.keepIn K (.ref A_BadZooms___init__) = true) → (K.lookup A_BadZooms = some (excClassObj "BadZooms" eq_BadZooms A_BadZooms eN_BadZooms eb_BadZooms (.ref A_SnapError :: PySem.HandSPX.veTail) true en_BadZooms eu_BadZooms ea_BadZooms ec_BadZooms ed_BadZooms e0_BadZooms e1_BadZooms e2_BadZooms e3_BadZooms e5_BadZooms "ValueError.__new__")) → (PySem.W.findIn K (.ref A_BadZooms) "__setattr__" = some (some (.builtin "object.__setattr__"))) → (PySem.W.findIn K (.ref A_BadZooms) "__getattribute__" = some (some (.builtin "BaseException.__getattribute__"))) → (PySem.W.findIn K (.ref A_BadZooms) "__getattr__" = some none) → (PySem.W.findIn K (.ref A_BadZooms) "__class__" = some (some (.builtin "object.__class__"))) → (PySem.W.findIn K (.ref A_BadZooms) "__init__" = some (some (.ref A_BadZooms___init__))) → (PySem.W.typeIn K (.ref A_BadZooms___init__) = some (.type "function")) → (PySem.W.keepIn K (.ref A_BadZooms) = true) → (PySem.W.findIn K (.ref A_BadZooms) "part" = some none) → (PySem.W.codeIn K cd_Zooms_beyond "Zooms.beyond" = true) → (PySem.W.keepIn K (.ref A_Zooms_beyond) = true) → (K.lookup dT_Zooms_beyond = some ⟨tc_Zooms_beyond, td_Zooms_beyond, .seq (List.toArray [.bool true]) tn_Zooms_beyond, ts_Zooms_beyond⟩) → (PySem.W.nsIn K mainGlobals "BadZooms" = some (some (.ref A_BadZooms))) → (PySem.W.codeIn K cd_Zooms_between "Zooms.between" = true) → (PySem.W.keepIn K (.ref A_Zooms_between) = true) → (K.lookup dT_Zooms_between = some ⟨tc_Zooms_between, td_Zooms_between, .seq (List.toArray [.bool true, .bool true]) tn_Zooms_between, ts_Zooms_between⟩) → (PySem.W.codeIn K cd_Zooms_mark "Zooms.mark" = true) → (PySem.W.keepIn K (.ref A_Zooms_mark) = true) → (PySem.W.codeIn K cd_Zooms_state_behind "Zooms.state_behind" = true) → (PySem.W.keepIn K (.ref A_Zooms_state_behind) = true) → (PySem.W.findIn K (.ref A_Zooms) "mark" = some (some (.ref A_Zooms_mark))) → (PySem.W.isFn K (.ref A_Zooms_mark) = true) → (PySem.W.keepIn K (.ref A_Zooms_mark) = true) → (PySem.W.codeIn K cd_Zooms___bool__ "Zooms.__bool__" = true) → (PySem.W.keepIn K (.ref A_Zooms___bool__) = true) → (PySem.W.codeIn K cd_Ratio_divided "Ratio.divided" = true) → (PySem.W.keepIn K (.ref A_Ratio_divided) = true) → (PySem.W.codeIn K cd_Ratio___rsub__ "Ratio.__rsub__" = true) → (PySem.W.keepIn K (.ref A_Ratio___rsub__) = true) → (PySem.W.findIn K (.ref A_Zooms) "__contains__" = some (some (.ref A_Zooms___contains__))) → (PySem.W.isFn K (.ref A_Zooms___contains__) = true) → (PySem.W.codeIn K cd_Zooms___contains__ "Zooms.__contains__" = true) → (PySem.W.keepIn K (.ref A_Zooms___contains__) = true) → (PySem.W.codeIn K cd_Zooms___eq__ "Zooms.__eq__" = true) → (PySem.W.keepIn K (.ref A_Zooms___eq__) = true) → (PySem.W.codeIn K cd_Zooms___invert__ "Zooms.__invert__" = true) → (PySem.W.keepIn K (.ref A_Zooms___invert__) = true) → (PySem.W.codeIn K cd_Zooms_joined "Zooms.joined" = true) → (PySem.W.keepIn K (.ref A_Zooms_joined) = true) → (PySem.W.codeIn K cd_Zooms___sub__ "Zooms.__sub__" = true) → (PySem.W.keepIn K (.ref A_Zooms___sub__) = true) → (PySem.W.codeIn K cd_common_multiple "common_multiple" = true) → (PySem.W.keepIn K (.ref A_common_multiple) = true) → (PySem.W.codeIn K cd_joined_truth "joined_truth" = true) → (PySem.W.keepIn K (.ref A_joined_truth) = true) → (PySem.W.codeIn K cd_marks_joined "marks_joined" = true) → (PySem.W.keepIn K (.ref A_marks_joined) = true) → (PySem.W.codeIn K cd__law_number "_law_number" = true) → (PySem.W.keepIn K (.ref A__law_number) = true) → (PySem.W.codeIn K cd__law_heard "_law_heard" = true) → (PySem.W.keepIn K (.ref A__law_heard) = true) → (PySem.W.codeIn K cd__law_beside "_law_beside" = true) → (PySem.W.keepIn K (.ref A__law_beside) = true) → (PySem.W.codeIn K cd__law_between_right "_law_between_right" = true) → (PySem.W.keepIn K (.ref A__law_between_right) = true) → (PySem.W.codeIn K cd__law_beyond_right "_law_beyond_right" = true) → (PySem.W.keepIn K (.ref A__law_beyond_right) = true) → (PySem.W.codeIn K cd__law_refused_right "_law_refused_right" = true) → (PySem.W.keepIn K (.ref A__law_refused_right) = true) → (PySem.W.codeIn K cd_law "law" = true) → (PySem.W.keepIn K (.ref A_law) = true) → (PySem.W.findIn K (.ref A_Zooms) "__invert__" = some (some (.ref A_Zooms___invert__))) → (PySem.W.isFn K (.ref A_Zooms___invert__) = true) → (PySem.W.findIn K (.ref A_Zooms) "__eq__" = some (some (.ref A_Zooms___eq__))) → (PySem.W.isFn K (.ref A_Zooms___eq__) = true) → (PySem.W.notFirst K A_Zooms (.type "int") = true) → (PySem.W.findIn K (.ref A_Zooms) "__ne__" = some (some (.builtin "object.__ne__"))) → (PySem.W.findIn K (.ref A_Zooms) "__eq__" = some (some (.ref A_Zooms___eq__))) → (PySem.W.isFn K (.ref A_Zooms___eq__) = true) → (PySem.W.mroIn K A_Zooms (.type "object") = some true) → (PySem.W.notFirst K A_Zooms (.type "int") = true) → (PySem.W.findIn K (.ref A_Zooms) "__sub__" = some (some (.ref A_Zooms___sub__))) → (PySem.W.isFn K (.ref A_Zooms___sub__) = true) → (PySem.W.selfFirst K A_Zooms = true) → (PySem.W.findIn K (.ref A_Zooms) "__rsub__" = some (none)) → (PySem.W.findIn K (.type "int") "__sub__" = some fo_Zooms_sub) → (PySem.W.findIn K (.type "int") "__rsub__" = some ro_Zooms_sub) → (PySem.W.subIn K (.type "int") (.ref A_Zooms) = some false) → (PySem.W.findIn K (.ref A_Zooms) "__bool__" = some (some (.ref A_Zooms___bool__))) → (PySem.W.isFn K (.ref A_Zooms___bool__) = true) → (PySem.W.findIn K (.ref A_Zooms) "marks_upto" = some (some (.ref A_Zooms_marks_upto))) → (PySem.W.isFn K (.ref A_Zooms_marks_upto) = true) → (PySem.W.keepIn K (.ref A_Zooms_marks_upto) = true) → (PySem.W.findIn K (.ref A_Zooms) "state_behind" = some (some (.ref A_Zooms_state_behind))) → (PySem.W.isFn K (.ref A_Zooms_state_behind) = true) → (PySem.W.keepIn K (.ref A_Zooms_state_behind) = true) → (PySem.W.findIn K (.ref A_Zooms) "joined" = some (some (.ref A_Zooms_joined))) → (PySem.W.isFn K (.ref A_Zooms_joined) = true) → (PySem.W.keepIn K (.ref A_Zooms_joined) = true) → (PySem.W.findIn K (.ref A_Ratio) "divided" = some (some (.ref A_Ratio_divided))) → (PySem.W.isFn K (.ref A_Ratio_divided) = true) → (PySem.W.keepIn K (.ref A_Ratio_divided) = true) → (PySem.W.findIn K (.ref A_Ratio) "ceiling" = some (some (.ref A_Ratio_ceiling))) → (PySem.W.isFn K (.ref A_Ratio_ceiling) = true) → (PySem.W.keepIn K (.ref A_Ratio_ceiling) = true) → (PySem.W.codeIn K cd_Ratio_common "Ratio.common" = true) → (PySem.W.keepIn K (.ref A_Ratio_common) = true) → (PySem.W.specialIn K (.ref A_Ratio) "__getattribute__" = some (some (.builtin "type.__getattribute__"))) → (PySem.W.keepIn K (.ref A_Ratio_common) = true) → (PySem.W.specialIn K (.ref A_Ratio) "__getattribute__" = some (some (.builtin "type.__getattribute__"))) → (PySem.W.keepIn K (.ref A_Ratio_lowest) = true) → (PySem.W.specialIn K (.ref A_Zooms) "__getattribute__" = some (some (.builtin "type.__getattribute__"))) → (PySem.W.keepIn K (.ref A_Zooms_between) = true) → (PySem.W.specialIn K (.ref A_Zooms) "__getattribute__" = some (some (.builtin "type.__getattribute__"))) → (PySem.W.keepIn K (.ref A_Zooms_beyond) = true) → (PySem.W.specialIn K (.ref A_Zooms) "__getattribute__" = some (some (.builtin "type.__getattribute__"))) → (PySem.W.keepIn K (.ref A_Zooms_everything) = true) → (PySem.W.specialIn K (.ref A_Zooms) "__getattribute__" = some (some (.builtin "type.__getattribute__"))) → (PySem.W.keepIn K (.ref A_Zooms_nothing) = true) → (PySem.W.keepIn K (.ref A_marks_joined) = true) → (PySem.W.nsIn K mainGlobals "marks_joined" = some (some (.ref A_marks_joined))) → (PySem.W.keepIn K (.ref A_joined_truth) = true) → (PySem.W.nsIn K mainGlobals "joined_truth" = some (some (.ref A_joined_truth))) → (PySem.W.keepIn K (.ref A_common_multiple) = true) → (PySem.W.nsIn K mainGlobals "common_multiple" = some (some (.ref A_common_multiple))) → (PySem.W.nsIn K mainGlobals "range" = some none) → (PySem.W.findIn K (.ref A_Zooms) "__class__" = some (some (.builtin "object.__class__"))) → (PySem.W.specialIn K (.builtin "object.__class__") "__get__" = some (some (.builtin "getset_descriptor.__get__"))) → (PySem.W.takesIn K (.builtin "object.__class__") = some true) → (PySem.W.mroIn K A_Zooms (.type "object") = some true) → (PySem.W.readsIn K A_Zooms (.type "type") = true) → (PySem.W.specialIn K (.ref A_Zooms) "__getattribute__" = some (some (.builtin "type.__getattribute__"))) → (PySem.W.findCls K (.ref A_Zooms) (.type "type") "MOST_MARKS" = some (.val (.int 3000 tk0_cv_Zooms_MOST_MARKS))) → (PySem.W.findIn K (.ref A_Ratio) "__sub__" = some (some (.ref A_Ratio___sub__))) → (PySem.W.findIn K (.ref A_Ratio) "__rsub__" = some (some (.ref A_Ratio___rsub__))) → (PySem.W.isFn K (.ref A_Ratio___rsub__) = true) → (PySem.W.selfFirst K A_Ratio = true) → (PySem.W.subIn K (.ref A_Ratio) (.type "int") = some false) → (PySem.W.findIn K (.ref A_Ratio) "__bool__" = some (some (.ref A_Ratio___bool__))) → (PySem.W.isFn K (.ref A_Ratio___bool__) = true) → (PySem.W.nsIn K mainGlobals "law" = some (some (.ref A_law))) → (K.lookup A_SnapError = some (excClassObj "SnapError" eq_SnapError A_SnapError eN_SnapError eb_SnapError PySem.HandSPX.veTail true en_SnapError eu_SnapError ea_SnapError ec_SnapError ed_SnapError e0_SnapError e1_SnapError e2_SnapError e3_SnapError e5_SnapError "ValueError.__new__")) → (PySem.W.specialIn K (.builtin "object.__class__") "__get__" = some (some (.builtin "getset_descriptor.__get__"))) → (PySem.W.takesIn K (.builtin "object.__class__") = some true) → (PySem.W.nsIn K mainGlobals "_law_number" = some (some (.ref A__law_number))) → (PySem.W.keepIn K (.ref A__law_number) = true) → (PySem.W.nsIn K mainGlobals "_law_heard" = some (some (.ref A__law_heard))) → (PySem.W.keepIn K (.ref A__law_heard) = true) → (PySem.W.nsIn K mainGlobals "_law_beside" = some (some (.ref A__law_beside))) → (PySem.W.keepIn K (.ref A__law_beside) = true) → (PySem.W.nsIn K mainGlobals "_law_between_right" = some (some (.ref A__law_between_right))) → (PySem.W.keepIn K (.ref A__law_between_right) = true) → (PySem.W.nsIn K mainGlobals "_law_beyond_right" = some (some (.ref A__law_beyond_right))) → (PySem.W.keepIn K (.ref A__law_beyond_right) = true) → (PySem.W.nsIn K mainGlobals "_law_refused_right" = some (some (.ref A__law_refused_right))) → (PySem.W.keepIn K (.ref A__law_refused_right) = true) → (PySem.W.nsIn K mainGlobals "_law_pen" = some (some (.ref A__law_pen))) → (PySem.W.keepIn K (.ref A__law_pen) = true) → (PySem.W.nsIn K mainGlobals "_law_pick" = some (some (.ref A__law_pick))) → (PySem.W.keepIn K (.ref A__law_pick) = true) → (PySem.W.notFirst K A_Zooms (.type "bool") = true) → (PySem.W.codeIn K cd_Zooms_marks_upto "Zooms.marks_upto" = true) → (PySem.W.keepIn K (.ref A_Zooms_marks_upto) = true) → (PySem.W.findIn K (.ref A_Ratio) "__mul__" = some (some (.ref A_Ratio___mul__))) → (PySem.W.isFn K (.ref A_Ratio___mul__) = true) → (PySem.W.selfFirst K A_Ratio = true) → (PySem.W.findIn K (.ref A_Ratio) "__rmul__" = some (some (.ref A_Ratio___rmul__))) → (PySem.W.findIn K (.type "int") "__mul__" = some fo_Ratio_mul) → (PySem.W.findIn K (.type "int") "__rmul__" = some ro_Ratio_mul) → (PySem.W.subIn K (.type "int") (.ref A_Ratio) = some false) → (K.lookup A_law = some ⟨oc2_law, od2_law, .func (PySem.W.fnOf "law" "law" (defArgs s_law) (defBody s_law) (defScope s_law) .none kV2_law dc2_law pm2_law an2_law (.ref A_cc_law) ct2_law), sl2_law⟩) → (K.lookup A_cc_law = some ⟨cd2_law, td2_law, .fields (List.toArray fv_law), ts2_law⟩) → (fv_law[11]? = some (.ref A_cp_law)) → (K.lookup A_cp_law = none) → (PySem.W.codeHdIn K A_cc_law A_cp_law = true) → (K.lookup A__law_between_right = some ⟨oc2__law_between_right, od2__law_between_right, .func (PySem.W.fnOf "_law_between_right" "_law_between_right" (defArgs s__law_between_right) (defBody s__law_between_right) (defScope s__law_between_right) .none kV2__law_between_right dc2__law_between_right pm2__law_between_right an2__law_between_right (.ref A_cc__law_between_right) ct2__law_between_right), sl2__law_between_right⟩) → (K.lookup A_cc__law_between_right = some ⟨cd2__law_between_right, td2__law_between_right, .fields (List.toArray fv__law_between_right), ts2__law_between_right⟩) → (fv__law_between_right[11]? = some (.ref A_cp__law_between_right)) → (K.lookup A_cp__law_between_right = none) → (PySem.W.codeHdIn K A_cc__law_between_right A_cp__law_between_right = true) → (K.lookup A__law_refused_right = some ⟨oc2__law_refused_right, od2__law_refused_right, .func (PySem.W.fnOf "_law_refused_right" "_law_refused_right" (defArgs s__law_refused_right) (defBody s__law_refused_right) (defScope s__law_refused_right) .none kV2__law_refused_right dc2__law_refused_right pm2__law_refused_right an2__law_refused_right (.ref A_cc__law_refused_right) ct2__law_refused_right), sl2__law_refused_right⟩) → (K.lookup A_cc__law_refused_right = some ⟨cd2__law_refused_right, td2__law_refused_right, .fields (List.toArray fv__law_refused_right), ts2__law_refused_right⟩) → (fv__law_refused_right[11]? = some (.ref A_cp__law_refused_right)) → (K.lookup A_cp__law_refused_right = none) → (PySem.W.codeHdIn K A_cc__law_refused_right A_cp__law_refused_right = true) → (PySem.W.specialIn K (.builtin "object.__class__") "__get__" = some (some (.builtin "getset_descriptor.__get__"))) → (PySem.W.takesIn K (.builtin "object.__class__") = some true) → (PySem.W.isClsIn K A_Ratio = true) → (PySem.W.typeIn K (.ref A_Ratio) = some (.type "type")) → (PySem.W.subIn K (.type "NoneType") (.ref A_Ratio) = some false) → (PySem.W.notFirst K A_Ratio (.type "NoneType") = true) → (PySem.W.isClsIn K A_Ratio = true) → (PySem.W.typeIn K (.ref A_Ratio) = some (.type "type")) → (PySem.W.subIn K (.type "bool") (.ref A_Ratio) = some false) → (PySem.W.notFirst K A_Ratio (.type "bool") = true) → (PySem.W.isClsIn K A_Ratio = true) → (PySem.W.typeIn K (.ref A_Ratio) = some (.type "type")) → (PySem.W.subIn K (.type "str") (.ref A_Ratio) = some false) → (PySem.W.notFirst K A_Ratio (.type "str") = true) → (PySem.W.isClsIn K A_Ratio = true) → (PySem.W.typeIn K (.ref A_Ratio) = some (.type "type")) → (PySem.W.subIn K (.type "tuple") (.ref A_Ratio) = some false) → (PySem.W.notFirst K A_Ratio (.type "tuple") = true) → (PySem.W.isClsIn K A_Ratio = true) → (PySem.W.typeIn K (.ref A_Ratio) = some (.type "type")) → (PySem.W.subIn K (.type "list") (.ref A_Ratio) = some false) → (PySem.W.notFirst K A_Ratio (.type "list") = true) → (A_cp_law ≠ A_cp__law_between_right) → (A_cp_law ≠ A_cp__law_refused_right) → (A_cp__law_between_right ≠ A_cp__law_refused_right) → C) → C
open PySem PySem.W PyProof.Rows in
set_option maxRecDepth 100000 in
set_option maxHeartbeats 0 in
theorem pre (F : ∀ {q : Program} {loose : List Str} {XP : (Str → Option Value) → Heap → Prop} {YP : World → Heap → Prop} {r : DefRec} {K : Params → PySem.W.Frag}, r.params.defaults = [] → r.name = "law" → (∀ (w : World) (h : Heap), YP w h → (K w.params).In h) → ((PyProof.Rows.recsOf q).any fun e => e.name == "law") = true → ((PyProof.Rows.recsOf q).any fun e => e.name == "_law_between_right") = true → ((PyProof.Rows.recsOf q).any fun e => e.name == "_law_refused_right") = true → (∀ (w : World) (mg : Str → Option Value) (h : Heap), (K w.params).In h → h.Ns mainGlobals mg → Wants (K w.params) mg) →
    PySem.W.WalkO q loose XP YP (PySem.Challenge.rw_allzooms_k24_zooms_between_and_beyond).row.toRowW r [] (fun f vs => PySem.call f vs)) : PySem.Challenge.rw_allzooms_k24_zooms_between_and_beyond.Holds := by
  w_on; o_law; k_headL; (case hw => w_witness2)
  intro F
  k_fill
  refine F rfl rfl (fun w h Y => PySem.W.kIn_of Y) (by decide +kernel) (by decide +kernel) (by decide +kernel) ?_
  intro w mg h KX G C k
  refine' k ?L__law_pen ?L__law_draw ?L__law_pick ?L_Ratio ?L_is_integer ?L_SnapError ?L_BadRatio ?L_all_numbers ?L_bound_of ?L_is_number ?L_is_zoom ?L_is_place ?L_many_upto ?L_state_ahead ?L_changing ?L_is_mark ?L_checked_marks ?L_least_turn ?L_least_begin ?L_normal_form ?L_Zooms ?L_BadZooms ?L_common_multiple ?L_joined_truth ?L_marks_joined ?L__law_number ?L__law_heard ?L__law_beside ?L__law_between_right ?L__law_beyond_right ?L__law_refused_right ?L_law ?L_Ratio___init__ ?L_Ratio___add__ ?L_Ratio___sub__ ?L_Ratio___mul__ ?L_Ratio___lt__ ?L_Ratio___le__ ?L_Ratio___gt__ ?L_Ratio___ge__ ?L_Ratio___eq__ ?L_Ratio_floor ?L_Ratio_ceiling ?L_Ratio___str__ ?L_Ratio___bool__ ?L_BadRatio___init__ ?L_Ratio___radd__ ?L_Ratio___rsub__ ?L_Zooms___init__ ?L_BadZooms___init__ ?L_Zooms_mark ?L_Zooms_state_behind ?L_Zooms___bool__ ?L_Ratio_divided ?L_Zooms___contains__ ?L_Zooms___eq__ ?L_Zooms___invert__ ?L_Zooms_joined ?L_Zooms___sub__ ?L_Zooms_marks_upto ?L_Ratio___rmul__ ?s_Ratio_of_r ?s_Ratio_highest_r ?s_Ratio_common_r ?s_Ratio_lowest_r ?s_Zooms_between_r ?s_Zooms_beyond_r ?s_Zooms_everything_r ?s_Zooms_nothing_r ?s_Ratio_of_a ?s_Ratio_highest_a ?s_Ratio_common_a ?s_Ratio_lowest_a ?s_Zooms_between_a ?s_Zooms_beyond_a ?s_Zooms_everything_a ?s_Zooms_nothing_a ?s_Ratio_of_q ?s_Ratio_highest_q ?s_Ratio_common_q ?s_Ratio_lowest_q ?s_Zooms_between_q ?s_Zooms_beyond_q ?s_Zooms_everything_q ?s_Zooms_nothing_q ?F__law_pen_l ?F__law_draw_l ?F__law_pick_l ?F_is_integer_l ?D_Ratio___init___l ?F_Ratio_of_l ?F_Ratio___add___l ?F_Ratio___sub___l ?F_Ratio___mul___l ?F_Ratio___lt___l ?F_Ratio___le___l ?F_Ratio___gt___l ?F_Ratio___ge___l ?F_Ratio___eq___l ?F_Ratio_floor_l ?F_Ratio_ceiling_l ?F_Ratio___str___l ?F_Ratio___bool___l ?F_BadRatio___init___l ?F_all_numbers_l ?F_bound_of_l ?F_Ratio_highest_l ?F_Ratio_lowest_l ?F_is_number_l ?F_is_zoom_l ?F_is_place_l ?F_many_upto_l ?F_state_ahead_l ?F_changing_l ?F_is_mark_l ?F_checked_marks_l ?F_least_turn_l ?F_least_begin_l ?F_normal_form_l ?F_Zooms___init___l ?F_Zooms_everything_l ?F_Zooms_nothing_l ?F_BadZooms___init___l ?D_Zooms_beyond_l ?D_Zooms_between_l ?F_Zooms_mark_l ?F_Zooms_state_behind_l ?F_Zooms___bool___l ?F_Ratio_divided_l ?F_Ratio___rsub___l ?F_Zooms___contains___l ?F_Zooms___eq___l ?F_Zooms___invert___l ?F_Zooms_joined_l ?F_Zooms___sub___l ?F_common_multiple_l ?F_joined_truth_l ?F_marks_joined_l ?F__law_number_l ?F__law_heard_l ?F__law_beside_l ?F__law_between_right_l ?F__law_beyond_right_l ?F__law_refused_right_l ?F_law_l ?F_Ratio_common_l ?F_Zooms_marks_upto_l ?F__law_pen_c ?F__law_pen_k ?n_list_a ?F__law_draw_c ?F__law_draw_k ?n_int_a ?n_len_a ?n_abs_a ?F__law_pick_c ?F__law_pick_k ?k__law_draw_a ?m__law_draw_a ?y_Ratio_a ?y_Ratio_n ?y_Ratio_t ?y_Ratio_m ?c_Ratio_p ?c_Ratio_h ?c_Ratio_o ?c_Ratio_s ?i_Ratio_is_int_a ?i_Ratio_is_bool_a ?F_is_integer_c ?F_is_integer_k ?n_isinstance_a ?n_bool_a ?D_Ratio___init___c ?D_Ratio___init___k ?D_Ratio___init___t ?k_is_integer_a ?m_is_integer_a ?m_gcd_a ?a_Ratio_over_a ?a_Ratio_under_a ?F_Ratio_of_c ?F_Ratio_of_k ?m_Ratio_a ?mk_Ratio_m ?mk_Ratio_i ?mk_Ratio_f ?mk_Ratio_k ?i_int_is_Ratio_c ?i_int_is_Ratio_t ?i_int_is_Ratio_a ?F_Ratio___add___c ?F_Ratio___add___k ?s_Ratio_of_g ?s_Ratio_of_k ?F_Ratio___sub___c ?F_Ratio___sub___k ?F_Ratio___mul___c ?F_Ratio___mul___k ?F_Ratio___lt___c ?F_Ratio___lt___k ?F_Ratio___le___c ?F_Ratio___le___k ?F_Ratio___gt___c ?F_Ratio___gt___k ?F_Ratio___ge___c ?F_Ratio___ge___k ?F_Ratio___eq___c ?F_Ratio___eq___k ?F_Ratio_floor_c ?F_Ratio_floor_k ?F_Ratio_ceiling_c ?F_Ratio_ceiling_k ?F_Ratio___str___c ?F_Ratio___str___k ?n_str_a ?F_Ratio___bool___c ?F_Ratio___bool___k ?F_BadRatio___init___c ?F_BadRatio___init___k ?vi_SnapError_r ?vi_SnapError_g ?vi_SnapError_v ?m_SnapError_a ?ex_BadRatio_l ?ex_BadRatio_s ?ex_BadRatio_g ?ex_BadRatio_h ?ex_BadRatio_c ?ex_BadRatio_i ?ex_BadRatio_f ?ex_BadRatio_k ?a_BadRatio_value_a ?m_BadRatio_a ?F_all_numbers_c ?F_all_numbers_k ?n_tuple_a ?F_bound_of_c ?F_bound_of_k ?k_all_numbers_a ?m_all_numbers_a ?q_Ratio_gt_s ?q_Ratio_gt_f ?q_Ratio_gt_n ?q_Ratio_lt_s ?q_Ratio_lt_f ?q_Ratio_lt_n ?F_Ratio_highest_c ?F_Ratio_highest_k ?k_bound_of_a ?m_bound_of_a ?F_Ratio_lowest_c ?F_Ratio_lowest_k ?F_is_number_c ?F_is_number_k ?F_is_zoom_c ?F_is_zoom_k ?k_is_number_a ?m_is_number_a ?F_is_place_c ?F_is_place_k ?q_Ratio_ge_s ?q_Ratio_ge_f ?q_Ratio_ge_n ?F_many_upto_c ?F_many_upto_k ?q_Ratio_le_s ?q_Ratio_le_f ?q_Ratio_le_n ?F_state_ahead_c ?F_state_ahead_k ?F_changing_c ?F_changing_k ?F_is_mark_c ?F_is_mark_k ?k_is_zoom_a ?m_is_zoom_a ?F_checked_marks_c ?F_checked_marks_k ?k_is_mark_a ?m_is_mark_a ?F_least_turn_c ?F_least_turn_k ?F_least_begin_c ?F_least_begin_k ?k_many_upto_a ?m_many_upto_a ?s_Ratio_highest_g ?s_Ratio_highest_k ?b_Ratio_add_s ?b_Ratio_add_f ?b_Ratio_add_c ?b_Ratio_add_r ?b_Ratio_add_t ?b_Ratio_add_u ?b_Ratio_add_w ?q_Ratio_eq_s ?q_Ratio_eq_f ?q_Ratio_eq_n ?b_Ratio_sub_s ?b_Ratio_sub_f ?b_Ratio_sub_c ?b_Ratio_sub_r ?b_Ratio_sub_t ?b_Ratio_sub_u ?b_Ratio_sub_w ?z_Ratio_e ?z_Ratio_s ?z_Ratio_f ?z_Ratio_m ?z_Ratio_n ?F_normal_form_c ?F_normal_form_k ?k_changing_a ?m_changing_a ?k_least_turn_a ?m_least_turn_a ?k_least_begin_a ?m_least_begin_a ?F_Zooms___init___c ?F_Zooms___init___k ?k_is_place_a ?m_is_place_a ?k_checked_marks_a ?m_checked_marks_a ?k_state_ahead_a ?m_state_ahead_a ?k_normal_form_a ?m_normal_form_a ?c_Zooms_p ?c_Zooms_h ?c_Zooms_o ?c_Zooms_s ?a_Zooms_begin_a ?a_Zooms_turn_a ?a_Zooms_marks_a ?a_Zooms_is_first_a ?a_Zooms_once_a ?F_Zooms_everything_c ?F_Zooms_everything_k ?mk_Zooms_m ?mk_Zooms_i ?mk_Zooms_f ?mk_Zooms_k ?m_Zooms_a ?F_Zooms_nothing_c ?F_Zooms_nothing_k ?F_BadZooms___init___c ?F_BadZooms___init___k ?ex_BadZooms_l ?ex_BadZooms_s ?ex_BadZooms_g ?ex_BadZooms_h ?ex_BadZooms_c ?ex_BadZooms_i ?ex_BadZooms_f ?ex_BadZooms_k ?a_BadZooms_part_a ?D_Zooms_beyond_c ?D_Zooms_beyond_k ?D_Zooms_beyond_t ?m_BadZooms_a ?D_Zooms_between_c ?D_Zooms_between_k ?D_Zooms_between_t ?F_Zooms_mark_c ?F_Zooms_mark_k ?F_Zooms_state_behind_c ?F_Zooms_state_behind_k ?h_Zooms_mark_a ?h_Zooms_mark_f ?h_Zooms_mark_k ?F_Zooms___bool___c ?F_Zooms___bool___k ?F_Ratio_divided_c ?F_Ratio_divided_k ?F_Ratio___rsub___c ?F_Ratio___rsub___k ?in_Zooms_s ?in_Zooms_f ?F_Zooms___contains___c ?F_Zooms___contains___k ?F_Zooms___eq___c ?F_Zooms___eq___k ?F_Zooms___invert___c ?F_Zooms___invert___k ?F_Zooms_joined_c ?F_Zooms_joined_k ?F_Zooms___sub___c ?F_Zooms___sub___k ?F_common_multiple_c ?F_common_multiple_k ?F_joined_truth_c ?F_joined_truth_k ?F_marks_joined_c ?F_marks_joined_k ?F__law_number_c ?F__law_number_k ?F__law_heard_c ?F__law_heard_k ?F__law_beside_c ?F__law_beside_k ?F__law_between_right_c ?F__law_between_right_k ?F__law_beyond_right_c ?F__law_beyond_right_k ?F__law_refused_right_c ?F__law_refused_right_k ?F_law_c ?F_law_k ?u_Zooms_invert_s ?u_Zooms_invert_f ?q_Zooms_eq_s ?q_Zooms_eq_f ?q_Zooms_eq_n ?z_Zooms_e ?z_Zooms_s ?z_Zooms_f ?z_Zooms_m ?z_Zooms_n ?b_Zooms_sub_s ?b_Zooms_sub_f ?b_Zooms_sub_c ?b_Zooms_sub_r ?b_Zooms_sub_t ?b_Zooms_sub_u ?b_Zooms_sub_w ?bo_Zooms_s ?bo_Zooms_f ?h_Zooms_marks_upto_a ?h_Zooms_marks_upto_f ?h_Zooms_marks_upto_k ?h_Zooms_state_behind_a ?h_Zooms_state_behind_f ?h_Zooms_state_behind_k ?h_Zooms_joined_a ?h_Zooms_joined_f ?h_Zooms_joined_k ?h_Ratio_divided_a ?h_Ratio_divided_f ?h_Ratio_divided_k ?h_Ratio_ceiling_a ?h_Ratio_ceiling_f ?h_Ratio_ceiling_k ?F_Ratio_common_c ?F_Ratio_common_k ?s_Ratio_common_g ?s_Ratio_common_k ?s_Ratio_lowest_g ?s_Ratio_lowest_k ?s_Zooms_between_g ?s_Zooms_between_k ?s_Zooms_beyond_g ?s_Zooms_beyond_k ?s_Zooms_everything_g ?s_Zooms_everything_k ?s_Zooms_nothing_g ?s_Zooms_nothing_k ?k_marks_joined_a ?m_marks_joined_a ?k_joined_truth_a ?m_joined_truth_a ?k_common_multiple_a ?m_common_multiple_a ?n_range_a ?y_Zooms_a ?y_Zooms_n ?y_Zooms_t ?y_Zooms_m ?cv_Zooms_MOST_MARKS_r ?cv_Zooms_MOST_MARKS_g ?cv_Zooms_MOST_MARKS_v ?v_Ratio_sub_s ?v_Ratio_sub_r ?v_Ratio_sub_f ?v_Ratio_sub_c ?v_Ratio_sub_u ?bo_Ratio_s ?bo_Ratio_f ?m_law_a ?sx_SnapError_l ?gx_all_n ?gx_all_t ?m__law_number_a ?k__law_number_a ?m__law_heard_a ?k__law_heard_a ?m__law_beside_a ?k__law_beside_a ?m__law_between_right_a ?k__law_between_right_a ?m__law_beyond_right_a ?k__law_beyond_right_a ?m__law_refused_right_a ?k__law_refused_right_a ?m__law_pen_a ?k__law_pen_a ?m__law_pick_a ?k__law_pick_a ?w_Zooms_bool_n ?F_Zooms_marks_upto_c ?F_Zooms_marks_upto_k ?b_Ratio_mul_s ?b_Ratio_mul_f ?b_Ratio_mul_c ?b_Ratio_mul_r ?b_Ratio_mul_t ?b_Ratio_mul_u ?b_Ratio_mul_w ?tab_law_l ?tab_law_c ?tab_law_v ?tab_law_o ?tab_law_h ?tab__law_between_right_l ?tab__law_between_right_c ?tab__law_between_right_v ?tab__law_between_right_o ?tab__law_between_right_h ?tab__law_refused_right_l ?tab__law_refused_right_c ?tab__law_refused_right_v ?tab__law_refused_right_o ?tab__law_refused_right_h ?gx_object_n ?gx_object_t ?i_NoneType_is_Ratio_c ?i_NoneType_is_Ratio_t ?i_NoneType_is_Ratio_a ?w_Ratio_NoneType_n ?i_bool_is_Ratio_c ?i_bool_is_Ratio_t ?i_bool_is_Ratio_a ?w_Ratio_bool_n ?i_str_is_Ratio_c ?i_str_is_Ratio_t ?i_str_is_Ratio_a ?w_Ratio_str_n ?i_tuple_is_Ratio_c ?i_tuple_is_Ratio_t ?i_tuple_is_Ratio_a ?w_Ratio_tuple_n ?i_list_is_Ratio_c ?i_list_is_Ratio_t ?i_list_is_Ratio_a ?w_Ratio_list_n ?dn_law____law_between_right_n ?dn_law____law_refused_right_n ?dn__law_between_right____law_refused_right_n
  (case L__law_pen => as_aux_lemma => k_is)
  (case L__law_draw => as_aux_lemma => k_is)
  (case L__law_pick => as_aux_lemma => k_is)
  (case L_Ratio => as_aux_lemma => k_is)
  (case L_is_integer => as_aux_lemma => k_is)
  (case L_SnapError => as_aux_lemma => k_is)
  (case L_BadRatio => as_aux_lemma => k_is)
  (case L_all_numbers => as_aux_lemma => k_is)
  (case L_bound_of => as_aux_lemma => k_is)
  (case L_is_number => as_aux_lemma => k_is)
  (case L_is_zoom => as_aux_lemma => k_is)
  (case L_is_place => as_aux_lemma => k_is)
  (case L_many_upto => as_aux_lemma => k_is)
  (case L_state_ahead => as_aux_lemma => k_is)
  (case L_changing => as_aux_lemma => k_is)
  (case L_is_mark => as_aux_lemma => k_is)
  (case L_checked_marks => as_aux_lemma => k_is)
  (case L_least_turn => as_aux_lemma => k_is)
  (case L_least_begin => as_aux_lemma => k_is)
  (case L_normal_form => as_aux_lemma => k_is)
  (case L_Zooms => as_aux_lemma => k_is)
  (case L_BadZooms => as_aux_lemma => k_is)
  (case L_common_multiple => as_aux_lemma => k_is)
  (case L_joined_truth => as_aux_lemma => k_is)
  (case L_marks_joined => as_aux_lemma => k_is)
  (case L__law_number => as_aux_lemma => k_is)
  (case L__law_heard => as_aux_lemma => k_is)
  (case L__law_beside => as_aux_lemma => k_is)
  (case L__law_between_right => as_aux_lemma => k_is)
  (case L__law_beyond_right => as_aux_lemma => k_is)
  (case L__law_refused_right => as_aux_lemma => k_is)
  (case L_law => as_aux_lemma => k_is)
  (case L_Ratio___init__ => as_aux_lemma => k_is)
  (case L_Ratio___add__ => as_aux_lemma => k_is)
  (case L_Ratio___sub__ => as_aux_lemma => k_is)
  (case L_Ratio___mul__ => as_aux_lemma => k_is)
  (case L_Ratio___lt__ => as_aux_lemma => k_is)
  (case L_Ratio___le__ => as_aux_lemma => k_is)
  (case L_Ratio___gt__ => as_aux_lemma => k_is)
  (case L_Ratio___ge__ => as_aux_lemma => k_is)
  (case L_Ratio___eq__ => as_aux_lemma => k_is)
  (case L_Ratio_floor => as_aux_lemma => k_is)
  (case L_Ratio_ceiling => as_aux_lemma => k_is)
  (case L_Ratio___str__ => as_aux_lemma => k_is)
  (case L_Ratio___bool__ => as_aux_lemma => k_is)
  (case L_BadRatio___init__ => as_aux_lemma => k_is)
  (case L_Ratio___radd__ => as_aux_lemma => k_is)
  (case L_Ratio___rsub__ => as_aux_lemma => k_is)
  (case L_Zooms___init__ => as_aux_lemma => k_is)
  (case L_BadZooms___init__ => as_aux_lemma => k_is)
  (case L_Zooms_mark => as_aux_lemma => k_is)
  (case L_Zooms_state_behind => as_aux_lemma => k_is)
  (case L_Zooms___bool__ => as_aux_lemma => k_is)
  (case L_Ratio_divided => as_aux_lemma => k_is)
  (case L_Zooms___contains__ => as_aux_lemma => k_is)
  (case L_Zooms___eq__ => as_aux_lemma => k_is)
  (case L_Zooms___invert__ => as_aux_lemma => k_is)
  (case L_Zooms_joined => as_aux_lemma => k_is)
  (case L_Zooms___sub__ => as_aux_lemma => k_is)
  (case L_Zooms_marks_upto => as_aux_lemma => k_is)
  (case L_Ratio___rmul__ => as_aux_lemma => k_is)
  (case s_Ratio_of_r => as_aux_lemma => k_is)
  (case s_Ratio_highest_r => as_aux_lemma => k_is)
  (case s_Ratio_common_r => as_aux_lemma => k_is)
  (case s_Ratio_lowest_r => as_aux_lemma => k_is)
  (case s_Zooms_between_r => as_aux_lemma => k_is)
  (case s_Zooms_beyond_r => as_aux_lemma => k_is)
  (case s_Zooms_everything_r => as_aux_lemma => k_is)
  (case s_Zooms_nothing_r => as_aux_lemma => k_is)
  (case s_Ratio_of_a => as_aux_lemma => k_is)
  (case s_Ratio_highest_a => as_aux_lemma => k_is)
  (case s_Ratio_common_a => as_aux_lemma => k_is)
  (case s_Ratio_lowest_a => as_aux_lemma => k_is)
  (case s_Zooms_between_a => as_aux_lemma => k_is)
  (case s_Zooms_beyond_a => as_aux_lemma => k_is)
  (case s_Zooms_everything_a => as_aux_lemma => k_is)
  (case s_Zooms_nothing_a => as_aux_lemma => k_is)
  (case s_Ratio_of_q => as_aux_lemma => k_is)
  (case s_Ratio_highest_q => as_aux_lemma => k_is)
  (case s_Ratio_common_q => as_aux_lemma => k_is)
  (case s_Ratio_lowest_q => as_aux_lemma => k_is)
  (case s_Zooms_between_q => as_aux_lemma => k_is)
  (case s_Zooms_beyond_q => as_aux_lemma => k_is)
  (case s_Zooms_everything_q => as_aux_lemma => k_is)
  (case s_Zooms_nothing_q => as_aux_lemma => k_is)
  (case F__law_pen_l => as_aux_lemma => k_is)
  (case F__law_draw_l => as_aux_lemma => k_is)
  (case F__law_pick_l => as_aux_lemma => k_is)
  (case F_is_integer_l => as_aux_lemma => k_is)
  (case D_Ratio___init___l => as_aux_lemma => k_is)
  (case F_Ratio_of_l => as_aux_lemma => k_is)
  (case F_Ratio___add___l => as_aux_lemma => k_is)
  (case F_Ratio___sub___l => as_aux_lemma => k_is)
  (case F_Ratio___mul___l => as_aux_lemma => k_is)
  (case F_Ratio___lt___l => as_aux_lemma => k_is)
  (case F_Ratio___le___l => as_aux_lemma => k_is)
  (case F_Ratio___gt___l => as_aux_lemma => k_is)
  (case F_Ratio___ge___l => as_aux_lemma => k_is)
  (case F_Ratio___eq___l => as_aux_lemma => k_is)
  (case F_Ratio_floor_l => as_aux_lemma => k_is)
  (case F_Ratio_ceiling_l => as_aux_lemma => k_is)
  (case F_Ratio___str___l => as_aux_lemma => k_is)
  (case F_Ratio___bool___l => as_aux_lemma => k_is)
  (case F_BadRatio___init___l => as_aux_lemma => k_is)
  (case F_all_numbers_l => as_aux_lemma => k_is)
  (case F_bound_of_l => as_aux_lemma => k_is)
  (case F_Ratio_highest_l => as_aux_lemma => k_is)
  (case F_Ratio_lowest_l => as_aux_lemma => k_is)
  (case F_is_number_l => as_aux_lemma => k_is)
  (case F_is_zoom_l => as_aux_lemma => k_is)
  (case F_is_place_l => as_aux_lemma => k_is)
  (case F_many_upto_l => as_aux_lemma => k_is)
  (case F_state_ahead_l => as_aux_lemma => k_is)
  (case F_changing_l => as_aux_lemma => k_is)
  (case F_is_mark_l => as_aux_lemma => k_is)
  (case F_checked_marks_l => as_aux_lemma => k_is)
  (case F_least_turn_l => as_aux_lemma => k_is)
  (case F_least_begin_l => as_aux_lemma => k_is)
  (case F_normal_form_l => as_aux_lemma => k_is)
  (case F_Zooms___init___l => as_aux_lemma => k_is)
  (case F_Zooms_everything_l => as_aux_lemma => k_is)
  (case F_Zooms_nothing_l => as_aux_lemma => k_is)
  (case F_BadZooms___init___l => as_aux_lemma => k_is)
  (case D_Zooms_beyond_l => as_aux_lemma => k_is)
  (case D_Zooms_between_l => as_aux_lemma => k_is)
  (case F_Zooms_mark_l => as_aux_lemma => k_is)
  (case F_Zooms_state_behind_l => as_aux_lemma => k_is)
  (case F_Zooms___bool___l => as_aux_lemma => k_is)
  (case F_Ratio_divided_l => as_aux_lemma => k_is)
  (case F_Ratio___rsub___l => as_aux_lemma => k_is)
  (case F_Zooms___contains___l => as_aux_lemma => k_is)
  (case F_Zooms___eq___l => as_aux_lemma => k_is)
  (case F_Zooms___invert___l => as_aux_lemma => k_is)
  (case F_Zooms_joined_l => as_aux_lemma => k_is)
  (case F_Zooms___sub___l => as_aux_lemma => k_is)
  (case F_common_multiple_l => as_aux_lemma => k_is)
  (case F_joined_truth_l => as_aux_lemma => k_is)
  (case F_marks_joined_l => as_aux_lemma => k_is)
  (case F__law_number_l => as_aux_lemma => k_is)
  (case F__law_heard_l => as_aux_lemma => k_is)
  (case F__law_beside_l => as_aux_lemma => k_is)
  (case F__law_between_right_l => as_aux_lemma => k_is)
  (case F__law_beyond_right_l => as_aux_lemma => k_is)
  (case F__law_refused_right_l => as_aux_lemma => k_is)
  (case F_law_l => as_aux_lemma => k_is)
  (case F_Ratio_common_l => as_aux_lemma => k_is)
  (case F_Zooms_marks_upto_l => as_aux_lemma => k_is)
  (case F__law_pen_c => as_aux_lemma => k_is)
  (case F__law_pen_k => as_aux_lemma => k_is)
  (case n_list_a => as_aux_lemma => k_is)
  (case F__law_draw_c => as_aux_lemma => k_is)
  (case F__law_draw_k => as_aux_lemma => k_is)
  (case n_int_a => as_aux_lemma => k_is)
  (case n_len_a => as_aux_lemma => k_is)
  (case n_abs_a => as_aux_lemma => k_is)
  (case F__law_pick_c => as_aux_lemma => k_is)
  (case F__law_pick_k => as_aux_lemma => k_is)
  (case k__law_draw_a => as_aux_lemma => k_is)
  (case m__law_draw_a => as_aux_lemma => k_is)
  (case y_Ratio_a => as_aux_lemma => k_is)
  (case y_Ratio_n => as_aux_lemma => k_is)
  (case y_Ratio_t => as_aux_lemma => k_is)
  (case y_Ratio_m => as_aux_lemma => k_is)
  (case c_Ratio_p => as_aux_lemma => k_is)
  (case c_Ratio_h => as_aux_lemma => k_is)
  (case c_Ratio_o => as_aux_lemma => k_is)
  (case c_Ratio_s => as_aux_lemma => k_is)
  (case i_Ratio_is_int_a => as_aux_lemma => k_is)
  (case i_Ratio_is_bool_a => as_aux_lemma => k_is)
  (case F_is_integer_c => as_aux_lemma => k_is)
  (case F_is_integer_k => as_aux_lemma => k_is)
  (case n_isinstance_a => as_aux_lemma => k_is)
  (case n_bool_a => as_aux_lemma => k_is)
  (case D_Ratio___init___c => as_aux_lemma => k_is)
  (case D_Ratio___init___k => as_aux_lemma => k_is)
  (case D_Ratio___init___t => as_aux_lemma => k_is)
  (case k_is_integer_a => as_aux_lemma => k_is)
  (case m_is_integer_a => as_aux_lemma => k_is)
  (case m_gcd_a => as_aux_lemma => k_is)
  (case a_Ratio_over_a => as_aux_lemma => k_is)
  (case a_Ratio_under_a => as_aux_lemma => k_is)
  (case F_Ratio_of_c => as_aux_lemma => k_is)
  (case F_Ratio_of_k => as_aux_lemma => k_is)
  (case m_Ratio_a => as_aux_lemma => k_is)
  (case mk_Ratio_m => as_aux_lemma => k_is)
  (case mk_Ratio_i => as_aux_lemma => k_is)
  (case mk_Ratio_f => as_aux_lemma => k_is)
  (case mk_Ratio_k => as_aux_lemma => k_is)
  (case i_int_is_Ratio_c => as_aux_lemma => k_is)
  (case i_int_is_Ratio_t => as_aux_lemma => k_is)
  (case i_int_is_Ratio_a => as_aux_lemma => k_is)
  (case F_Ratio___add___c => as_aux_lemma => k_is)
  (case F_Ratio___add___k => as_aux_lemma => k_is)
  (case s_Ratio_of_g => as_aux_lemma => k_is)
  (case s_Ratio_of_k => as_aux_lemma => k_is)
  (case F_Ratio___sub___c => as_aux_lemma => k_is)
  (case F_Ratio___sub___k => as_aux_lemma => k_is)
  (case F_Ratio___mul___c => as_aux_lemma => k_is)
  (case F_Ratio___mul___k => as_aux_lemma => k_is)
  (case F_Ratio___lt___c => as_aux_lemma => k_is)
  (case F_Ratio___lt___k => as_aux_lemma => k_is)
  (case F_Ratio___le___c => as_aux_lemma => k_is)
  (case F_Ratio___le___k => as_aux_lemma => k_is)
  (case F_Ratio___gt___c => as_aux_lemma => k_is)
  (case F_Ratio___gt___k => as_aux_lemma => k_is)
  (case F_Ratio___ge___c => as_aux_lemma => k_is)
  (case F_Ratio___ge___k => as_aux_lemma => k_is)
  (case F_Ratio___eq___c => as_aux_lemma => k_is)
  (case F_Ratio___eq___k => as_aux_lemma => k_is)
  (case F_Ratio_floor_c => as_aux_lemma => k_is)
  (case F_Ratio_floor_k => as_aux_lemma => k_is)
  (case F_Ratio_ceiling_c => as_aux_lemma => k_is)
  (case F_Ratio_ceiling_k => as_aux_lemma => k_is)
  (case F_Ratio___str___c => as_aux_lemma => k_is)
  (case F_Ratio___str___k => as_aux_lemma => k_is)
  (case n_str_a => as_aux_lemma => k_is)
  (case F_Ratio___bool___c => as_aux_lemma => k_is)
  (case F_Ratio___bool___k => as_aux_lemma => k_is)
  (case F_BadRatio___init___c => as_aux_lemma => k_is)
  (case F_BadRatio___init___k => as_aux_lemma => k_is)
  (case vi_SnapError_r => as_aux_lemma => k_is)
  (case vi_SnapError_g => as_aux_lemma => k_is)
  (case vi_SnapError_v => as_aux_lemma => k_is)
  (case m_SnapError_a => as_aux_lemma => k_is)
  (case ex_BadRatio_l => as_aux_lemma => k_is)
  (case ex_BadRatio_s => as_aux_lemma => k_is)
  (case ex_BadRatio_g => as_aux_lemma => k_is)
  (case ex_BadRatio_h => as_aux_lemma => k_is)
  (case ex_BadRatio_c => as_aux_lemma => k_is)
  (case ex_BadRatio_i => as_aux_lemma => k_is)
  (case ex_BadRatio_f => as_aux_lemma => k_is)
  (case ex_BadRatio_k => as_aux_lemma => k_is)
  (case a_BadRatio_value_a => as_aux_lemma => k_is)
  (case m_BadRatio_a => as_aux_lemma => k_is)
  (case F_all_numbers_c => as_aux_lemma => k_is)
  (case F_all_numbers_k => as_aux_lemma => k_is)
  (case n_tuple_a => as_aux_lemma => k_is)
  (case F_bound_of_c => as_aux_lemma => k_is)
  (case F_bound_of_k => as_aux_lemma => k_is)
  (case k_all_numbers_a => as_aux_lemma => k_is)
  (case m_all_numbers_a => as_aux_lemma => k_is)
  (case q_Ratio_gt_s => as_aux_lemma => k_is)
  (case q_Ratio_gt_f => as_aux_lemma => k_is)
  (case q_Ratio_gt_n => as_aux_lemma => k_is)
  (case q_Ratio_lt_s => as_aux_lemma => k_is)
  (case q_Ratio_lt_f => as_aux_lemma => k_is)
  (case q_Ratio_lt_n => as_aux_lemma => k_is)
  (case F_Ratio_highest_c => as_aux_lemma => k_is)
  (case F_Ratio_highest_k => as_aux_lemma => k_is)
  (case k_bound_of_a => as_aux_lemma => k_is)
  (case m_bound_of_a => as_aux_lemma => k_is)
  (case F_Ratio_lowest_c => as_aux_lemma => k_is)
  (case F_Ratio_lowest_k => as_aux_lemma => k_is)
  (case F_is_number_c => as_aux_lemma => k_is)
  (case F_is_number_k => as_aux_lemma => k_is)
  (case F_is_zoom_c => as_aux_lemma => k_is)
  (case F_is_zoom_k => as_aux_lemma => k_is)
  (case k_is_number_a => as_aux_lemma => k_is)
  (case m_is_number_a => as_aux_lemma => k_is)
  (case F_is_place_c => as_aux_lemma => k_is)
  (case F_is_place_k => as_aux_lemma => k_is)
  (case q_Ratio_ge_s => as_aux_lemma => k_is)
  (case q_Ratio_ge_f => as_aux_lemma => k_is)
  (case q_Ratio_ge_n => as_aux_lemma => k_is)
  (case F_many_upto_c => as_aux_lemma => k_is)
  (case F_many_upto_k => as_aux_lemma => k_is)
  (case q_Ratio_le_s => as_aux_lemma => k_is)
  (case q_Ratio_le_f => as_aux_lemma => k_is)
  (case q_Ratio_le_n => as_aux_lemma => k_is)
  (case F_state_ahead_c => as_aux_lemma => k_is)
  (case F_state_ahead_k => as_aux_lemma => k_is)
  (case F_changing_c => as_aux_lemma => k_is)
  (case F_changing_k => as_aux_lemma => k_is)
  (case F_is_mark_c => as_aux_lemma => k_is)
  (case F_is_mark_k => as_aux_lemma => k_is)
  (case k_is_zoom_a => as_aux_lemma => k_is)
  (case m_is_zoom_a => as_aux_lemma => k_is)
  (case F_checked_marks_c => as_aux_lemma => k_is)
  (case F_checked_marks_k => as_aux_lemma => k_is)
  (case k_is_mark_a => as_aux_lemma => k_is)
  (case m_is_mark_a => as_aux_lemma => k_is)
  (case F_least_turn_c => as_aux_lemma => k_is)
  (case F_least_turn_k => as_aux_lemma => k_is)
  (case F_least_begin_c => as_aux_lemma => k_is)
  (case F_least_begin_k => as_aux_lemma => k_is)
  (case k_many_upto_a => as_aux_lemma => k_is)
  (case m_many_upto_a => as_aux_lemma => k_is)
  (case s_Ratio_highest_g => as_aux_lemma => k_is)
  (case s_Ratio_highest_k => as_aux_lemma => k_is)
  (case b_Ratio_add_s => as_aux_lemma => k_is)
  (case b_Ratio_add_f => as_aux_lemma => k_is)
  (case b_Ratio_add_c => as_aux_lemma => k_is)
  (case b_Ratio_add_r => as_aux_lemma => k_is)
  (case b_Ratio_add_t => as_aux_lemma => k_is)
  (case b_Ratio_add_u => as_aux_lemma => k_is)
  (case b_Ratio_add_w => as_aux_lemma => k_is)
  (case q_Ratio_eq_s => as_aux_lemma => k_is)
  (case q_Ratio_eq_f => as_aux_lemma => k_is)
  (case q_Ratio_eq_n => as_aux_lemma => k_is)
  (case b_Ratio_sub_s => as_aux_lemma => k_is)
  (case b_Ratio_sub_f => as_aux_lemma => k_is)
  (case b_Ratio_sub_c => as_aux_lemma => k_is)
  (case b_Ratio_sub_r => as_aux_lemma => k_is)
  (case b_Ratio_sub_t => as_aux_lemma => k_is)
  (case b_Ratio_sub_u => as_aux_lemma => k_is)
  (case b_Ratio_sub_w => as_aux_lemma => k_is)
  (case z_Ratio_e => as_aux_lemma => k_is)
  (case z_Ratio_s => as_aux_lemma => k_is)
  (case z_Ratio_f => as_aux_lemma => k_is)
  (case z_Ratio_m => as_aux_lemma => k_is)
  (case z_Ratio_n => as_aux_lemma => k_is)
  (case F_normal_form_c => as_aux_lemma => k_is)
  (case F_normal_form_k => as_aux_lemma => k_is)
  (case k_changing_a => as_aux_lemma => k_is)
  (case m_changing_a => as_aux_lemma => k_is)
  (case k_least_turn_a => as_aux_lemma => k_is)
  (case m_least_turn_a => as_aux_lemma => k_is)
  (case k_least_begin_a => as_aux_lemma => k_is)
  (case m_least_begin_a => as_aux_lemma => k_is)
  (case F_Zooms___init___c => as_aux_lemma => k_is)
  (case F_Zooms___init___k => as_aux_lemma => k_is)
  (case k_is_place_a => as_aux_lemma => k_is)
  (case m_is_place_a => as_aux_lemma => k_is)
  (case k_checked_marks_a => as_aux_lemma => k_is)
  (case m_checked_marks_a => as_aux_lemma => k_is)
  (case k_state_ahead_a => as_aux_lemma => k_is)
  (case m_state_ahead_a => as_aux_lemma => k_is)
  (case k_normal_form_a => as_aux_lemma => k_is)
  (case m_normal_form_a => as_aux_lemma => k_is)
  (case c_Zooms_p => as_aux_lemma => k_is)
  (case c_Zooms_h => as_aux_lemma => k_is)
  (case c_Zooms_o => as_aux_lemma => k_is)
  (case c_Zooms_s => as_aux_lemma => k_is)
  (case a_Zooms_begin_a => as_aux_lemma => k_is)
  (case a_Zooms_turn_a => as_aux_lemma => k_is)
  (case a_Zooms_marks_a => as_aux_lemma => k_is)
  (case a_Zooms_is_first_a => as_aux_lemma => k_is)
  (case a_Zooms_once_a => as_aux_lemma => k_is)
  (case F_Zooms_everything_c => as_aux_lemma => k_is)
  (case F_Zooms_everything_k => as_aux_lemma => k_is)
  (case mk_Zooms_m => as_aux_lemma => k_is)
  (case mk_Zooms_i => as_aux_lemma => k_is)
  (case mk_Zooms_f => as_aux_lemma => k_is)
  (case mk_Zooms_k => as_aux_lemma => k_is)
  (case m_Zooms_a => as_aux_lemma => k_is)
  (case F_Zooms_nothing_c => as_aux_lemma => k_is)
  (case F_Zooms_nothing_k => as_aux_lemma => k_is)
  (case F_BadZooms___init___c => as_aux_lemma => k_is)
  (case F_BadZooms___init___k => as_aux_lemma => k_is)
  (case ex_BadZooms_l => as_aux_lemma => k_is)
  (case ex_BadZooms_s => as_aux_lemma => k_is)
  (case ex_BadZooms_g => as_aux_lemma => k_is)
  (case ex_BadZooms_h => as_aux_lemma => k_is)
  (case ex_BadZooms_c => as_aux_lemma => k_is)
  (case ex_BadZooms_i => as_aux_lemma => k_is)
  (case ex_BadZooms_f => as_aux_lemma => k_is)
  (case ex_BadZooms_k => as_aux_lemma => k_is)
  (case a_BadZooms_part_a => as_aux_lemma => k_is)
  (case D_Zooms_beyond_c => as_aux_lemma => k_is)
  (case D_Zooms_beyond_k => as_aux_lemma => k_is)
  (case D_Zooms_beyond_t => as_aux_lemma => k_is)
  (case m_BadZooms_a => as_aux_lemma => k_is)
  (case D_Zooms_between_c => as_aux_lemma => k_is)
  (case D_Zooms_between_k => as_aux_lemma => k_is)
  (case D_Zooms_between_t => as_aux_lemma => k_is)
  (case F_Zooms_mark_c => as_aux_lemma => k_is)
  (case F_Zooms_mark_k => as_aux_lemma => k_is)
  (case F_Zooms_state_behind_c => as_aux_lemma => k_is)
  (case F_Zooms_state_behind_k => as_aux_lemma => k_is)
  (case h_Zooms_mark_a => as_aux_lemma => k_is)
  (case h_Zooms_mark_f => as_aux_lemma => k_is)
  (case h_Zooms_mark_k => as_aux_lemma => k_is)
  (case F_Zooms___bool___c => as_aux_lemma => k_is)
  (case F_Zooms___bool___k => as_aux_lemma => k_is)
  (case F_Ratio_divided_c => as_aux_lemma => k_is)
  (case F_Ratio_divided_k => as_aux_lemma => k_is)
  (case F_Ratio___rsub___c => as_aux_lemma => k_is)
  (case F_Ratio___rsub___k => as_aux_lemma => k_is)
  (case in_Zooms_s => as_aux_lemma => k_is)
  (case in_Zooms_f => as_aux_lemma => k_is)
  (case F_Zooms___contains___c => as_aux_lemma => k_is)
  (case F_Zooms___contains___k => as_aux_lemma => k_is)
  (case F_Zooms___eq___c => as_aux_lemma => k_is)
  (case F_Zooms___eq___k => as_aux_lemma => k_is)
  (case F_Zooms___invert___c => as_aux_lemma => k_is)
  (case F_Zooms___invert___k => as_aux_lemma => k_is)
  (case F_Zooms_joined_c => as_aux_lemma => k_is)
  (case F_Zooms_joined_k => as_aux_lemma => k_is)
  (case F_Zooms___sub___c => as_aux_lemma => k_is)
  (case F_Zooms___sub___k => as_aux_lemma => k_is)
  (case F_common_multiple_c => as_aux_lemma => k_is)
  (case F_common_multiple_k => as_aux_lemma => k_is)
  (case F_joined_truth_c => as_aux_lemma => k_is)
  (case F_joined_truth_k => as_aux_lemma => k_is)
  (case F_marks_joined_c => as_aux_lemma => k_is)
  (case F_marks_joined_k => as_aux_lemma => k_is)
  (case F__law_number_c => as_aux_lemma => k_is)
  (case F__law_number_k => as_aux_lemma => k_is)
  (case F__law_heard_c => as_aux_lemma => k_is)
  (case F__law_heard_k => as_aux_lemma => k_is)
  (case F__law_beside_c => as_aux_lemma => k_is)
  (case F__law_beside_k => as_aux_lemma => k_is)
  (case F__law_between_right_c => as_aux_lemma => k_is)
  (case F__law_between_right_k => as_aux_lemma => k_is)
  (case F__law_beyond_right_c => as_aux_lemma => k_is)
  (case F__law_beyond_right_k => as_aux_lemma => k_is)
  (case F__law_refused_right_c => as_aux_lemma => k_is)
  (case F__law_refused_right_k => as_aux_lemma => k_is)
  (case F_law_c => as_aux_lemma => k_is)
  (case F_law_k => as_aux_lemma => k_is)
  (case u_Zooms_invert_s => as_aux_lemma => k_is)
  (case u_Zooms_invert_f => as_aux_lemma => k_is)
  (case q_Zooms_eq_s => as_aux_lemma => k_is)
  (case q_Zooms_eq_f => as_aux_lemma => k_is)
  (case q_Zooms_eq_n => as_aux_lemma => k_is)
  (case z_Zooms_e => as_aux_lemma => k_is)
  (case z_Zooms_s => as_aux_lemma => k_is)
  (case z_Zooms_f => as_aux_lemma => k_is)
  (case z_Zooms_m => as_aux_lemma => k_is)
  (case z_Zooms_n => as_aux_lemma => k_is)
  (case b_Zooms_sub_s => as_aux_lemma => k_is)
  (case b_Zooms_sub_f => as_aux_lemma => k_is)
  (case b_Zooms_sub_c => as_aux_lemma => k_is)
  (case b_Zooms_sub_r => as_aux_lemma => k_is)
  (case b_Zooms_sub_t => as_aux_lemma => k_is)
  (case b_Zooms_sub_u => as_aux_lemma => k_is)
  (case b_Zooms_sub_w => as_aux_lemma => k_is)
  (case bo_Zooms_s => as_aux_lemma => k_is)
  (case bo_Zooms_f => as_aux_lemma => k_is)
  (case h_Zooms_marks_upto_a => as_aux_lemma => k_is)
  (case h_Zooms_marks_upto_f => as_aux_lemma => k_is)
  (case h_Zooms_marks_upto_k => as_aux_lemma => k_is)
  (case h_Zooms_state_behind_a => as_aux_lemma => k_is)
  (case h_Zooms_state_behind_f => as_aux_lemma => k_is)
  (case h_Zooms_state_behind_k => as_aux_lemma => k_is)
  (case h_Zooms_joined_a => as_aux_lemma => k_is)
  (case h_Zooms_joined_f => as_aux_lemma => k_is)
  (case h_Zooms_joined_k => as_aux_lemma => k_is)
  (case h_Ratio_divided_a => as_aux_lemma => k_is)
  (case h_Ratio_divided_f => as_aux_lemma => k_is)
  (case h_Ratio_divided_k => as_aux_lemma => k_is)
  (case h_Ratio_ceiling_a => as_aux_lemma => k_is)
  (case h_Ratio_ceiling_f => as_aux_lemma => k_is)
  (case h_Ratio_ceiling_k => as_aux_lemma => k_is)
  (case F_Ratio_common_c => as_aux_lemma => k_is)
  (case F_Ratio_common_k => as_aux_lemma => k_is)
  (case s_Ratio_common_g => as_aux_lemma => k_is)
  (case s_Ratio_common_k => as_aux_lemma => k_is)
  (case s_Ratio_lowest_g => as_aux_lemma => k_is)
  (case s_Ratio_lowest_k => as_aux_lemma => k_is)
  (case s_Zooms_between_g => as_aux_lemma => k_is)
  (case s_Zooms_between_k => as_aux_lemma => k_is)
  (case s_Zooms_beyond_g => as_aux_lemma => k_is)
  (case s_Zooms_beyond_k => as_aux_lemma => k_is)
  (case s_Zooms_everything_g => as_aux_lemma => k_is)
  (case s_Zooms_everything_k => as_aux_lemma => k_is)
  (case s_Zooms_nothing_g => as_aux_lemma => k_is)
  (case s_Zooms_nothing_k => as_aux_lemma => k_is)
  (case k_marks_joined_a => as_aux_lemma => k_is)
  (case m_marks_joined_a => as_aux_lemma => k_is)
  (case k_joined_truth_a => as_aux_lemma => k_is)
  (case m_joined_truth_a => as_aux_lemma => k_is)
  (case k_common_multiple_a => as_aux_lemma => k_is)
  (case m_common_multiple_a => as_aux_lemma => k_is)
  (case n_range_a => as_aux_lemma => k_is)
  (case y_Zooms_a => as_aux_lemma => k_is)
  (case y_Zooms_n => as_aux_lemma => k_is)
  (case y_Zooms_t => as_aux_lemma => k_is)
  (case y_Zooms_m => as_aux_lemma => k_is)
  (case cv_Zooms_MOST_MARKS_r => as_aux_lemma => k_is)
  (case cv_Zooms_MOST_MARKS_g => as_aux_lemma => k_is)
  (case cv_Zooms_MOST_MARKS_v => as_aux_lemma => k_is)
  (case v_Ratio_sub_s => as_aux_lemma => k_is)
  (case v_Ratio_sub_r => as_aux_lemma => k_is)
  (case v_Ratio_sub_f => as_aux_lemma => k_is)
  (case v_Ratio_sub_c => as_aux_lemma => k_is)
  (case v_Ratio_sub_u => as_aux_lemma => k_is)
  (case bo_Ratio_s => as_aux_lemma => k_is)
  (case bo_Ratio_f => as_aux_lemma => k_is)
  (case m_law_a => as_aux_lemma => k_is)
  (case sx_SnapError_l => as_aux_lemma => k_is)
  (case gx_all_n => as_aux_lemma => k_is)
  (case gx_all_t => as_aux_lemma => k_is)
  (case m__law_number_a => as_aux_lemma => k_is)
  (case k__law_number_a => as_aux_lemma => k_is)
  (case m__law_heard_a => as_aux_lemma => k_is)
  (case k__law_heard_a => as_aux_lemma => k_is)
  (case m__law_beside_a => as_aux_lemma => k_is)
  (case k__law_beside_a => as_aux_lemma => k_is)
  (case m__law_between_right_a => as_aux_lemma => k_is)
  (case k__law_between_right_a => as_aux_lemma => k_is)
  (case m__law_beyond_right_a => as_aux_lemma => k_is)
  (case k__law_beyond_right_a => as_aux_lemma => k_is)
  (case m__law_refused_right_a => as_aux_lemma => k_is)
  (case k__law_refused_right_a => as_aux_lemma => k_is)
  (case m__law_pen_a => as_aux_lemma => k_is)
  (case k__law_pen_a => as_aux_lemma => k_is)
  (case m__law_pick_a => as_aux_lemma => k_is)
  (case k__law_pick_a => as_aux_lemma => k_is)
  (case w_Zooms_bool_n => as_aux_lemma => k_is)
  (case F_Zooms_marks_upto_c => as_aux_lemma => k_is)
  (case F_Zooms_marks_upto_k => as_aux_lemma => k_is)
  (case b_Ratio_mul_s => as_aux_lemma => k_is)
  (case b_Ratio_mul_f => as_aux_lemma => k_is)
  (case b_Ratio_mul_c => as_aux_lemma => k_is)
  (case b_Ratio_mul_r => as_aux_lemma => k_is)
  (case b_Ratio_mul_t => as_aux_lemma => k_is)
  (case b_Ratio_mul_u => as_aux_lemma => k_is)
  (case b_Ratio_mul_w => as_aux_lemma => k_is)
  (case tab_law_l => as_aux_lemma => k_is)
  (case tab_law_c => as_aux_lemma => k_is)
  (case tab_law_v => rfl)
  (case tab_law_o => rfl)
  (case tab_law_h => rfl)
  (case tab__law_between_right_l => as_aux_lemma => k_is)
  (case tab__law_between_right_c => as_aux_lemma => k_is)
  (case tab__law_between_right_v => rfl)
  (case tab__law_between_right_o => rfl)
  (case tab__law_between_right_h => rfl)
  (case tab__law_refused_right_l => as_aux_lemma => k_is)
  (case tab__law_refused_right_c => as_aux_lemma => k_is)
  (case tab__law_refused_right_v => rfl)
  (case tab__law_refused_right_o => rfl)
  (case tab__law_refused_right_h => rfl)
  (case gx_object_n => as_aux_lemma => k_is)
  (case gx_object_t => as_aux_lemma => k_is)
  (case i_NoneType_is_Ratio_c => as_aux_lemma => k_is)
  (case i_NoneType_is_Ratio_t => as_aux_lemma => k_is)
  (case i_NoneType_is_Ratio_a => as_aux_lemma => k_is)
  (case w_Ratio_NoneType_n => as_aux_lemma => k_is)
  (case i_bool_is_Ratio_c => as_aux_lemma => k_is)
  (case i_bool_is_Ratio_t => as_aux_lemma => k_is)
  (case i_bool_is_Ratio_a => as_aux_lemma => k_is)
  (case w_Ratio_bool_n => as_aux_lemma => k_is)
  (case i_str_is_Ratio_c => as_aux_lemma => k_is)
  (case i_str_is_Ratio_t => as_aux_lemma => k_is)
  (case i_str_is_Ratio_a => as_aux_lemma => k_is)
  (case w_Ratio_str_n => as_aux_lemma => k_is)
  (case i_tuple_is_Ratio_c => as_aux_lemma => k_is)
  (case i_tuple_is_Ratio_t => as_aux_lemma => k_is)
  (case i_tuple_is_Ratio_a => as_aux_lemma => k_is)
  (case w_Ratio_tuple_n => as_aux_lemma => k_is)
  (case i_list_is_Ratio_c => as_aux_lemma => k_is)
  (case i_list_is_Ratio_t => as_aux_lemma => k_is)
  (case i_list_is_Ratio_a => as_aux_lemma => k_is)
  (case w_Ratio_list_n => as_aux_lemma => k_is)
  (case dn_law____law_between_right_n => decide)
  (case dn_law____law_refused_right_n => decide)
  (case dn__law_between_right____law_refused_right_n => decide)
end AZ
end
set_option Elab.async false
set_option maxRecDepth 100000
set_option maxHeartbeats 4000000
set_option linter.all false
namespace AZ
open PySem L2
/-! ## fractions -/
theorem num_di (a b : Int) (hb : b ≠ 0) : (Rat.divInt a b).num = a.fdiv (if b < 0 then -(Int.gcd a b : Int) else (Int.gcd a b : Int)) := by
  rw [Rat.num_divInt, Int.gcd_comm]
  obtain ⟨x, hx⟩ : (Int.gcd a b : Int) ∣ a := Int.gcd_dvd_left ..
  have hg : (Int.gcd a b : Int) ≠ 0 := by
    intro h
    have h2 : Int.gcd a b = 0 := by omega
    exact hb (Int.gcd_eq_zero_iff.mp h2).2
  generalize (Int.gcd a b : Int) = g at hx hg
  subst hx
  by_cases h : b < 0
  · rw [if_pos h, Int.sign_eq_neg_one_of_neg h, show -1 * (g * x) = g * -x by grind, Int.mul_ediv_cancel_left _ hg, show g * x = -g * -x by grind, Int.mul_fdiv_cancel_left _ (by omega)]
  · have hp : 0 < b := by omega
    rw [if_neg h, Int.sign_eq_one_of_pos hp, Int.one_mul, Int.mul_ediv_cancel_left _ hg, Int.mul_fdiv_cancel_left _ hg]
theorem den_di (a b : Int) (hb : b ≠ 0) : ((Rat.divInt a b).den : Int) = b.fdiv (if b < 0 then -(Int.gcd a b : Int) else (Int.gcd a b : Int)) := by
  rw [Rat.den_divInt, if_neg hb, Int.gcd_comm, Int.natCast_ediv]
  obtain ⟨x, hx⟩ : (Int.gcd a b : Int) ∣ b := Int.gcd_dvd_right ..
  have hg : (Int.gcd a b : Int) ≠ 0 := by
    intro h
    have h2 : Int.gcd a b = 0 := by omega
    exact hb (Int.gcd_eq_zero_iff.mp h2).2
  generalize hgd : (Int.gcd a b : Int) = g at hx hg
  by_cases h : b < 0
  · rw [if_pos h, show (b.natAbs : Int) = -b by omega, hx, show -(g * x) = g * -x by grind, Int.mul_ediv_cancel_left _ hg, show g * x = -g * -x by grind, Int.mul_fdiv_cancel_left _ (by omega)]
  · rw [if_neg h, show (b.natAbs : Int) = b by omega, hx, Int.mul_ediv_cancel_left _ hg, Int.mul_fdiv_cancel_left _ hg]
theorem dpos (q : Rat) : (0:Int) < q.den := Int.natCast_pos.mpr q.den_pos
theorem dne (q : Rat) : (q.den : Int) ≠ 0 := Int.ne_of_gt (dpos q)
theorem rdq (q : Rat) : Rat.divInt q.num q.den = q := Rat.num_divInt_den q
theorem r_add (x y : Rat) : Rat.divInt (x.num * y.den + y.num * x.den) (x.den * y.den) = x + y := by
  rw [← Rat.divInt_add_divInt _ _ (dne x) (dne y), rdq, rdq]
theorem r_sub (x y : Rat) : Rat.divInt (x.num * y.den - y.num * x.den) (x.den * y.den) = x - y := by
  rw [← Rat.divInt_sub_divInt _ _ (dne x) (dne y), rdq, rdq]
theorem r_mul (x y : Rat) : Rat.divInt (x.num * y.num) (x.den * y.den) = x * y := by
  rw [← Rat.divInt_mul_divInt, rdq, rdq]
theorem r_neg (x : Rat) : Rat.divInt (-x.num) x.den = -x := by
  rw [← Rat.neg_divInt, rdq]
theorem r_div (x y : Rat) : Rat.divInt (x.num * y.den) (x.den * y.num) = x / y := by
  rw [← Rat.divInt_mul_divInt, rdq, Rat.div_def, ← Rat.inv_divInt, rdq]
theorem r_floor (q : Rat) : q.num.fdiv q.den = q.floor := by
  rw [Rat.floor_def, Int.fdiv_eq_ediv_of_nonneg _ (Int.le_of_lt (dpos q))]
theorem r_ceil (q : Rat) : -((-q.num).fdiv q.den) = q.ceil := by
  rw [Rat.ceil_eq_neg_floor_neg, ← r_floor, Rat.neg_num, Rat.neg_den]
theorem r_int (n : Int) : Rat.divInt n 1 = (n : Rat) := by
  rw [Rat.divInt_eq_div]; show (n : Rat) / ((1 : Int) : Rat) = n; rw [Rat.intCast_one]; grind
theorem gcd_pos (a b : Int) (hb : b ≠ 0) : 0 < Int.gcd a b := Nat.pos_of_ne_zero fun h => hb (Int.gcd_eq_zero_iff.mp h).2
theorem gcd_le (a b : Int) (hb : b ≠ 0) : Int.gcd a b ≤ b.natAbs := Nat.le_of_dvd (by omega) (Nat.gcd_dvd_right _ _)
/-- sizes -/
def Sz (n : Nat) (q : Rat) : Prop := q.num.natAbs < 2 ^ n ∧ q.den < 2 ^ n
theorem sz_di {a b : Int} {n : Nat} (hb : b ≠ 0) (h1 : a.natAbs < 2 ^ n) (h2 : b.natAbs < 2 ^ n) : Sz n (Rat.divInt a b) := by
  constructor
  · rw [Rat.num_divInt]
    refine Nat.lt_of_le_of_lt (Int.natAbs_ediv_le_natAbs _ _) ?_
    rw [Int.natAbs_mul, Int.natAbs_sign_of_ne_zero hb, Nat.one_mul]
    exact h1
  · rw [Rat.den_divInt, if_neg hb]
    exact Nat.lt_of_le_of_lt (Nat.div_le_self _ _) h2
theorem Sz.mono {n m : Nat} {q : Rat} (h : Sz n q) (e : n ≤ m) : Sz m q :=
  ⟨Nat.lt_of_lt_of_le h.1 (Nat.pow_le_pow_right (by decide) e), Nat.lt_of_lt_of_le h.2 (Nat.pow_le_pow_right (by decide) e)⟩
theorem mul_lt2 {x y a b : Nat} (h1 : x < 2 ^ a) (h2 : y < 2 ^ b) : x * y < 2 ^ (a + b) := by
  rw [Nat.pow_add]; exact Nat.mul_lt_mul'' h1 h2

/-! ## operators of own classes, by promises -/
section
variable {X : Cx}
/-- what binary operators ask of the class at C: the def at f -/
structure BinM (K : PySem.W.Frag) (C : Addr) (op : Operator) (f : Addr) : Prop where
  hs : PySem.W.findIn K (.ref C) (PySem.dunder op.info.2) = some (some (.ref f))
  hf : PySem.W.isFn K (.ref f) = true
  hc : PySem.W.selfFirst K C = true
  hr : ∃ rc, PySem.W.findIn K (.ref C) (dunderR op.info.2) = some rc ∧ (rc = none ∨ ∃ g : Addr, rc = some (.ref g))
  ht : ∃ fo ro, PySem.W.findIn K (.type "int") (PySem.dunder op.info.2) = some fo ∧ PySem.W.findIn K (.type "int") (dunderR op.info.2) = some ro
  hu : PySem.W.subIn K (.type "int") (.ref C) = some false
/-- the right side: an int or another one of C -/
def RightI (C : Addr) (H : Hp) (y : V) : Prop := (∃ j, y = .int j) ∨ ∃ b dy gs, y = .ref b ∧ H b = some (.ins C dy gs)
def rOwn (X : Cx) (op : Operator) : R2 := fun x y H Q => ∃ (a C dx : Addr) (fs : List (Str × V)) (f : Addr) (CX : CXT) (k : Nat) (sp : Sp) (E : XK),
  x = .ref a ∧ H a = some (.ins C dx fs) ∧ RightI C H y ∧ BinM X.K C op f ∧ FnR X.prog X.w X.K X.mg X.base CX k f sp ∧ Room k X.A ∧ Passes CX X E ∧ sp [x, y] H Q E
theorem cmpBack_of {pins : List (Addr × Obj)} {σ : St} {Q : VK} {v : Value} {s : Shared} (h : EP X pins σ Q v s) : PySem.W.CmpBack (EP X pins σ Q) v s := by
  cases v <;> first
  | exact h
  | (obtain ⟨z, _, _, rz, _⟩ := h
     exfalso
     cases z <;> simp [RelV] at rz)
theorem op_ownB (op : Operator) : OpR X (binaryOp op) (rOwn X op) := by
  intro pins s σ H x y v u Q I rx ry h
  obtain ⟨a, C, dx, fs, f, CX, k, sp, E, rfl, ha, hR, hM, F, hr, hx, hs⟩ := h
  obtain rfl : v = Value.ref a := rx
  have hc : wpAny (model X.prog X.w) X.A (call (.ref f) [.ref a, u]) (PySem.W.CmpBack (EP X pins σ Q)) X.xe s :=
    thn (wpAny_call (run_fnR (us := [.ref a, u]) (vs := [.ref a, y]) F hr hx I (.cons rfl (.cons ry .nil)) hs)) fun _ _ z => cmpBack_of z
  obtain ⟨mA, J, _⟩ := ins_get I.hok ha
  obtain ⟨od, J, _⟩ := J.look
  obtain ⟨m, hF⟩ := I.fr
  rcases hR with ⟨j, rfl⟩ | ⟨b, dy, gs, rfl, hb⟩
  · obtain ⟨t, rfl⟩ := ry
    obtain ⟨rc, hrc, hp⟩ := hM.hr
    obtain ⟨fo, ro, h1, h2⟩ := hM.ht
    exact PySem.W.ksp_binT hF I.ok.mod.kin J rfl hM.hc hM.hs hM.hf hrc hp h1 h2 hM.hu hc
  · obtain rfl : u = Value.ref b := ry
    obtain ⟨mB, J2, _⟩ := ins_get I.hok hb
    obtain ⟨od2, J2, _⟩ := J2.look
    exact PySem.W.binop_K hF I.ok.mod.kin J J2.type hM.hc hM.hs hM.hf hc
/-- comparisons -/
structure CmpM (K : PySem.W.Frag) (C : Addr) (op : CmpOp) (f : Addr) : Prop where
  hs : PySem.W.findIn K (.ref C) (cmpInfo op).2.1 = some (some (.ref f))
  hf : PySem.W.isFn K (.ref f) = true
  hn : PySem.W.notFirst K C (.type "int") = true
def rOwnC (X : Cx) (op : CmpOp) : R2 := fun x y H Q => ∃ (a C dx : Addr) (fs : List (Str × V)) (f : Addr) (CX : CXT) (k : Nat) (sp : Sp) (E : XK),
  x = .ref a ∧ H a = some (.ins C dx fs) ∧ RightI C H y ∧ CmpM X.K C op f ∧ FnR X.prog X.w X.K X.mg X.base CX k f sp ∧ Room k X.A ∧ Passes CX X E ∧ sp [x, y] H Q E
theorem op_ownC (op : CmpOp) (hop : ∀ a b, compareOp op a b = richCompare op a b := by intro _ _; rfl) : OpR X (compareOp op) (rOwnC X op) := by
  intro pins s σ H x y v u Q I rx ry h
  obtain ⟨a, C, dx, fs, f, CX, k, sp, E, rfl, ha, hR, hM, F, hr, hx, hs⟩ := h
  obtain rfl : v = Value.ref a := rx
  have hc : wpAny (model X.prog X.w) X.A (call (.ref f) [.ref a, u]) (PySem.W.CmpBack (EP X pins σ Q)) X.xe s :=
    thn (wpAny_call (run_fnR (us := [.ref a, u]) (vs := [.ref a, y]) F hr hx I (.cons rfl (.cons ry .nil)) hs)) fun _ _ z => cmpBack_of z
  obtain ⟨mA, J, _⟩ := ins_get I.hok ha
  obtain ⟨od, J, _⟩ := J.look
  obtain ⟨m, hF⟩ := I.fr
  rw [hop]
  rcases hR with ⟨j, rfl⟩ | ⟨b, dy, gs, rfl, hb⟩
  · obtain ⟨t, rfl⟩ := ry
    exact PySem.W.cmp_K (tb := .type "int") hr.units0 hF I.ok.mod.kin J (PySem.W.Looks.of_pure rfl) hM.hn hM.hs hM.hf hc
  · obtain rfl : u = Value.ref b := ry
    obtain ⟨mB, J2, _⟩ := ins_get I.hok hb
    obtain ⟨od2, J2, _⟩ := J2.look
    exact PySem.W.cmp_K (tb := .ref C) hr.units0 hF I.ok.mod.kin J J2.type (by simp [PySem.W.notFirst]) hM.hs hM.hf hc
/-- one-place operators -/
structure UnM (K : PySem.W.Frag) (C : Addr) (nm : Str) (f : Addr) : Prop where
  hs : PySem.W.findIn K (.ref C) nm = some (some (.ref f))
  hf : PySem.W.isFn K (.ref f) = true
def rOwnU (X : Cx) (nm : Str) : V → Hp → VK → Prop := fun x H Q => ∃ (a C dx : Addr) (fs : List (Str × V)) (f : Addr) (CX : CXT) (k : Nat) (sp : Sp) (E : XK),
  x = .ref a ∧ H a = some (.ins C dx fs) ∧ UnM X.K C nm f ∧ FnR X.prog X.w X.K X.mg X.base CX k f sp ∧ Room k X.A ∧ Passes CX X E ∧ sp [x] H Q E
theorem un_ownNeg : UnR X (unaryOp .USub) (rOwnU X "__neg__") := by
  intro pins s σ H x v Q I rx h
  obtain ⟨a, C, dx, fs, f, CX, k, sp, E, rfl, ha, hM, F, hr, hx, hs⟩ := h
  obtain rfl : v = Value.ref a := rx
  obtain ⟨mA, J, _⟩ := ins_get I.hok ha
  obtain ⟨od, J, _⟩ := J.look
  obtain ⟨m, hF⟩ := I.fr
  exact PySem.W.ksp_neg hF I.ok.mod.kin J hM.hs hM.hf (wpAny_call (run_fnR (us := [.ref a]) (vs := [.ref a]) F hr hx I (.cons rfl .nil) hs))
theorem un_ownInv : UnR X (unaryOp .Invert) (rOwnU X "__invert__") := by
  intro pins s σ H x v Q I rx h
  obtain ⟨a, C, dx, fs, f, CX, k, sp, E, rfl, ha, hM, F, hr, hx, hs⟩ := h
  obtain rfl : v = Value.ref a := rx
  obtain ⟨mA, J, _⟩ := ins_get I.hok ha
  obtain ⟨od, J, _⟩ := J.look
  obtain ⟨m, hF⟩ := I.fr
  exact PySem.W.ksp_inv hF I.ok.mod.kin J hM.hs hM.hf (wpAny_call (run_fnR (us := [.ref a]) (vs := [.ref a]) F hr hx I (.cons rfl .nil) hs))
/-! ## static methods, methods, defs by positional promises -/
structure SMet (K : PySem.W.Frag) (C : Addr) (m : Str) (g : Addr) : Prop where
  ex : ∃ (mc : Value) (p : Addr) (rest : List Value), ClX.CRead K C mc ∧ PySem.W.findCls K (.ref C) mc m = some (.get (.builtin "staticmethod.__get__") (.ref p) .none (.ref C)) ∧ PySem.W.recIn K p "staticmethod" = some (.ref g :: rest)
  kp : PySem.W.keepIn K (.ref g) = true
variable {CX : CXT} {k : Nat} {C g : Addr} {sp : Sp} {E : XK} {o e : Expr} {es : List Expr} {m x : Str} {p pos apos : Pos} {ta : TE} {t : TA}
def tSM (C : Addr) (sp : Sp) (E : XK) (ta : TE) (t : TA) : TE := fun σ H Q => ta σ H fun x H1 => x = .ref C ∧ t σ H1 fun vs H2 => sp vs H2 Q E
theorem pe_smeth {pl : Sem Bool} (he : PE X o ta) (c : SMet X.K C m g) (F : FnR X.prog X.w X.K X.mg X.base CX k g sp) (hr : Room k X.A) (hx : Passes CX X E) (ha : PA X (e :: es) t)
    (hst : starEach (e :: es) X.env = (false, eval e X.env) :: starEach es X.env := by rfl) (hpl : (backTo pos (starEach es X.env)).any (·.1) = false := by rfl)
    (ht : eval (.Call (.Attribute o m apos) (e :: es) [] pos) X.env = (eval o X.env >>= fun ov => standAt apos.atName >>= fun _ => holding [ov] (getMethod ov m pl) >>= fun r =>
      callWith pos r.1 r.2 (backTo pos (starEach (e :: es) X.env)) (backToKw pos (keywordEach [] X.env))) := by rfl) :
    PE X (.Call (.Attribute o m apos) (e :: es) [] pos) (tSM C sp E ta t) := by
  refine ⟨fun pins s σ H Q I h => ?_⟩
  refine PySem.W.methodCall_KW (pl := pl) (thn (he.run pins s σ H _ I h) fun u s1 ⟨x, H1, I1, rx, ex, q⟩ => ?_) ht
  subst ex
  obtain rfl : u = Value.ref C := rx
  obtain ⟨mc, p, rest, r, at_, rc⟩ := c.ex
  refine PySem.W.method_cls I1.kIn r.ga ?_
  refine PySem.W.cls_bind I1.kIn r.rd at_ (wpAny_call (PySem.W.sm_get (s := { s1 with toks := s1.toks + 1 }) I1.kIn rc (PySem.W.handed_on rfl ?_)))
  refine PySem.W.callWith_K (first := []) (h₀ := X.base) I1.ok.mod.kin c.kp (thn (ha.run pos pins _ σ H1 _ (I1.tok _) q) fun us s2 ⟨vs, H2, I2, r2, q2⟩ => ⟨I2.kIn, ?_⟩) hst hpl
  exact wpAny_call (run_fnR F hr hx I2 r2 q2)
/-- x(e, ..), x a def of the module -/
theorem pe_fnR (F : FnR X.prog X.w X.K X.mg X.base CX k g sp) (hr : Room k X.A) (hk : PySem.W.keepIn X.K (.ref g) = true) (hm : X.mg x = some (.ref g)) (hx : Passes CX X E) (ha : PA X (e :: es) t) (hg : Gl X x := by rfl) (hd : (x == ("__debug__" : Str)) = false := by decide)
    (he : starEach (e :: es) X.env = (false, eval e X.env) :: starEach es X.env := by rfl) (hst : (backTo pos (starEach es X.env)).any (·.1) = false := by rfl) :
    PE X (.Call (.Name x p) (e :: es) [] pos) (fun σ H Q => t σ H fun vs H1 => sp vs H1 Q E) := by
  refine ⟨fun pins s σ H Q I h => ?_⟩
  refine wpAny_Call_Name_kw (ld_glob I hg hm ?_ hd)
  refine PySem.W.callWith_K (h₀ := X.base) I.ok.mod.kin hk (thn (ha.run pos pins s σ H _ I h) fun us s1 ⟨vs, H1, I1, r, q⟩ => ⟨I1.kIn, ?_⟩) he hst
  exact wpAny_call (run_fnR F hr hx I1 r q)
/-- o.m(e, ..) -/
def tMR (C : Addr) (m : Str) (sp : Sp) (E : XK) (ta : TE) (t : TA) : TE := fun σ H Q => ta σ H fun x H1 => ∃ a dx fs, x = .ref a ∧ H1 a = some (.ins C dx fs) ∧ fs.lookup m = none ∧ t σ H1 fun vs H2 => sp (x :: vs) H2 Q E
theorem pe_mR {pl : Sem Bool} (he : PE X o ta) (c : Cls X.K C) (hm : Meth X.K C m g) (F : FnR X.prog X.w X.K X.mg X.base CX k g sp) (hr : Room k X.A) (hx : Passes CX X E) (ha : PA X (e :: es) t)
    (hst : starEach (e :: es) X.env = (false, eval e X.env) :: starEach es X.env := by rfl) (hpl : (backTo pos (starEach es X.env)).any (·.1) = false := by rfl)
    (ht : eval (.Call (.Attribute o m apos) (e :: es) [] pos) X.env = (eval o X.env >>= fun ov => standAt apos.atName >>= fun _ => holding [ov] (getMethod ov m pl) >>= fun r =>
      callWith pos r.1 r.2 (backTo pos (starEach (e :: es) X.env)) (backToKw pos (keywordEach [] X.env))) := by rfl) :
    PE X (.Call (.Attribute o m apos) (e :: es) [] pos) (tMR C m sp E ta t) := by
  refine ⟨fun pins s σ H Q I h => ?_⟩
  refine PySem.W.methodCall_KW (pl := pl) (thn (he.run pins s σ H _ I h) fun u s1 ⟨x, H1, I1, rx, a, dx, fs, ex, ea, l, q⟩ => ?_) ht
  subst ex
  obtain rfl : u = Value.ref a := rx
  refine getmeth_ok I1 ea c hm l ?_
  refine PySem.W.callWith_K (first := [.ref a]) (h₀ := X.base) I.ok.mod.kin hm.kp (thn (ha.run pos pins s1 σ H1 _ I1 q) fun us s2 ⟨vs, H2, I2, r, q2⟩ => ⟨I2.kIn, ?_⟩) hst hpl
  exact wpAny_call (run_fnR (us := .ref a :: us) (vs := .ref a :: vs) F hr hx I2 (.cons rfl r) q2)
/-- o.m() -/
theorem pe_mR0 {pl : Sem Bool} (he : PE X o ta) (c : Cls X.K C) (hm : Meth X.K C m g) (F : FnR X.prog X.w X.K X.mg X.base CX k g sp) (hr : Room k X.A) (hx : Passes CX X E)
    (ht : eval (.Call (.Attribute o m apos) [] [] pos) X.env = (eval o X.env >>= fun ov => standAt apos.atName >>= fun _ => holding [ov] (getMethod ov m pl) >>= fun r =>
      callWith pos r.1 r.2 (backTo pos (starEach [] X.env)) (backToKw pos (keywordEach [] X.env))) := by rfl) :
    PE X (.Call (.Attribute o m apos) [] [] pos) (tMR C m sp E ta tNil) := by
  refine ⟨fun pins s σ H Q I h => ?_⟩
  refine PySem.W.methodCall_KW (pl := pl) (thn (he.run pins s σ H _ I h) fun u s1 ⟨x, H1, I1, rx, a, dx, fs, ex, ea, l, q⟩ => ?_) ht
  subst ex
  obtain rfl : u = Value.ref a := rx
  refine getmeth_ok I1 ea c hm l ?_
  exact PySem.W.callWith_K0 (first := [.ref a]) I1.kIn hm.kp (wpAny_call (run_fnR (us := [.ref a]) (vs := [.ref a]) F hr hx I1 (.cons rfl .nil) q))
/-- // by a divisor of any sign below 2 ^ 9000 -/
def CDivZ (_ j : Int) : Prop := j ≠ 0 ∧ j.natAbs.log2 < 9000
theorem op_fdivZ : OpR X (binaryOp .FloorDiv) (rI CDivZ fun i j => .int (i.fdiv j)) := opI fun _ _ _ _ _ _ _ hc q => PyProof.Rows.floordiv_int hc.1 q (.inl (PyProof.noPylong_of_log2 hc.2))
theorem divZ {i j : Int} {b : Nat} (h : j ≠ 0) (hb : j.natAbs < 2 ^ b) (h0 : 0 < b) (h9 : b ≤ 9000) : CDivZ i j := ⟨h, Nat.lt_of_lt_of_le (PySem.Flt.log2_lt_of h0 hb) h9⟩
/-- what isinstance asks of an own class -/
structure TyC (K : PySem.W.Frag) (C : Addr) : Prop where
  ha : PySem.W.findIn K (.ref C) "__class__" = some (some (.builtin "object.__class__"))
  hn : PySem.W.specialIn K (.builtin "object.__class__") "__get__" = some (some (.builtin "getset_descriptor.__get__"))
  htk : PySem.W.takesIn K (.builtin "object.__class__") = some true
  hm : PySem.W.mroIn K C (.type "object") = some true
theorem TyC.ty {K : PySem.W.Frag} {C a dx : Addr} {H : Hp} {fs : List (Str × V)} (y : TyC K C) (c : Cls K C) (e : H a = some (.ins C dx fs)) : TyX K H (.ref a) (.ref C) := .base (.ins e c y.ha y.hn y.htk y.hm)
theorem kit_rt {K : PySem.W.Frag} {C : Addr} {S : String} {b : Bool} (m : PySem.W.kitMeta S = true) (h : PySem.W.subIn K (.ref C) (.type S) = some b) : PySem.W.kitOne K (.ref C) (.type S) = some b := by
  unfold PySem.W.kitOne PySem.W.kitCls
  rw [if_neg (by intro e; cases (beq_iff_eq.mp e))]
  dsimp only
  rw [if_pos m]
  exact h
theorem kit_tr {K : PySem.W.Frag} {C : Addr} {S : String} {b : Bool} (c : PySem.W.isClsIn K C = true) (t : PySem.W.typeIn K (.ref C) = some (.type "type")) (h : PySem.W.subIn K (.type S) (.ref C) = some b) : PySem.W.kitOne K (.type S) (.ref C) = some b := by
  unfold PySem.W.kitOne PySem.W.kitCls
  rw [if_neg (by intro e; cases (beq_iff_eq.mp e))]
  dsimp only
  rw [if_pos (by rw [show (PySem.W.clsIn K C).isSome = true from c, t]; rfl)]
  exact h
theorem kit_rr {K : PySem.W.Frag} {C : Addr} : PySem.W.kitOne K (.ref C) (.ref C) = some true := by simp [PySem.W.kitOne]
theorem ifF {c : Bool} {A B : Prop} (hc : c = false) (h : B) : if c = true then A else B := by subst hc; exact iteF h
theorem ifT {c : Bool} {A B : Prop} (hc : c = true) (h : A) : if c = true then A else B := by subst hc; exact iteT h
theorem if2 {c : Bool} {A B : Prop} (h1 : c = true → A) (h2 : c = false → B) : if c = true then A else B := by
  cases c with
  | true => exact iteT (h1 rfl)
  | false => exact iteF (h2 rfl)
/-! ## what stays beside a pen -/
def isL : HO → Bool
  | .lst _ => true
  | _ => false
/-- all but the list at p stays -/
def Up (p : Addr) (H H' : Hp) : Prop := ∀ b o, H b = some o → (b = p → isL o = false) → H' b = some o
theorem Up.refl (p : Addr) (H : Hp) : Up p H H := fun _ _ h _ => h
theorem Up.trans {p : Addr} {H H1 H2 : Hp} (a : Up p H H1) (b : Up p H1 H2) : Up p H H2 := fun c o h n => b c o (a c o h n) n
theorem Up.same {p : Addr} {H H' : Hp} (e : Same H H') : Up p H H' := fun b o h _ => e b o h
theorem Up.new {p q : Addr} {H : Hp} {o : HO} (h : H q = none) : Up p H (upd H q o) := fun b u e _ => by rw [upd_ne (ne_of_none e h)]; exact e
theorem Up.new' {p q : Addr} {H H1 : Hp} {o : HO} (e : Up p H H1) (h : H1 q = none) : Up p H (upd H1 q o) := e.trans (Up.new h)
theorem Up.put {p : Addr} {H : Hp} {xs : List V} {o : HO} (h : H p = some (.lst xs)) : Up p H (upd H p o) := fun b u e n => by
  by_cases hb : b = p
  · subst hb
    rw [h] at e
    cases e
    exact absurd (n rfl) (by simp [isL])
  · rw [upd_ne hb]; exact e
theorem Up.tup {p a : Addr} {H H' : Hp} {xs : List V} (e : Up p H H') (h : H a = some (.tup xs)) : H' a = some (.tup xs) := e _ _ h fun _ => rfl
theorem Up.ins {p a C dx : Addr} {H H' : Hp} {fs : List (Str × V)} (e : Up p H H') (h : H a = some (.ins C dx fs)) : H' a = some (.ins C dx fs) := e _ _ h fun _ => rfl
theorem Up.lst {p a : Addr} {H H' : Hp} {xs : List V} (e : Up p H H') (h : H a = some (.lst xs)) (n : a ≠ p) : H' a = some (.lst xs) := e _ _ h fun z => absurd z n
/-! ## rules by alternatives -/
theorem CallR.or' {f : Value} {r r' : List V → Hp → VK → Prop} (h : CallR X f r) (h' : CallR X f r') : CallR X f (fun xs H Q => r xs H Q ∨ r' xs H Q) := by
  intro pins s σ H xs us Q I rv q
  rcases q with q | q
  · exact h pins s σ H xs us Q I rv q
  · exact h' pins s σ H xs us Q I rv q
theorem UnR.or' {f : Value → Sem Value} {r r' : V → Hp → VK → Prop} (h : UnR X f r) (h' : UnR X f r') : UnR X f (fun x H Q => r x H Q ∨ r' x H Q) := by
  intro pins s σ H x v Q I rv q
  rcases q with q | q
  · exact h pins s σ H x v Q I rv q
  · exact h' pins s σ H x v Q I rv q
def orR (r r' : R2) : R2 := fun x y H Q => r x y H Q ∨ r' x y H Q
theorem op_or2 {f : Value → Value → Sem Value} {r r' : R2} (h : OpR X f r) (h' : OpR X f r') : OpR X f (orR r r') := OpR.or h h'
theorem uAdd : OpR X (binaryOp .Add) (orR (rI0 fun i j => .int (i + j)) (orR (rOwn X .Add) (orR rCat (rCatT X.K)))) := op_or2 op_add (op_or2 (op_ownB _) (op_or2 op_cat op_catT))
theorem uSub : OpR X (binaryOp .Sub) (orR (rI0 fun i j => .int (i - j)) (rOwn X .Sub)) := op_or2 op_sub (op_ownB _)
/-- * of two factors, one small or both together below a million bits -/
def CMulU (i j : Int) : Prop := CMul i j ∨ CMulW i j
theorem op_mulU : OpR X (binaryOp .Mult) (rI CMulU fun i j => .int (i * j)) := opI fun _ _ _ _ _ _ _ hc q => PyProof.Rows.mul_int q (hc.elim (fun h => h.ok) fun h => h.ok)
theorem mulL {i j : Int} (h : -(2 ^ 64) < i ∧ i < 2 ^ 64) : CMulU i j := .inl (.inl h)
theorem mulR {i j : Int} (h : -(2 ^ 64) < j ∧ j < 2 ^ 64) : CMulU i j := .inl (.inr h)
theorem uMul : OpR X (binaryOp .Mult) (orR (rI CMulU fun i j => .int (i * j)) (rOwn X .Mult)) := op_or2 op_mulU (op_ownB _)
/-! ## numbers that stir a pen -/
theorem fm0 {a b : Int} (h : 0 < b) : 0 ≤ a.fmod b ∧ a.fmod b < b := by
  rw [Int.fmod_eq_emod_of_nonneg _ (by omega)]
  exact ⟨Int.emod_nonneg _ (by omega), Int.emod_lt_of_pos _ h⟩
theorem stir1 {x m a b s : Int} (hm : 0 < m) (hm1 : m ≤ 2147483648) (ha : 0 ≤ a) (ha1 : a ≤ 1000000) (hb : 0 ≤ b) (hb1 : b ≤ 10000000) (h0 : 0 ≤ s) (h1 : s ≤ 100000) : (x.fmod m + a * s + b).natAbs < 2 ^ 64 := by
  obtain ⟨h2, h3⟩ := fm0 (a := x) hm
  have h4 : 0 ≤ a * s := Int.mul_nonneg ha h0
  have h5 : a * s ≤ 1000000 * 100000 := Int.mul_le_mul ha1 h1 h0 (by decide)
  omega
theorem stir2 {x m u a b s : Int} (hm : 0 < m) (hm1 : m ≤ 2147483648) (hu : 0 ≤ u) (hu1 : u ≤ 100000) (ha : 0 ≤ a) (ha1 : a ≤ 1000000) (hb : 0 ≤ b) (hb1 : b ≤ 10000000) (h0 : 0 ≤ s) (h1 : s ≤ 100000) : (x.fmod m * (2 * s + u) + a * s * s + b).natAbs < 2 ^ 64 := by
  obtain ⟨h2, h3⟩ := fm0 (a := x) hm
  have h4 : 0 ≤ a * s := Int.mul_nonneg ha h0
  have h5 : a * s ≤ 1000000 * 100000 := Int.mul_le_mul ha1 h1 h0 (by decide)
  have h6 : 0 ≤ a * s * s := Int.mul_nonneg h4 h0
  have h7 : a * s * s ≤ 1000000 * 100000 * 100000 := Int.mul_le_mul h5 h1 h0 (by decide)
  have h8 : 0 ≤ x.fmod m * (2 * s + u) := Int.mul_nonneg h2 (by omega)
  have h9 : x.fmod m * (2 * s + u) ≤ 2147483648 * 300000 := Int.mul_le_mul (by omega) (by omega) (by omega) (by decide)
  omega
theorem stir3 {x m : Int} (hm : 0 < m) (hm1 : m ≤ 2147483648) : ∀ y, CMulU (x.fmod m) y := fun y => by
  obtain ⟨h2, h3⟩ := fm0 (a := x) hm
  exact mulL (by omega)
theorem stir4 {a s : Int} (ha : 0 ≤ a) (ha1 : a ≤ 1000000) (h0 : 0 ≤ s) (h1 : s ≤ 100000) : ∀ y, CMulU (a * s) y := fun y => by
  have h4 : 0 ≤ a * s := Int.mul_nonneg ha h0
  have h5 : a * s ≤ 1000000 * 100000 := Int.mul_le_mul ha1 h1 h0 (by decide)
  exact mulL (by omega)
theorem nz {j : Int} (h : j ≠ 0) : j ≠ 0 := h
theorem small_div {i j : Int} (h0 : 0 < j) (h1 : j ≤ 100000000000) : CDivZ i j := divZ (b := 40) (by omega) (by omega) (by decide) (by decide)
theorem szN {n : Nat} {q : Rat} (h : Sz n q) : q.num.natAbs < 2 ^ n := h.1
theorem szD {n : Nat} {q : Rat} (h : Sz n q) : (q.den : Int).natAbs < 2 ^ n := h.2
theorem mul2 {i j : Int} (h1 : i.natAbs < 2 ^ 2000) (h2 : j.natAbs < 2 ^ 2000) : CMulU i j := .inr (wide_mul h1 h2 (by decide) (by decide) (by decide))
theorem den2 {x y : Rat} (h1 : Sz 2000 x) (h2 : Sz 2000 y) : ((x.den : Int) * (y.den : Int)).natAbs < 2 ^ 8000 := by
  rw [Int.natAbs_mul]
  exact Nat.lt_of_lt_of_le (mul_lt2 (szD h1) (szD h2)) (Nat.pow_le_pow_right (by decide) (by decide))
theorem den0 (x y : Rat) : (x.den : Int) * (y.den : Int) ≠ 0 := Int.mul_ne_zero (dne x) (dne y)
/-! ## menus: displays of tuples of constants -/
def tcs (c : List V) : TA := c.foldr (fun v t => tCons (tC v) t) tNil
theorem tcs_ok {σ : St} : ∀ {c : List V} {H : Hp} {Q : List V → Hp → Prop}, Q c H → tcs c σ H Q
  | [], _, _, q => q
  | v :: c, H, Q, q => tcs_ok (c := c) (H := H) (Q := fun xs H2 => Q (v :: xs) H2) q
def tMenu (cs : List (List V)) : TA := cs.foldr (fun c t => tCons (tTup (tcs c)) t) tNil
theorem tMenu_ok {σ : St} : ∀ {cs : List (List V)} {H : Hp} {Q : List V → Hp → Prop}, (∀ c ∈ cs, c.length ≤ 1000) →
    (∀ ps H', Same H H' → Paired (fun p c => H' p = some (.tup c)) ps cs → Q (ps.map V.ref) H') → tMenu cs σ H Q
  | [], H, Q, _, q => q [] H (Same.refl H) .nil
  | c :: cs, H, Q, hc, q => by
    show tTup (tcs c) σ H (fun x H1 => tMenu cs σ H1 fun xs H2 => Q (x :: xs) H2)
    refine tcs_ok (c := c) ⟨Nat.le_of_lt (small1000 (hc c (List.mem_cons_self ..))), fun p hp => ?_⟩
    refine tMenu_ok (fun c' h => hc c' (List.mem_cons_of_mem _ h)) fun ps H' e pr => ?_
    refine q (p :: ps) H' (fun b o h => e _ _ (by rw [upd_ne (ne_of_none h hp)]; exact h)) (.cons (e _ _ upd_same) pr)
theorem sameNew {H : Hp} {a : Addr} {o : HO} (h : H a = none) : Same H (upd H a o) := fun b u e => by rw [upd_ne (ne_of_none e h)]; exact e
theorem go_sa {te : TE} {g : TG} {u : TS} {D : Ends} {σ : St} {H : Hp} (h : te σ H fun x H1 => g x σ H1 (u D)) : tSeq (tAsg te g) u D σ H := h
theorem qb {Q : Bool → Hp → Prop} {b c : Bool} {H : Hp} (e : b = c) (h : Q c H) : Q b H := e ▸ h
theorem vb {Q : VK} {b c : Bool} {H : Hp} (e : b = c) (h : Q (.bl c) H) : Q (.bl b) H := e ▸ h
/-- an if whose test is false, whatever is wanted of it -/
theorem sif {tc : TT} {t w : TS} {D : Ends} {σ : St} {H : Hp} (h : ∀ Q : Bool → Hp → Prop, (∀ H2, Same H H2 → Q false H2) → tc σ H Q) (k : ∀ H2, Same H H2 → w D σ H2) : tSeq (tIfS tc t tNext) w D σ H :=
  h _ fun H2 e => iteF (k H2 e)
theorem lMenu_ok {σ : St} {cs : List (List V)} {H : Hp} {Q : VK} (hc : ∀ c ∈ cs, c.length ≤ 1000) (hl : cs.length ≤ 1000)
    (q : ∀ ps H1 a, Same H H1 → Paired (fun p c => H1 p = some (.tup c)) ps cs → H1 a = none → Q (.ref a) (upd H1 a (.lst (ps.map V.ref)))) : tLst (tMenu cs) σ H Q :=
  tMenu_ok hc fun ps H1 e pr => ⟨by rw [List.length_map, pr.length]; exact Nat.le_of_lt (small1000 hl), fun a ha => q ps H1 a e pr ha⟩
theorem paired_mem {α β : Type} {F : α → β → Prop} : ∀ {l : List α} {m : List β} {x : α}, Paired F l m → x ∈ l → ∃ y ∈ m, F x y
  | _, _, _, .nil, h => by cases h
  | _, _, x, .cons r t, h => by
    rcases List.mem_cons.mp h with e | h
    · subst e; exact ⟨_, List.mem_cons_self .., r⟩
    · obtain ⟨y, hy, f⟩ := paired_mem t h
      exact ⟨y, List.mem_cons_of_mem _ hy, f⟩
/-! ## lists of ints as data -/
theorem dp_ints {K : PySem.W.Frag} {H : Hp} : ∀ ns : List Int, DpAll K H (ns.map V.int) (ns.map PyData.int)
  | [] => .nil
  | n :: ns => .cons (.int n) (dp_ints ns)
theorem canAll_ints : ∀ ns : List Int, PyData.canLayAll0 (ns.map PyData.int) = true
  | [] => by simp [PyData.canLayAll0]
  | n :: ns => by simp [PyData.canLayAll0, PyData.canLay0, canAll_ints ns]
theorem depthAll_ints : ∀ ns : List Int, PyData.depthAll (ns.map PyData.int) ≤ 1
  | [] => by simp [PyData.depthAll]
  | n :: ns => by
    have h := depthAll_ints ns
    simp [PyData.depthAll, PyData.depth] at *
    omega
theorem shaped_ints (ns : List Int) : SeqAt.shaped (.list (ns.map PyData.int)) = true := by
  have h := depthAll_ints ns
  simp [SeqAt.shaped, PyData.canLay0, PyData.depth, canAll_ints]
  omega
theorem eqv_same : ∀ ns : List Int, PyData.eqv (.list (ns.map PyData.int)) (.list (ns.map PyData.int)) = true
  | [] => by simp [PyData.eqv, PyData.eqvAll]
  | n :: ns => by
    have h := eqv_same ns
    simp [PyData.eqv, PyData.eqvAll] at *
    exact h
theorem eqv_nil (ns : List Int) : PyData.eqv (.list (ns.map PyData.int)) (.list []) = ns.isEmpty := by
  cases ns <;> simp [PyData.eqv, PyData.eqvAll]
theorem uDiv : OpR X (binaryOp .FloorDiv) (orR (rI CDivZ fun i j => .int (i.fdiv j)) (rOwn X .FloorDiv)) := op_or2 op_fdivZ (op_ownB _)
theorem uMod : OpR X (binaryOp .Mod) (orR (rI (fun _ j => j ≠ 0) fun i j => .int (i.fmod j)) (rOwn X .Mod)) := op_or2 op_modN (op_ownB _)
theorem uLt : OpR X (compareOp .Lt) (orR (rI0 fun i j => .bl (decide (i < j))) (rOwnC X .Lt)) := op_or2 op_lt (op_ownC _)
theorem uLe : OpR X (compareOp .LtE) (orR (rI0 fun i j => .bl (decide (i ≤ j))) (rOwnC X .LtE)) := op_or2 op_le (op_ownC _)
theorem uGt : OpR X (compareOp .Gt) (orR (rI0 fun i j => .bl (decide (j < i))) (rOwnC X .Gt)) := op_or2 op_gt (op_ownC _)
theorem uGe : OpR X (compareOp .GtE) (orR (rI0 fun i j => .bl (decide (j ≤ i))) (rOwnC X .GtE)) := op_or2 op_ge (op_ownC _)
theorem uEq (hu : X.A.units + 64 < cLine) : OpR X (compareOp .Eq) (orR rEq (orR (rOwnC X .Eq) (rEqD X.K))) := op_or2 op_eq (op_or2 (op_ownC _) (op_eqD hu))
theorem uNe (hu : X.A.units + 64 < cLine) : OpR X (compareOp .NotEq) (orR rNe (rNeD X.K)) := op_or2 op_ne (op_neD hu)
theorem uNeg : UnR X (unaryOp .USub) (fun x H Q => rU (fun i => .int (-i)) x H Q ∨ rOwnU X "__neg__" x H Q) := UnR.or' un_neg un_ownNeg
/-- two promises of one def -/
theorem FnR.or {P : Program} {w : World} {K : PySem.W.Frag} {mg : Str → Option Value} {base : Heap} {CX : CXT} {k : Nat} {f : Addr} {sp sp' : Sp} (h : FnR P w K mg base CX k f sp) (h' : FnR P w K mg base CX k f sp') :
    FnR P w K mg base CX k f (fun vs H Q E => sp vs H Q E ∨ sp' vs H Q E) := fun A outer s H us vs Q E hr e0 r hs =>
  hs.elim (fun q => h A outer s H us vs Q E hr e0 r q) fun q => h' A outer s H us vs Q E hr e0 r q
theorem uIsi : CallR X (.builtin "isinstance") (fun xs H Q => rIsi X.K xs H Q ∨ rIsiT X.K xs H Q) := CallR.or' call_isi call_isiT
end
end AZ

set_option Elab.async false
set_option maxRecDepth 100000
set_option maxHeartbeats 4000000
set_option linter.all false
namespace AZ
open PySem PySem.Spec PySem.W PySem.Calls PyProof.Rows
section
variable {prog : Program} {w : World} {A : Around} {E : Value → Shared → Prop} {s : Shared} {K : Frag} {x C L f : Addr} {h₀ : Heap} {m : Str → Option Value} {ox : Obj} {od : Option Obj} {name : Str} {b tb : Value}
theorem ifBound_B {M : Model} {id : String} {args : List Value} {Q : Option Value → Shared → Prop} (X : K.In s.heap) (I : InstAt s.heap x ox C od) (hs : findIn K (.ref C) name = some (some (.builtin id)))
    (hb : ∀ self, bindSpecial (.builtin id) self = pure (.builtin id, [self])) (h : wpAny M A (call (.builtin id) (.ref x :: args)) (fun v => Q (some v)) E s) : wpAny M A (callSpecialIfBound? (.ref x) name args) Q E s := by
  simp only [callSpecialIfBound?, bindSpecialIfBound?]
  refine wpAny_holding (wpAny_bind (wpAny_bind (wpAny_bind (I.type.here ((looks_findIn X hs).here ?_)))))
  refine wpAny_bind (wpAny_askSetting (wpAny_ite ?_))
  have fin : wpAny M A (call (.builtin id) ([.ref x] ++ args) >>= fun v => pure (some v)) Q E s := wpAny_bind (wpAny_mono h (fun v s' h' => wpAny_pure h') fun _ _ h' => h')
  split
  · exact wpAny_bind ((Looks.of_pure (hb _)).here (wpAny_pure (by exact fin)))
  · exact wpAny_tryCatch (wpAny_bind ((Looks.of_pure (hb _)).here (wpAny_pure (by exact fin))))
theorem one_ne {Q : Value → Shared → Prop} (hu : A.units + 1 < cLine) (X : K.In s.heap) (I : InstAt s.heap x ox C od)
    (hne : findIn K (.ref C) "__ne__" = some (some (.builtin "object.__ne__"))) (hs : findIn K (.ref C) "__eq__" = some (some (.ref f))) (hf : isFn K (.ref f) = true) (hm : mroIn K C (.type "object") = some true)
    (h : wpAny (model prog w) A.in1 (call (.ref f) [.ref x, b]) (fun v s' => ∃ r, v = .bool r ∧ Q (.bool (!r)) s') E s) :
    wpAny (model prog w) A (tryCompare (.ref x) "__ne__" b) (fun r s' => ∃ v, r = some v ∧ Q v s') E s := by
  have hu' : A.in1.units < cLine := by
    show A.units + 1 < cLine
    exact hu
  unfold tryCompare
  refine wpAny_bind (ifBound_B X I hne PySem.F.cmp_object.ne.bind (wpAny_call (codeAny_call_builtin PySem.F.cmp_object.ne.plain PySem.F.cmpEntry_ne (check_slot PySem.F.cmpKind_ne PySem.F.cmpSplit_ne (I.type.andThen (looks_mroIn X hm)) (PySem.F.cmpArgs_ne _ _) ?_))))
  unfold Builtin.«object.__ne__»
  refine wpAny_bind (m := slotArgs "__ne__" 1 _) (wpAny_pure ?_)
  refine wpAny_bind (m := cRoomFor _ _) (wpAny_cRoomFor hu' ?_)
  refine wpAny_bind (m := callSpecialIfBound? (.ref x) (Str.ofString "__eq__") _) (ifBound_K X I hs hf (wpAny_mono h (fun r s' hr => ?_) fun _ _ y => y))
  obtain ⟨q, rfl, hq⟩ := hr
  refine wpAny_bind (wpAny_truthy_bool (wpAny_pure ?_))
  exact wpAny_pure ⟨_, rfl, hq⟩
theorem ne_K {Q : Value → Shared → Prop} (hu : A.units + 1 < cLine) (F : Fr h₀ L s.heap m) (X₀ : K.In h₀) (I : InstAt s.heap x ox C od) (hb : Looks (model prog w) s.heap (typeOf b) tb) (hn : notFirst K C tb = true)
    (hne : findIn K (.ref C) "__ne__" = some (some (.builtin "object.__ne__"))) (hs : findIn K (.ref C) "__eq__" = some (some (.ref f))) (hf : isFn K (.ref f) = true) (hm : mroIn K C (.type "object") = some true)
    (h : wpAny (model prog w) A.in1 (call (.ref f) [.ref x, b]) (fun v s' => ∃ r, v = .bool r ∧ Q (.bool (!r)) s') E s) : wpAny (model prog w) A (richCompare .NotEq (.ref x) b) Q E s := by
  have X := X₀.keeps F.keep
  have one := one_ne hu X I hne hs hf hm h
  unfold richCompare
  simp only [oneThing_ref]
  refine wpAny_holding (wpAny_bind (wpAny_cRoomFor (by omega) ?_))
  refine wpAny_bind (I.type.here (wpAny_bind (hb.here ?_)))
  split
  · rename_i q
    have e : subIn K tb (.ref C) = some false := by
      rcases Bool.or_eq_true_iff.mp hn with e | e
      · rw [beq_iff_eq.mp e] at q; simp at q
      · exact beq_iff_eq.mp e
    refine wpAny_bind ((looks_subIn X e).here ?_)
    simp only [Bool.false_eq_true, if_false]
    refine wpAny_bind (wpAny_mono one (fun r s' z => ?_) fun _ _ e => e)
    obtain ⟨v, rfl, hq⟩ := z
    exact wpAny_pure hq
  · refine wpAny_bind (wpAny_pure ?_)
    simp only [Bool.false_eq_true, if_false]
    refine wpAny_bind (wpAny_mono one (fun r s' z => ?_) fun _ _ e => e)
    obtain ⟨v, rfl, hq⟩ := z
    exact wpAny_pure hq
end
end AZ
namespace GQ
open PySem PySem.SeqAt
open AutoSeq1 (wpAny_loadPart')
open MeetsSeq MeetsSeq2 MeetsSeq3 SeqRoads2
section
variable {prog : Program} {w : World} {A : Around} {R : Result → Shared → Prop}
/-- where the walk over two tuples stands -/
def PairsAt (as bs : Array Value) (J : Nat → Shared → Prop) (left : List (Value × Value)) (z : Shared) : Prop := ∃ k, left = (as.toList.zip bs.toList).drop k ∧ k ≤ as.size ∧ J k z
theorem pairs_next {as bs : Array Value} {J : Nat → Shared → Prop} (e : as.size = bs.size) {p q : Value} {left : List (Value × Value)} {z : Shared} (h : PairsAt as bs J ((p, q) :: left) z) :
    ∃ k, ∃ (k1 : k < as.size) (k2 : k < bs.size), p = as[k] ∧ q = bs[k] ∧ left = (as.toList.zip bs.toList).drop (k + 1) ∧ J k z := by
  obtain ⟨k, el, _, hJ⟩ := h
  have len : (as.toList.zip bs.toList).length = as.size := by simp [e]
  by_cases hk : k < (as.toList.zip bs.toList).length
  · have k1 : k < as.size := len ▸ hk
    rw [List.drop_eq_getElem_cons hk] at el
    obtain ⟨e1, e2⟩ := List.cons.inj el
    have e3 := Prod.mk.inj (e1.trans (show _ = (as[k], bs[k]'(e ▸ k1)) by simp))
    exact ⟨k, k1, e ▸ k1, e3.1, e3.2, e2, hJ⟩
  · rw [List.drop_of_length_le (Nat.le_of_not_lt hk)] at el
    cases el
theorem pairs_done {as bs : Array Value} {J : Nat → Shared → Prop} (e : as.size = bs.size) {z : Shared} (h : PairsAt as bs J [] z) : J as.size z := by
  obtain ⟨k, el, hk, hJ⟩ := h
  have len : (as.toList.zip bs.toList).length = as.size := by simp [e]
  have : (as.toList.zip bs.toList).length ≤ k := by simpa using el.symm
  have hke : k = as.size := by omega
  exact hke ▸ hJ
theorem tup_ne {u v : Addr} {as bs : Array Value} {n1 n2 : Nat} {d1 d2 : Option Addr} {s1 s2 : Array (Option Value)} (e : as.size = bs.size) (J : Nat → Shared → Prop)
    (step : ∀ k (k1 : k < as.size) (k2 : k < bs.size) z, J k z → wpAny (model prog w) A.in1 (eqBool as[k] bs[k]) (fun r z' => r = true ∧ J (k + 1) z') (fun x z' => R (.error x) z') z)
    (last : ∀ z, J as.size z → R (.ok (.ret (.bool false))) z) {z : Shared} (hu : z.heap.get? u = some { cls := .type "tuple", dict := d1, data := .seq as n1, slots := s1 }) (hv : z.heap.get? v = some { cls := .type "tuple", dict := d2, data := .seq bs n2, slots := s2 }) (h : J 0 z) :
    wpAny (model prog w) A.in1 (Builtin.«tuple.__ne__» ⟨[.ref u, .ref v], []⟩) (FinOf prog w A R) (fun x z' => R (.error x) z') z := by
  have isTup := AutoSeq1.sub_tuple_tuple
  have start : PairsAt as bs J (as.toList.zip bs.toList) z := ⟨0, rfl, Nat.zero_le _, h⟩
  obtain ⟨hp, gs, dr, tk, os⟩ := z
  wp_walk using wpAny_loadPart' hu, wpAny_loadPart' hv, wpAny_forIn_list _ (fun left b z' => b.1 = none ∧ PairsAt as bs J left z') _
  case turn =>
    rintro ⟨p, q⟩ left b z' ⟨_, at_⟩
    obtain ⟨k, k1, k2, rfl, rfl, el, hJ⟩ := pairs_next e at_
    refine wpAny_bind (wpAny_mono (step k k1 k2 z' hJ) (fun r z2 hz => ?_) fun _ _ x => x)
    obtain ⟨rfl, hJ2⟩ := hz
    wp_walk
    exact ⟨rfl, k + 1, el, k1, hJ2⟩
  case fin =>
    rintro ⟨b1, b2⟩ z' ⟨hb, at_⟩
    obtain rfl : b1 = none := hb
    have hl := last z' (pairs_done e at_)
    wp_walk
    simpa [Builtin.Tuple.tupleCompareSizes, e] using hl
  case h => exact ⟨rfl, start⟩
end
section
variable {prog : Program} {w : World} {A : Around} {X : Value → Shared → Prop} {z : Shared}
theorem ne_tups {u v : Addr} {as bs : Array Value} {Q : Value → Shared → Prop} (e : as.size = bs.size) (room : A.units < cLine) (J : Nat → Shared → Prop) (hu : z.heap.IsTuple u as) (hv : z.heap.IsTuple v bs)
    (step : ∀ k (k1 : k < as.size) (k2 : k < bs.size) z, J k z → wpAny (model prog w) A.in1 (eqBool as[k] bs[k]) (fun r z' => r = true ∧ J (k + 1) z') X z)
    (last : ∀ z, J as.size z → Q (.bool false) z) (h : J 0 z) : wpAny (model prog w) A (richCompare .NotEq (.ref u) (.ref v)) Q X z := by
  obtain ⟨⟨c1, d1, a1, s1⟩, g1, rfl, n1, rfl⟩ := id hu
  obtain ⟨⟨c2, d2, a2, s2⟩, g2, rfl, n2, rfl⟩ := id hv
  exact wpAny_richCompare_same_room (op := .NotEq) ⟨_, g1, rfl⟩ ⟨_, g2, rfl⟩ F.slot_tuple_ne (call_here F.slot_tuple_ne ⟨_, g1, rfl⟩ F.entry_tuple_ne (F.args_tuple_ne_2 _ _)
    (tup_ne (R := wants (fun v s' => v ≠ .notImplemented ∧ Q v s') X) e J step (fun z' q => ⟨(fun x => nomatch x), last z' q⟩) g1 g2 h)) room
end
end GQ
namespace AZ
open PySem L2
section
variable {X : Cx} {n m : Nat} {D D' : Eqv}
/-- the callee of X, somewhere below X's running body -/
theorem run_fnS {CX : CXT} {f : Addr} {sp : Sp} {E : XK} {Q : VK} {us : List Value} {vs : List V} {A : Around} {pins : List (Addr × Obj)} {σ : St} {H : Hp} {s : Shared} (sb : Sub X n A) (F : FnR X.prog X.w X.K X.mg X.base CX n f sp) (hx : Passes CX X E) (I : Inv X pins σ H s) (r : Vals vs us) (h : sp vs H Q E) :
    codeAny (model X.prog X.w) A (.call (.ref f) ⟨us, []⟩) (fun r s' => match r with | .ok (.ret v) => EP X pins σ Q v s' | .ok _ => False | .error e => X.xe e s') s := by
  have e0 : Env0 X.prog X.w X.K X.mg X.base A X.stack s H := by
    have e := I.env0
    exact ⟨by rw [sb.fr]; exact e.frames, e.mod, e.bs, e.bsz, e.funs, e.frf, e.hok, e.bare⟩
  refine codeAny_mono (F A X.stack s H us vs Q E sb.room e0 r h) fun r s' hq => ?_
  cases r with
  | error e => exact hx pins σ H s e s' I hq
  | ok fl =>
    cases fl with
    | ret u => exact I.after hq
    | next => exact False.elim hq
    | brk => exact False.elim hq
    | cont => exact False.elim hq
/-- != of own classes that have == alone -/
structure NeM (K : PySem.W.Frag) (C f : Addr) : Prop where
  hne : PySem.W.findIn K (.ref C) "__ne__" = some (some (.builtin "object.__ne__"))
  hs : PySem.W.findIn K (.ref C) "__eq__" = some (some (.ref f))
  hf : PySem.W.isFn K (.ref f) = true
  hm : PySem.W.mroIn K C (.type "object") = some true
  hn : PySem.W.notFirst K C (.type "int") = true
def rOwnN (X : Cx) : R2 := fun x y H Q => ∃ (a C dx : Addr) (fs : List (Str × V)) (f : Addr) (CX : CXT) (k : Nat) (sp : Sp) (E : XK),
  x = .ref a ∧ H a = some (.ins C dx fs) ∧ RightI C H y ∧ NeM X.K C f ∧ FnR X.prog X.w X.K X.mg X.base CX k f sp ∧ Room (k + 1) X.A ∧ Passes CX X E ∧ sp [x, y] H (fun v H1 => ∃ r, v = .bl r ∧ Q (.bl (!r)) H1) E
theorem op_ownN : OpR X (compareOp .NotEq) (rOwnN X) := by
  intro pins s σ H x y v u Q I rx ry h
  obtain ⟨a, C, dx, fs, f, CX, k, sp, E, rfl, ha, hR, hM, F, hr, hx, hs⟩ := h
  obtain rfl : v = Value.ref a := rx
  have hc : wpAny (model X.prog X.w) X.A.in1 (call (.ref f) [.ref a, u]) (fun v s' => ∃ r, v = .bool r ∧ EP X pins σ Q (.bool (!r)) s') X.xe s :=
    thn (wpAny_call (run_fnS (us := [.ref a, u]) (vs := [.ref a, y]) ⟨hr.in1, rfl⟩ F hx I (.cons rfl (.cons ry .nil)) hs)) fun v s1 z => by
      obtain ⟨z, H1, I1, rz, r, rfl, q⟩ := z
      obtain rfl : v = Value.bool r := rz
      exact ⟨r, rfl, .bl (!r), H1, I1, rfl, q⟩
  obtain ⟨mA, J, _⟩ := ins_get I.hok ha
  obtain ⟨od, J, _⟩ := J.look
  obtain ⟨m, hF⟩ := I.fr
  have hu : X.A.units + 1 < cLine := by have := hr.units; omega
  show wpAny (model X.prog X.w) X.A (richCompare .NotEq (.ref a) u) (EP X pins σ Q) X.xe s
  rcases hR with ⟨j, rfl⟩ | ⟨b, dy, gs, rfl, hb⟩
  · obtain ⟨t, rfl⟩ := ry
    exact ne_K (tb := .type "int") hu hF I.ok.mod.kin J (PySem.W.Looks.of_pure rfl) hM.hn hM.hne hM.hs hM.hf hM.hm hc
  · obtain rfl : u = Value.ref b := ry
    obtain ⟨mB, J2, _⟩ := ins_get I.hok hb
    obtain ⟨od2, J2, _⟩ := J2.look
    exact ne_K (tb := .ref C) hu hF I.ok.mod.kin J J2.type (by simp [PySem.W.notFirst]) hM.hne hM.hs hM.hf hM.hm hc
/-- != of two tuples that are equal, item by item -/
def NcG (X : Cx) (n : Nat) (D : Eqv) : Prop :=
  ∀ (A : Around) (pins : List (Addr × Obj)) (s : Shared) (σ : St) (H : Hp) (x y : V) (u v : Value), Sub X n A → Inv X pins σ H s → RelV x u → RelV y v → D x y H →
    wpAny (model X.prog X.w) A (richCompare .NotEq u v) (fun r s' => r = .bool false ∧ ∃ H', Inv X pins σ H' s' ∧ Ext H H') X.xe s
theorem ncG_tup (hD : Mon D) (h : EqG X n D) : NcG X (n + 1) (DTup X.K D) := by
  intro A pins s σ H x y u v sb I rx ry d
  obtain ⟨a, b, xs, ys, rfl, rfl, ha, hb, p⟩ := d
  cases rx
  cases ry
  obtain ⟨its, r, e, z⟩ := I.tuple ha
  obtain ⟨its2, r2, e2, z2⟩ := I.tuple hb
  have hsz : its.toArray.size = its2.toArray.size := by rw [List.size_toArray, List.size_toArray, ← r.length, ← r2.length]; exact p.1
  exact GQ.ne_tups hsz sb.room.units0 (fun _ s' => LoopI X pins σ H s') e e2 (fun k k1 k2 z q => turnG hD h sb p r r2 k k1 k2 z q) (fun z q => ⟨rfl, q⟩) ⟨H, I, Ext.rfl'⟩
def rNeG (D : Eqv) : R2 := fun x y H Q => D x y H ∧ ∀ H', Ext H H' → Q (.bl false) H'
theorem op_neG (h : NcG X n D) (hr : Room n X.A) : OpR X (compareOp .NotEq) (rNeG D) := by
  intro pins s σ H x y v u Q I rx ry hq
  obtain ⟨d, q⟩ := hq
  show wpAny (model X.prog X.w) X.A (richCompare .NotEq v u) (EP X pins σ Q) X.xe s
  refine wpAny_mono (h X.A pins s σ H x y v u ⟨hr, rfl⟩ I rx ry d) (fun r s' z => ?_) fun _ _ x => x
  obtain ⟨hr', H', I', e⟩ := z
  subst hr'
  exact ⟨.bl false, H', I', rfl, q H' e⟩
/-- an own == promised by a comparison, as a way two values are equal -/
def DOwn (C : Addr) (R : Addr → V → Hp → Prop) : Eqv := fun x y H => ∃ a dx fs, x = .ref a ∧ H a = some (.ins C dx fs) ∧ RightI C H y ∧ R a y H
def spEqV (R : Addr → V → Hp → Prop) : Sp := fun vs H Q _ => ∃ a y, vs = [.ref a, y] ∧ R a y H ∧ ∀ H', Ext H H' → Q (.bl true) H'
theorem mon_own {C : Addr} {R : Addr → V → Hp → Prop} (hR : ∀ a b H H', Ext H H' → R a b H → R a b H') : Mon (DOwn C R) := fun x y H H' e d => by
  obtain ⟨a, dx, fs, hx, h1, h2, r⟩ := d
  exact ⟨a, dx, fs, hx, e _ _ h1, h2.elim .inl fun ⟨b, dy, gs, hy, h⟩ => .inr ⟨b, dy, gs, hy, e _ _ h⟩, hR a y H H' e r⟩
theorem eqBool_refV {prog : Program} {w : World} {A : Around} {E : Value → Shared → Prop} {s : Shared} {l : Addr} {y : Value} {Q : Bool → Shared → Prop} (hne : Value.ref l ≠ y) (h : wpAny (model prog w) A (richCompare .Eq (.ref l) y) (fun v s' => ∃ r, v = .bool r ∧ Q r s') E s) : wpAny (model prog w) A (eqBool (.ref l) y) Q E s := by
  unfold eqBool
  refine wpAny_holding ?_
  refine wpAny_ite_split (fun hab => absurd (eq_of_beq hab) hne) (fun _ => ?_)
  refine wpAny_bind (wpAny_mono h (fun v s' hv => ?_) fun _ _ x => x)
  obtain ⟨r, rfl, q⟩ := hv
  exact wpAny_truthy_bool q
theorem eqG_own {CX : CXT} {C f : Addr} {R : Addr → V → Hp → Prop} {E : XK} (F : FnR X.prog X.w X.K X.mg X.base CX n f (spEqV R)) (M : CmpM X.K C .Eq f) (hx : Passes CX X E) : EqG X n (DOwn C R) := by
  intro A pins s σ H x y u v sb I rx ry d
  obtain ⟨a, dx, fs, rfl, ha, hR, r⟩ := d
  obtain rfl : u = Value.ref a := rx
  have hsp : spEqV R [.ref a, y] H (fun v H' => v = .bl true ∧ Ext H H') E := ⟨a, y, rfl, r, fun H' e => ⟨rfl, e⟩⟩
  have hc : wpAny (model X.prog X.w) A (call (.ref f) [.ref a, v]) (PySem.W.CmpBack (fun v s' => ∃ r, v = .bool r ∧ (fun r s' => r = true ∧ ∃ H', Inv X pins σ H' s' ∧ Ext H H') r s')) X.xe s :=
    thn (wpAny_call (run_fnS (us := [.ref a, v]) (vs := [.ref a, y]) sb F hx I (.cons rfl (.cons ry .nil)) hsp)) fun v s1 z => by
      obtain ⟨z, H1, I1, rz, rfl, e⟩ := z
      obtain rfl : v = Value.bool true := rz
      exact ⟨true, rfl, rfl, H1, I1, e⟩
  by_cases hab : Value.ref a = v
  · subst hab
    exact SeqAt.EqAt.same (A := A) (s := s) (.ref a) X.prog X.w X.xe _ ⟨rfl, H, I, Ext.rfl'⟩
  refine eqBool_refV hab ?_
  obtain ⟨mA, J, _⟩ := ins_get I.hok ha
  obtain ⟨od, J, _⟩ := J.look
  obtain ⟨m, hF⟩ := I.fr
  rcases hR with ⟨j, rfl⟩ | ⟨b, dy, gs, rfl, hb⟩
  · obtain ⟨t, rfl⟩ := ry
    exact PySem.W.cmp_K (op := .Eq) (tb := .type "int") sb.room.units0 hF I.ok.mod.kin J (PySem.W.Looks.of_pure rfl) M.hn M.hs M.hf hc
  · obtain rfl : v = Value.ref b := ry
    obtain ⟨mB, J2, _⟩ := ins_get I.hok hb
    obtain ⟨od2, J2, _⟩ := J2.look
    exact PySem.W.cmp_K (op := .Eq) (tb := .ref C) sb.room.units0 hF I.ok.mod.kin J J2.type (by simp [PySem.W.notFirst]) M.hs M.hf hc
end
end AZ

set_option Elab.async false
set_option maxRecDepth 100000
set_option maxHeartbeats 4000000
set_option linter.all false
namespace AZ
open PySem PySem.Spec PySem.W PySem.Calls PyProof.Rows
section
variable {prog : Program} {w : World} {A : Around} {E : Value → Shared → Prop} {s : Shared} {K : Frag} {x C L f g dx : Addr} {h₀ : Heap} {m : Str → Option Value} {ox : Obj} {od : Option Obj} {name : Str} {b tb : Value} {i : Int} {t : Tok}
theorem intBin_dec {M : Model} {name : String} {fn : Int → Int → Sem Fin} {Q : Fin → Shared → Prop} (hx : s.heap.get? x = some (instObj C dx)) (q : Q (.done (.ret .notImplemented)) s) :
    wpAny M A (Builtin.Int.intBinary name fn false ⟨[.int i t, .ref x], []⟩) Q E s := by
  unfold Builtin.Int.intBinary
  refine wpAny_bind (m := slotArgs name 1 _) (wpAny_pure ?_)
  refine wpAny_bind (m := Builtin.Int.intOfSelf _) (wpAny_pure ?_)
  obtain ⟨hp, gs, d, tk, os⟩ := s
  have hx' : hp.get? x = some (instObj C dx) := hx
  unfold instObj at hx'
  wp_walk using AutoSeq1.wpAny_loadPart' hx'
  exact q
/-- what an int does beside an instance: it declines -/
structure IntDec (nm : String) : Prop where
  fills : fillsNumberSlot (.type "int") nm = pure true
  dec : ∀ {prog : Program} {w : World} {A : Around} {E : Value → Shared → Prop} {s : Shared} {x C dx : Addr} {i : Int} {t : Tok} {Q : Option Value → Shared → Prop}, s.heap.get? x = some (instObj C dx) → Q none s →
    wpAny (model prog w) A (tryMethod (.int i t) (PySem.dunder nm) (.ref x)) Q E s
theorem int_dec_sub : IntDec "sub" := by
  refine ⟨PyProof.Rows.fills_int_sub, fun {prog w A E s x C dx i t Q} hx q => ?_⟩
  refine wpAny_tryMethod_declines (T := "int") (id := "int.__sub__") (name := PySem.dunder "sub") (typeIs_int s i t) ?_ ?_
  · exact PyProof.Rows.slot_int_sub
  · refine wpAny_call_entry PyProof.Rows.slot_int_sub (typeIs_int s i t) PyProof.Rows.entry_int_sub ?_ (PyProof.Rows.args_int_sub _ _)
    unfold Builtin.«int.__sub__»
    exact intBin_dec hx ⟨_, rfl, rfl, q⟩
theorem int_dec_add : IntDec "add" := by
  refine ⟨PySem.F.fills_int_add, fun {prog w A E s x C dx i t Q} hx q => ?_⟩
  refine wpAny_tryMethod_declines (T := "int") (id := "int.__add__") (name := PySem.dunder "add") (typeIs_int s i t) ?_ ?_
  · exact PySem.F.slot_int_add
  · refine wpAny_call_entry PySem.F.slot_int_add (typeIs_int s i t) PySem.F.entry_int_add ?_ (PySem.F.args_int_add_2 _ _)
    unfold Builtin.«int.__add__»
    exact intBin_dec hx ⟨_, rfl, rfl, q⟩
theorem int_dec_mul : IntDec "mul" := by
  refine ⟨PySem.F.fills_int_mul, fun {prog w A E s x C dx i t Q} hx q => ?_⟩
  refine wpAny_tryMethod_declines (T := "int") (id := "int.__mul__") (name := PySem.dunder "mul") (typeIs_int s i t) ?_ ?_
  · exact PySem.F.slot_int_mul
  · refine wpAny_call_entry PySem.F.slot_int_mul (typeIs_int s i t) PySem.F.entry_int_mul ?_ (PySem.F.args_int_mul_2 _ _)
    unfold Builtin.«int.__mul__»
    exact intBin_dec hx ⟨_, rfl, rfl, q⟩
theorem refl1 {nm : String} {Q : Value → Shared → Prop} (D : IntDec nm) (X : K.In s.heap) (I : InstAt s.heap x ox C od) (hx : s.heap.get? x = some (instObj C dx)) (hc : selfFirst K C = true)
    (hs : findIn K (.ref C) (PySem.dunder nm) = some (some (.ref g))) (hr : findIn K (.ref C) (dunderR nm) = some (some (.ref f))) (hf : isFn K (.ref f) = true) (hu : subIn K (.ref C) (.type "int") = some false)
    (h : wpAny (model prog w) A (call (.ref f) [.ref x, .int i t]) (PySem.W.CmpBack Q) E s) : wpAny (model prog w) A (binaryOp1 nm (.int i t) (.ref x)) (fun r s' => ∃ v, r = some v ∧ Q v s') E s := by
  obtain ⟨cd, rest, hcd, hm⟩ := ksp_first hc
  have back := ksp_try X I hr hf h
  have dec : ∀ {Q : Option Value → Shared → Prop}, Q none s → wpAny (model prog w) A (tryMethod (.int i t) (PySem.dunder nm) (.ref x)) Q E s := fun q => D.dec hx q
  have L1 : Looks (model prog w) s.heap (typeOf (.int i t)) (.type "int") := Looks.of_pure rfl
  have L2 : Looks (model prog w) s.heap (typeOf (.ref x)) (.ref C) := I.type
  have L3 : Looks (model prog w) s.heap (fillsNumberSlot (.type "int") nm) true := Looks.of_pure D.fills
  have L4 : Looks (model prog w) s.heap (fillsNumberSlot (.ref C) nm) true := fills_K X hcd hm hs
  have L5 : Looks (model prog w) s.heap (isSubtype (.ref C) (.type "int")) false := looks_subIn X hu
  have L6 : Looks (model prog w) s.heap (numberSlotInPython (.type "int") nm) false := Looks.of_pure rfl
  generalize hR : (fun (r : Option Value) s' => ∃ v, r = some v ∧ Q v s') = R at back ⊢
  have hne : (Value.type "int" == Value.ref C) = false := Bool.eq_false_iff.mpr fun q => by cases beq_iff_eq.mp q
  generalize (fun (r : Option Value) s' => ∃ v, r = some v ∧ Q v s') = R at back ⊢
  unfold binaryOp1
  refine wpAny_bind (L1.here (wpAny_bind (L2.here (wpAny_bind (L3.here ?_)))))
  simp only [hne, Bool.false_eq_true, if_false]
  refine wpAny_bind (L4.here ?_)
  refine wpAny_bind (m := isSubtype (.ref C) (.type "int")) (L5.here ?_)
  refine wpAny_bind (m := numberSlotInPython (.type "int") nm) (L6.here ?_)
  refine wpAny_bind (m := tryMethod (.int i t) (PySem.dunder nm) (.ref x)) (dec ?_)
  refine wpAny_bind (m := tryMethod (.ref x) (dunderR nm) (.int i t)) (wpAny_mono back (fun r s' hr' => ?_) fun _ _ e => e)
  have hr2 := hr'
  rw [← hR] at hr2
  obtain ⟨v, rfl, hq⟩ := hr2
  exact wpAny_bind (m := rule "binop.reflected") (wpAny_rule (wpAny_pure hr'))
theorem refl_K {op : Operator} {sym : String} {nm : String} {Q : Value → Shared → Prop} (hi : op.info = (sym, nm)) (D : IntDec nm) (F : Fr h₀ L s.heap m) (X₀ : K.In h₀) (I : InstAt s.heap x ox C od) (hx : s.heap.get? x = some (instObj C dx)) (hc : selfFirst K C = true)
    (hs : findIn K (.ref C) (PySem.dunder nm) = some (some (.ref g))) (hr : findIn K (.ref C) (dunderR nm) = some (some (.ref f))) (hf : isFn K (.ref f) = true) (hu : subIn K (.ref C) (.type "int") = some false)
    (h : wpAny (model prog w) A (call (.ref f) [.ref x, .int i t]) (PySem.W.CmpBack Q) E s) : wpAny (model prog w) A (binaryOp op (.int i t) (.ref x)) Q E s := by
  have b1 := refl1 D (X₀.keeps F.keep) I hx hc hs hr hf hu h
  generalize hR : (fun (r : Option Value) s' => ∃ v, r = some v ∧ Q v s') = R at b1
  unfold binaryOp
  refine wpAny_holding ?_
  rw [hi]
  refine wpAny_bind (m := binaryOp1 nm (.int i t) (.ref x)) (wpAny_mono b1 (fun r s' hr' => ?_) fun _ _ e => e)
  rw [← hR] at hr'
  obtain ⟨v, rfl, hq⟩ := hr'
  exact wpAny_pure hq
end
end AZ
namespace AZ
open PySem L2
section
variable {X : Cx}
/-- an int, then the operator, then an instance: its own reflected one -/
structure ReflM (K : PySem.W.Frag) (C : Addr) (nm : Str) (rn : Str) (g f : Addr) : Prop where
  hs : PySem.W.findIn K (.ref C) nm = some (some (.ref g))
  hr : PySem.W.findIn K (.ref C) rn = some (some (.ref f))
  hf : PySem.W.isFn K (.ref f) = true
  hc : PySem.W.selfFirst K C = true
  hu : PySem.W.subIn K (.ref C) (.type "int") = some false
def rRefl (X : Cx) (nm : String) : R2 := fun x y H Q => ∃ (j : Int) (a C dx : Addr) (fs : List (Str × V)) (g f : Addr) (CX : CXT) (k : Nat) (sp : Sp) (E : XK),
  x = .int j ∧ y = .ref a ∧ H a = some (.ins C dx fs) ∧ ReflM X.K C (PySem.dunder nm) (dunderR nm) g f ∧ FnR X.prog X.w X.K X.mg X.base CX k f sp ∧ Room k X.A ∧ Passes CX X E ∧ sp [y, x] H Q E
theorem op_refl {op : Operator} {sym nm : String} (hi : op.info = (sym, nm)) (D : IntDec nm) : OpR X (binaryOp op) (rRefl X nm) := by
  intro pins s σ H x y v u Q I rx ry h
  obtain ⟨j, a, C, dx, fs, g, f, CX, k, sp, E, rfl, rfl, ha, hM, F, hr, hx, hs⟩ := h
  obtain ⟨t, rfl⟩ := id rx
  obtain rfl : u = Value.ref a := ry
  have hc : wpAny (model X.prog X.w) X.A (call (.ref f) [.ref a, .int j t]) (PySem.W.CmpBack (EP X pins σ Q)) X.xe s :=
    thn (wpAny_call (run_fnR (us := [.ref a, .int j t]) (vs := [.ref a, .int j]) F hr hx I (.cons rfl (.cons rx .nil)) hs)) fun _ _ z => cmpBack_of z
  obtain ⟨mA, J, _⟩ := ins_get I.hok ha
  have hobj := J.obj
  obtain ⟨od, J, _⟩ := J.look
  obtain ⟨m, hF⟩ := I.fr
  exact refl_K hi D hF I.ok.mod.kin J hobj hM.hc hM.hs hM.hr hM.hf hM.hu hc
end
end AZ

set_option Elab.async false
set_option maxRecDepth 100000
set_option maxHeartbeats 4000000
set_option linter.all false
namespace AZ
open PySem L2
section
variable {X : Cx}
/-- what str(x) and f'{x}' ask of the class at C: its own __str__ at f -/
structure StrM (K : PySem.W.Frag) (C f : Addr) : Prop where
  hs : PySem.W.findIn K (.ref C) "__str__" = some (some (.ref f))
  hf : PySem.W.isFn K (.ref f) = true
  hfm : PySem.W.findIn K (.ref C) "__format__" = some (some (.builtin "object.__format__"))
  hm : PySem.W.mroIn K C (.type "object") = some true
def rStrO (X : Cx) (d : Nat) (x : V) (H : Hp) (Q : VK) : Prop := ∃ (a C dx : Addr) (fs : List (Str × V)) (f : Addr) (CX : CXT) (k : Nat) (sp : Sp) (E : XK),
  x = .ref a ∧ H a = some (.ins C dx fs) ∧ StrM X.K C f ∧ FnR X.prog X.w X.K X.mg X.base CX k f sp ∧ Room (k + d) X.A ∧ Passes CX X E ∧ sp [x] H (fun v H1 => ∃ z, v = .str z ∧ Q (.str z) H1) E
theorem strBack_of {pins : List (Addr × Obj)} {σ : St} {Q : VK} {v : Value} {s : Shared} (h : EP X pins σ (fun v H1 => ∃ z, v = .str z ∧ Q (.str z) H1) v s) : PySem.W.StrBack (EP X pins σ Q) v s := by
  obtain ⟨z, H1, I1, rz, y, rfl, q⟩ := h
  obtain ⟨t, rfl⟩ := id rz
  exact ⟨.str y, H1, I1, rz, q⟩
theorem call_strO : CallR X (.type "str") (fun xs H Q => ∃ x, xs = [x] ∧ rStrO X 2 x H Q) := by
  intro pins s σ H xs us Q I rv q
  obtain ⟨x, rfl, a, C, dx, fs, f, CX, k, sp, E, rfl, ha, hM, F, hr, hx, hs⟩ := q
  cases rv with
  | cons r1 r2 =>
    cases r2
    cases r1
    have hc : wpAny (model X.prog X.w) X.A.in1.in1 (call (.ref f) [.ref a]) (PySem.W.StrBack (EP X pins σ Q)) X.xe s :=
      thn (wpAny_call (run_fnS (us := [.ref a]) (vs := [.ref a]) ⟨hr.in1.in1, rfl⟩ F hx I (.cons rfl .nil) hs)) fun v s3 z => strBack_of z
    obtain ⟨mA, J, _⟩ := ins_get I.hok ha
    obtain ⟨od, J, _⟩ := J.look
    exact PySem.W.kso_call hr.in1.in1.units0 I.kIn J hM.hs hM.hf hc
theorem uStr : CallR X (.type "str") (fun xs H Q => (∃ i, xs = [.int i] ∧ i.natAbs.log2 < 1920 ∧ Q (.str (toString i)) H) ∨ ∃ x, xs = [x] ∧ rStrO X 2 x H Q) := CallR.or' call_str_int call_strO
/-- {x}: a text, an int, an own one -/
def tFmtU (X : Cx) (te : TE) : TE := fun σ H Q => te σ H fun x H1 => ((∃ y : Str, x = .str y ∧ y.length ≤ sizeLine ∧ Q (.str y) H1) ∨ ∃ i : Int, x = .int i ∧ i.natAbs.log2 < 1920 ∧ Q (.str (toString i)) H1) ∨ rStrO X 1 x H1 Q
theorem pe_fmtU {e : Expr} {te : TE} {pos : Pos} (he : PE X e te) : PE X (.FormattedValue e (-1) none pos) (tFmtU X te) := by
  refine ⟨fun pins s σ H Q I h => ?_⟩
  refine wpAny_FormattedValue_plain (thn (he.run pins s σ H _ I h) fun v s1 hv => ?_)
  obtain ⟨x, H1, I1, r1, q⟩ := hv
  rcases q with (⟨y, rfl, hz, q⟩ | ⟨i, rfl, hz, q⟩) | ⟨a, C, dx, fs, f, CX, k, sp, E, rfl, ha, hM, F, hr, hx, hs⟩
  · obtain ⟨t, rfl⟩ := r1
    exact wpAny_formatField_str ⟨.str y, H1, I1, ⟨t, rfl⟩, q⟩ ⟨.str y, H1, I1.tok _, ⟨_, rfl⟩, q⟩ hz
  · obtain ⟨t, rfl⟩ := r1
    exact wpAny_formatField_int hz ⟨.str (toString i), H1, I1.tok _, ⟨_, rfl⟩, q⟩
  · obtain rfl : v = Value.ref a := r1
    have I2 := I1.tok (s1.toks + 1)
    have hc : wpAny (model X.prog X.w) X.A.in1 (call (.ref f) [.ref a]) (PySem.W.StrBack (EP X pins σ Q)) X.xe { s1 with toks := s1.toks + 1 } :=
      thn (wpAny_call (run_fnS (us := [.ref a]) (vs := [.ref a]) ⟨hr.in1, rfl⟩ F hx I2 (.cons rfl .nil) hs)) fun v s3 z => strBack_of z
    obtain ⟨mA, J, _⟩ := ins_get I1.hok ha
    obtain ⟨od, J, _⟩ := J.look
    exact PySem.W.kfo_fieldS hr.in1.units0 I1.kIn J hM.hfm hM.hm hM.hs hM.hf hc
end
end AZ

set_option Elab.async false
set_option maxRecDepth 100000
set_option maxHeartbeats 4000000
set_option linter.all false
namespace AZ
open PySem L2
/-- a def's promise where the last arguments are told by their names -/
def FnRk (P : Program) (w : World) (K : PySem.W.Frag) (mg : Str → Option Value) (base : Heap) (CX : CXT) (k : Nat) (f : Addr) (ks : List Str) (gV : List V → List V → List V) (sp : Sp) : Prop :=
  ∀ (A : Around) (outer : List Env) (s : Shared) (H : Hp) (us ws : List Value) (vs zs : List V) (Q : VK) (E : XK), Room k A → Env0 P w K mg base A outer s H → Vals vs us → Vals zs ws → sp (gV vs zs) H Q E →
    codeAny (model P w) A (.call (.ref f) ⟨us, ks.zip ws⟩) (CR CX outer P w H s Q E) s
theorem FnOk.rawk {P : Program} {w : World} {K : PySem.W.Frag} {mg : Str → Option Value} {base : Heap} {CX : CXT} {k : Nat} {f : Addr} {fd : FuncData} {ps ks : List Str} {sp : Sp} {g : List Value → List Value → List Value} {gV : List V → List V → List V}
    (F : FnOk P w K mg base CX k f fd ps sp) (hb : KBinds K fd ps ks g gV) (hK : ∀ {A : Around} {outer : List Env} {s : Shared} {H : Hp}, Env0 P w K mg base A outer s H → K.In s.heap) : FnRk P w K mg base CX k f ks gV sp := by
  intro A outer s H us ws vs zs Q E hr e0 r rz h
  have r2 := hb.rel r rz
  have hl : (g us ws).length = ps.length := by rw [← r2.length]; exact F.len _ _ _ _ h
  exact F.run A outer s H ⟨us, ks.zip ws⟩ (g us ws) (gV vs zs) Q E hr e0 (hb.to s us ws (hK e0) hl) r2 h
section
variable {X : Cx} {CX : CXT} {k : Nat} {C g : Addr} {sp : Sp} {E : XK} {o : Expr} {kws : List Keyword} {m : Str} {ks : List Str} {pos apos : Pos} {ta : TE} {t : TA} {gV : List V → List V → List V}
/-- o.m(k = e, ..) -/
def tMRk (C : Addr) (m : Str) (gV : List V → List V → List V) (sp : Sp) (E : XK) (ta : TE) (t : TA) : TE := fun σ H Q => ta σ H fun x H1 => ∃ a dx fs, x = .ref a ∧ H1 a = some (.ins C dx fs) ∧ fs.lookup m = none ∧ t σ H1 fun zs H2 => sp (gV [x] zs) H2 Q E
theorem pe_mRk {pl : Sem Bool} (he : PE X o ta) (c : Cls X.K C) (hm : Meth X.K C m g) (F : FnRk X.prog X.w X.K X.mg X.base CX k g ks gV sp) (hr : Room k X.A) (hx : Passes CX X E) (hkw : PK X kws t)
    (hall : (backToKw pos (keywordEach kws X.env)).all (·.1.isSome) = true := by rfl) (hks : (backToKw pos (keywordEach kws X.env)).filterMap (·.1) = ks := by rfl)
    (hpl : ((backTo pos (starEach [] X.env)).any (·.1) || (backToKw pos (keywordEach kws X.env)).any (·.1.isNone)) = false := by rfl)
    (ht : eval (.Call (.Attribute o m apos) [] kws pos) X.env = (eval o X.env >>= fun ov => standAt apos.atName >>= fun _ => holding [ov] (getMethod ov m pl) >>= fun r =>
      callWith pos r.1 r.2 (backTo pos (starEach [] X.env)) (backToKw pos (keywordEach kws X.env))) := by rfl) :
    PE X (.Call (.Attribute o m apos) [] kws pos) (tMRk C m gV sp E ta t) := by
  refine ⟨fun pins s σ H Q I h => ?_⟩
  refine PySem.W.methodCall_KW (pl := pl) (thn (he.run pins s σ H _ I h) fun u s1 ⟨x, H1, I1, rx, a, dx, fs, ex, ea, l, q⟩ => ?_) ht
  subst ex
  obtain rfl : u = Value.ref a := rx
  refine getmeth_ok I1 ea c hm l ?_
  refine PySem.W.callWith_KW0 (first := [.ref a]) (h₀ := X.base) I.ok.mod.kin hm.kp hall (thn (hkw.run pos pins s1 σ H1 _ I1 q) fun ws s2 ⟨zs, H2, I2, rz, q2⟩ => ⟨I2.kIn, ?_⟩) hpl
  rw [hks]
  refine wpAny_call (codeAny_mono (F X.A X.stack s2 H2 [.ref a] ws [.ref a] zs Q E hr I2.env0 (.cons rfl .nil) rz q2) fun r s' hq => ?_)
  cases r with
  | error e => exact hx pins σ H2 s2 e s' I2 hq
  | ok fl =>
    cases fl with
    | ret u => exact I2.after hq
    | next => exact False.elim hq
    | brk => exact False.elim hq
    | cont => exact False.elim hq
theorem uSubR : OpR X (binaryOp .Sub) (orR (rI0 fun i j => .int (i - j)) (orR (rOwn X .Sub) (rRefl X "sub"))) := op_or2 op_sub (op_or2 (op_ownB _) (op_refl rfl int_dec_sub))
theorem uNeR (hu : X.A.units + 64 < cLine) : OpR X (compareOp .NotEq) (orR rNe (orR (rOwnN X) (rNeD X.K))) := op_or2 op_ne (op_or2 op_ownN (op_neD hu))
theorem un_inv : UnR X (unaryOp .Invert) (rOwnU X "__invert__") := un_ownInv
end
end AZ

set_option Elab.async false
set_option maxRecDepth 100000
set_option maxHeartbeats 4000000
set_option linter.all false
/-! Own work: promises that know that no repr is under way (needed by repr of lists). -/
namespace AZ
open PySem L2 PyProof.Rows
abbrev NoG (A : Around) : Prop := A.guards = some []
theorem NoG.deeper {A : Around} (h : NoG A) (env : Env) : NoG (A.deeper env) := by
  obtain ⟨hd, d, fr, gs, u⟩ := A
  exact h
/-- a def's promise where no repr is under way -/
def FnG (P : Program) (w : World) (K : PySem.W.Frag) (mg : Str → Option Value) (base : Heap) (CX : CXT) (k : Nat) (f : Addr) (sp : Sp) : Prop :=
  ∀ (A : Around) (out : List Env) (z : Shared) (Hp0 : Hp) (us : List Value) (vs : List V) (Q : VK) (E : XK), NoG A → Room k A → Env0 P w K mg base A out z Hp0 → Vals vs us → sp vs Hp0 Q E →
    codeAny (model P w) A (.call (.ref f) ⟨us, []⟩) (CR CX out P w Hp0 z Q E) z
section
variable {P : Program} {w : World} {K : PySem.W.Frag} {mg : Str → Option Value} {base : Heap} {CX : CXT} {k : Nat} {f : Addr} {sp sp' : Sp}
theorem FnG.imp (F : FnG P w K mg base CX k f sp) (h : ∀ vs H Q E, sp' vs H Q E → sp vs H Q E) : FnG P w K mg base CX k f sp' :=
  fun A out z G us vs Q E ng room env vals prom => F A out z G us vs Q E ng room env vals (h _ _ _ _ prom)
theorem FnG.of (F : FnR P w K mg base CX k f sp) : FnG P w K mg base CX k f sp := fun A out z G us vs Q E _ => F A out z G us vs Q E
def valOf : Flow → Value
  | .ret v => v
  | _ => .none
/-- its end, from the end of its body -/
theorem ends_CR {N : List Str} {qual : Str} {scope : Scope} {cdv : Value} {A : Around} {out : List Env} {z : Shared} {G : Hp} {Q : VK} {E : XK} {fl : Flow} {z' : Shared}
    (q : SP (cxOf CX P w K mg base N qual scope f cdv A out z G E) [] { nx := fun _ H' => Q .non H', rt := Q } fl z') :
    CR CX out P w G z Q E (.ok (.ret (valOf fl))) z' := by
  cases fl with
  | ret v => obtain ⟨x, σ, G2, J, rel, q⟩ := q; exact ⟨x, G2, J.os, J.bare, J.base, J.hok, rel, q⟩
  | next => obtain ⟨σ, G2, J, q⟩ := q; exact ⟨.non, G2, J.os, J.bare, J.base, J.hok, rfl, q⟩
  | brk => obtain ⟨σ, G2, J, q⟩ := q; exact q.elim
  | cont => obtain ⟨σ, G2, J, q⟩ := q; exact q.elim
end
section
variable {P : Program} {w : World} {K : PySem.W.Frag} {mg : Str → Option Value} {base : Heap} {k : Nat} {f : Addr} {sp : Sp} {x qual : Str} {st : Stmt} {fd : FuncData} {N ps : List Str}
/-- a def by its body, known to run where no repr is under way -/
theorem fnG_of (F : Fun K x qual st f fd) (S : FnScope N ps (defScope st)) (len : ∀ vs H Q E, sp vs H Q E → vs.length = ps.length)
    (bd : ∀ (cdv : Value) (A : Around) (out : List Env) (z : Shared) (G : Hp) (vs : List V) (Q : VK) (E : XK), NoG (A.deeper (envOfC qual (defScope st) z.heap.objs.size f cdv)) →
      Room k (A.deeper (envOfC qual (defScope st) z.heap.objs.size f cdv)) → sp vs G Q E →
      ∃ t, PSs (cxOf CX0 P w K mg base N qual (defScope st) f cdv A out z G E).nox (defBody st) t ∧ t { nx := fun _ H' => Q .non H', rt := Q } (start N vs) G)
    (hb : Binds K fd ps []) : FnG P w K mg base CX0 (k + 1) f sp := by
  obtain ⟨oc, od, kV, doc, pm, an, cdv, ct, osl, rfl, look, rec⟩ := F.ex
  intro A out z G us vs Q E ng room env vals prom
  have keep : ∀ b o, base.get? b = some o → z.heap.get? b = some o := fun b o e => (env.bs b o e).1
  have kin := env.mod.kin.keeps keep
  have many : us.length = ps.length := vals.length.symm.trans (len _ _ _ _ prom)
  have bnd := hb z us kin (by rw [List.append_nil]; exact many)
  rw [List.append_nil] at bnd
  have kinds : ∀ y ∈ ps.zip us, (defScope st).names.lookup y.1 = some .local ∨
      ((defScope st).names.lookup y.1 = some .cell ∧ ((cellsFrom (z.heap.objs.size + 1) (defScope st).names []).lookup y.1).isSome = true) := by
    rintro ⟨n, v⟩ there
    exact (S.par n (List.of_mem_zip there).1).imp id fun c => ⟨c, PySem.W.cellsFrom_some _ _ _ (.inl c)⟩
  refine codeAny_call_function room.depth (kin _ _ look) rfl S.co S.gen rfl (PySem.W.codeRec_of kin rec) (bnd _ _ _ _ (wpAny_newFunctionEnv_cells S.kind kinds ?_))
  rintro env2 rfl z1 made
  refine ⟨(env.mod.nolimit.keeps keep).keeps made.toInCall.keep, codeAny_func ?_⟩
  obtain ⟨t, body, run⟩ := bd cdv A out z G vs Q E (ng.deeper _) (room.deeper _) prom
  exact wpAny_mono (body.nox.run [] z1 (start N vs) G _ (inv_start S room.hd env (len _ _ _ _ prom) vals made) run) (fun fl z2 q => ends_CR q) fun e z2 q => q
end
section
variable {X : Cx} {CX : CXT} {k : Nat} {g : Addr} {sp : Sp} {E : XK} {e : Expr} {es : List Expr} {x : Str} {p pos : Pos} {t : TA}
theorem run_fnG {pins : List (Addr × Obj)} {σ : L2.St} {H : Hp} {s : Shared} {Q : VK} {us : List Value} {vs : List V} (F : FnG X.prog X.w X.K X.mg X.base CX k g sp) (ng : NoG X.A) (hr : Room k X.A) (hx : Passes CX X E) (I : Inv X pins σ H s) (r : Vals vs us) (h : sp vs H Q E) :
    codeAny (model X.prog X.w) X.A (.call (.ref g) ⟨us, []⟩) (fun r s' => match r with | .ok (.ret v) => EP X pins σ Q v s' | .ok _ => False | .error e => X.xe e s') s :=
  codeAny_mono (F X.A X.stack s H us vs Q E ng hr I.env0 r h) fun r s' hq => match r, hq with
    | .error e, hq => hx pins σ H s e s' I hq
    | .ok (.ret _), hq => I.after hq
    | .ok .next, hq => hq.elim
    | .ok .brk, hq => hq.elim
    | .ok .cont, hq => hq.elim
/-- x(e, ..), x a def of the module that wants no repr under way -/
theorem pe_fnG (F : FnG X.prog X.w X.K X.mg X.base CX k g sp) (ng : NoG X.A) (hr : Room k X.A) (hk : PySem.W.keepIn X.K (.ref g) = true) (hm : X.mg x = some (.ref g)) (hx : Passes CX X E) (ha : PA X (e :: es) t) (hg : Gl X x := by rfl) (hd : (x == ("__debug__" : Str)) = false := by decide)
    (he : starEach (e :: es) X.env = (false, eval e X.env) :: starEach es X.env := by rfl) (hst : (backTo pos (starEach es X.env)).any (·.1) = false := by rfl) :
    PE X (.Call (.Name x p) (e :: es) [] pos) (fun σ H Q => t σ H fun vs H1 => sp vs H1 Q E) :=
  ⟨fun pins s σ H Q I h => wpAny_Call_Name_kw (ld_glob I hg hm (PySem.W.callWith_K (h₀ := X.base) I.ok.mod.kin hk
    (thn (ha.run pos pins s σ H _ I h) fun us s1 ⟨vs, H1, I1, r, q⟩ => ⟨I1.kIn, wpAny_call (run_fnG F ng hr hx I1 r q)⟩) he hst) hd)⟩
end
/-! ## the head: the law's promise at the heap behind the top -/
theorem guards_caller : NoG callerA := rfl
section
variable {P : Program} {w : World} {K : PySem.W.Frag} {mg mb : Str → Option Value} {k : Nat} {fa a : Addr} {sp : Sp} {z : Shared} {vs : List Value} {ns : List Int}
/-- what the law's end leaves -/
def EndsTrue (z : Shared) (r : Result) (z' : Shared) : Prop := r = .ok (.ret (.bool true)) ∧ OldK z.heap z'.heap ∧ z'.os = z.os ∧ AllBare z'.gens
/-- from one abstract heap that tracks at most the script -/
theorem headG (kin : K.In z.heap) (hns : z.heap.Ns mainGlobals mg) (hmb : z.heap.Ns builtinsNs mb) (boot : ∀ x : Str, x ≠ "__name__" → mb x = bootBuiltins x) (lim : z.heap.NoLimit) (nogen : z.gens = #[])
    (room : Room k callerA) (F : ∀ base : Heap, K.In base → base.Ns mainGlobals mg → FnG P w K mg base CX0 k fa sp) (prom : ∀ H : Hp, Only H → SqL K H a (ns.map V.int) → sp [.ref a] H (fun v _ => v = .bl true) E0)
    (H : Hp) (only : Only H) (seq : SqL K H a (ns.map V.int)) (hok : HOk P w H z.heap) (just : ∀ b, H b ≠ none → b = a ∧ K.lookup a = none) (obj : z.heap.get? a = some { cls := .type "list", data := .seq vs.toArray }) :
    codeAny (model P w) callerA (.call (.ref fa) ⟨[.ref a], []⟩) (EndsTrue z) z := by
  have free : ∀ b o, z.heap.get? b = some o → (b = a → K.lookup a ≠ none ∨ (∃ es ep, o.data = .dict es ep)) → (hidT z.heap H).get? b = some o := fun b o e n => hidT_get e (by
    cases q : H b with
    | none => rfl
    | some u =>
      obtain ⟨rfl, nk⟩ := just b (by rw [q]; exact fun t => nomatch t)
      rcases n rfl with n | ⟨es, ep, d⟩
      · exact absurd nk n
      · rw [obj] at e; cases e; cases d)
  have names : ∀ b m, z.heap.Ns b m → (hidT z.heap H).Ns b m := fun b m ⟨o, es, ep, e, d, r⟩ => ⟨o, es, ep, free b o e fun _ => .inr ⟨es, ep, d⟩, d, r⟩
  have kinB : K.In (hidT z.heap H) := fun b o e => free b o (kin b o e) fun eq => .inl (by rw [← eq, e]; exact fun t => nomatch t)
  obtain ⟨m2, l1, l2⟩ := lim
  have env : Env0 P w K mg (hidT z.heap H) callerA [] z H := {
    frames := rfl
    mod := ⟨kinB, names _ _ hns, ⟨mb, names _ _ hmb, boot⟩, ⟨m2, names _ _ l1, l2⟩⟩
    bs := fun _ _ e => of_hidT e
    bsz := Nat.le_of_eq (hidT_size ..)
    funs := trivial
    frf := fun _ t => nomatch t
    hok := hok
    bare := .of_eq nogen }
  refine codeAny_mono (F _ kinB (names _ _ hns) callerA [] z H [.ref a] [.ref a] _ _ guards_caller room env (.cons rfl .nil) (prom H only seq)) fun r z' q => ?_
  match r, q with
  | .error _, q => exact q.elim
  | .ok .next, q => exact q.elim
  | .ok .brk, q => exact q.elim
  | .ok .cont, q => exact q.elim
  | .ok (.ret u), ⟨v, H2, os, bare, un, hok2, rel, tr⟩ =>
    subst tr
    obtain rfl : u = Value.bool true := rel
    refine ⟨rfl, OldK.of_keep fun b o e => ?_, os, bare⟩
    rcases only b with n | ⟨ob, xs, n⟩
    · exact un.keep b o e n (fun t => nomatch t) (fun t => nomatch t)
    · have g1 := (hok b _ n).1
      rw [e] at g1
      cases g1
      exact (hok2 b _ (un.frzs b _ _ n)).1
theorem lawG (kin : K.In z.heap) (hns : z.heap.Ns mainGlobals mg) (hmb : z.heap.Ns builtinsNs mb) (boot : ∀ x : Str, x ≠ "__name__" → mb x = bootBuiltins x) (lim : z.heap.NoLimit) (nogen : z.gens = #[])
    (obj : z.heap.get? a = some { cls := .type "list", data := .seq vs.toArray }) (isI : IntsAre vs ns) (few : ns.length ≤ sizeLine)
    (room : Room k callerA) (F : ∀ base : Heap, K.In base → base.Ns mainGlobals mg → FnG P w K mg base CX0 k fa sp) (prom : ∀ H : Hp, Only H → SqL K H a (ns.map V.int) → sp [.ref a] H (fun v _ => v = .bl true) E0) :
    codeAny (model P w) callerA (.call (.ref fa) ⟨[.ref a], []⟩) (EndsTrue z) z := by
  cases own : K.lookup a with
  | some o =>
    have same := kin a o own
    rw [obj] at same
    cases same
    refine headG kin hns hmb boot lim nogen room F prom (fun _ => none) (fun _ => .inl rfl) (.inr ⟨_, vs.toArray, _, own, rfl, rfl, rfl, ?_, vals_ints isI⟩) (fun _ _ t => nomatch t) (fun _ t => absurd rfl t) obj
    rw [List.size_toArray, isI.length]; exact few
  | none =>
    have at_ : ∀ b u, (if b = a then some (HO.frz { cls := .type "list", data := .seq vs.toArray } (.lst (ns.map V.int))) else none) = some u → b = a ∧ u = .frz { cls := .type "list", data := .seq vs.toArray } (.lst (ns.map V.int)) := fun b u t => by
      split at t
      · rename_i h; exact ⟨h, (Option.some.inj t).symm⟩
      · cases t
    refine headG kin hns hmb boot lim nogen room F prom (fun b => if b = a then some (.frz { cls := .type "list", data := .seq vs.toArray } (.lst (ns.map V.int))) else none) (fun b => ?_) (.inl (.inr ⟨_, if_pos rfl⟩)) (fun b u t => ?_) (fun b t => ?_) obj
    · by_cases h : b = a
      · exact .inr ⟨_, _, if_pos h⟩
      · exact .inl (if_neg h)
    · obtain ⟨rfl, rfl⟩ := at_ b u t
      exact ⟨obj, by rw [List.length_map]; exact few, vs, _, vals_ints isI, obj⟩
    · by_cases h : b = a
      · exact ⟨h, own⟩
      · exact absurd (if_neg h) t
end
/-- the goal of the head, from the law's promise -/
theorem walkG {l : PySem.W.OpenLaw} {n k : Nat} {q : Program} {loose : List Str} {XP : (Str → Option Value) → Heap → Prop} {YP : World → Heap → Prop} {d : DefRec} {K : Params → PySem.W.Frag} {sp : PySem.W.Frag → Sp}
    (hn : l.most = some n) (hn2 : n ≤ sizeLine) (hdf : d.params.defaults = []) (room : Room k callerA) (hY : ∀ (w : World) (h : Heap), YP w h → (K w.params).In h)
    (F : ∀ (w : World) (mg : Str → Option Value) (fa : Addr) (h : Heap), (K w.params).In h → h.Ns mainGlobals mg → mg d.name = some (.ref fa) →
      ∀ base : Heap, (K w.params).In base → base.Ns mainGlobals mg → FnG l.prog w (K w.params) mg base CX0 k fa (sp (K w.params)))
    (prom : ∀ (K : PySem.W.Frag) (H : Hp) (a : Addr) (ns : List Int), ns.length ≤ n → Only H → SqL K H a (ns.map V.int) → sp K [.ref a] H (fun v _ => v = .bl true) E0) :
    PySem.W.WalkO q loose XP YP l.row.toRowW d [] (fun f vs => PySem.call f vs) :=
  Att.attach_call hn hdf fun w _ z mg mb fa o pm cd doc a vs ns G Y _ _ _ hmg obj isI few nogen =>
    lawG (hY w _ Y) G.T.g G.T.b G.T.builtins G.T.nolimit nogen obj isI (Nat.le_trans few hn2) room (fun base => F w mg fa _ (hY w _ Y) G.T.g hmg base) fun H o s => prom _ H a ns few o s
/-! ## static methods without arguments -/
section
variable {X : Cx} {CX : CXT} {k : Nat} {C g : Addr} {sp : Sp} {E : XK} {o : Expr} {m : Str} {pos apos : Pos} {ta : TE}
theorem pe_smeth0 {pl : Sem Bool} (he : PE X o ta) (c : SMet X.K C m g) (F : FnR X.prog X.w X.K X.mg X.base CX k g sp) (hr : Room k X.A) (hx : Passes CX X E)
    (ht : eval (.Call (.Attribute o m apos) [] [] pos) X.env = (eval o X.env >>= fun ov => standAt apos.atName >>= fun _ => holding [ov] (getMethod ov m pl) >>= fun r =>
      callWith pos r.1 r.2 (backTo pos (starEach [] X.env)) (backToKw pos (keywordEach [] X.env))) := by rfl) :
    PE X (.Call (.Attribute o m apos) [] [] pos) (fun σ H Q => ta σ H fun x H1 => x = .ref C ∧ sp [] H1 Q E) := by
  refine ⟨fun pins s σ H Q I h => ?_⟩
  refine PySem.W.methodCall_KW (pl := pl) (thn (he.run pins s σ H _ I h) fun u s1 ⟨x, H1, I1, rx, ex, q⟩ => ?_) ht
  subst ex
  obtain rfl : u = Value.ref C := rx
  obtain ⟨mc, p, rest, r, at_, rc⟩ := c.ex
  refine PySem.W.method_cls I1.kIn r.ga (PySem.W.cls_bind I1.kIn r.rd at_ (wpAny_call (PySem.W.sm_get (s := { s1 with toks := s1.toks + 1 }) I1.kIn rc (PySem.W.handed_on rfl ?_))))
  exact PySem.W.callWith_K0 (first := []) (I1.tok _).kIn c.kp (wpAny_call (run_fnR (us := []) (vs := []) F hr hx (I1.tok _) .nil q))
end
/-! ## repr -/
section
variable {X : Cx}
def rReprD (K : PySem.W.Frag) : List V → Hp → VK → Prop := fun xs H Q => ∃ (a : Addr) (d : PyData), xs = [.ref a] ∧ Dp K H (.ref a) d ∧ d.showable = true ∧ d.hasDict = false ∧ d.depth ≤ 60 ∧ d.shown.length ≤ sizeLine ∧ Q (.str d.shown) H
/-- repr of a list or tuple of data, none under way -/
theorem call_reprD (ng : NoG X.A) (hu : X.A.units + 64 < cLine) : CallR X (.builtin "repr") (rReprD X.K) := by
  intro pins s σ H xs us Q I rv q
  obtain ⟨a, d, rfl, hd, sh, nd, dp, sz, q⟩ := q
  obtain ⟨u, rfl, ru⟩ := vals1 rv
  obtain rfl : u = Value.ref a := ru
  obtain ⟨as, r⟩ := Dp.reads I d (.ref a) (.ref a) hd rfl
  exact repr_of_reads' r sh (PyData.noDict_hsm nd) ng (by omega) (fun _ _ e => e) (fun h' u tk hk => ⟨.str d.shown, H, I.kept hk, ⟨_, rfl⟩, q⟩) sz
theorem call_reprB : CallR X (.builtin "repr") (fun xs H Q => ∃ b, xs = [.bl b] ∧ Q (.str (if b then "True" else "False")) H) := by
  intro pins s σ H xs us Q I rv q
  obtain ⟨b, rfl, q⟩ := q
  obtain ⟨u, rfl, ru⟩ := vals1 rv
  obtain rfl : u = Value.bool b := ru
  exact PySem.P.repr_of_bool ⟨.str (if b then "True" else "False"), H, I.tok _, ⟨_, rfl⟩, q⟩
theorem call_reprI : CallR X (.builtin "repr") (fun xs H Q => ∃ i, xs = [.int i] ∧ i.natAbs.log2 < 1920 ∧ Q (.str (toString i)) H) := by
  intro pins s σ H xs us Q I rv q
  obtain ⟨i, rfl, hz, q⟩ := q
  obtain ⟨u, rfl, t, rfl⟩ := vals1 rv
  exact PySem.P.repr_of_int hz ⟨.str (toString i), H, I.tok _, ⟨_, rfl⟩, q⟩
theorem uRepr (ng : NoG X.A) (hu : X.A.units + 64 < cLine) : CallR X (.builtin "repr") (fun xs H Q => (∃ b, xs = [.bl b] ∧ Q (.str (if b then "True" else "False")) H) ∨ (∃ i, xs = [.int i] ∧ i.natAbs.log2 < 1920 ∧ Q (.str (toString i)) H) ∨ rReprD X.K xs H Q) :=
  CallR.or' call_reprB (CallR.or' call_reprI (call_reprD ng hu))
theorem uIsiK {K : PySem.W.Frag} (h : X.K = K) : CallR X (.builtin "isinstance") (fun xs H Q => rIsi K xs H Q ∨ rIsiT K xs H Q) := by
  subst h
  exact uIsi
/-- != of ints and the like, of own ones, of tuples with own ones, of data -/
theorem uNeX {n : Nat} {D : Eqv} (hD : Mon D) (h : EqG X n D) (hr : Room (n + 1) X.A) (hu : X.A.units + 64 < cLine) : OpR X (compareOp .NotEq) (orR rNe (orR (rOwnN X) (orR (rNeG (DTup X.K D)) (rNeD X.K)))) :=
  op_or2 op_ne (op_or2 op_ownN (op_or2 (op_neG (ncG_tup hD h) hr) (op_neD hu)))
end
/-- how one positional value and one by its name are bound -/
def g11 {α : Type} : List α → List α → List α
  | [a], [b] => [a, b]
  | _, _ => []
theorem kbinds11 {K : PySem.W.Frag} {fd : FuncData} {p q : Str} (h : ∀ a b : Value, bindArgs fd ⟨[a], [(q, b)]⟩ = pure [(p, a), (q, b)]) : KBinds K fd [p, q] [q] g11 g11 where
  to := fun s us ws _ hl => match us, ws, hl with
    | [a], [b], _ => .of_eq (h a b)
    | [], _, hl => by cases hl
    | [_], [], hl => by cases hl
    | [_], _ :: _ :: _, hl => by cases hl
    | _ :: _ :: _, _, hl => by cases hl
  rel := fun {vs us zs ws} r rz => match vs, us, zs, ws, r, rz with
    | [_], [_], [_], [_], .cons a .nil, .cons b .nil => .cons a (.cons b .nil)
    | [], [], _, _, .nil, _ => .nil
    | [_], [_], [], [], .cons _ .nil, .nil => .nil
    | [_], [_], _ :: _ :: _, _ :: _ :: _, .cons _ .nil, .cons _ (.cons _ _) => .nil
    | _ :: _ :: _, _ :: _ :: _, _, _, .cons _ (.cons _ _), _ => .nil
end AZ

set_option Elab.async false
set_option maxRecDepth 100000
set_option maxHeartbeats 4000000
set_option linter.all false
/-! Own work: != of lists with own items; own == beside other types; objects and classes called with keywords. -/
namespace GQ
open PySem PySem.SeqAt
open AutoSeq1 (wpAny_loadPart')
open MeetsSeq MeetsSeq2 MeetsSeq3 SeqRoads2
section
variable {prog : Program} {w : World} {A : Around} {R : Result → Shared → Prop}
theorem list_ne_from (l b : Addr) (N : Nat) (J : Nat → Shared → Prop) (walk : ListI prog w A (fun x z => R (.error x) z) l b N J) (last : ∀ z, J N z → R (.ok (.ret (.bool false))) z) :
    ∀ (m i : Nat), i + m = N → ∀ z, J i z → wpAny (model prog w) A.in1 (Builtin.«list.__eq__.loop» ⟨[.ref l, .ref b, rawInt i, rawInt 3], []⟩) (FinOf prog w A R) (fun x z' => R (.error x) z') z
  | 0, i, e, z, h => by
    obtain ⟨xs, ys, n1, n2, g1, g2, e1, e2, _⟩ := walk _ _ h
    obtain rfl : i = N := by omega
    have done := last z h
    obtain ⟨hp, gs, dr, tk, os⟩ := z
    have none1 : xs[((i : Nat) : Int).toNat]? = none := by simp; omega
    have none2 : ys[((i : Nat) : Int).toNat]? = none := by simp; omega
    wp_walk using wpAny_loadPart' g1, wpAny_loadPart' g2
    rw [none1, none2]
    wp_walk using wpAny_loadPart' g1, wpAny_loadPart' g2
    show R (.ok (.ret (.bool (xs.size != ys.size)))) _
    rw [e1, e2]
    simpa using done
  | m + 1, i, e, z, h => by
    obtain ⟨xs, ys, n1, n2, g1, g2, e1, e2, turn⟩ := walk _ _ h
    have k1 : i < xs.size := by omega
    have k2 : i < ys.size := by omega
    have step := turn k1 k2
    have next := list_ne_from l b N J walk last m (i + 1) (by omega)
    obtain ⟨hp, gs, dr, tk, os⟩ := z
    have some1 : xs[((i : Nat) : Int).toNat]? = some xs[i] := by simp [k1]
    have some2 : ys[((i : Nat) : Int).toNat]? = some ys[i] := by simp [k2]
    have more : ((i : Int) + 1) = ((i + 1 : Nat) : Int) := by omega
    wp_walk using wpAny_loadPart' g1, wpAny_loadPart' g2
    rw [some1, some2]
    refine wpAny_bind (wpAny_mono step (fun r z2 q => ?_) fun _ _ x => x)
    obtain ⟨rfl, q⟩ := q
    have nx := next z2 q
    obtain ⟨hp2, gs2, dr2, tk2, os2⟩ := z2
    wp_walk
    rw [more]
    exact ⟨plainId_quiet plain_eq_loop _, codeAny_builtin entry_eq_loop ((Around.under_plainId plain_eq_loop _).symm ▸ nx)⟩
theorem list_ne_all (l b : Addr) (N : Nat) (J : Nat → Shared → Prop) (walk : ListI prog w A (fun x z => R (.error x) z) l b N J) (last : ∀ z, J N z → R (.ok (.ret (.bool false))) z) {z : Shared} (h : J 0 z) :
    wpAny (model prog w) A.in1 (Builtin.«list.__ne__» ⟨[.ref l, .ref b], []⟩) (FinOf prog w A R) (fun x z' => R (.error x) z') z := by
  obtain ⟨xs, ys, n1, n2, g1, g2, e1, e2, _⟩ := walk _ _ h
  have nx := list_ne_from (A := A) (R := R) l b N J walk last N 0 (Nat.zero_add N) z h
  obtain ⟨hp, gs, dr, tk, os⟩ := z
  have isList := AutoSeq1.sub_list_list
  have same : ¬ (xs.size != ys.size) = true := by simp [e1, e2]
  wp_walk using wpAny_loadPart' g1, wpAny_loadPart' g2
  exact ⟨plainId_quiet plain_eq_loop _, codeAny_builtin entry_eq_loop ((Around.under_plainId plain_eq_loop _).symm ▸ nx)⟩
end
section
variable {prog : Program} {w : World} {A : Around} {X : Value → Shared → Prop} {z : Shared}
theorem ne_lists {l b : Addr} {N : Nat} {Q : Value → Shared → Prop} (room : A.units < cLine) (J : Nat → Shared → Prop) (walk : ListI prog w A X l b N J) (last : ∀ z, J N z → Q (.bool false) z) (h : J 0 z) :
    wpAny (model prog w) A (richCompare .NotEq (.ref l) (.ref b)) Q X z := by
  obtain ⟨xs, ys, n1, n2, g1, g2, _, _, _⟩ := walk _ _ h
  exact wpAny_richCompare_same_room (op := .NotEq) ⟨_, g1, rfl⟩ ⟨_, g2, rfl⟩ F.slot_list_ne (call_here F.slot_list_ne ⟨_, g1, rfl⟩ F.entry_list_ne (F.args_list_ne_2 _ _)
    (list_ne_all (R := wants (fun v s' => v ≠ .notImplemented ∧ Q v s') X) l b N J walk (fun z' q => ⟨(fun x => nomatch x), last z' q⟩) h)) room
end
end GQ
namespace AZ
open PySem L2
section
variable {X : Cx} {n : Nat} {D : Eqv}
theorem ncG_list (hD : Mon D) (h : EqG X n D) : NcG X (n + 1) (DList D) := by
  intro A pins s σ H x y u v sb I rx ry d
  obtain ⟨a, b, xs, ys, rfl, rfl, ha, hb, p⟩ := d
  cases rx
  cases ry
  refine GQ.ne_lists (N := xs.length) sb.room.units0 (fun _ s' => LoopI X pins σ H s') (fun i s' q => ?_) (fun s' q => ⟨rfl, q⟩) ⟨H, I, Ext.rfl'⟩
  obtain ⟨H1, I1, e1⟩ := id q
  obtain ⟨z, its, k, r, e⟩ := I1.hok a _ (e1 _ _ ha)
  obtain ⟨z2, its2, k2, r2, e2⟩ := I1.hok b _ (e1 _ _ hb)
  exact ⟨its.toArray, its2.toArray, k, k2, e, e2, by rw [List.size_toArray, ← r.length], by rw [List.size_toArray, ← r2.length, ← p.1], fun h1 h2 => turnG hD h sb p r r2 i h1 h2 s' q⟩
/-- own == where the right side is of a built-in type -/
def RightT (H : Hp) (y : V) (T : String) : Prop := (T = "str" ∧ ∃ z, y = .str z) ∨ (T = "tuple" ∧ ∃ b xs, y = .ref b ∧ H b = some (.tup xs))
def rOwnT (X : Cx) (op : CmpOp) : R2 := fun x y H Q => ∃ (T : String) (a C dx : Addr) (fs : List (Str × V)) (f : Addr) (CX : CXT) (k : Nat) (sp : Sp) (E : XK),
  x = .ref a ∧ H a = some (.ins C dx fs) ∧ RightT H y T ∧ PySem.W.notFirst X.K C (.type T) = true ∧ CmpM X.K C op f ∧ FnR X.prog X.w X.K X.mg X.base CX k f sp ∧ Room k X.A ∧ Passes CX X E ∧ sp [x, y] H Q E
theorem op_ownT (op : CmpOp) (hop : ∀ a b, compareOp op a b = richCompare op a b := by intro _ _; rfl) : OpR X (compareOp op) (rOwnT X op) := by
  intro pins s σ H x y v u Q I rx ry h
  obtain ⟨T, a, C, dx, fs, f, CX, k, sp, E, rfl, ha, hR, hT, hM, F, hr, hx, hs⟩ := h
  obtain rfl : v = Value.ref a := rx
  have hc : wpAny (model X.prog X.w) X.A (call (.ref f) [.ref a, u]) (PySem.W.CmpBack (EP X pins σ Q)) X.xe s :=
    thn (wpAny_call (run_fnR (us := [.ref a, u]) (vs := [.ref a, y]) F hr hx I (.cons rfl (.cons ry .nil)) hs)) fun _ _ z => cmpBack_of z
  obtain ⟨mA, J, _⟩ := ins_get I.hok ha
  obtain ⟨od, J, _⟩ := J.look
  obtain ⟨m, hF⟩ := I.fr
  rw [hop]
  rcases hR with ⟨rfl, z, rfl⟩ | ⟨rfl, b, xs, rfl, hb⟩
  · obtain ⟨t, rfl⟩ := ry
    exact PySem.W.cmp_K (tb := .type "str") hr.units0 hF I.ok.mod.kin J (PySem.W.Looks.of_pure rfl) hT hM.hs hM.hf hc
  · obtain rfl : u = Value.ref b := ry
    obtain ⟨its, r, e, _⟩ := I.tuple (SqT.of hb)
    obtain ⟨o, g, c, _⟩ := id e
    have look : PySem.W.Looks (model X.prog X.w) s.heap (typeOf (.ref b)) (.type "tuple") := fun A Q E z k q => wpAny_typeOf_ref (k _ _ g) (by rw [c]; exact q)
    exact PySem.W.cmp_K (tb := .type "tuple") hr.units0 hF I.ok.mod.kin J look hT hM.hs hM.hf hc
end
end AZ
namespace AZ
open PySem L2 PyProof.Rows
/-- an object called with keywords -/
theorem callOk_of {M : Model} {A : Around} {E : Value → Shared → Prop} {s : Shared} {a : Addr} {pos : Pos} {Q : Value → Shared → Prop} {args : List (Bool × Sem Value)} {kws : List (Option Str × Sem Value)} (plain : (args.any (·.1) || kws.any (·.1.isNone)) = false)
    (h : wpAny M A (evalArgs (.ref a) true args kws) (fun z s1 => (∃ C ox od, PySem.W.InstAt s1.heap a ox C od ∧ ox.data = .plain) ∧ wpAny M A (call (.ref a) z.pos z.kw) Q E s1) E s) : wpAny M A (callWith pos (.ref a) [] args kws) Q E s := by
  unfold callWith
  refine wpAny_bind (wpAny_holding (wpAny_mono h (fun z s1 q => wpAny_bind (wpAny_standAt ?_)) fun _ _ q => q))
  obtain ⟨⟨C, ox, od, at_, dat⟩, q⟩ := q
  simp only [plain]
  refine wpAny_bind ((PySem.W.kco_keeper (M := M) at_ dat).here (wpAny_bind (wpAny_mono (wpAny_operateT q) (fun r s2 q2 => ?_) fun _ _ q => q)))
  exact wpAny_bind (wpAny_holding (wpAny_point (wpAny_pure q2)))
section
variable {X : Cx} {CX : CXT} {k : Nat} {C g : Addr} {sp : Sp} {E : XK} {fe : Expr} {kws : List Keyword} {ks : List Str} {x : Str} {p pos : Pos} {tf : TE} {t : TA} {gV : List V → List V → List V}
/-- f(k = e, ..), f an expression that gives an instance of C -/
def tCallOk (X : Cx) (C : Addr) (gV : List V → List V → List V) (sp : Sp) (E : XK) (tf : TE) (t : TA) : TE := fun σ H Q => tf σ H fun y H1 => ∃ a, y = V.ref a ∧ t σ H1 fun zs H2 => StX.InsC X H2 a C ∧ sp (gV [V.ref a] zs) H2 Q E
theorem pe_callOk (hf : PE X fe tf) (c : StX.CallO X.K C g) (F : FnRk X.prog X.w X.K X.mg X.base CX k g ks gV sp) (hr : Room k X.A) (hx : Passes CX X E) (hkw : PK X kws t)
    (hall : (backToKw pos (keywordEach kws X.env)).all (·.1.isSome) = true := by rfl) (hks : (backToKw pos (keywordEach kws X.env)).filterMap (·.1) = ks := by rfl)
    (ht : eval (.Call fe [] kws pos) X.env = (do callWith pos (← eval fe X.env) [] (backTo pos (starEach [] X.env)) (backToKw pos (keywordEach kws X.env))) := by rfl)
    (hpl : ((backTo pos (starEach [] X.env)).any (·.1) || (backToKw pos (keywordEach kws X.env)).any (·.1.isNone)) = false := by rfl) : PE X (.Call fe [] kws pos) (tCallOk X C gV sp E tf t) := by
  refine ⟨fun pins s σ H Q I h => ?_⟩
  rw [ht]
  refine wpAny_bind (thn (hf.run pins s σ H _ I h) fun u s1 ⟨y, H1, I1, ry, a, ey, q⟩ => ?_)
  subst ey
  obtain rfl : u = Value.ref a := ry
  refine callOk_of hpl (evalArgs_kw2_nil hall (thn (hkw.run pos pins s1 σ H1 _ I1 q) fun ws s2 ⟨zs, H2, I2, rz, hi, q2⟩ => ?_))
  obtain ⟨ox, od, J, hd⟩ := StX.insC_at I2 hi
  refine ⟨⟨C, ox, od, J, hd⟩, ?_⟩
  rw [hks]
  refine wpAny_call (PySem.W.kco_code I2.kIn J hd c.at_ c.fn c.fi (codeAny_mono (F X.A X.stack s2 H2 [.ref a] ws [.ref a] zs Q E hr I2.env0 (.cons rfl .nil) rz q2) fun r s' hq => ?_))
  match r, hq with
  | .error e, hq => exact hx pins σ H2 s2 e s' I2 hq
  | .ok (.ret _), hq => exact I2.after hq
  | .ok .next, hq => exact hq.elim
  | .ok .brk, hq => exact hq.elim
  | .ok .cont, hq => exact hq.elim
/-- C(k = e, ..): a new instance and its dict, then __init__ -/
def tMakeRk (C : Addr) (gV : List V → List V → List V) (sp : Sp) (E : XK) (t : TA) : TE := fun σ H Q => t σ H fun zs H1 => ∀ x dx, H1 x = none → H1 dx = none → dx ≠ x →
  sp (gV [.ref x] zs) (upd (upd H1 dx (.own x)) x (.ins C dx [])) (fun v H2 => v = .non ∧ Q (.ref x) H2) E
theorem pe_makeRk (M : Mk X.K C g) (F : FnRk X.prog X.w X.K X.mg X.base CX k g ks gV sp) (hr : Room (k + 1) X.A) (hg : Gl X x) (hm : X.mg x = some (.ref C)) (hx : Passes CX X E) (hkw : PK X kws t)
    (hall : (backToKw pos (keywordEach kws X.env)).all (·.1.isSome) = true := by rfl) (hks : (backToKw pos (keywordEach kws X.env)).filterMap (·.1) = ks := by rfl) (hdb : (x == ("__debug__" : Str)) = false := by decide)
    (hpl : ((backTo pos (starEach [] X.env)).any (·.1) || (backToKw pos (keywordEach kws X.env)).any (·.1.isNone)) = false := by rfl) : PE X (.Call (.Name x p) [] kws pos) (tMakeRk C gV sp E t) := by
  refine ⟨fun pins s σ H Q I h => wpAny_Call_Name_kw (ld_glob I hg hm ?_ hdb)⟩
  refine PySem.W.callWith_KW0 (h₀ := X.base) I.ok.mod.kin M.kp hall (thn (hkw.run pos pins s σ H _ I h) fun ws s2 ⟨zs, H2, I2, rz, q⟩ => ⟨I2.kIn, ?_⟩) hpl
  rw [hks]
  have q2 := q (s2.heap.objs.size + 1) s2.heap.objs.size (I2.hok.fresh (Nat.le_succ _)) (I2.hok.fresh (Nat.le_refl _)) (Nat.ne_of_lt (Nat.lt_succ_self _))
  have J := Inv.made (C := C) I2
  refine wpAny_call (make_map (f := g) I2.kIn M.makes M.init (beq_iff_eq.mp M.fn) (codeAny_mono (F _ X.stack _ _ [.ref (s2.heap.objs.size + 1)] ws [.ref (s2.heap.objs.size + 1)] zs _ E (hr.make C [] (ks.zip ws)) (J.env0.make C [] (ks.zip ws)) (.cons rfl .nil) rz q2) fun r s' hq => ?_))
  match r, hq with
  | .error e, hq => exact hx pins σ _ _ e s' J hq
  | .ok (.ret _), hq =>
    obtain ⟨v, H3, J3, rv, ev, q3⟩ := J.after hq
    subst ev
    exact ⟨rv, ⟨V.ref (s2.heap.objs.size + 1), H3, J3, rfl, q3⟩⟩
  | .ok .next, hq => exact hq.elim
  | .ok .brk, hq => exact hq.elim
  | .ok .cont, hq => exact hq.elim
end
/-- how one positional value and two by their names, told the other way round, are bound -/
def g12 {α : Type} : List α → List α → List α
  | [a], [b, c] => [a, c, b]
  | _, _ => []
theorem vals_g12 : ∀ {vs zs : List V} {us ws : List Value}, Vals vs us → Vals zs ws → Vals (g12 vs zs) (g12 us ws)
  | _, _, _, _, .cons a .nil, .cons b (.cons c .nil) => .cons a (.cons c (.cons b .nil))
  | _, _, _, _, .nil, _ => .nil
  | _, _, _, _, .cons _ (.cons _ _), _ => .nil
  | _, _, _, _, .cons _ .nil, .nil => .nil
  | _, _, _, _, .cons _ .nil, .cons _ .nil => .nil
  | _, _, _, _, .cons _ .nil, .cons _ (.cons _ (.cons _ _)) => .nil
theorem FnOk.rawkn {P : Program} {w : World} {K : PySem.W.Frag} {mg : Str → Option Value} {base : Heap} {CX : CXT} {k n : Nat} {f : Addr} {fd : FuncData} {ps ks : List Str} {sp : Sp} {g : List Value → List Value → List Value} {gV : List V → List V → List V}
    (F : FnOk P w K mg base CX k f fd ps sp) (hb : KBn K fd ps n ks g gV) (hl : ∀ vs zs : List V, (gV vs zs).length = ps.length → vs.length = n ∧ zs.length = ks.length) : FnRk P w K mg base CX k f ks gV sp := by
  intro A outer s H us ws vs zs Q E hr e0 r rz h
  obtain ⟨l1, l2⟩ := hl vs zs (F.len _ _ _ _ h)
  exact F.run A outer s H ⟨us, ks.zip ws⟩ (g us ws) (gV vs zs) Q E hr e0 (hb.to s us ws (e0.mod.kin.keeps fun b o e => (e0.bs b o e).1) (r.length.symm.trans l1) (rz.length.symm.trans l2)) (hb.rel r rz) h
section
variable {X : Cx}
theorem uEqT (hu : X.A.units + 64 < cLine) : OpR X (compareOp .Eq) (orR rEq (orR (rOwnC X .Eq) (orR (rOwnT X .Eq) (rEqD X.K)))) := op_or2 op_eq (op_or2 (op_ownC _) (op_or2 (op_ownT _) (op_eqD hu)))
theorem uNeL {n : Nat} {D : Eqv} (hD : Mon D) (h : EqG X n D) (hr : Room (n + 1) X.A) (hu : X.A.units + 64 < cLine) : OpR X (compareOp .NotEq) (orR rNe (orR (rOwnN X) (orR (rNeG (DList D)) (rNeD X.K)))) :=
  op_or2 op_ne (op_or2 op_ownN (op_or2 (op_neG (ncG_list hD h) hr) (op_neD hu)))
end
section
variable {X : Cx} {k : Nat} {C g : Addr} {CX : CXT} {sp : Sp} {E : XK} {fe e : Expr} {es : List Expr} {pos : Pos} {tf : TE} {t : TA}
/-- calling an object, told without the context (for blocks) -/
def tCallOF (C : Addr) (sp : Sp) (E : XK) (tf : TE) (t : TA) : TE := fun σ H Q => tf σ H fun y H1 => ∃ a, y = V.ref a ∧ t σ H1 fun vs H2 => ((∃ dx vs, SlX.Slt H2 a C dx vs) ∨ ∃ dx fs, H2 a = some (.ins C dx fs)) ∧ sp (V.ref a :: vs) H2 Q E
theorem pe_callOF (hf : PE X fe tf) (c : StX.CallO X.K C g) (F : FnR X.prog X.w X.K X.mg X.base CX k g sp) (hr : Room k X.A) (hx : Passes CX X E) (ha : PA X (e :: es) t)
    (ht : eval (.Call fe (e :: es) [] pos) X.env = (do callWith pos (← eval fe X.env) [] (backTo pos (starEach (e :: es) X.env)) (backToKw pos (keywordEach [] X.env))) := by rfl)
    (he : starEach (e :: es) X.env = (false, eval e X.env) :: starEach es X.env := by rfl) (hpl : (backTo pos (starEach es X.env)).any (·.1) = false := by rfl) : PE X (.Call fe (e :: es) [] pos) (tCallOF C sp E tf t) :=
  StX.pe_callO hf c F hr hx ha ht he hpl
end
section
variable {X : Cx} {tg l : Expr} {tl : TE}
theorem pi_listK {K : PySem.W.Frag} (h : X.K = K) (hl : PE X l tl) : PI X tg l (iList K tl) := by
  subst h
  exact pi_list hl
end
end AZ

set_option Elab.async false
set_option maxRecDepth 100000
set_option maxHeartbeats 4000000
set_option linter.all false
/-! Own work: errors of own classes as values: made, read, asked for their class; repr of any showable datum. -/
namespace AZ
open PySem L2 PyProof.Rows
/-! ## showable data, dicts of texts or ints to ints too -/
def keyD : Key → PyData
  | .inl i => .int i
  | .inr x => .str x
def kvD (l : List (Key × Int)) : PyData := .dict (l.map fun p => (keyD p.1, .int p.2))
abbrev kvV (l : List (Key × Int)) : List (Key × V) := l.map fun p => (p.1, V.int p.2)
inductive Sh (K : PySem.W.Frag) (H : Hp) : V → PyData → Prop
  | dp {v : V} {d : PyData} : Dp K H v d → d.hasDict = false → Sh K H v d
  | dict {a : Addr} {l : List (Key × Int)} : H a = some (.dK (kvV l)) → Sh K H (.ref a) (kvD l)
theorem reads_keys {P : Program} {w : World} {h : Heap} : ∀ (l : List (Key × Int)) (es : List DictEntry) (vs : List (Key × Value)), KV (kvV l) vs → PySem.Pairs (mixKind P w) es vs →
    ReadsAll h (es.map (·.key)) (l.map fun p => keyD p.1) [] ∧ ReadsAll h (es.map (·.val)) (l.map fun p => PyData.int p.2) []
  | [], es, vs, r, p => by
    cases r
    cases p
    exact ⟨.nil, .nil⟩
  | q :: l, es, vs, r, p => by
    cases r with
    | @cons a b as bs r1 r2 =>
      cases p with
      | @cons e1 kv1 es1 kvs1 p1 p2 p3 =>
        obtain ⟨a1, a2⟩ := reads_keys l _ _ r2 p3
        obtain ⟨e0, t, e2⟩ := r1
        have p1' : keyIs b.1 e1.key = true := p1
        have hv : Reads h e1.val (.int q.2) [] := by
          rw [p2, e2]
          exact Reads.int _ _
        have hk : Reads h e1.key (keyD q.1) [] := by
          have e0' : q.1 = b.1 := e0
          rw [e0']
          rcases keyIs_shape p1' with ⟨i, t, e3, e4⟩ | ⟨x, t, e3, e4⟩
          · rw [e3, e4]; exact Reads.int _ _
          · rw [e3, e4]; exact Reads.str _ _
        exact ⟨.cons (as := []) hk a1, .cons (as := []) hv a2⟩
section
variable {X : Cx} {pins : List (Addr × Obj)} {σ : L2.St} {H : Hp} {s : Shared}
theorem Sh.reads {v : V} {d : PyData} {u : Value} (S : Sh X.K H v d) (I : Inv X pins σ H s) (r : RelV v u) : ∃ as, Reads s.heap u d as ∧ (d.hasDict = true → sysModules ∉ as) := by
  cases S with
  | dp h n =>
    obtain ⟨as, q⟩ := Dp.reads I d v u h r
    exact ⟨as, q, fun z => by rw [n] at z; cases z⟩
  | @dict a l e =>
    obtain rfl : u = Value.ref a := r
    obtain ⟨_, hd, vs, rel, ob, es, ep, g, ex, dd, _, pr, _⟩ := dk_of I.hok e
    obtain ⟨a1, a2⟩ := reads_keys l _ _ rel pr
    have b1 : ReadsAll s.heap (es.toList.map (·.key)) ((l.map fun p : Key × Int => (keyD p.1, PyData.int p.2)).map (·.1)) [] := by rw [List.map_map]; exact a1
    have b2 : ReadsAll s.heap (es.toList.map (·.val)) ((l.map fun p : Key × Int => (keyD p.1, PyData.int p.2)).map (·.2)) [] := by rw [List.map_map]; exact a2
    refine ⟨a :: [] ++ [], Reads.dict g ex.1 dd b1 b2, fun _ hm => ?_⟩
    simp at hm
    rw [← hm] at hd
    simp at hd
/-- what repr of a datum asks -/
structure Shn (d : PyData) : Prop where
  sh : d.showable = true
  dp : d.depth ≤ 60
  sz : d.shown.length ≤ 2000
theorem repr_any {v : V} {d : PyData} {u : Value} {A : Around} {E : Value → Shared → Prop} {Q : Value → Shared → Prop} (S : Sh X.K H v d) (n : Shn d) (I : Inv X pins σ H s) (r : RelV v u) (ng : NoG A) (hu : A.units + 64 < cLine)
    (k : ∀ s' t, Inv X pins σ H s' → Q (.str d.shown t) s') : wpAny (model X.prog X.w) A (pyReprObj u) Q E s := by
  have sz : d.shown.length ≤ sizeLine := Nat.le_trans n.sz (by decide)
  have refl : ∀ {a : Addr}, u = .ref a → wpAny (model X.prog X.w) A (pyReprObj u) Q E s := fun {a} e => by
    obtain ⟨as, q, hs⟩ := S.reads I r
    have hdp := n.dp
    subst e
    exact pyReprObj_of_reads q n.sh hs ng (by omega) (fun _ _ e => e) (fun h' u tk hk => k _ _ (I.kept hk)) sz
  cases S with
  | dict e => exact refl r
  | dp h nd =>
    cases h with
    | non => obtain rfl : u = Value.none := r; exact pyReprObj_none (k _ _ (I.tok _))
    | bl b => obtain rfl : u = Value.bool b := r; exact pyReprObj_bool (k _ _ (I.tok _))
    | int i =>
      obtain ⟨t, rfl⟩ := r
      exact pyReprObj_int (of_decide_eq_true n.sh) (k _ _ (I.tok _))
    | str x => obtain ⟨t, rfl⟩ := r; exact pyReprObj_str (k _ _ (I.tok _)) sz
    | lst _ _ => exact refl r
    | tup _ _ => exact refl r
/-- {x!r} -/
def tFmtA (K : PySem.W.Frag) (te : TE) : TE := fun σ H Q => te σ H fun x H1 => ∃ d, Sh K H1 x d ∧ Shn d ∧ Q (.str d.shown) H1
theorem pe_fmtA {e : Expr} {te : TE} {pos : Pos} (ng : NoG X.A) (hu : X.A.units + 64 < cLine) (he : PE X e te) : PE X (.FormattedValue e 114 none pos) (tFmtA X.K te) := by
  refine ⟨fun pins s σ H Q I h => ?_⟩
  refine wpAny_FormattedValue_repr (thn (he.run pins s σ H _ I h) fun v s1 hv => ?_)
  obtain ⟨x, H1, I1, r1, d, S, n, q⟩ := hv
  refine repr_any S n I1 r1 ng hu fun s2 t I2 => ?_
  exact wpAny_formatField_str ⟨.str d.shown, H1, I2, ⟨_, rfl⟩, q⟩ ⟨.str d.shown, H1, I2.tok _, ⟨_, rfl⟩, q⟩ (Nat.le_trans n.sz (by decide))
theorem call_reprS (ng : NoG X.A) (hu : X.A.units + 70 < cLine) : CallR X (.builtin "repr") (fun xs H Q => ∃ v d, xs = [v] ∧ Sh X.K H v d ∧ Shn d ∧ Q (.str d.shown) H) := by
  intro pins s σ H xs us Q I rv q
  obtain ⟨v, d, rfl, S, n, q⟩ := q
  obtain ⟨u, rfl, r⟩ := vals1 rv
  have sz : d.shown.length ≤ sizeLine := Nat.le_trans n.sz (by decide)
  have refl : ∀ {a : Addr}, u = .ref a → wpAny (model X.prog X.w) X.A (call (.builtin "repr") [u]) (EP X pins σ Q) X.xe s := fun {a} e => by
    obtain ⟨as, g, hs⟩ := S.reads I r
    have hdp := n.dp
    subst e
    exact repr_of_reads' g n.sh hs ng (by omega) (fun _ _ e => e) (fun h' u tk hk => ⟨.str d.shown, H, I.kept hk, ⟨_, rfl⟩, q⟩) sz
  have fin : ∀ tk, EP X pins σ Q (.str d.shown tk) { s with toks := s.toks + 1 } := fun tk => ⟨.str d.shown, H, I.tok _, ⟨_, rfl⟩, q⟩
  cases S with
  | dict e => exact refl r
  | dp h nd =>
    cases h with
    | non => obtain rfl : u = Value.none := r; exact PySem.P.repr_of_none (fin _)
    | bl b => obtain rfl : u = Value.bool b := r; exact PySem.P.repr_of_bool (fin _)
    | int i => obtain ⟨t, rfl⟩ := r; exact PySem.P.repr_of_int (of_decide_eq_true n.sh) (fin _)
    | str x => obtain ⟨t, rfl⟩ := r; exact PySem.P.repr_of_str (fin _) sz
    | lst _ _ => exact refl r
    | tup _ _ => exact refl r
end
/-! ## the base's __init__, through an own base without one -/
/-- what C.__init__(..) asks of the class at C: it is ValueError's -/
structure VInit (K : PySem.W.Frag) (C : Addr) : Prop where
  ex : ∃ mc : Value, ClX.CRead K C mc ∧ PySem.W.findCls K (.ref C) mc "__init__" = some (.val (.builtin "ValueError.__init__"))
section
variable {X : Cx} {e : Expr} {es : List Expr} {ta : TA} {S : Addr} {x : Str} {p1 p2 pos : Pos}
theorem pe_sinit {pl : Sem Bool} (V : VInit X.K S) (hg : Gl X x) (hm : X.mg x = some (.ref S)) (ha : PA X (e :: es) ta) (hdb : (x == ("__debug__" : Str)) = false := by decide)
    (hc : eval (.Call (.Attribute (.Name x p1) "__init__" p2) (e :: es) [] pos) X.env = (eval (.Name x p1) X.env >>= fun ov => standAt p2.atName >>= fun _ => holding [ov] (getMethod ov "__init__" pl) >>= fun r =>
      callWith pos r.1 r.2 (backTo pos (starEach (e :: es) X.env)) (backToKw pos (keywordEach [] X.env))) := by rfl)
    (he : starEach (e :: es) X.env = (false, eval e X.env) :: starEach es X.env := by rfl) (hpl : (backTo pos (starEach es X.env)).any (·.1) = false := by rfl) :
    PE X (.Call (.Attribute (.Name x p1) "__init__" p2) (e :: es) [] pos) (tVeI X.K ta) := by
  refine ⟨fun pins s σ H Q I h => ?_⟩
  obtain ⟨mc, r, at_⟩ := V.ex
  refine PySem.W.methodCall_KW (pl := pl) (ld_glob I hg hm ?_ hdb) hc
  refine PySem.W.method_cls I.kIn r.ga (PySem.W.cls_value I.kIn r.rd at_ (by decide +kernel) ?_)
  show wpAny _ _ (callWith pos (Value.builtin "ValueError.__init__") [] (backTo pos (starEach (e :: es) X.env)) []) _ _ _
  refine PyProof.Rows.callWith_method1 (thn (ha.run pos pins _ σ H _ (I.tok _) h) fun us s1 ⟨vs, H1, I1, r1, a, C, ws, ev, hl, T, ea, q⟩ => ?_) he hpl
  subst ev
  cases r1 with
  | @cons _ u0 _ ur ra rw' =>
    obtain rfl : u0 = Value.ref a := ra
    have hlen : ur.length ≤ sizeLine := Nat.le_trans (by rw [← Paired.length rw']; exact hl) (show 1000 ≤ sizeLine by decide)
    exact oinit_ok T I1 ea hlen fun s' J => ⟨.non, H1, J, rfl, q⟩
end
end AZ
/-! ## an own error class called with keywords -/
namespace PySem
namespace HKW
open Builtin Builtin.ObjectAttr HandSPX
section
variable {prog : Program} {w : World} {A : Around} {E : Value → Shared → Prop} {R : Result → Shared → Prop} {h : Heap} {g : Array GenState} {d : Drawn} {t : Nat} {os : OsState}
variable {nm q : Str} {C N : Addr} {bs bm bmB : List Value} {hdct : Bool} {sn : List Str} {sub : List Value} {ab : Bool} {col : Option Bool} {dd : Option Addr} {k0 k1 k2 k3 k5 : Option Value} {B newId initId : String}
/-- BaseException.__new__ lets by whatever is told by name -/
theorem check_kw {M : Model} (F : ExcBaseFacts B newId initId bmB) (hT : ∀ X : String, bm.contains (.type X) = bmB.contains (.type X)) {kws : List (Str × Value)} {Q : Unit → Shared → Prop}
    (hC : h.get? C = some (excClassObj nm q C N bs bm hdct sn sub ab col dd k0 k1 k2 k3 k5 newId)) (hq : Q () ⟨h, g, d, t, os⟩) : wpAny M A (checkBuiltinCall newId ⟨[.ref C], kws⟩) Q E ⟨h, g, d, t, os⟩ := by
  have isB : (Value.ref C :: bm).contains (.type B) = true := by rw [List.contains_cons, hT, F.hasB, Bool.or_true]
  have st := F.noStar
  simp only [checkBuiltinCall, F.newKind, F.newSplit, F.newRow]
  repeat (first | refine wpAny_loadPart_at hC ?_ | (refine wpAny_isSubtype_exc hC ?_; rw [isB]) | refine wpAny_staticBase_exc hC ?_ | refine wpAny_madeBy_exc hC ?_ | simp only [bne_self_eq_false, Bool.false_eq_true, if_false] | wp_step)
  exact hq
theorem new_kw (F : ExcBaseFacts B newId initId bmB) (hT : ∀ X : String, bm.contains (.type X) = bmB.contains (.type X)) {kws : List (Str × Value)}
    (hC : h.get? C = some (excClassObj nm q C N bs bm hdct sn sub ab col dd k0 k1 k2 k3 k5 newId))
    (hq : R (.ok (.ret (.ref (h.objs.size + 1)))) ⟨(h.push (W.kdv_tup [])).push (excO C h.objs.size), g, d, t, os⟩) :
    codeAny (model prog w) A (.builtin newId ⟨[.ref C], kws⟩) R ⟨h, g, d, t, os⟩ := by
  have fin := F.ends
  have isB : (Value.ref C :: bm).contains (.type B) = true := by rw [List.contains_cons, hT, F.hasB, Bool.or_true]
  have noA : (Value.ref C :: bm).contains (.type "AttributeError") = false := by rw [List.contains_cons, hT, F.noAttr]; rfl
  have noN : (Value.ref C :: bm).contains (.type "NameError") = false := by rw [List.contains_cons, hT, F.noName]; rfl
  refine codeAny_builtinAt F.entry ?_
  unfold Builtin.«BaseException.__new__»
  refine wpAt_bind ?_
  show wpAt _ _ _ (stack >>= _) _ _ _
  refine wpAt_bind (wpAt_stack fun p below => wpAt_of_wpAny ?_)
  wp_walk
  refine wpAt_of_wpAny ?_
  rw [F.owner]
  repeat (first | with_reducible refine wpAny_madeHere_exc F.canon hC ?_ | with_reducible refine wpAny_loadPart_at hC ?_ | (with_reducible refine wpAny_isSubtype_exc hC ?_; first | rw [isB] | rw [noA] | rw [noN]) | wp_step)
  show R _ _
  rw [Heap.size_push]
  exact hq
theorem tcall_kw (F : ExcBaseFacts B newId initId bmB) (hT : ∀ X : String, bm.contains (.type X) = bmB.contains (.type X)) {kws : List (Str × Value)} {fI : Addr} {Q : Fin → Shared → Prop}
    (hC : h.get? C = some (excClassObj nm q C N bs bm hdct sn sub ab col dd k0 k1 k2 k3 k5 newId))
    (hi : W.Looks (model prog w) h (typeLookup (.ref C) "__init__") (some (.ref fI))) (hb : ∀ self, W.Looks (model prog w) h (bindSpecial (.ref fI) self) (.ref fI, [self]))
    (hq : codeAny (model prog w) A (.call (.ref fI) ⟨[.ref (h.objs.size + 1)], kws⟩)
      (fun r s' => match r with | .ok (.ret v) => v = .none ∧ Q (.done (.ret (.ref (h.objs.size + 1)))) s' | .ok _ => False | .error e => E e s')
      ⟨(h.push (W.kdv_tup [])).push (excO C h.objs.size), g, d, t, os⟩) :
    wpAny (model prog w) A (Builtin.«type.__call__» ⟨[.ref C], kws⟩) Q E ⟨h, g, d, t, os⟩ := by
  repeat (first | with_reducible refine wpAny_loadPart_at hC ?_ | with_reducible refine wpAny_madeBy_exc hC ?_ | wp_step)
  refine codeAny_call_builtin_code (Code.quiet_builtin _ F.quiet) (check_kw F hT hC ?_)
  refine new_kw F hT hC ?_
  show wpAny _ _ _ _ _ _
  have kp : ∀ b o, h.get? b = some o → ((h.push (W.kdv_tup [])).push (excO C h.objs.size)).get? b = some o := fun b o e => Heap.get?_push_of_some _ (Heap.get?_push_of_some _ e)
  have hC2 := kp _ _ hC
  have gx : ((h.push (W.kdv_tup [])).push (excO C h.objs.size)).get? (h.objs.size + 1) = some (excO C h.objs.size) := by heap_get
  have own : (Value.ref C :: bm).contains (.ref C) = true := by simp
  have i2 := hi.keeps kp
  have b2 := (hb (.ref (h.objs.size + 1))).keeps kp
  unfold isInstance
  repeat (first | with_reducible refine wpAny_loadPart_at gx ?_ | (with_reducible refine wpAny_isSubtype_exc hC2 ?_; rw [own]) | wp_step)
  show wpAny _ _ (typeLookup (.ref C) _) _ _ _
  refine i2.at (wpAny_holding (wpAny_bind (b2.at (wpAny_bind (wpAny_call (codeAny_mono hq fun r s' z => ?_))))))
  rcases r with e | (v | _ | _ | _) <;> first | exact z | exact z.elim | skip
  obtain ⟨rfl, z⟩ := z
  first
    | exact wpAny_pure (wpAny_pure z)
    | (wp_walk; exact z)
theorem call_kw (F : ExcBaseFacts B newId initId bmB) (hT : ∀ X : String, bm.contains (.type X) = bmB.contains (.type X)) {kws : List (Str × Value)} {fI : Addr}
    (hC : h.get? C = some (excClassObj nm q C N bs bm hdct sn sub ab col dd k0 k1 k2 k3 k5 newId))
    (hi : W.Looks (model prog w) h (typeLookup (.ref C) "__init__") (some (.ref fI))) (hb : ∀ self, W.Looks (model prog w) h (bindSpecial (.ref fI) self) (.ref fI, [self]))
    (hq : codeAny (model prog w) (A.under (.builtin "type.__call__" ⟨[.ref C], kws⟩)) (.call (.ref fI) ⟨[.ref (h.objs.size + 1)], kws⟩) (W.InitBack (h.objs.size + 1) R)
      ⟨(h.push (W.kdv_tup [])).push (excO C h.objs.size), g, d, t, os⟩) :
    codeAny (model prog w) A (.call (.ref C) ⟨[], kws⟩) R ⟨h, g, d, t, os⟩ := by
  have f1 := tc_lookup
  have f2 := tc_bind (.ref C)
  have hTy : (⟨h, g, d, t, os⟩ : Shared).TypeIs (.ref C) "type" := ⟨_, hC, rfl⟩
  refine codeAny_of_tree ?_
  show wpAny _ _ (callAny (.ref C) _) _ _ _
  repeat (any_goals (first | assumption | with_reducible refine wpAny_loadPart_at hC ?_ | wp_step))
  refine ⟨rfl, codeAny_call_builtin_at (Code.quiet_builtin _ (by decide +kernel)) entry_typeCall (wpAny_check_type_call_sub hC (tcall_kw F hT hC hi hb ?_))⟩
  refine codeAny_mono hq fun r s' z => ?_
  rcases r with e | (v | _ | _ | _) <;> exact z
end
end HKW
end PySem
namespace AZ
open PySem L2 PyProof.Rows
/-! ## made as a value -/
/-- an error of the class C at a with these fields -/
def ErrAt (H : Hp) (a C : Addr) (fs : List (Str × V)) : Prop := ∃ dx, H a = some (exo a C (some dx)) ∧ H dx = some (exd dx fs)
def tMkE (C : Addr) (sp : Sp) (ta : TA) : TE := fun σ H Q => ta σ H fun vs H1 => vs.length ≤ 1000 ∧ ∀ a, H1 a = none → sp (.ref a :: vs) (upd H1 a (exo a C none)) (fun v H2 => v = .non ∧ Q (.ref a) H2) (fun _ _ _ => False)
section
variable {X : Cx} {CX : CXT} {k : Nat} {C fI : Addr} {sp : Sp} {pins : List (Addr × Obj)} {σ : L2.St} {H : Hp} {s : Shared} {Q : VK}
/-- C(us) -/
theorem mkE_run (T : OexC X.K C) (iC : PySem.W.findIn X.K (.ref C) "__init__" = some (some (.ref fI))) (tI : PySem.W.typeIn X.K (.ref fI) = some (.type "function")) (F : FnG X.prog X.w X.K X.mg X.base CX k fI sp) (ng : NoG X.A) (hr : Room (k + 1) X.A)
    (hx : Passes CX X (fun _ _ _ => False)) (I : Inv X pins σ H s) {vs : List V} {us : List Value} {as : Args} (r : Vals vs us) (hl : vs.length ≤ 1000)
    (q : ∀ a, H a = none → sp (.ref a :: vs) (upd H a (exo a C none)) (fun v H2 => v = .non ∧ Q (.ref a) H2) (fun _ _ _ => False)) :
    wpAny (model X.prog X.w) X.A (call (.ref C) us) (EP X pins σ Q) X.xe s := by
  obtain ⟨nm, qn, N, bs, bm, sn, sub, ab, col, dd, k0, k1, k2, k3, k5, hC, hbm⟩ := T.cls
  obtain ⟨hp, g, dr, tk, os⟩ := s
  have hsz : hp.objs.size ≤ hp.objs.size + 1 := Nat.le_succ _
  have hn : H (hp.objs.size + 1) = none := I.hok.fresh hsz
  have hq := q (hp.objs.size + 1) hn
  have kk : ∀ b o, hp.get? b = some o → ((hp.push (PySem.W.kdv_tup us)).push (PySem.HandSPX.excO C hp.objs.size)).get? b = some o := fun b o e => Heap.get?_push_of_some _ (Heap.get?_push_of_some _ e)
  have hget : ((hp.push (PySem.W.kdv_tup us)).push (PySem.HandSPX.excO C hp.objs.size)).get? (hp.objs.size + 1) = some (PySem.HandSPX.excO C hp.objs.size) := by heap_get
  have I2 : Inv X pins σ (upd H (hp.objs.size + 1) (exo (hp.objs.size + 1) C none)) ⟨(hp.push (PySem.W.kdv_tup us)).push (PySem.HandSPX.excO C hp.objs.size), g, dr, tk, os⟩ :=
    I.laid (t' := tk) (a := hp.objs.size + 1) (o := exo (hp.objs.size + 1) C none) (h' := (hp.push (PySem.W.kdv_tup us)).push (PySem.HandSPX.excO C hp.objs.size)) kk hsz (exo_ok hget)
  have hus : us.length ≤ sizeLine := Nat.le_trans (by rw [← Paired.length r]; exact hl) (show 1000 ≤ sizeLine by decide)
  refine wpAny_call (PySem.HandSPX.call_own PySem.F.excBase_ValueError (fun Y => PySem.HandSPX.refsVE_contains Y bm hbm) (I.kIn _ _ hC) (PySem.W.looks_findIn I.kIn iC) (fun self => PySem.W.bind_fn I.kIn self tI) hus ?_)
  refine codeAny_mono (F _ X.stack _ _ (.ref (hp.objs.size + 1) :: us) (.ref (hp.objs.size + 1) :: vs) _ _ ?_ (hr.make C us []) (I2.env0.make C us []) (.cons rfl r) hq) fun r s' hq' => ?_
  · exact ng
  · cases r with
    | error er => exact hx pins σ _ _ er s' I2 hq'
    | ok fl =>
      cases fl with
      | ret u =>
        obtain ⟨v, H2, J, rv, ev, q2⟩ := I2.after hq'
        subst ev
        exact ⟨rv, .ref _, H2, J, rfl, q2⟩
      | next => exact False.elim hq'
      | brk => exact False.elim hq'
      | cont => exact False.elim hq'
end
/-! ## promises of a def told by any binding, none of repr under way -/
def FnOG (P : Program) (w : World) (K : PySem.W.Frag) (mg : Str → Option Value) (base : Heap) (CX : CXT) (k : Nat) (f : Addr) (fd : FuncData) (ps : List Str) (sp : Sp) : Prop :=
  ∀ (A : Around) (out : List Env) (z : Shared) (G : Hp) (as : Args) (us : List Value) (vs : List V) (Q : VK) (E : XK), NoG A → Room k A → Env0 P w K mg base A out z G → BindsTo z fd as (ps.zip us) → us.length = ps.length → Vals vs us → sp vs G Q E →
    codeAny (model P w) A (.call (.ref f) as) (CR CX out P w G z Q E) z
/-- .. where the last ones are told by name -/
def FnGk (P : Program) (w : World) (K : PySem.W.Frag) (mg : Str → Option Value) (base : Heap) (CX : CXT) (k : Nat) (f : Addr) (ks : List Str) (gV : List V → List V → List V) (sp : Sp) : Prop :=
  ∀ (A : Around) (out : List Env) (z : Shared) (G : Hp) (us ws : List Value) (vs zs : List V) (Q : VK) (E : XK), NoG A → Room k A → Env0 P w K mg base A out z G → Vals vs us → Vals zs ws → sp (gV vs zs) G Q E →
    codeAny (model P w) A (.call (.ref f) ⟨us, ks.zip ws⟩) (CR CX out P w G z Q E) z
section
variable {P : Program} {w : World} {K : PySem.W.Frag} {mg : Str → Option Value} {base : Heap} {CX : CXT} {k : Nat} {f : Addr} {sp : Sp} {x qual : Str} {st : Stmt} {fd : FuncData} {N ps ks : List Str}
theorem kin0 {A : Around} {out : List Env} {z : Shared} {G : Hp} (env : Env0 P w K mg base A out z G) : K.In z.heap := env.mod.kin.keeps fun b o e => (env.bs b o e).1
/-- a def by its body; what it lets out goes by CX -/
theorem fnOG (F : Fun K x qual st f fd) (S : FnScope N ps (defScope st)) (len : ∀ vs H Q E, sp vs H Q E → vs.length = ps.length)
    (bd : ∀ (cdv : Value) (A : Around) (out : List Env) (z : Shared) (G : Hp) (vs : List V) (Q : VK) (E : XK), NoG (A.deeper (envOfC qual (defScope st) z.heap.objs.size f cdv)) →
      Room k (A.deeper (envOfC qual (defScope st) z.heap.objs.size f cdv)) → sp vs G Q E →
      ∃ t, PSs (cxOf CX P w K mg base N qual (defScope st) f cdv A out z G E) (defBody st) t ∧ t { nx := fun _ H' => Q .non H', rt := Q } (start N vs) G) : FnOG P w K mg base CX (k + 1) f fd ps sp := by
  obtain ⟨oc, od, kV, doc, pm, an, cdv, ct, osl, rfl, look, rec⟩ := F.ex
  intro A out z G as us vs Q E ng room env bnd many vals prom
  have keep : ∀ b o, base.get? b = some o → z.heap.get? b = some o := fun b o e => (env.bs b o e).1
  have kin := kin0 env
  have kinds : ∀ y ∈ ps.zip us, (defScope st).names.lookup y.1 = some .local ∨
      ((defScope st).names.lookup y.1 = some .cell ∧ ((cellsFrom (z.heap.objs.size + 1) (defScope st).names []).lookup y.1).isSome = true) := by
    rintro ⟨n, v⟩ there
    exact (S.par n (List.of_mem_zip there).1).imp id fun c => ⟨c, PySem.W.cellsFrom_some _ _ _ (.inl c)⟩
  refine codeAny_call_function room.depth (kin _ _ look) rfl S.co S.gen rfl (PySem.W.codeRec_of kin rec) (bnd _ _ _ _ (wpAny_newFunctionEnv_cells S.kind kinds ?_))
  rintro env2 rfl z1 made
  refine ⟨(env.mod.nolimit.keeps keep).keeps made.toInCall.keep, codeAny_func ?_⟩
  obtain ⟨t, body, run⟩ := bd cdv A out z G vs Q E (ng.deeper _) (room.deeper _) prom
  exact wpAny_mono (body.run [] z1 (start N vs) G _ (inv_start S room.hd env (len _ _ _ _ prom) vals made) run) (fun fl z2 q => by
    cases fl with
    | ret v => obtain ⟨y, σ, G2, J, rel, q⟩ := q; exact ⟨y, G2, J.os, J.bare, J.base, J.hok, rel, q⟩
    | next => obtain ⟨σ, G2, J, q⟩ := q; exact ⟨.non, G2, J.os, J.bare, J.base, J.hok, rfl, q⟩
    | brk => obtain ⟨σ, G2, J, q⟩ := q; exact q.elim
    | cont => obtain ⟨σ, G2, J, q⟩ := q; exact q.elim) fun e z2 q => q
theorem FnOG.pos (F : FnOG P w K mg base CX k f fd ps sp) (len : ∀ vs H Q E, sp vs H Q E → vs.length = ps.length) (hb : Binds K fd ps []) : FnG P w K mg base CX k f sp := by
  intro A out z G us vs Q E ng room env vals prom
  have many : us.length = ps.length := vals.length.symm.trans (len _ _ _ _ prom)
  have bnd := hb z us (kin0 env) (by rw [List.append_nil]; exact many)
  rw [List.append_nil] at bnd
  exact F A out z G ⟨us, []⟩ us vs Q E ng room env bnd many vals prom
theorem FnOG.key {n : Nat} {g : List Value → List Value → List Value} {gV : List V → List V → List V} (F : FnOG P w K mg base CX k f fd ps sp) (len : ∀ vs H Q E, sp vs H Q E → vs.length = ps.length) (hb : KBn K fd ps n ks g gV)
    (hl : ∀ vs zs : List V, (gV vs zs).length = ps.length → vs.length = n ∧ zs.length = ks.length) : FnGk P w K mg base CX k f ks gV sp := by
  intro A out z G us ws vs zs Q E ng room env r rz prom
  have ln := len _ _ _ _ prom
  obtain ⟨l1, l2⟩ := hl vs zs ln
  have rel := hb.rel r rz
  exact F A out z G ⟨us, ks.zip ws⟩ (g us ws) (gV vs zs) Q E ng room env (hb.to z us ws (kin0 env) (r.length.symm.trans l1) (rz.length.symm.trans l2)) (rel.length.symm.trans ln) rel prom
end
end AZ

set_option Elab.async false
set_option maxRecDepth 100000
set_option maxHeartbeats 4000000
set_option linter.all false
/-! Own work: errors as values: the rules for the text. -/
namespace AZ
open PySem L2 PyProof.Rows
/-- what is asked of an own error class: made as such, its __init__ at fI -/
structure ErrC (K : PySem.W.Frag) (C fI : Addr) : Prop where
  oex : OexC K C
  init : PySem.W.findIn K (.ref C) "__init__" = some (some (.ref fI))
  fn : PySem.W.typeIn K (.ref fI) = some (.type "function")
section
variable {X : Cx} {CX : CXT} {k : Nat} {C fI : Addr} {sp : Sp} {pins : List (Addr × Obj)} {σ : L2.St} {H : Hp} {s : Shared} {Q : VK} {x : Str} {e : Expr} {es : List Expr} {kws : List Keyword} {ks : List Str} {gV : List V → List V → List V} {p pos : Pos} {ta : TA}
/-- C(e, ..) as a value -/
theorem pe_mkE (T : ErrC X.K C fI) (F : FnG X.prog X.w X.K X.mg X.base CX k fI sp) (ng : NoG X.A) (hr : Room (k + 1) X.A) (hg : Gl X x) (hm : X.mg x = some (.ref C)) (hx : Passes CX X (fun _ _ _ => False)) (ha : PA X (e :: es) ta)
    (hdb : (x == ("__debug__" : Str)) = false := by decide) (he : starEach (e :: es) X.env = (false, eval e X.env) :: starEach es X.env := by rfl) (hpl : (backTo pos (starEach es X.env)).any (·.1) = false := by rfl) :
    PE X (.Call (.Name x p) (e :: es) [] pos) (tMkE C sp ta) :=
  ⟨fun pins s σ H Q I h => wpAny_Call_Name_kw (ld_glob I hg hm (PySem.W.callWith_K (h₀ := X.base) I.ok.mod.kin T.oex.kC (thn (ha.run pos pins s σ H _ I h) fun us s1 ⟨vs, H1, I1, r1, hz, q1⟩ =>
    ⟨I1.kIn, mkE_run (as := ⟨us, []⟩) T.oex T.init T.fn F ng hr hx I1 r1 hz q1⟩) he hpl) hdb)⟩
/-- C() -/
theorem pe_mkE0 (T : ErrC X.K C fI) (F : FnG X.prog X.w X.K X.mg X.base CX k fI sp) (ng : NoG X.A) (hr : Room (k + 1) X.A) (hg : Gl X x) (hm : X.mg x = some (.ref C)) (hx : Passes CX X (fun _ _ _ => False))
    (hdb : (x == ("__debug__" : Str)) = false := by decide) :
    PE X (.Call (.Name x p) [] [] pos) (tMkE C sp tNil) :=
  ⟨fun pins s σ H Q I ⟨hz, q1⟩ => wpAny_Call_Name_kw (ld_glob I hg hm (PySem.W.callWith_K0 (first := []) I.kIn T.oex.kC (mkE_run (as := ⟨[], []⟩) T.oex T.init T.fn F ng hr hx I .nil hz q1)) hdb)⟩
/-- C(k = e, ..) -/
def tMkEk (C : Addr) (gV : List V → List V → List V) (sp : Sp) (ta : TA) : TE := fun σ H Q => ta σ H fun zs H1 => ∀ a, H1 a = none → sp (gV [.ref a] zs) (upd H1 a (exo a C none)) (fun v H2 => v = .non ∧ Q (.ref a) H2) (fun _ _ _ => False)
theorem pe_mkEk (T : ErrC X.K C fI) (F : FnGk X.prog X.w X.K X.mg X.base CX k fI ks gV sp) (ng : NoG X.A) (hr : Room (k + 1) X.A) (hg : Gl X x) (hm : X.mg x = some (.ref C)) (hx : Passes CX X (fun _ _ _ => False)) (hkw : PK X kws ta)
    (hall : (backToKw pos (keywordEach kws X.env)).all (·.1.isSome) = true := by rfl) (hks : (backToKw pos (keywordEach kws X.env)).filterMap (·.1) = ks := by rfl) (hdb : (x == ("__debug__" : Str)) = false := by decide)
    (hpl : ((backTo pos (starEach [] X.env)).any (·.1) || (backToKw pos (keywordEach kws X.env)).any (·.1.isNone)) = false := by rfl) : PE X (.Call (.Name x p) [] kws pos) (tMkEk C gV sp ta) := by
  refine ⟨fun pins s σ H Q I h => wpAny_Call_Name_kw (ld_glob I hg hm ?_ hdb)⟩
  refine PySem.W.callWith_KW0 (h₀ := X.base) I.ok.mod.kin T.oex.kC hall (thn (hkw.run pos pins s σ H _ I h) fun ws s2 ⟨zs, H2, I2, rz, q⟩ => ⟨I2.kIn, ?_⟩) hpl
  rw [hks]
  obtain ⟨nm, qn, N, bs, bm, sn, sub, ab, col, dd, k0, k1, k2, k3, k5, hC, hbm⟩ := T.oex.cls
  obtain ⟨hp, g, dr, tk, os⟩ := s2
  have hn : H2 (hp.objs.size + 1) = none := I2.hok.fresh (Nat.le_succ _)
  have hq := q (hp.objs.size + 1) hn
  have kk : ∀ b o, hp.get? b = some o → ((hp.push (PySem.W.kdv_tup [])).push (PySem.HandSPX.excO C hp.objs.size)).get? b = some o := fun b o e => Heap.get?_push_of_some _ (Heap.get?_push_of_some _ e)
  have gx : ((hp.push (PySem.W.kdv_tup [])).push (PySem.HandSPX.excO C hp.objs.size)).get? (hp.objs.size + 1) = some (PySem.HandSPX.excO C hp.objs.size) := by heap_get
  have I3 : Inv X pins σ (upd H2 (hp.objs.size + 1) (exo (hp.objs.size + 1) C none)) ⟨(hp.push (PySem.W.kdv_tup [])).push (PySem.HandSPX.excO C hp.objs.size), g, dr, tk, os⟩ :=
    I2.laid (t' := tk) (a := hp.objs.size + 1) (o := exo (hp.objs.size + 1) C none) (h' := (hp.push (PySem.W.kdv_tup [])).push (PySem.HandSPX.excO C hp.objs.size)) kk (Nat.le_succ _) (exo_ok gx)
  refine wpAny_call (PySem.HKW.call_kw PySem.F.excBase_ValueError (fun Y => PySem.HandSPX.refsVE_contains Y bm hbm) (I2.kIn _ _ hC) (PySem.W.looks_findIn I2.kIn T.init) (fun self => PySem.W.bind_fn I2.kIn self T.fn) ?_)
  refine codeAny_mono (F _ X.stack _ _ [.ref (hp.objs.size + 1)] ws [.ref (hp.objs.size + 1)] zs _ _ ng (hr.make C [] (ks.zip ws)) (I3.env0.make C [] (ks.zip ws)) (.cons rfl .nil) rz hq) fun r s' hq' => ?_
  match r, hq' with
  | .error e, hq' => exact hx pins σ _ _ e s' I3 hq'
  | .ok (.ret _), hq' =>
    obtain ⟨v, H3, J3, rv, ev, q3⟩ := I3.after hq'
    subst ev
    exact ⟨rv, ⟨V.ref _, H3, J3, rfl, q3⟩⟩
  | .ok .next, hq' => exact hq'.elim
  | .ok .brk, hq' => exact hq'.elim
  | .ok .cont, hq' => exact hq'.elim
/-- e.f, of an error -/
def tXfE (C : Addr) (f : Str) (te : TE) : TE := fun σ H Q => te σ H fun y H1 => ∃ a fs v, y = .ref a ∧ ErrAt H1 a C fs ∧ fs.lookup f = some v ∧ Q v H1
theorem pe_xfE {n : Str} {te : TE} (T : XfC X.K C) (no : PySem.W.findIn X.K (.ref C) n = some none) (he : PE X e te) (hb : attributeBase e n X.env (eval e X.env) = eval e X.env := by rfl) : PE X (.Attribute e n pos) (tXfE C n te) := by
  refine ⟨fun pins s σ H Q I h => attr_of hb (thn (he.run pins s σ H _ I h) fun u s1 hh => ?_)⟩
  obtain ⟨y, H1, I1, ry, a, fs, v, ey, ⟨dx, ea, ed⟩, l, q⟩ := hh
  subst ey
  obtain rfl : u = Value.ref a := ry
  obtain ⟨t1, ho⟩ := exo_at I1.hok ea
  obtain ⟨mA, hns, hr⟩ := exd_at I1.hok ed
  obtain ⟨od, hod, hl⟩ := lookIn_ns hns
  obtain ⟨u, hu, ru⟩ := RelO.some_of (v := v) (o := mA n) (by rw [← l]; exact hr n)
  have J : PySem.W.InstAt s1.heap a _ C (some od) := ⟨ho, rfl, rfl, hod⟩
  exact HandSPX.exc_get I1.kIn J T.ga T.gg T.exC (PySem.W.findObj_own T.hdC no rfl (by rw [hl, hu])) (handed_of ru) ⟨v, H1, I1.tok _, ru, q⟩
/-- e.f, of an error of any class -/
def tXfA (K : PySem.W.Frag) (f : Str) (te : TE) : TE := fun σ H Q => te σ H fun y H1 => ∃ a C fs v, y = .ref a ∧ XfC K C ∧ PySem.W.findIn K (.ref C) f = some none ∧ ErrAt H1 a C fs ∧ fs.lookup f = some v ∧ Q v H1
theorem pe_xfA {n : Str} {te : TE} (he : PE X e te) (hb : attributeBase e n X.env (eval e X.env) = eval e X.env := by rfl) : PE X (.Attribute e n pos) (tXfA X.K n te) := by
  refine ⟨fun pins s σ H Q I h => attr_of hb (thn (he.run pins s σ H _ I h) fun u s1 hh => ?_)⟩
  obtain ⟨y, H1, I1, ry, a, C, fs, v, ey, T, no, ⟨dx, ea, ed⟩, l, q⟩ := hh
  subst ey
  obtain rfl : u = Value.ref a := ry
  obtain ⟨t1, ho⟩ := exo_at I1.hok ea
  obtain ⟨mA, hns, hr⟩ := exd_at I1.hok ed
  obtain ⟨od, hod, hl⟩ := lookIn_ns hns
  obtain ⟨u, hu, ru⟩ := RelO.some_of (v := v) (o := mA n) (by rw [← l]; exact hr n)
  have J : PySem.W.InstAt s1.heap a _ C (some od) := ⟨ho, rfl, rfl, hod⟩
  exact HandSPX.exc_get I1.kIn J T.ga T.gg T.exC (PySem.W.findObj_own T.hdC no rfl (by rw [hl, hu])) (handed_of ru) ⟨v, H1, I1.tok _, ru, q⟩
end
/-- promises of the __init__ of errors: the fields that they keep -/
def spErr0 (C : Addr) : Sp := fun vs H Q _ => ∃ a, vs = [.ref a] ∧ H a = some (exo a C none) ∧ Q .non H
def spErr1 (K : PySem.W.Frag) (C : Addr) (f : Str) : Sp := fun vs H Q _ => ∃ a v d, vs = [.ref a, v] ∧ H a = some (exo a C none) ∧ Sh K H v d ∧ Shn d ∧ ∀ H', (∀ x o, H x = some o → x ≠ a → H' x = some o) → ErrAt H' a C [(f, v)] → Q .non H'
def spErr2 (K : PySem.W.Frag) (C : Addr) (f g : Str) : Sp := fun vs H Q _ => ∃ a v u d e, vs = [.ref a, v, u] ∧ H a = some (exo a C none) ∧ Sh K H v d ∧ Shn d ∧ Sh K H u e ∧ Shn e ∧ ∀ H', (∀ x o, H x = some o → x ≠ a → H' x = some o) → ErrAt H' a C [(g, u), (f, v)] → Q .non H'
theorem shn_len {d : PyData} (n : Shn d) {x : Str} (h : x.length ≤ 4000) : (x ++ d.shown).length ≤ sizeLine := by
  have := n.sz
  have e : (x ++ d.shown).length = x.length + d.shown.length := Array.size_append ..
  rw [e]
  exact Nat.le_trans (by omega : x.length + d.shown.length ≤ 6000) (by decide)
theorem cat_len {x y : Str} {m n k : Nat} (h1 : x.length ≤ m) (h2 : y.length ≤ n) (h : m + n ≤ k) : (x ++ y).length ≤ k := by
  have e : (x ++ y).length = x.length + y.length := Array.size_append ..
  omega
end AZ

set_option Elab.async false
set_option maxRecDepth 100000
set_option maxHeartbeats 4000000
set_option linter.all false
/-! Own work: classes of errors below one base: what is asked of each, and which is which. -/
namespace AZ
open PySem L2 PyProof.Rows
open PySem.HandSPX (veTail)
/-- the base of all, at S -/
structure Sx (K : PySem.W.Frag) (S : Addr) (nm : Str) : Prop where
  lk : ∃ q N bs sn sub ab col dd k0 k1 k2 k3 k5, K.lookup S = some (excClassObj nm q S N bs veTail true sn sub ab col dd k0 k1 k2 k3 k5 "ValueError.__new__")
/-- an own error class at C directly below S, its __init__ at fI -/
structure Ex (K : PySem.W.Frag) (S C fI : Addr) (nm : Str) : Prop where
  lk : ∃ q N bs sn sub ab col dd k0 k1 k2 k3 k5, K.lookup C = some (excClassObj nm q C N bs (.ref S :: veTail) true sn sub ab col dd k0 k1 k2 k3 k5 "ValueError.__new__")
  sa : PySem.W.findIn K (.ref C) "__setattr__" = some (some (.builtin "object.__setattr__"))
  ga : PySem.W.findIn K (.ref C) "__getattribute__" = some (some (.builtin "BaseException.__getattribute__"))
  gg : PySem.W.findIn K (.ref C) "__getattr__" = some none
  ca : PySem.W.findIn K (.ref C) "__class__" = some (some (.builtin "object.__class__"))
  init : PySem.W.findIn K (.ref C) "__init__" = some (some (.ref fI))
  fn : PySem.W.typeIn K (.ref fI) = some (.type "function")
  kp : PySem.W.keepIn K (.ref C) = true
/-- what isinstance asks of object.__class__ -/
structure Gx (K : PySem.W.Frag) : Prop where
  hn : PySem.W.specialIn K (.builtin "object.__class__") "__get__" = some (some (.builtin "getset_descriptor.__get__"))
  tk : PySem.W.takesIn K (.builtin "object.__class__") = some true
section
variable {K : PySem.W.Frag} {S C D fI fJ : Addr} {nm nm' ns : Str}
theorem Ex.cls (x : Ex K S C fI nm) : ∃ cd, PySem.W.clsIn K C = some cd ∧ cd.mro = .ref C :: .ref S :: veTail ∧ cd.name = nm ∧ cd.hasDict = true := by
  obtain ⟨q, N, bs, sn, sub, ab, col, dd, k0, k1, k2, k3, k5, h⟩ := x.lk
  have e : PySem.W.clsIn K C = some { name := nm, bases := bs, mro := .ref C :: .ref S :: veTail, ns := N, qualname := q, hasDict := true, slotNames := sn, subclasses := sub, abstract := ab, collection := col, hasDel := false } := by
    unfold PySem.W.clsIn; rw [h]
  exact ⟨_, e, rfl, rfl, rfl⟩
theorem Sx.cls (x : Sx K S nm) : ∃ cd, PySem.W.clsIn K S = some cd ∧ cd.mro = .ref S :: veTail ∧ cd.name = nm := by
  obtain ⟨q, N, bs, sn, sub, ab, col, dd, k0, k1, k2, k3, k5, h⟩ := x.lk
  have e : PySem.W.clsIn K S = some { name := nm, bases := bs, mro := .ref S :: veTail, ns := N, qualname := q, hasDict := true, slotNames := sn, subclasses := sub, abstract := ab, collection := col, hasDel := false } := by
    unfold PySem.W.clsIn; rw [h]
  exact ⟨_, e, rfl, rfl⟩
theorem Ex.ty (x : Ex K S C fI nm) : PySem.W.typeIn K (.ref C) = some (.type "type") := by
  obtain ⟨q, N, bs, sn, sub, ab, col, dd, k0, k1, k2, k3, k5, h⟩ := x.lk
  show (K.lookup C).map (·.cls) = _
  rw [h]; rfl
theorem Sx.ty (x : Sx K S nm) : PySem.W.typeIn K (.ref S) = some (.type "type") := by
  obtain ⟨q, N, bs, sn, sub, ab, col, dd, k0, k1, k2, k3, k5, h⟩ := x.lk
  show (K.lookup S).map (·.cls) = _
  rw [h]; rfl
theorem Ex.mro (x : Ex K S C fI nm) (b : Value) : PySem.W.mroIn K C b = some ((.ref C :: .ref S :: veTail).contains b) := by
  obtain ⟨cd, h, m, _⟩ := x.cls
  unfold PySem.W.mroIn
  rw [h, Option.bind_some, m]; rfl
theorem Ex.ne (x : Ex K S C fI nm) (y : Ex K S D fJ nm') (h : nm ≠ nm') : C ≠ D := fun e => by
  obtain ⟨cd, h1, _, n1, _⟩ := x.cls
  obtain ⟨ce, h2, _, n2, _⟩ := y.cls
  rw [e, h2] at h1
  cases h1
  exact h (n1.symm.trans n2)
theorem Ex.neS (x : Ex K S C fI nm) (y : Sx K S ns) (h : nm ≠ ns) : C ≠ S := fun e => by
  obtain ⟨cd, h1, _, n1, _⟩ := x.cls
  obtain ⟨ce, h2, _, n2⟩ := y.cls
  rw [e, h2] at h1
  cases h1
  exact h (n1.symm.trans n2)
theorem Ex.exc (x : Ex K S C fI nm) : PySem.W.subIn K (.ref C) (.type "BaseException") = some true := (x.mro _).trans (by simp [veTail])
theorem Ex.oex (x : Ex K S C fI nm) : OexC K C where
  cls := by
    obtain ⟨q, N, bs, sn, sub, ab, col, dd, k0, k1, k2, k3, k5, h⟩ := x.lk
    exact ⟨nm, q, N, bs, .ref S :: veTail, sn, sub, ab, col, dd, k0, k1, k2, k3, k5, h, show PySem.HandSPX.refsVE veTail = true by decide +kernel⟩
  sa := x.sa
  exC := x.exc
  tyC := x.ty
  kC := x.kp
theorem Ex.err (x : Ex K S C fI nm) : ErrC K C fI := ⟨x.oex, x.init, x.fn⟩
theorem Ex.hd (x : Ex K S C fI nm) : PySem.W.hasDictIn K C = true := by
  obtain ⟨cd, h, _, _, d⟩ := x.cls
  unfold PySem.W.hasDictIn
  rw [h]
  simp [d]
theorem Ex.xf (x : Ex K S C fI nm) : XfC K C := ⟨x.ga, x.gg, x.exc, x.hd⟩
/-- isinstance among them -/
theorem Ex.kit_ne (x : Ex K S C fI nm) (y : Ex K S D fJ nm') (s : Sx K S ns) (h : nm ≠ nm') (h2 : nm' ≠ ns) : PySem.W.kitOne K (.ref C) (.ref D) = some false := by
  have e : C ≠ D := x.ne y h
  have e2 : D ≠ S := y.neS s h2
  unfold PySem.W.kitOne PySem.W.kitCls
  rw [if_neg (by intro q; exact e (Value.ref.inj (beq_iff_eq.mp q)))]
  obtain ⟨ce, hc, _⟩ := y.cls
  dsimp only
  rw [if_pos (by rw [hc, y.ty]; rfl)]
  show PySem.W.mroIn K C _ = _
  rw [x.mro]
  simp [veTail, Ne.symm e, e2]
theorem Ex.kit_s (x : Ex K S C fI nm) (s : Sx K S ns) (h2 : nm ≠ ns) : PySem.W.kitOne K (.ref C) (.ref S) = some true := by
  have e : C ≠ S := x.neS s h2
  unfold PySem.W.kitOne PySem.W.kitCls
  rw [if_neg (by intro q; exact e (Value.ref.inj (beq_iff_eq.mp q)))]
  obtain ⟨ce, hc, _⟩ := s.cls
  dsimp only
  rw [if_pos (by rw [hc, s.ty]; rfl)]
  show PySem.W.mroIn K C _ = _
  rw [x.mro]
  simp [veTail]
theorem Ex.kit_v (x : Ex K S C fI nm) : PySem.W.kitOne K (.ref C) (.type "ValueError") = some true := by
  unfold PySem.W.kitOne PySem.W.kitCls
  rw [if_neg (by intro q; cases (beq_iff_eq.mp q))]
  dsimp only
  rw [if_pos (by decide +kernel)]
  show PySem.W.mroIn K C _ = _
  rw [x.mro]
  simp [veTail]
end
/-- an error of the class C, with fields or without -/
def ErrO (H : Hp) (a C : Addr) : Prop := H a = some (exo a C none) ∨ ∃ fs, ErrAt H a C fs
theorem ErrAt.o {H : Hp} {a C : Addr} {fs : List (Str × V)} (h : ErrAt H a C fs) : ErrO H a C := Or.inr ⟨fs, h⟩
section
variable {X : Cx}
/-- isinstance(e, c), e an error -/
def rIsE1 (K : PySem.W.Frag) : List V → Hp → VK → Prop := fun xs H Q => ∃ (a S C fI : Addr) (nm : Str) (c : V) (u : Value) (b : Bool), xs = [.ref a, c] ∧ Gx K ∧ Ex K S C fI nm ∧ ErrO H a C ∧ ClsV c u ∧ PySem.W.kitOne K (.ref C) u = some b ∧ Q (.bl b) H
def rIsET (K : PySem.W.Frag) : List V → Hp → VK → Prop := fun xs H Q => ∃ (a tp S C fI : Addr) (nm : Str) (cs : List V) (us : List Value) (b : Bool), xs = [.ref a, .ref tp] ∧ H tp = some (.tup cs) ∧ Gx K ∧ Ex K S C fI nm ∧ ErrO H a C ∧ Paired ClsV cs us ∧ PySem.W.kitAny K (.ref C) us = some b ∧ Q (.bl b) H
theorem exo_inst {pins : List (Addr × Obj)} {σ : L2.St} {H : Hp} {s : Shared} {a C : Addr} (I : Inv X pins σ H s) (e : ErrO H a C) : ∃ ox od, PySem.W.InstAt s.heap a ox C od := by
  rcases e with e | ⟨fs, dx, e, ed⟩
  · obtain ⟨t1, ho⟩ := exo_at I.hok e
    exact ⟨_, none, ho, rfl, rfl, trivial⟩
  · obtain ⟨t1, ho⟩ := exo_at I.hok e
    obtain ⟨mA, hns, hr⟩ := exd_at I.hok ed
    obtain ⟨od, hod, hl⟩ := lookIn_ns hns
    exact ⟨_, some od, ho, rfl, rfl, hod⟩
theorem call_isE1 : CallR X (.builtin "isinstance") (rIsE1 X.K) := by
  intro pins s σ H xs us Q I r h
  obtain ⟨a, S, C, fI, nm, c, u, b, rfl, G, x, e, k, q, w⟩ := h
  obtain ⟨u1, u2, rfl, r1, r2⟩ := vals2 r
  obtain rfl : u1 = Value.ref a := r1
  have ec := k.eq r2
  subst ec
  obtain ⟨ox, od, J⟩ := exo_inst I e
  obtain ⟨cd, hc, _⟩ := x.cls
  exact PySem.W.kia_one (PySem.W.kitx_exc (by rw [hc]; rfl) x.ga x.gg x.exc x.ca G.hn G.tk ((x.mro _).trans (by simp [veTail]))) I.kIn J q (fun z => nomatch z) fun tk => ⟨.bl b, H, I.tok _, rfl, w⟩
theorem call_isET : CallR X (.builtin "isinstance") (rIsET X.K) := by
  intro pins s σ H xs us Q I r h
  obtain ⟨a, tp, S, C, fI, nm, cs, ws, b, rfl, hT, G, x, e, k, q, w⟩ := h
  obtain ⟨u1, u2, rfl, r1, r2⟩ := vals2 r
  obtain rfl : u1 = Value.ref a := r1
  cases (show u2 = Value.ref tp from r2)
  obtain ⟨ox, od, J⟩ := exo_inst I e
  obtain ⟨cd, hc, _⟩ := x.cls
  obtain ⟨_, its, rv, o, h1, h2, n, h3⟩ := (show ObjOk X.prog X.w H s.heap tp (.tup cs) from I.hok tp _ hT)
  have e3 := ClsV.all k rv
  subst e3
  obtain ⟨oc, od', dt, sl⟩ := o
  simp only at h2 h3
  subst h2 h3
  exact PySem.W.kia_tup (PySem.W.kitx_exc (by rw [hc]; rfl) x.ga x.gg x.exc x.ca G.hn G.tk ((x.mro _).trans (by simp [veTail]))) I.kIn J h1 q (fun z => nomatch z) fun tk => ⟨.bl b, H, I.tok _, rfl, w⟩
theorem uIsE : CallR X (.builtin "isinstance") (fun xs H Q => rIsE1 X.K xs H Q ∨ rIsET X.K xs H Q) := CallR.or' call_isE1 call_isET
end
/-! ## the bodies of their __init__ -/
abbrev tText (ts : List TE) : TE := fun σ H Q => tJs ts Str.empty σ H fun out H1 => Q (.str out) H1
section
variable {K : PySem.W.Frag} {S C fI a : Addr} {nm f g lit lit2 : Str} {H : Hp} {Q : VK} {σ : L2.St} {D : Ends} {v u : V} {e e2 : PyData}
theorem err0_body (X : Ex K S C fI nm) (ha : H a = some (exo a C none)) (h0 : σ[0]? = some (some (.ref a))) (k : D.nx σ H) : tDrop (tVeI K (tCons (tVar 0) (tCons (tC (.str lit)) tNil))) D σ H :=
  ⟨_, h0, a, C, _, rfl, by simp, X.oex, ha, k⟩
theorem err1_body (X : Ex K S C fI nm) (A : NoAttr K C f) (ha : H a = some (exo a C none)) (s : Sh K H v e) (n : Shn e) (h0 : σ[0]? = some (some (.ref a))) (h1 : σ[1]? = some (some v)) (hl : lit.length ≤ 1000)
    (k : ∀ H', (∀ x o, H x = some o → x ≠ a → H' x = some o) → ErrAt H' a C [(f, v)] → D.nx σ H') :
    tSeq (tDrop (tVeI K (tCons (tVar 0) (tCons (tText [tC (.str lit), tFmtA K (tVar 1)]) tNil)))) (tOst K f (tVar 0) (tVar 1)) D σ H := by
  refine ⟨_, h0, ⟨_, rfl, cat_len (m := 0) (n := 1000) (Nat.le_refl _) hl (by decide), _, h1, e, s, n, _, rfl, ?_, ?_⟩⟩
  · exact shn_len n (cat_len (m := 0) (n := 1000) (Nat.le_refl _) hl (by decide))
  · refine ⟨a, C, _, rfl, by simp, X.oex, ha, ?_⟩
    refine ⟨_, h1, _, h0, a, C, rfl, X.oex, A, Or.inl ⟨ha, fun dx hd ne => k _ (fun x o h nx => ?_) ⟨dx, upd_same, ?_⟩⟩⟩
    · rw [upd_ne nx, upd_ne (ne_of_none h hd)]; exact h
    · rw [upd_ne ne, upd_same]
theorem err2_body (X : Ex K S C fI nm) (A : NoAttr K C f) (B : NoAttr K C g) (ha : H a = some (exo a C none)) (s : Sh K H v e) (n : Shn e) (s2 : Sh K H u e2) (n2 : Shn e2) (h0 : σ[0]? = some (some (.ref a))) (h1 : σ[1]? = some (some v)) (h2 : σ[2]? = some (some u))
    (hl : lit.length ≤ 1000) (hl2 : lit2.length ≤ 900) (k : ∀ H', (∀ x o, H x = some o → x ≠ a → H' x = some o) → ErrAt H' a C [(g, u), (f, v)] → D.nx σ H') :
    tSeq (tDrop (tVeI K (tCons (tVar 0) (tCons (tText [tC (.str lit), tFmtA K (tVar 1), tC (.str lit2), tFmtA K (tVar 2)]) tNil)))) (tSeq (tOst K f (tVar 0) (tVar 1)) (tOst K g (tVar 0) (tVar 2))) D σ H := by
  have z1 : (Str.empty ++ lit).length ≤ 1000 := cat_len (m := 0) (n := 1000) (Nat.le_refl _) hl (by decide)
  have z2 : (Str.empty ++ lit ++ e.shown).length ≤ 3000 := cat_len z1 n.sz (by decide)
  have z3 : (Str.empty ++ lit ++ e.shown ++ lit2).length ≤ 3900 := cat_len z2 hl2 (by decide)
  refine ⟨_, h0, ⟨_, rfl, Nat.le_trans z1 (by decide), _, h1, e, s, n, _, rfl, Nat.le_trans z2 (by decide), ⟨_, rfl, Nat.le_trans z3 (by decide), _, h2, e2, s2, n2, _, rfl, shn_len n2 (Nat.le_trans z3 (by decide)), ?_⟩⟩⟩
  refine ⟨a, C, _, rfl, by simp, X.oex, ha, ?_⟩
  refine ⟨_, h1, _, h0, a, C, rfl, X.oex, A, Or.inl ⟨ha, fun dx hd ne => ?_⟩⟩
  have hne : a ≠ dx := Ne.symm ne
  refine ⟨_, h2, _, h0, a, C, rfl, X.oex, B, Or.inr ⟨dx, [(f, v)], upd_same, by rw [upd_ne ne, upd_same], by simp, ?_⟩⟩
  refine k _ (fun x o h nx => ?_) ⟨dx, by rw [upd_ne hne, upd_same], upd_same⟩
  have nd := ne_of_none h hd
  rw [upd_ne nd, upd_ne nx, upd_ne nd]; exact h
end
/-! ## bindings by name -/
section
variable {P : Program} {w : World} {K : PySem.W.Frag} {mg : Str → Option Value} {base : Heap} {CX : CXT} {k : Nat} {f : Addr} {sp : Sp} {fd : FuncData} {p q r : Str}
theorem FnOG.key11 (F : FnOG P w K mg base CX k f fd [p, q] sp) (len : ∀ vs H Q E, sp vs H Q E → vs.length = 2) (h : ∀ a b : Value, bindArgs fd ⟨[a], [(q, b)]⟩ = pure [(p, a), (q, b)]) : FnGk P w K mg base CX k f [q] g11 sp := by
  intro A out z G us ws vs zs Q E ng room env r rz prom
  have ln := len _ _ _ _ prom
  match vs, us, zs, ws, r, rz, ln, prom with
  | [_], [u], [_], [b], .cons r1 .nil, .cons r2 .nil, _, prom => exact F A out z G ⟨[u], [(q, b)]⟩ [u, b] _ Q E ng room env (.of_eq (h u b)) rfl (.cons r1 (.cons r2 .nil)) prom
  | [], [], _, _, .nil, _, ln, _ => cases ln
  | [_], [_], [], [], .cons _ .nil, .nil, ln, _ => cases ln
  | [_], [_], _ :: _ :: _, _ :: _ :: _, .cons _ .nil, .cons _ (.cons _ _), ln, _ => cases ln
  | _ :: _ :: _, _ :: _ :: _, _, _, .cons _ (.cons _ _), _, ln, _ => cases ln
theorem FnOG.key12 (F : FnOG P w K mg base CX k f fd [p, q, r] sp) (len : ∀ vs H Q E, sp vs H Q E → vs.length = 3) (h : ∀ a b c : Value, bindArgs fd ⟨[a], [(r, b), (q, c)]⟩ = pure [(p, a), (q, c), (r, b)]) : FnGk P w K mg base CX k f [r, q] g12 sp := by
  intro A out z G us ws vs zs Q E ng room env r0 rz prom
  have ln := len _ _ _ _ prom
  match vs, us, zs, ws, r0, rz, ln, prom with
  | [_], [u], [_, _], [b, c], .cons r1 .nil, .cons r2 (.cons r3 .nil), _, prom => exact F A out z G ⟨[u], [(r, b), (q, c)]⟩ [u, c, b] _ Q E ng room env (.of_eq (h u b c)) rfl (.cons r1 (.cons r3 (.cons r2 .nil))) prom
  | [], [], _, _, .nil, _, ln, _ => cases ln
  | [_], [_], [], [], .cons _ .nil, .nil, ln, _ => cases ln
  | [_], [_], [_], [_], .cons _ .nil, .cons _ .nil, ln, _ => cases ln
  | [_], [_], _ :: _ :: _ :: _, _ :: _ :: _ :: _, .cons _ .nil, .cons _ (.cons _ (.cons _ _)), ln, _ => cases ln
  | _ :: _ :: _, _ :: _ :: _, _, _, .cons _ (.cons _ _), _, ln, _ => cases ln
end
end AZ

set_option Elab.async false
set_option maxRecDepth 100000
set_option maxHeartbeats 4000000
set_option linter.all false
/-! Own work: what stays of data; rows of errors. -/
namespace AZ
open PySem L2 PyProof.Rows
section
variable {K : PySem.W.Frag} {H H' : Hp}
theorem sqL_same {a : Addr} {xs : List V} (e : Same H H') (h : SqL K H a xs) : SqL K H' a xs := h.elim (fun h => Or.inl (h.elim (fun q => Or.inl (e _ _ q)) fun ⟨o, q⟩ => Or.inr ⟨o, e _ _ q⟩)) Or.inr
theorem sqT_same {a : Addr} {xs : List V} (e : Same H H') (h : SqT K H a xs) : SqT K H' a xs := h.elim (fun h => Or.inl (h.elim (fun q => Or.inl (e _ _ q)) fun ⟨o, q⟩ => Or.inr ⟨o, e _ _ q⟩)) Or.inr
mutual
theorem dp_same (e : Same H H') : ∀ {v : V} {d : PyData}, Dp K H v d → Dp K H' v d
  | _, _, .non => .non
  | _, _, .bl b => .bl b
  | _, _, .int i => .int i
  | _, _, .str x => .str x
  | _, _, .lst h r => .lst (sqL_same e h) (dpAll_same e r)
  | _, _, .tup h r => .tup (sqT_same e h) (dpAll_same e r)
theorem dpAll_same (e : Same H H') : ∀ {vs : List V} {ds : List PyData}, DpAll K H vs ds → DpAll K H' vs ds
  | _, _, .nil => .nil
  | _, _, .cons h r => .cons (dp_same e h) (dpAll_same e r)
end
theorem Sh.same {v : V} {d : PyData} (e : Same H H') (h : Sh K H v d) : Sh K H' v d := match h with
  | .dp h n => .dp (dp_same e h) n
  | .dict h => .dict (e _ _ h)
theorem ErrAt.same {a C : Addr} {fs : List (Str × V)} (e : Same H H') (h : ErrAt H a C fs) : ErrAt H' a C fs := let ⟨dx, x, y⟩ := h; ⟨dx, e _ _ x, e _ _ y⟩
end
/-- a pair of an error of c, with these fields, and v -/
def PairAt (v : V) (H : Hp) (p : V) (c : Addr × List (Str × V)) : Prop := ∃ t e, p = .ref t ∧ H t = some (.tup [.ref e, v]) ∧ ErrAt H e c.1 c.2
theorem PairAt.same {v p : V} {H H' : Hp} {c : Addr × List (Str × V)} (e : Same H H') (h : PairAt v H p c) : PairAt v H' p c := let ⟨t, a, x, y, z⟩ := h; ⟨t, a, x, e _ _ y, z.same e⟩
/-- a list of such pairs -/
def RowsAt (v : V) (H : Hp) (l : Addr) (cs : List (Addr × List (Str × V))) : Prop := ∃ ps, H l = some (.lst ps) ∧ Paired (PairAt v H) ps cs
theorem rows_same {v : V} {H H' : Hp} (e : Same H H') : ∀ {ps : List V} {cs : List (Addr × List (Str × V))}, Paired (PairAt v H) ps cs → Paired (PairAt v H') ps cs
  | _, _, .nil => .nil
  | _, _, .cons h r => .cons (h.same e) (rows_same e r)
theorem RowsAt.same {v : V} {H H' : Hp} {l : Addr} {cs : List (Addr × List (Str × V))} (e : Same H H') (h : RowsAt v H l cs) : RowsAt v H' l cs := let ⟨ps, x, y⟩ := h; ⟨ps, e _ _ x, rows_same e y⟩
theorem paired_append {α β : Type} {R : α → β → Prop} : ∀ {xs : List α} {ys : List β} {us : List α} {ws : List β}, Paired R xs ys → Paired R us ws → Paired R (xs ++ us) (ys ++ ws)
  | _, _, _, _, .nil, h => h
  | _, _, _, _, .cons a b, h => .cons a (paired_append b h)
/-- the reading R makes such a pair -/
def PR (K : PySem.W.Frag) (σ : L2.St) (v : V) (e : V → Hp → Prop) (R : TE) (c : Addr × List (Str × V)) : Prop := ∀ H Q, e v H → (∀ p H', Same H H' → PairAt v H' p c → Q p H') → R σ H Q
section
variable {K : PySem.W.Frag} {S C fI : Addr} {nm f g : Str} {σ : L2.St} {i j : Nat} {v u : V} {e e2 : PyData} {Q : VK} {H : Hp}
theorem same_made {a : Addr} {o : HO} {H' : Hp} (n : H a = none) (k : ∀ x o', upd H a o x = some o' → x ≠ a → H' x = some o') : Same H H' := fun b u h => by
  have nb := ne_of_none h n
  exact k b u (by rw [upd_ne nb]; exact h) nb
/-- C(v) -/
theorem mk1 (h0 : σ[i]? = some (some v)) (s : Sh K H v e) (n : Shn e) (k : ∀ a H', Same H H' → ErrAt H' a C [(f, v)] → Q (.ref a) H') : tMkE C (spErr1 K C f) (tCons (tVar i) tNil) σ H Q :=
  ⟨_, h0, (by show 1 ≤ 1000; decide), fun a ha => ⟨a, v, e, rfl, upd_same, s.same (sameNew ha), n, fun H' kp er => ⟨rfl, k a H' (same_made ha kp) er⟩⟩⟩
theorem mk1k (h0 : σ[i]? = some (some v)) (s : Sh K H v e) (n : Shn e) (k : ∀ a H', Same H H' → ErrAt H' a C [(f, v)] → Q (.ref a) H') : tMkEk C g11 (spErr1 K C f) (tCons (tVar i) tNil) σ H Q :=
  ⟨_, h0, fun a ha => ⟨a, v, e, rfl, upd_same, s.same (sameNew ha), n, fun H' kp er => ⟨rfl, k a H' (same_made ha kp) er⟩⟩⟩
theorem fld1 {te : TE} {w : V} {fs : List (Str × V)} (X : Ex K S C fI nm) (A : NoAttr K C f) (l : fs.lookup f = some w) (h : te σ H fun y H1 => ∃ a, y = .ref a ∧ ErrAt H1 a C fs ∧ Q w H1) (mono : ∀ {P P' : VK}, (∀ y H1, P y H1 → P' y H1) → te σ H P → te σ H P') : tXfA K f te σ H Q :=
  mono (fun y H1 ⟨a, e, x, q⟩ => ⟨a, C, fs, w, e, X.xf, A, x, l, q⟩) h
theorem pair1 (X : Ex K S C fI nm) (A : NoAttr K C f) (h0 : σ[i]? = some (some v)) (n : Shn e) :
    PR K σ v (fun v H => Sh K H v e) (tTup (tCons (tMkE C (spErr1 K C f) (tCons (tVar i) tNil)) (tCons (tXfA K f (tMkEk C g11 (spErr1 K C f) (tCons (tVar i) tNil))) tNil))) (C, [(f, v)]) := fun H Q s k => by
  have two : ∀ a H1, Same H H1 → ErrAt H1 a C [(f, v)] → tXfA K f (tMkEk C g11 (spErr1 K C f) (tCons (tVar i) tNil)) σ H1 fun y H2 => [V.ref a, y].length ≤ sizeLine ∧ ∀ p, H2 p = none → Q (.ref p) (upd H2 p (.tup [V.ref a, y])) := fun a H1 e1 x1 => by
    show tMkEk C g11 (spErr1 K C f) (tCons (tVar i) tNil) σ H1 _
    refine mk1k h0 (s.same e1) n fun b H2 e2 x2 => ⟨b, C, _, v, rfl, X.xf, A, x2, by simp [List.lookup], ?_⟩
    exact ⟨(by show 2 ≤ sizeLine; decide), fun t ht => k _ _ ((e1.trans e2).trans (sameNew ht)) ⟨t, a, rfl, upd_same, (x1.same e2).same (sameNew ht)⟩⟩
  have r : tMkE C (spErr1 K C f) (tCons (tVar i) tNil) σ H fun x H1 => tXfA K f (tMkEk C g11 (spErr1 K C f) (tCons (tVar i) tNil)) σ H1 fun y H2 => [x, y].length ≤ sizeLine ∧ ∀ p, H2 p = none → Q (.ref p) (upd H2 p (.tup [x, y])) := mk1 h0 s n two
  exact r
/-- a list of one or two of them -/
theorem lst1 {R : TE} {c : Addr × List (Str × V)} {I : V → Hp → Prop} (h : PR K σ v I R c) (q : I v H) (k : ∀ l H', Same H H' → RowsAt v H' l [c] → Q (.ref l) H') : tLst (tCons R tNil) σ H Q :=
  h H _ q fun p H1 e1 x => ⟨(by show 1 ≤ sizeLine; decide), fun l hl => k l _ (e1.trans (sameNew hl)) ⟨[p], upd_same, .cons (x.same (sameNew hl)) .nil⟩⟩
theorem lst2 {R R' : TE} {c c' : Addr × List (Str × V)} {I : V → Hp → Prop} (im : ∀ {H H'}, Same H H' → I v H → I v H') (h : PR K σ v I R c) (h' : PR K σ v I R' c') (q : I v H) (k : ∀ l H', Same H H' → RowsAt v H' l [c, c'] → Q (.ref l) H') : tLst (tCons R (tCons R' tNil)) σ H Q :=
  h H _ q fun p H1 e1 x => h' H1 _ (im e1 q) fun p' H2 e2 x' => ⟨(by show 2 ≤ sizeLine; decide), fun l hl => k l _ ((e1.trans e2).trans (sameNew hl)) ⟨[p, p'], upd_same, .cons ((x.same e2).same (sameNew hl)) (.cons (x'.same (sameNew hl)) .nil)⟩⟩
/-- list + list -/
theorem cat_rows {r1 r2 r4 : R2} {t1 t2 : TE} {c1 c2 : List (Addr × List (Str × V))} {l : Addr} (h1 : ∀ Q', (∀ H', H' = H → Q' (.ref l) H') → t1 σ H Q') (hl : RowsAt v H l c1) (hz : c1.length + c2.length ≤ 1000)
    (h2 : ∀ Q', (∀ b H', Same H H' → RowsAt v H' b c2 → Q' (.ref b) H') → t2 σ H Q') (k : ∀ p H', Same H H' → RowsAt v H' p (c1 ++ c2) → Q (.ref p) H') : tOp (orR r1 (orR r2 (orR rCat r4))) t1 t2 σ H Q := by
  refine h1 _ fun H' eH => ?_
  subst eH
  refine h2 _ fun b H1 e1 x => Or.inr (Or.inr (Or.inl ?_))
  obtain ⟨ps, hp, pr⟩ := hl.same e1
  obtain ⟨qs, hq, qr⟩ := x
  refine ⟨l, b, ps, qs, rfl, rfl, hp, hq, ?_, fun p hpn => k p _ (e1.trans (sameNew hpn)) ⟨ps ++ qs, upd_same, rows_same (sameNew hpn) (paired_append pr qr)⟩⟩
  rw [pr.length, qr.length]
  exact Nat.le_trans hz (by decide)
theorem PR.imp {R : TE} {c : Addr × List (Str × V)} {I I' : V → Hp → Prop} (h : PR K σ v I R c) (k : ∀ H, I' v H → I v H) : PR K σ v I' R c := fun H Q q => h H Q (k H q)
/-- C(v, u) -/
theorem mk2 (h0 : σ[i]? = some (some v)) (h1 : σ[j]? = some (some u)) (s : Sh K H v e) (n : Shn e) (s2 : Sh K H u e2) (n2 : Shn e2) (k : ∀ a H', Same H H' → ErrAt H' a C [(g, u), (f, v)] → Q (.ref a) H') : tMkE C (spErr2 K C f g) (tCons (tVar i) (tCons (tVar j) tNil)) σ H Q :=
  ⟨_, h0, _, h1, (by show 2 ≤ 1000; decide), fun a ha => ⟨a, v, u, e, e2, rfl, upd_same, s.same (sameNew ha), n, s2.same (sameNew ha), n2, fun H' kp er => ⟨rfl, k a H' (same_made ha kp) er⟩⟩⟩
theorem mk2k (h0 : σ[i]? = some (some v)) (h1 : σ[j]? = some (some u)) (s : Sh K H v e) (n : Shn e) (s2 : Sh K H u e2) (n2 : Shn e2) (k : ∀ a H', Same H H' → ErrAt H' a C [(g, u), (f, v)] → Q (.ref a) H') : tMkEk C g12 (spErr2 K C f g) (tCons (tVar j) (tCons (tVar i) tNil)) σ H Q :=
  ⟨_, h1, _, h0, fun a ha => ⟨a, v, u, e, e2, rfl, upd_same, s.same (sameNew ha), n, s2.same (sameNew ha), n2, fun H' kp er => ⟨rfl, k a H' (same_made ha kp) er⟩⟩⟩
/-- its field f or g -/
theorem fld2f {te : TE} (X : Ex K S C fI nm) (A : NoAttr K C f) (hfg : (f == g) = false) (h : ∀ Q' : VK, (∀ a H', Same H H' → ErrAt H' a C [(g, u), (f, v)] → Q' (.ref a) H') → te σ H Q') (k : ∀ H', Same H H' → Q v H') : tXfA K f te σ H Q :=
  h _ fun a H' e1 x => ⟨a, C, _, v, rfl, X.xf, A, x, by simp [List.lookup, hfg], k H' e1⟩
theorem fld2g {te : TE} (X : Ex K S C fI nm) (A : NoAttr K C g) (h : ∀ Q' : VK, (∀ a H', Same H H' → ErrAt H' a C [(g, u), (f, v)] → Q' (.ref a) H') → te σ H Q') (k : ∀ H', Same H H' → Q u H') : tXfA K g te σ H Q :=
  h _ fun a H' e1 x => ⟨a, C, _, u, rfl, X.xf, A, x, by simp [List.lookup], k H' e1⟩
theorem pair2 (X : Ex K S C fI nm) (A : NoAttr K C f) (hfg : (f == g) = false) (h0 : σ[i]? = some (some v)) (h1 : σ[j]? = some (some u)) (n : Shn e) (n2 : Shn e2) :
    PR K σ v (fun v H => Sh K H v e ∧ Sh K H u e2) (tTup (tCons (tMkE C (spErr2 K C f g) (tCons (tVar i) (tCons (tVar j) tNil))) (tCons (tXfA K f (tMkEk C g12 (spErr2 K C f g) (tCons (tVar j) (tCons (tVar i) tNil)))) tNil))) (C, [(g, u), (f, v)]) := fun H Q s k => by
  have r : tMkE C (spErr2 K C f g) (tCons (tVar i) (tCons (tVar j) tNil)) σ H fun x H1 => tXfA K f (tMkEk C g12 (spErr2 K C f g) (tCons (tVar j) (tCons (tVar i) tNil))) σ H1 fun y H2 => [x, y].length ≤ sizeLine ∧ ∀ p, H2 p = none → Q (.ref p) (upd H2 p (.tup [x, y])) :=
    mk2 h0 h1 s.1 n s.2 n2 fun a H1 e1 x1 => fld2f X A hfg (fun Q' k' => mk2k h0 h1 (s.1.same e1) n (s.2.same e1) n2 k') fun H2 e2 =>
      ⟨(by show 2 ≤ sizeLine; decide), fun t ht => k _ _ ((e1.trans e2).trans (sameNew ht)) ⟨t, a, rfl, upd_same, (x1.same e2).same (sameNew ht)⟩⟩
  exact r
end
theorem _root_.L2.Room.units70 {k : Nat} {A : Around} (r : Room k A) : A.units + 70 < cLine := by have := r.un; omega
section
variable {X : Cx} {K : PySem.W.Frag}
theorem ix_seqK (h : X.K = K) : IxR X (rIx K) := by
  subst h
  exact ix_seq
theorem call_reprSK (h : X.K = K) (ng : NoG X.A) (hu : X.A.units + 70 < cLine) : CallR X (.builtin "repr") (fun xs H Q => ∃ v d, xs = [v] ∧ Sh K H v d ∧ Shn d ∧ Q (.str d.shown) H) := by
  subst h
  exact call_reprS ng hu
theorem uIsEK (h : X.K = K) : CallR X (.builtin "isinstance") (fun xs H Q => rIsE1 K xs H Q ∨ rIsET K xs H Q) := by
  subst h
  exact uIsE
end
end AZ

set_option Elab.async false
set_option maxRecDepth 100000
set_option maxHeartbeats 4000000
set_option linter.all false
/-! Own work: errors that are raised, where no repr is under way. -/
namespace AZ
open PySem L2 PyProof.Rows
abbrev CXx (P : Program) (w : World) : CXT := L2.CX P w
/-- C(e, ..) to be raised -/
def tMkX (C : Addr) (sp : Sp) (ta : TA) : L2.St → Hp → XK → Prop := fun σ H Q => ta σ H fun vs H1 => vs.length ≤ 1000 ∧ ∀ a, H1 a = none → sp (.ref a :: vs) (upd H1 a (exo a C none))
  (fun v H2 => v = .non ∧ ∃ (d : Addr) (fs : List (Str × V)), H2 a = some (exo a C (some d)) ∧ H2 d = some (exd d fs) ∧ H1 d = none ∧ Q (.ref C) (some d) (upd (del H2 a) d (.xd fs))) (fun _ _ _ => False)
section
variable {X : Cx} {CX : CXT} {k : Nat} {C fI : Addr} {sp : Sp} {x : Str} {e : Expr} {es : List Expr} {p pos : Pos} {ta : TA}
theorem pmk_err (T : ErrC X.K C fI) (F : FnG X.prog X.w X.K X.mg X.base CX k fI sp) (ng : NoG X.A) (hr : Room (k + 1) X.A) (hx : Passes CX X (fun _ _ _ => False)) (hg : Gl X x) (hm : X.mg x = some (.ref C)) (ha : PA X (e :: es) ta)
    (hdb : (x == ("__debug__" : Str)) = false := by decide) (he : starEach (e :: es) X.env = (false, eval e X.env) :: starEach es X.env := by rfl) (hpl : (backTo pos (starEach es X.env)).any (·.1) = false := by rfl) :
    PMk X (.Call (.Name x p) (e :: es) [] pos) (tMkX C sp ta) := by
  intro pins s σ H Q I h
  obtain ⟨nm, qn, N, bs, bm, sn, sub, ab, col, dd, k0, k1, k2, k3, k5, hC, hbm⟩ := T.oex.cls
  refine wpAny_Call_Name_kw (ld_glob I hg hm ?_ hdb)
  refine PySem.W.callWith_K (h₀ := X.base) I.ok.mod.kin T.oex.kC (thn (ha.run pos pins s σ H _ I h) fun us s1 ⟨vs, H1, I1, r1, hz, q1⟩ => ⟨I1.kIn, ?_⟩) he hpl
  show wpAny _ _ (call (.ref C) us) _ _ _
  obtain ⟨hp, g, dr, tk, os⟩ := s1
  have hsz : hp.objs.size ≤ hp.objs.size + 1 := Nat.le_succ _
  have hq := q1 (hp.objs.size + 1) (I1.hok.fresh hsz)
  have kk : ∀ b o, hp.get? b = some o → ((hp.push (PySem.W.kdv_tup us)).push (PySem.HandSPX.excO C hp.objs.size)).get? b = some o := fun b o e => Heap.get?_push_of_some _ (Heap.get?_push_of_some _ e)
  have gx : ((hp.push (PySem.W.kdv_tup us)).push (PySem.HandSPX.excO C hp.objs.size)).get? (hp.objs.size + 1) = some (PySem.HandSPX.excO C hp.objs.size) := by heap_get
  have I2 : Inv X pins σ (upd H1 (hp.objs.size + 1) (exo (hp.objs.size + 1) C none)) ⟨(hp.push (PySem.W.kdv_tup us)).push (PySem.HandSPX.excO C hp.objs.size), g, dr, tk, os⟩ :=
    I1.laid (t' := tk) (a := hp.objs.size + 1) (o := exo (hp.objs.size + 1) C none) (h' := (hp.push (PySem.W.kdv_tup us)).push (PySem.HandSPX.excO C hp.objs.size)) kk hsz (exo_ok gx)
  have hus : us.length ≤ sizeLine := Nat.le_trans (by rw [← Paired.length r1]; exact hz) (show 1000 ≤ sizeLine by decide)
  refine wpAny_call (PySem.HandSPX.call_own PySem.F.excBase_ValueError (fun Y => PySem.HandSPX.refsVE_contains Y bm hbm) (I1.kIn _ _ hC) (PySem.W.looks_findIn I1.kIn T.init) (fun self => PySem.W.bind_fn I1.kIn self T.fn) hus ?_)
  refine codeAny_mono (F _ X.stack _ _ (.ref (hp.objs.size + 1) :: us) (.ref (hp.objs.size + 1) :: vs) _ _ ng (hr.make C us []) (I2.env0.make C us []) (.cons rfl r1) hq) fun r s' hq' => ?_
  match r, hq' with
  | .error er, hq' => exact hx pins σ _ _ er s' I2 hq'
  | .ok (.ret u), ⟨v, H2, os2, bare2, un2, hok2, rv, ev, d, fs, ea, ed, hd1, q2⟩ =>
    subst ev
    obtain ⟨h2, g2, d2, t2, os'⟩ := s'
    exact ⟨rv, mk_end (raises_own T.oex.exC T.oex.tyC) I1 hsz kk un2 hok2 os2 bare2 ea ed hd1 q2⟩
  | .ok .next, hq' => exact hq'.elim
  | .ok .brk, hq' => exact hq'.elim
  | .ok .cont, hq' => exact hq'.elim
end
/-- the promise of an __init__ with one field, to the letter -/
def spErrX (K : PySem.W.Frag) (C : Addr) (f : Str) : Sp := fun vs H Q _ => ∃ a v d, vs = [.ref a, v] ∧ H a = some (exo a C none) ∧ Sh K H v d ∧ Shn d ∧ ∀ dx, H dx = none → dx ≠ a → Q .non (upd (upd H dx (exd dx [(f, v)])) a (exo a C (some dx)))
section
variable {K : PySem.W.Frag} {S C fI a : Addr} {nm f g lit lit2 : Str} {H : Hp} {Q : VK} {σ : L2.St} {D : Ends} {v u : V} {e e2 : PyData} {i : Nat}
theorem err1x_body (X : Ex K S C fI nm) (A : NoAttr K C f) (ha : H a = some (exo a C none)) (s : Sh K H v e) (n : Shn e) (h0 : σ[0]? = some (some (.ref a))) (h1 : σ[1]? = some (some v)) (hl : lit.length ≤ 1000)
    (k : ∀ dx, H dx = none → dx ≠ a → D.nx σ (upd (upd H dx (exd dx [(f, v)])) a (exo a C (some dx)))) :
    tSeq (tDrop (tVeI K (tCons (tVar 0) (tCons (tText [tC (.str lit), tFmtA K (tVar 1)]) tNil)))) (tOst K f (tVar 0) (tVar 1)) D σ H := by
  refine ⟨_, h0, ⟨_, rfl, cat_len (m := 0) (n := 1000) (Nat.le_refl _) hl (by decide), _, h1, e, s, n, _, rfl, ?_, ?_⟩⟩
  · exact shn_len n (cat_len (m := 0) (n := 1000) (Nat.le_refl _) hl (by decide))
  · refine ⟨a, C, _, rfl, by simp, X.oex, ha, ?_⟩
    exact ⟨_, h1, _, h0, a, C, rfl, X.oex, A, Or.inl ⟨ha, fun dx hd ne => k dx hd ne⟩⟩
/-- what is raised: a new dict with the field -/
theorem mkX1 {Q : XK} {te : TE} (h : ∀ Q' : VK, Q' v H → te σ H Q') (s : Sh K H v e) (n : Shn e) (k : ∀ dx, H dx = none → Q (.ref C) (some dx) (upd H dx (.xd [(f, v)]))) : tMkX C (spErrX K C f) (tCons te tNil) σ H Q := by
  refine h _ ⟨(by show 1 ≤ 1000; decide), fun a ha => ⟨a, v, e, rfl, upd_same, s.same (sameNew ha), n, fun dx hd ne => ⟨rfl, dx, [(f, v)], upd_same, ?_, ?_, ?_⟩⟩⟩
  · rw [upd_ne ne, upd_same]
  · rw [upd_ne ne] at hd; exact hd
  · have hd' : H dx = none := by rw [upd_ne ne] at hd; exact hd
    have eq : upd (del (upd (upd (upd H a (exo a C none)) dx (exd dx [(f, v)])) a (exo a C (some dx))) a) dx (.xd [(f, v)]) = upd H dx (.xd [(f, v)]) := by
      funext b
      by_cases hb : b = dx
      · rw [hb, upd_same, upd_same]
      · rw [upd_ne hb, upd_ne hb]
        by_cases hba : b = a
        · rw [hba, del_same, ha]
        · rw [del_ne hba, upd_ne hba, upd_ne hb, upd_ne hba]
    rw [eq]
    exact k dx hd'
end
/-! ## static methods and methods that want no repr under way -/
section
variable {X : Cx} {CX : CXT} {k : Nat} {C g : Addr} {sp : Sp} {E : XK} {o e : Expr} {es : List Expr} {m x : Str} {p pos apos : Pos} {ta : TE} {t : TA}
theorem pe_smethG {pl : Sem Bool} (he : PE X o ta) (c : SMet X.K C m g) (F : FnG X.prog X.w X.K X.mg X.base CX k g sp) (ng : NoG X.A) (hr : Room k X.A) (hx : Passes CX X E) (ha : PA X (e :: es) t)
    (hst : starEach (e :: es) X.env = (false, eval e X.env) :: starEach es X.env := by rfl) (hpl : (backTo pos (starEach es X.env)).any (·.1) = false := by rfl)
    (ht : eval (.Call (.Attribute o m apos) (e :: es) [] pos) X.env = (eval o X.env >>= fun ov => standAt apos.atName >>= fun _ => holding [ov] (getMethod ov m pl) >>= fun r =>
      callWith pos r.1 r.2 (backTo pos (starEach (e :: es) X.env)) (backToKw pos (keywordEach [] X.env))) := by rfl) :
    PE X (.Call (.Attribute o m apos) (e :: es) [] pos) (tSM C sp E ta t) := by
  refine ⟨fun pins s σ H Q I h => ?_⟩
  refine PySem.W.methodCall_KW (pl := pl) (thn (he.run pins s σ H _ I h) fun u s1 ⟨x, H1, I1, rx, ex, q⟩ => ?_) ht
  subst ex
  obtain rfl : u = Value.ref C := rx
  obtain ⟨mc, p, rest, r, at_, rc⟩ := c.ex
  refine PySem.W.method_cls I1.kIn r.ga (PySem.W.cls_bind I1.kIn r.rd at_ (wpAny_call (PySem.W.sm_get (s := { s1 with toks := s1.toks + 1 }) I1.kIn rc (PySem.W.handed_on rfl ?_))))
  refine PySem.W.callWith_K (first := []) (h₀ := X.base) I1.ok.mod.kin c.kp (thn (ha.run pos pins _ σ H1 _ (I1.tok _) q) fun us s2 ⟨vs, H2, I2, r2, q2⟩ => ⟨I2.kIn, ?_⟩) hst hpl
  exact wpAny_call (run_fnG F ng hr hx I2 r2 q2)
/-- an own comparison beside a value of any built-in type; all that it stands on is told outside -/
def rOwnCX (K : PySem.W.Frag) (C : Addr) (sp : Sp) (E : XK) : R2 := fun x y H Q => ∃ (a dx : Addr) (fs : List (Str × V)) (T : String), x = .ref a ∧ H a = some (.ins C dx fs) ∧ TyX K H y (.type T) ∧ PySem.W.notFirst K C (.type T) = true ∧ sp [x, y] H Q E
theorem op_ownCX {f : Addr} (op : CmpOp) (hs : PySem.W.findIn X.K (.ref C) (cmpInfo op).2.1 = some (some (.ref f))) (hf : PySem.W.isFn X.K (.ref f) = true) (F : FnG X.prog X.w X.K X.mg X.base CX k f sp) (ng : NoG X.A) (hr : Room k X.A) (hx : Passes CX X E)
    (hop : ∀ a b, compareOp op a b = richCompare op a b := by intro _ _; rfl) : OpR X (compareOp op) (rOwnCX X.K C sp E) := by
  intro pins s σ H x y v u Q I rx ry h
  obtain ⟨a, dx, fs, T, rfl, ha, ty, nf, q⟩ := h
  obtain rfl : v = Value.ref a := rx
  have hc : wpAny (model X.prog X.w) X.A (call (.ref f) [.ref a, u]) (PySem.W.CmpBack (EP X pins σ Q)) X.xe s :=
    thn (wpAny_call (run_fnG (us := [.ref a, u]) (vs := [.ref a, y]) F ng hr hx I (.cons rfl (.cons ry .nil)) q)) fun _ _ z => cmpBack_of z
  obtain ⟨mA, J, _⟩ := ins_get I.hok ha
  obtain ⟨od, J, _⟩ := J.look
  obtain ⟨m, hF⟩ := I.fr
  rw [hop]
  obtain ⟨Pz, Z, pz, _⟩ := kit_of I ry ty
  exact PySem.W.cmp_K (tb := .type T) hr.units0 hF I.ok.mod.kin J (Z.ty _ _ I.kIn pz) nf hs hf hc
end
end AZ

set_option Elab.async false
set_option maxRecDepth 100000
set_option maxHeartbeats 4000000
set_option linter.all false
/-! Own work: lambdas handed to a def, where no repr is under way. -/
namespace AZ
open PySem L2 PyProof.Rows LamX
section
variable {X : Cx} {pins : List (Addr × Obj)} {σ : L2.St} {H HZ : Hp} {s s1 : Shared}
/-- the def that was handed the lambda f calls it by its name a -/
theorem act_G {CXg : CXT} {Eg : XK} {Ng : List Str} {qg : Str} {sg : Scope} {g f c' : Addr} {cdg pm ctv : Value} {params : Arguments} {body : Expr} {scope : Scope} {k i : Nat} {a : Str} {pn : List (Addr × Obj)} {xe : Value → Shared → Prop} {W : WX} {E : XK} {tb : TE} {p1 p2 : Pos}
    (ng : NoG X.A) (I : Inv X pins σ H s) (L : LamS X.env.scope scope) (hf : s.heap.get? f = some (PySem.W.kla_obj "<lambda>" (X.env.qual ++ "<lambda>") params body scope (cloFrom X.env.cells scope.names []) pm c' ctv)) (hfn : H f = none) (hfr : f ∉ frs X.stack)
    (hbind : bindArgs (PySem.W.kla_fn "<lambda>" (X.env.qual ++ "<lambda>") params body scope (cloFrom X.env.cells scope.names []) pm (.ref c') ctv) ⟨[], []⟩ = pure [])
    (tk : Takes ((cxOf CXg X.prog X.w X.K X.mg X.base Ng qg sg g cdg X.A X.stack s H Eg).tr pn xe) W) (hr : Room (k + 1) (X.A.deeper (envOfC qg sg s.heap.objs.size g cdg)))
    (hbody : ∀ (A : Around) (outer : List Env) (s : Shared) (H : Hp), NoG (A.deeper (lamEnv X scope s.heap.objs.size f c')) → Room k (A.deeper (lamEnv X scope s.heap.objs.size f c')) → PE (lamCx X A outer s H E scope f c') body tb)
    (hN : Ng[i]? = some a) (hv : Vis sg a) (hd : (a == ("__debug__" : Str)) = false := by decide) (hcd : (a == ("__classdict__" : Str)) = false := by decide) :
    PE ((cxOf CXg X.prog X.w X.K X.mg X.base Ng qg sg g cdg X.A X.stack s H Eg).tr pn xe) (.Call (.Name a p1) [] [] p2)
      (fun σZ HZ Q => σZ[i]? = some (some (.ref f)) ∧ HZ c' = some (CodeO c' (X.env.qual ++ "<lambda>")) ∧ (∀ cls d H', E cls d H' → W cls d σZ H') ∧ tb σ HZ Q) := by
  refine ⟨fun pz sz σz Hz Q Iz ⟨slot, code, hW, read⟩ => ?_⟩
  refine wpAny_Call_Name_kw (thn ((pe_var (pos := p1) (i := i) hN hv hd hcd).run pz sz σz Hz (fun v G => v = .ref f ∧ G = Hz) Iz ⟨.ref f, slot, rfl, rfl⟩) fun u s2 ⟨v, G, J, rel, ev, eG⟩ => ?_)
  subst ev
  rw [eG] at J
  obtain rfl : u = Value.ref f := rel
  have there : s2.heap.get? f = some (PySem.W.kla_obj "<lambda>" (X.env.qual ++ "<lambda>") params body scope (cloFrom X.env.cells scope.names []) pm c' ctv) := J.base.keep f _ hf hfn hfr (fun z => nomatch (show f ∈ ([] : List Addr) from z))
  refine PySem.W.callWith_F0 ⟨_, _, _, _, there⟩ ?_
  have un : Un (frs X.stack) [] H Hz s.heap s2.heap := J.base
  obtain ⟨⟨oc, vs, t, c1, c2, c3⟩, _, _⟩ := J.hok c' _ code
  have run : codeAny (model X.prog X.w) (X.A.deeper (envOfC qg sg s.heap.objs.size g cdg)) (.call (.ref f) ⟨[], []⟩) (CR (L2.CX X.prog X.w) (envOfC qg sg s.heap.objs.size g cdg :: X.stack) X.prog X.w Hz s2 Q E) s2 := by
    refine PySem.W.kla_callFunE hr.depth there rfl L.co L.gen rfl ⟨c', oc, vs, t, rfl, c1, c2, c3⟩ ?_
    rw [hbind]
    refine wpAny_pure (wpAny_newFunctionEnv (fun y hy => (L.own y hy).2) (fun y hy => absurd hy (by simp)) (fun h₁ hns hsb => ⟨J.nolimit.fresh _ hsb, ?_⟩) L.kind)
    show codeAny _ _ (.expr body (lamEnv X scope s2.heap.objs.size f c')) _ _
    have kp : ∀ b o, s2.heap.get? b = some o → h₁.get? b = some o := fun b o e => hsb.extBut b o (Nat.ne_of_lt (Heap.lt_size e)) (Heap.get?_push_of_some _ e)
    have start : Inv (lamCx X (X.A.deeper (envOfC qg sg s.heap.objs.size g cdg)) (envOfC qg sg s.heap.objs.size g cdg :: X.stack) s2 Hz E scope f c') [] σ Hz { s2 with heap := h₁, toks := s2.toks + ([] : List (Str × Value)).length } :=
      lam_start2 I L J.env0 hr.hd un hns kp
    exact PySem.W.kla_codeExpr (wpAny_mono ((hbody _ _ s2 Hz ((ng.deeper _).deeper _) (hr.deeper _)).run [] _ _ Hz Q start read) (fun v s' ⟨w', H', J', rv, q⟩ => ⟨w', H', J'.os, J'.bare, J'.base, J'.hok, rv, q⟩) fun e s' hq => hq)
  refine wpAny_call (codeAny_mono run fun r s' hq => ?_)
  match r, hq with
  | .error e, hq => exact tk e s' (XE.of_call J (fun cls d H' h => hW cls d H' h) hq)
  | .ok (.ret u), hq => exact J.after hq
  | .ok .next, hq => exact hq.elim
  | .ok .brk, hq => exact hq.elim
  | .ok .cont, hq => exact hq.elim
/-- what a def does with the lambda that it is handed as its only argument -/
def GivesG (X : Cx) (Ng : List Str) (x : Str) (sg : Scope) (g : Addr) (cdg : Value) (bg : List Stmt) (a : Str) (q : Str) (TT : (XK → Hp → VK → Prop) → Hp → VK → Prop) : Prop :=
  ∀ (f c' : Addr) (s : Shared) (H : Hp) (Q : VK) (tl : XK → Hp → VK → Prop), NoG (X.A.deeper (envOfC x sg s.heap.objs.size g cdg)) →
    (∀ (W : WX) (pn : List (Addr × Obj)) (xe : Value → Shared → Prop) (E : XK) (p1 p2 : Pos), Takes ((cxOf C8.CX0 X.prog X.w X.K X.mg X.base Ng x sg g cdg X.A X.stack s H C8.E0).tr pn xe) W →
      PE ((cxOf C8.CX0 X.prog X.w X.K X.mg X.base Ng x sg g cdg X.A X.stack s H C8.E0).tr pn xe) (.Call (.Name a p1) [] [] p2) (fun σZ HZ Q => σZ[0]? = some (some (.ref f)) ∧ HZ c' = some (CodeO c' q) ∧ (∀ cls d H', E cls d H' → W cls d σZ H') ∧ tl E HZ Q)) →
    Room 1 (X.A.deeper (envOfC x sg s.heap.objs.size g cdg)) → H c' = some (CodeO c' q) → TT tl H Q →
    ∃ t, PSs (cxOf C8.CX0 X.prog X.w X.K X.mg X.base Ng x sg g cdg X.A X.stack s H C8.E0).nox bg t ∧ t { nx := fun _ H' => Q .non H', rt := Q } (L2.start Ng [.ref f]) H
end
section
variable {X : Cx}
/-- x(lambda: body) -/
theorem pe_lamG {T : List (Addr × Str)} {TT : (XK → Hp → VK → Prop) → Hp → VK → Prop} {x a : Str} {g c P : Addr} {k : Nat} {pg : Arguments} {bg : List Stmt} {sg : Scope} {dV kV doc pm cdv ct oc : Value} {an od : Option Addr} {osl : Array (Option Value)} {Ng : List Str}
    {params : Arguments} {body : Expr} {scope : Scope} {t : XK → TE} {p lpos pos : Pos} (ng : NoG X.A) (hg : Gl X x) (hm : X.mg x = some (.ref g)) (hk : PySem.W.keepIn X.K (.ref g) = true)
    (lk : X.K.lookup g = some ⟨oc, od, .func (PySem.W.fnOf x x pg bg sg dV kV doc pm an cdv ct), osl⟩) (hcg : PySem.W.codeIn X.K cdv x = true) (hb : L2.Binds X.K (PySem.W.fnOf x x pg bg sg dV kV doc pm an cdv ct) [a] []) (Sg : FnScope Ng [a] sg) (hNg : Ng[0]? = some a) (hva : Vis sg a)
    (hG : GivesG X Ng x sg g cdv bg a (X.env.qual ++ "<lambda>") TT)
    (TB : TabB X.base X.mg c P) (hcode : X.env.code = .ref c) (hmT : (P, X.env.qual ++ "<lambda>") ∈ T) (hu : ∀ p ∈ T, p.1 = P → p.2 = X.env.qual ++ "<lambda>") (hr : Room (k + 2) X.A) (L : LamS X.env.scope scope) (hdef : defaultsOf params X.env = ([], []))
    (hbind : ∀ (q : Str) (cl : List (Str × Addr)) (pm cv ctv : Value), bindArgs (PySem.W.kla_fn "<lambda>" q params body scope cl pm cv ctv) ⟨[], []⟩ = pure [])
    (hbody : ∀ (A : Around) (outer : List Env) (s : Shared) (H : Hp) (E : XK) (f c' : Addr), NoG (A.deeper (lamEnv X scope s.heap.objs.size f c')) → Room k (A.deeper (lamEnv X scope s.heap.objs.size f c')) → PE (lamCx X A outer s H E scope f c') body (t E))
    (hdb : (x == ("__debug__" : Str)) = false := by decide) (hd : (a == ("__debug__" : Str)) = false := by decide) (hcd : (a == ("__classdict__" : Str)) = false := by decide) :
    PE X (.Call (.Name x p) [.Lambda params body scope lpos] [] pos) (tLam T TT t) := by
  refine ⟨fun pins s σ H Q I ⟨tabs, h⟩ => ?_⟩
  refine wpAny_Call_Name_kw (ld_glob I hg hm (PySem.W.callWith_K (h₀ := X.base) I.ok.mod.kin hk ?_ (by rfl) (by rfl)) hdb)
  show wpAny _ _ (spliced ((false, eval (.Lambda params body scope lpos) X.env) :: backTo pos (starEach [] X.env))) _ _ s
  refine Calls.spliced_cons (lam_make2 I TB hcode hmT hu tabs hdef (L.has I.ok) fun f c' pm' ctv H1 s' I1 eN T1 hf hfn hfr hco => Calls.spliced_nil ⟨I1.kIn, ?_⟩)
  have run : codeAny (model X.prog X.w) X.A (.call (.ref g) ⟨[.ref f], []⟩) (CR C8.CX0 X.stack X.prog X.w H1 s' Q C8.E0) s' := by
    refine run_ofS (N := Ng) (ps := [a]) (us := [.ref f]) (vs := [.ref f]) lk hcg Sg hr I1.env0 (hb s' [.ref f] I1.kIn rfl) (.cons rfl .nil) rfl fun hr' => ?_
    obtain ⟨t', ht', hq'⟩ := hG f c' s' H1 Q (fun E H' Q' => t E σ H' Q') (ng.deeper _) (fun W pn xe E p1 p2 tk => act_G (i := 0) ng I1 L hf hfn hfr (hbind _ _ _ _ _) tk hr' (fun A outer s H n hr2 => hbody A outer s H E f c' n hr2) hNg hva hd hcd) (hr'.mono (by omega)) hco (h H1 eN T1)
    exact ⟨t', ht'.nox, hq'⟩
  refine wpAny_call (codeAny_mono run fun r s2 hq => ?_)
  match r, hq with
  | .error e, hq => exact (show False from hq).elim
  | .ok (.ret u), hq => exact I1.after hq
  | .ok .next, hq => exact hq.elim
  | .ok .brk, hq => exact hq.elim
  | .ok .cont, hq => exact hq.elim
end
end AZ

set_option Elab.async false
set_option maxRecDepth 100000
set_option maxHeartbeats 4000000
set_option linter.all false
/-! Own work: a caught error that lives on behind its except clause. -/
namespace AZ
open PySem L2 PyProof.Rows
/-- at a: an error of the class cls that was caught, its dict at d -/
def exk (a : Addr) (cls : Value) (d : Option Addr) : HO := .ext fun h => ∃ oe vs, h.get? a = some oe ∧ Zc cls d oe ∧ oe.data = .fields vs
theorem exk_ok {P : Program} {w : World} {H : Hp} {h : Heap} {a : Addr} {cls : Value} {d : Option Addr} {oe : Obj} {vs : Array Value} (e : h.get? a = some oe) (z : Zc cls d oe) (f : oe.data = .fields vs) : ObjOk P w H h a (exk a cls d) :=
  ⟨⟨oe, vs, e, z, f⟩, ⟨oe, e⟩, fun _ _ ⟨o, v, q, r⟩ k => ⟨o, v, k o q, r⟩⟩
theorem exk_at {P : Program} {w : World} {H : Hp} {h : Heap} {a : Addr} {cls : Value} {d : Option Addr} (hok : HOk P w H h) (e : H a = some (exk a cls d)) : ∃ oe vs, h.get? a = some oe ∧ Zc cls d oe ∧ oe.data = .fields vs := by
  have x : ObjOk P w H h a (.ext fun h => ∃ oe vs, h.get? a = some oe ∧ Zc cls d oe ∧ oe.data = .fields vs) := hok a _ e
  exact x.1
section
variable {X : Cx} {pins : List (Addr × Obj)} {σ : L2.St} {H : Hp} {s : Shared}
/-- an object that was not there at the entry is told from now on -/
theorem track {a : Addr} {o : HO} {ob : Obj} (J : Inv X pins σ H s) (na : H a = none) (n0 : X.s_0.heap.get? a = none) (hob : s.heap.get? a = some ob) (ok : ObjOk X.prog X.w (upd H a o) s.heap a o) (nL : a ≠ X.env.locals) (nc : ∀ v, ob.data ≠ .cell v)
    (np : ∀ p ∈ X.pn ++ pins, p.1 ≠ a) : Inv X pins σ (upd H a o) s := by
  have ne : ∀ {b : Addr} {u : HO}, H b = some u → b ≠ a := fun e => ne_of_none e na
  refine ⟨J.ok, J.os, J.bare, ⟨J.base.keep, J.base.slot, fun b o' e n hx => ?_, J.base.there, fun b xs e => ?_, fun b o' u e => ?_, fun b ps e => ?_⟩, J.loc, J.cell, ?_, fun y c e => ?_, fun p hp => ?_, fun b u e => ?_, J.len⟩
  · have hb : b ≠ a := fun z => by rw [z, n0] at e; cases e
    rw [upd_ne hb]; exact J.base.free b o' e n hx
  · have q := J.base.tups b xs e
    rw [upd_ne (ne q)]; exact q
  · have q := J.base.frzs b o' u e
    rw [upd_ne (ne q)]; exact q
  · obtain ⟨more, q⟩ := J.base.tbls b ps e
    exact ⟨more, by rw [upd_ne (ne q)]; exact q⟩
  · rw [upd_ne (Ne.symm nL)]; exact J.free
  · have hc : c ≠ a := fun z => by
      obtain ⟨v, oc, e1, e2⟩ := J.cell y c e
      rw [z, hob] at e1
      cases e1
      exact nc v e2
    rw [upd_ne hc]; exact J.freeC y c e
  · obtain ⟨e, n, nl, nf, dd⟩ := J.pin p hp
    exact ⟨e, by rw [upd_ne (np p hp)]; exact n, nl, nf, dd⟩
  · by_cases hb : b = a
    · subst hb
      rw [upd_same] at e
      cases e
      exact ok
    · rw [upd_ne hb] at e
      exact (J.hok b u e).stay (fun c v _ q => q) (fun c q => by rw [upd_ne (ne q)]; exact q) fun c xs q => by rw [upd_ne (ne q)]; exact q
end
/-- what the clause wishes of an error of the body: slot i is the clause's name; the error is told behind it -/
def wKeep (K : PySem.W.Frag) (c : Value) (i : Nat) (ts : Addr → Value → Option Addr → TS) (Wout : WX) (D : Ends) : WX := fun cls d σ H =>
  ∃ b, PySem.W.exmOne K cls c = some b ∧ (b = true → ∀ a, H a = none → ts a cls d { nx := fun σ' H' => H' a = none → D.nx (σ'.set i none) (upd H' a (exk a cls d)), rt := D.rt, bk := fun σ' H' => D.bk (σ'.set i none) H', ct := fun σ' H' => D.ct (σ'.set i none) H' } (σ.set i (some (.ref a))) H) ∧
    (b = false → Wout cls d σ H)
section
variable {X : Cx} {x n : Str} {c : Value} {i : Nat} {body suite : List Stmt} {b₀ : Stmt} {np pos pos' : Pos} {tb : WX → TS} {ts : Addr → Value → Option Addr → TS} {Wout : WX}
theorem ps_try_keep (hs : X.stack = X.env :: X.outer) (hf : X.env.frame = some X.env.locals) (hex : X.ex = []) (hN : X.N.Nodup) (hi : X.N[i]? = some n) (hln : X.env.kindOf n = some .local) (hc : Names X x c) (tk : Takes X Wout)
    (hb : ∀ (W : WX) (pn : List (Addr × Obj)) (xe : Value → Shared → Prop), Takes (X.tr pn xe) W → PassesOwn (model X.prog X.w) X.A X.env xe → PSs (X.tr pn xe) body (tb W))
    (hsu : ∀ (a : Addr) (oe : Obj) (cls : Value) (d : Option Addr) (pn : List (Addr × Obj)), Zc cls d oe → (∃ vs, oe.data = .fields vs) → PSs (X.suite a ((a, oe) :: pn)) (b₀ :: suite) (ts a cls d)) :
    PS X (.Try body [.ExceptHandler (some (.Name x np)) (some n) (b₀ :: suite) pos'] [] [] pos) (fun D σ H => tb (wKeep X.K c i ts Wout D) D σ H) := by
  refine ⟨fun pins s σ H D I h => wpAny_Try_except ?_⟩
  have ok := I.ok
  have frA : X.A.frames = some (X.env :: X.outer) := by rw [ok.frames, hs]
  have isL : Loc X.env.scope n := .inl hln
  refine wpAny_mono ((hb (wKeep X.K c i ts Wout D) (X.pn ++ pins) (fun e s₁ => wpAny (model X.prog X.w) X.A (noteFrame e X.env) (fun _ s₂ => wpAny (model X.prog X.w) X.A (setFlight e none) (fun _ s₃ =>
    wpAny (model X.prog X.w) X.A (handleBy e X.env [.ExceptHandler (some (.Name x np)) (some n) (b₀ :: suite) pos']) (SP X pins D) X.xe s₃) X.xe s₂) X.xe s₁) (fun u s' caught => ?_) PassesOwn.looking).run [] s σ H D (I.toTry _) h) (fun f s1 ends => ?_) fun e s1 z => z
  · obtain ⟨a, B, sI, pins', σ', H', cls, d, rfl, J0, nb, up, sky, na, os, ag, b, hb1, yes, no⟩ := caught
    have J : Inv X pins σ' H' sI := J0.ofTry ok
    have sky' : Sky B (X.env :: X.outer) a (Zc cls d) X.env.locals s'.heap := by rw [← hs]; exact sky
    show wpAny _ _ (noteFrame (.ref a) X.env) _ _ _
    refine Sky.land Zc.steady frA hf sky' fun h3 fl3 up3 => ?_
    have J3 : Inv X pins σ' H' { s' with heap := h3 } := J.landed nb fl3.1 (up.trans up3) os ag
    obtain ⟨oe3, vs3, he3, hz3, hd3⟩ := fl3.there
    have inNo : ∀ {h : Heap} {o : Obj} {vs : Array Value}, h.FunFrames B (X.env :: X.outer) → h.get? a = some o → o.data = .fields vs → a ∉ frs (X.env :: X.outer) := fun {h o vs} ff e dd hm => by
      obtain ⟨_, o', e', hnf⟩ := ff.mem hm
      rw [e] at e'; cases e'
      exact hnf _ dd
    have nfr := inNo fl3.2.2.1 he3 hd3
    have nL : a ≠ X.env.locals := fun z => nfr (List.mem_filterMap.mpr ⟨X.env, List.mem_cons_self, by rw [hf, z]⟩)
    have nF : a ∉ X.fs := fun hm => by
      obtain ⟨e, he, q⟩ := List.mem_filterMap.mp hm
      exact nfr (List.mem_filterMap.mpr ⟨e, List.mem_cons_of_mem _ he, q⟩)
    -- what stood there at the entry, and what is pinned, stands in the ground: a does not
    have nB : B.get? a = none := fl3.2.1
    have inB : ∀ {b : Addr} {o : Obj}, sI.heap.get? b = some o → b ∉ frs X.stack → b ≠ a := fun {b o} e h1 z => by
      have q := nb b o e h1
      rw [z, nB] at q; cases q
    have aStk : a ∉ frs X.stack := by rw [hs]; exact nfr
    have n0 : X.s_0.heap.get? a = none := by
      cases e : X.s_0.heap.get? a with
      | none => rfl
      | some o =>
        obtain ⟨o', e'⟩ := J.base.there a o e (by rw [hex]; exact fun z => nomatch z)
        exact absurd rfl (inB e' aStk)
    have npin : ∀ p ∈ X.pn ++ pins, p.1 ≠ a := fun p hp => by
      obtain ⟨e, _, nl, nf, _⟩ := J.pin p hp
      refine inB e fun hm => ?_
      rcases List.mem_cons.mp (J.stkSub _ hm) with z | z
      · exact nl z
      · exact nf z
    have S3 := J3.suite he3 hd3 na nL nF
    refine wpAny_handleBy_cons (codeAny_handlers_test ?_) (by intro q; cases q)
    have LT : PySem.W.Looks (model X.prog X.w) h3 (typeOf (.ref a)) cls := fun A Q E s k q => wpAny_typeOf_ref (k _ _ he3) (by rw [hz3.1]; exact q)
    have LM := PySem.W.exm_one (M := model X.prog X.w) J3.kIn LT hb1
    have test : ∀ {Q : Value → Shared → Prop} {E : Value → Shared → Prop}, Q c { s' with heap := h3 } → wpAny (model X.prog X.w) (X.A.mark (some (.ref a))) (eval (.Name x np) X.env) Q E { s' with heap := h3 } := fun {Q E} q => by
      obtain ⟨hg, hdbg, hm | ⟨hm, hv, hnn⟩⟩ := hc
      · exact ld_glob (X := X.suite a ((a, oe3) :: (X.pn ++ pins))) S3 hg hm q hdbg
      · exact ld_blt (X := X.suite a ((a, oe3) :: (X.pn ++ pins))) S3 hg hm hv q hnn hdbg
    refine test (LM.here ?_)
    cases b with
    | true =>
      refine codeAny_handlers_suite_as (HandSPX.lands_againZ fl3 fun h4 fl4 up4 => ?_)
      have J4 : Inv X pins σ' H' { s' with heap := h4 } := J.landed nb fl4.1 ((up.trans up3).trans up4) os ag
      obtain ⟨oe4, vs4, he4, hz4, hd4⟩ := fl4.there
      have S4 := J4.suite he4 hd4 na nL nF
      refine store_ok (X := X.suite a ((a, oe4) :: (X.pn ++ pins))) (v := .ref a) S4 hN hi isL rfl (fun s5 S5 => ?_) (.inr hln)
      refine wpAny_mono ((hsu a oe4 cls d (X.pn ++ pins) hz4 ⟨_, hd4⟩).run [] s5 _ H' _ S5 (yes rfl a na)) (fun f s6 ends => ?_) fun _ _ z => False.elim z
      have fin : ∀ {σ6 : L2.St} {H6 : Hp} {Q : Shared → Prop}, Inv (X.suite a ((a, oe4) :: (X.pn ++ pins))) [] σ6 H6 s6 → (∀ s7, Inv X pins (σ6.set i none) H6 s7 → H6 a = none ∧ Inv X pins (σ6.set i none) (upd H6 a (exk a cls d)) s7 → Q s7) →
          wpAny (model X.prog X.w) X.A (do bindName X.env n .none; unbindBehindTheSuite X.env n pos') (fun _ s7 => Q s7) X.xe s6 := fun {σ6 H6 Q} S6 hq => gone_ok (X := X.suite a ((a, oe4) :: (X.pn ++ pins))) S6 hN hi hln fun s7 S7 => by
        obtain ⟨e7, n7, _, _, c7⟩ := S7.pin (a, oe4) (List.mem_append_left _ List.mem_cons_self)
        have J7 := S7.unsuite ok
        exact hq s7 J7 ⟨n7, track J7 n7 n0 e7 (exk_ok e7 hz4 hd4) nL (fun v z => by rw [hd4] at z; cases z) npin⟩
      cases f with
      | next =>
        obtain ⟨σ6, H6, S6, q6⟩ := ends
        exact fin S6 fun s7 J7 ⟨n7, t7⟩ => ⟨_, _, t7, q6 n7⟩
      | brk =>
        obtain ⟨σ6, H6, S6, q6⟩ := ends
        exact fin S6 fun s7 J7 _ => ⟨_, _, J7, q6⟩
      | cont =>
        obtain ⟨σ6, H6, S6, q6⟩ := ends
        exact fin S6 fun s7 J7 _ => ⟨_, _, J7, q6⟩
      | ret u =>
        obtain ⟨v6, σ6, H6, S6, r6, q6⟩ := ends
        exact fin S6 fun s7 J7 _ => ⟨_, _, _, J7, r6, q6⟩
    | false =>
      show wpAny _ X.A (handleBy (.ref a) X.env []) _ _ _
      refine wpAny_handleBy_nil ?_
      obtain ⟨_, _, _, oe, vs, T, oT, ts', he, hz, hd, h1, hr⟩ := id fl3
      unfold PySem.passOn
      refine wpAny_bind (wpAny_field he hd h1 ?_)
      rw [if_neg (show ¬ ((Value.ref T == Value.none) = true) from by simp)]
      have out : wpAny (model X.prog X.w) X.A (setFlight (.ref a) X.env.frame) (fun _ s4 => wpAny (model X.prog X.w) X.A (throw (.ref a) : Sem Flow) (SP X pins D) X.xe s4) X.xe { s' with heap := h3 } := by
        rw [hf]
        refine HandSPX.setFlight_upZ fl3 fun h4 hh4 up4 => wpAny_throw (tk _ _ ?_)
        exact ⟨a, B, sI, pins, σ', H', cls, d, rfl, J, nb, (up.trans up3).trans up4, .inr (.inr (by rw [hs]; exact hh4)), na, os, ag, no rfl⟩
      first
        | exact wpAny_bind (wpAny_pure (wpAny_bind out))
        | exact wpAny_bind out
  · cases f with
    | next =>
      obtain ⟨σ', H', J', q⟩ := ends
      exact wpAny_execs_nil ⟨σ', H', J'.ofTry ok, q⟩
    | brk =>
      obtain ⟨σ', H', J', q⟩ := ends
      exact ⟨σ', H', J'.ofTry ok, q⟩
    | cont =>
      obtain ⟨σ', H', J', q⟩ := ends
      exact ⟨σ', H', J'.ofTry ok, q⟩
    | ret u =>
      obtain ⟨v, σ', H', J', r, q⟩ := ends
      exact ⟨v, σ', H', J'.ofTry ok, r, q⟩
end
/-! ## the caught error is asked -/
def ErrK (H : Hp) (a C : Addr) (fs : List (Str × V)) : Prop := ∃ dx, H a = some (exk a (.ref C) (some dx)) ∧ H dx = some (.xd fs)
theorem ErrK.inst {X : Cx} {pins : List (Addr × Obj)} {σ : L2.St} {H : Hp} {s : Shared} {a C : Addr} {fs : List (Str × V)} (h : ErrK H a C fs) (I : Inv X pins σ H s) : ∃ (ox od : Obj) (mA : Str → Option Value), PySem.W.InstAt s.heap a ox C (some od) ∧ (∀ f, RelO (fs.lookup f) (mA f)) ∧ ∀ f, PySem.W.lookIn f od = some (mA f) := by
  obtain ⟨dx, ea, ed⟩ := h
  obtain ⟨oe, vs, ho, hz, hd⟩ := exk_at I.hok ea
  have hx : ObjOk X.prog X.w H s.heap dx (.xd fs) := I.hok dx _ ed
  obtain ⟨mA, hns, hr⟩ := hx
  obtain ⟨od, hod, hl⟩ := lookIn_ns hns
  exact ⟨oe, od, mA, ⟨ho, hz.1, by unfold PySem.W.notCls; rw [hd] <;> rfl, by rw [hz.2]; exact hod⟩, hr, hl⟩
section
variable {X : Cx} {e : Expr} {pos : Pos}
def tXfK (K : PySem.W.Frag) (f : Str) (te : TE) : TE := fun σ H Q => te σ H fun y H1 => ∃ a C fs v, y = .ref a ∧ XfC K C ∧ PySem.W.findIn K (.ref C) f = some none ∧ ErrK H1 a C fs ∧ fs.lookup f = some v ∧ Q v H1
theorem pe_xfK {n : Str} {te : TE} (he : PE X e te) (hb : attributeBase e n X.env (eval e X.env) = eval e X.env := by rfl) : PE X (.Attribute e n pos) (tXfK X.K n te) := by
  refine ⟨fun pins s σ H Q I h => attr_of hb (thn (he.run pins s σ H _ I h) fun u s1 hh => ?_)⟩
  obtain ⟨y, H1, I1, ry, a, C, fs, v, ey, T, no, ek, l, q⟩ := hh
  subst ey
  obtain rfl : u = Value.ref a := ry
  obtain ⟨ox, od, mA, J, hr, hl⟩ := ek.inst I1
  obtain ⟨u, hu, ru⟩ := RelO.some_of (v := v) (o := mA n) (by rw [← l]; exact hr n)
  exact HandSPX.exc_get I1.kIn J T.ga T.gg T.exC (PySem.W.findObj_own T.hdC no rfl (by rw [hl, hu])) (handed_of ru) ⟨v, H1, I1.tok _, ru, q⟩
def rIsEK (K : PySem.W.Frag) : List V → Hp → VK → Prop := fun xs H Q => ∃ (a S C fI : Addr) (nm : Str) (c : V) (u : Value) (b : Bool) (fs : List (Str × V)), xs = [.ref a, c] ∧ Gx K ∧ Ex K S C fI nm ∧ ErrK H a C fs ∧ ClsV c u ∧ PySem.W.kitOne K (.ref C) u = some b ∧ Q (.bl b) H
theorem call_isEK : CallR X (.builtin "isinstance") (rIsEK X.K) := by
  intro pins s σ H xs us Q I r h
  obtain ⟨a, S, C, fI, nm, c, u, b, fs, rfl, G, x, e, k, q, w⟩ := h
  obtain ⟨u1, u2, rfl, r1, r2⟩ := vals2 r
  obtain rfl : u1 = Value.ref a := r1
  have ec := k.eq r2
  subst ec
  obtain ⟨ox, od, mA, J, _, _⟩ := e.inst I
  obtain ⟨cd, hc, _⟩ := x.cls
  exact PySem.W.kia_one (PySem.W.kitx_exc (by rw [hc]; rfl) x.ga x.gg x.exc x.ca G.hn G.tk ((x.mro _).trans (by simp [PySem.HandSPX.veTail]))) I.kIn J q (fun z => nomatch z) fun tk => ⟨.bl b, H, I.tok _, rfl, w⟩
end
end AZ

set_option Elab.async false
set_option maxRecDepth 100000
set_option maxHeartbeats 4000000
set_option linter.all false
/-! Own work: the law's promise at the heap behind the top, with empty tables of code objects, no repr under way. -/
namespace AZ
open PySem L2 PyProof.Rows LamX
section
variable {P : Program} {w : World} {K : PySem.W.Frag} {mg mb : Str → Option Value} {k : Nat} {fa a : Addr} {cs : List (Addr × Addr)} {sp : Sp} {z : Shared} {vs : List Value} {ns : List Int}
/-- what the head knows of the tables -/
structure Tbs (K : PySem.W.Frag) (h : Heap) (cs : List (Addr × Addr)) : Prop where
  emp : ∀ p ∈ cs, h.get? p.2 = some { cls := .none, data := .fields #[] }
  out : ∀ p ∈ cs, K.lookup p.2 = none
  hd : ∀ p ∈ cs, PySem.W.CodeHd h p.1 p.2
theorem headT (kin : K.In z.heap) (hns : z.heap.Ns mainGlobals mg) (hmb : z.heap.Ns builtinsNs mb) (boot : ∀ x : Str, x ≠ "__name__" → mb x = bootBuiltins x) (lim : z.heap.NoLimit) (nogen : z.gens = #[]) (tb : Tbs K z.heap cs)
    (hbm : ∃ (bm : Addr) (ob : Obj), mg "__builtins__" = some (.ref bm) ∧ bm ≠ builtinsNs ∧ z.heap.get? bm = some ob ∧ ob.cls = .type "module" ∧ ob.dict = some builtinsNs ∧ ob.data = .plain)
    (room : Room k callerA) (F : ∀ base : Heap, K.In base → base.Ns mainGlobals mg → (∀ p ∈ cs, TabB base mg p.1 p.2) → FnG P w K mg base CX0 k fa sp)
    (prom : ∀ H : Hp, (∀ p ∈ cs, H p.2 = some (.tbl #[])) → SqL K H a (ns.map V.int) → sp [.ref a] H (fun v _ => v = .bl true) E0)
    (H : Hp) (at_ : ∀ p ∈ cs, H p.2 = some (.tbl #[])) (only : ∀ b, H b = none ∨ b ∈ cs.map (·.2) ∨ ∃ o xs, H b = some (.frz o (.lst xs))) (seq : SqL K H a (ns.map V.int)) (hok : HOk P w H z.heap)
    (just : ∀ b, H b ≠ none → (b = a ∧ K.lookup a = none) ∨ b ∈ cs.map (·.2)) (obj : z.heap.get? a = some { cls := .type "list", data := .seq vs.toArray }) :
    codeAny (model P w) callerA (.call (.ref fa) ⟨[.ref a], []⟩) (EndsTrue z) z := by
  have isT : ∀ {b : Addr}, b ∈ cs.map (·.2) → z.heap.get? b = some { cls := .none, data := .fields #[] } := fun {b} hb => by
    obtain ⟨p, hp, e⟩ := List.mem_map.mp hb
    rw [← e]; exact tb.emp p hp
  -- what is neither the script nor a table stands in the base
  have low : ∀ {b : Addr} {o : Obj}, z.heap.get? b = some o → (∀ us n, o.data ≠ .seq us n) → o.data ≠ .fields #[] → (hidT z.heap H).get? b = some o := fun {b o} e h1 h2 => hidT_get e (by
    cases q : H b with
    | none => rfl
    | some u =>
      rcases just b (by rw [q]; exact fun t => nomatch t) with ⟨rfl, _⟩ | hb
      · rw [obj] at e; cases e; exact (h1 _ _ rfl).elim
      · rw [isT hb] at e; cases e; exact (h2 rfl).elim)
  have names : ∀ b m, z.heap.Ns b m → (hidT z.heap H).Ns b m := fun b m ⟨o, es, ep, e, d, r⟩ => ⟨o, es, ep, low e (fun us n q => by rw [d] at q; cases q) (fun q => by rw [d] at q; cases q), d, r⟩
  have kinB : K.In (hidT z.heap H) := fun b o e => hidT_get (kin b o e) (by
    cases q : H b with
    | none => rfl
    | some u =>
      rcases just b (by rw [q]; exact fun t => nomatch t) with ⟨rfl, nk⟩ | hb
      · rw [nk] at e; cases e
      · obtain ⟨p, hp, ep⟩ := List.mem_map.mp hb
        rw [← ep, tb.out p hp] at e; cases e)
  obtain ⟨m2, l1, l2⟩ := lim
  have modB : L2.Mod K mg (hidT z.heap H) := ⟨kinB, names _ _ hns, ⟨mb, names _ _ hmb, boot⟩, ⟨m2, names _ _ l1, l2⟩⟩
  have tabs : ∀ p ∈ cs, TabB (hidT z.heap H) mg p.1 p.2 := fun p hp => by
    have empty := tb.emp p hp
    obtain ⟨oG, esG, epG, eG, dG, _⟩ := hns
    refine ⟨?_, ?_, fun q => ?_⟩
    · obtain ⟨o, us, file, tf, flags, tg, inF, text, tt, e1, r1, r2, r3, r4, r5, r6, r7, r8, hne⟩ := tb.hd p hp
      refine ⟨o, us, file, tf, flags, tg, inF, text, tt, low e1 (fun us' n q => ?_) (fun q => ?_), r1, r2, r3, r4, r5, r6, r7, r8, hne⟩
      · rw [r2] at q; cases q
      · rw [r2] at q
        cases q
        simp at r3
    · obtain ⟨bm, ob, b1, b2, b3, b4, b5, b6⟩ := hbm
      refine ⟨bm, ob, b1, b2, fun q => ?_, fun q => ?_, low b3 (fun us' n q => ?_) (fun q => ?_), b4, b5, b6⟩
      · rw [q, eG] at b3; cases b3; rw [dG] at b6; cases b6
      · rw [q, empty] at b3; cases b3; cases b6
      · rw [b6] at q; cases q
      · rw [b6] at q; cases q
    · rw [q, empty] at eG; cases eG; cases dG
  have env : Env0 P w K mg (hidT z.heap H) callerA [] z H := {
    frames := rfl
    mod := modB
    bs := fun _ _ e => of_hidT e
    bsz := Nat.le_of_eq (hidT_size ..)
    funs := trivial
    frf := fun _ t => nomatch t
    hok := hok
    bare := .of_eq nogen }
  refine codeAny_mono (F _ kinB (names _ _ hns) tabs callerA [] z H [.ref a] [.ref a] _ _ guards_caller room env (.cons rfl .nil) (prom H at_ seq)) fun r z' q => ?_
  match r, q with
  | .error _, q => exact q.elim
  | .ok .next, q => exact q.elim
  | .ok .brk, q => exact q.elim
  | .ok .cont, q => exact q.elim
  | .ok (.ret u), ⟨v, H2, os, bare, un, hok2, rel, tr⟩ =>
    subst tr
    obtain rfl : u = Value.bool true := rel
    have stays : ∀ b o, b ∉ cs.map (·.2) → z.heap.get? b = some o → z'.heap.get? b = some o := fun b o nb e => by
      rcases only b with n | n | ⟨ob, xs, n⟩
      · exact un.keep b o e n (fun t => nomatch t) (fun t => nomatch t)
      · exact absurd n nb
      · have g1 := (hok b _ n).1
        rw [e] at g1
        cases g1
        exact (hok2 b _ (un.frzs b _ _ n)).1
    have grown : ∀ p ∈ cs, ∃ more : Array Value, z'.heap.get? p.2 = some { cls := .none, data := .fields more } := fun p hp => by
      obtain ⟨more, q⟩ := un.tbls p.2 #[] (at_ p hp)
      exact ⟨_, hok2 p.2 _ q⟩
    refine ⟨rfl, ⟨fun b o e => ?_, fun b o e => ?_⟩, os, bare⟩
    · by_cases hb : b ∈ cs.map (·.2)
      · obtain ⟨p, hp, ep⟩ := List.mem_map.mp hb
        obtain ⟨more, hm⟩ := grown p hp
        have empty := tb.emp p hp
        rw [← ep] at e ⊢
        rw [empty] at e
        cases e
        exact .inr (.inl ⟨((tb.hd p hp).tab empty).isCodeTable, rfl, #[], more, rfl, by rw [Array.empty_append]; exact hm⟩)
      · exact .inl (stays b o hb e)
    · by_cases hb : b ∈ cs.map (·.2)
      · obtain ⟨p, hp, ep⟩ := List.mem_map.mp hb
        obtain ⟨more, hm⟩ := grown p hp
        rw [← ep]
        exact ⟨_, hm⟩
      · exact ⟨o, stays b o hb e⟩
theorem lawT (kin : K.In z.heap) (hns : z.heap.Ns mainGlobals mg) (hmb : z.heap.Ns builtinsNs mb) (boot : ∀ x : Str, x ≠ "__name__" → mb x = bootBuiltins x) (lim : z.heap.NoLimit) (nogen : z.gens = #[]) (tb : Tbs K z.heap cs)
    (hbm : ∃ (bm : Addr) (ob : Obj), mg "__builtins__" = some (.ref bm) ∧ bm ≠ builtinsNs ∧ z.heap.get? bm = some ob ∧ ob.cls = .type "module" ∧ ob.dict = some builtinsNs ∧ ob.data = .plain)
    (obj : z.heap.get? a = some { cls := .type "list", data := .seq vs.toArray }) (isI : IntsAre vs ns) (few : ns.length ≤ sizeLine)
    (room : Room k callerA) (F : ∀ base : Heap, K.In base → base.Ns mainGlobals mg → (∀ p ∈ cs, TabB base mg p.1 p.2) → FnG P w K mg base CX0 k fa sp)
    (prom : ∀ H : Hp, (∀ p ∈ cs, H p.2 = some (.tbl #[])) → SqL K H a (ns.map V.int) → sp [.ref a] H (fun v _ => v = .bl true) E0) :
    codeAny (model P w) callerA (.call (.ref fa) ⟨[.ref a], []⟩) (EndsTrue z) z := by
  have isT : ∀ {b : Addr}, b ∈ cs.map (·.2) → z.heap.get? b = some { cls := .none, data := .fields #[] } := fun {b} hb => by
    obtain ⟨p, hp, e⟩ := List.mem_map.mp hb
    rw [← e]; exact tb.emp p hp
  have aT : a ∉ cs.map (·.2) := fun h => by
    have q := isT h
    rw [obj] at q
    have q' : Data.seq vs.toArray _ = Data.fields #[] := congrArg Obj.data (Option.some.inj q)
    cases q'
  have mem : ∀ p ∈ cs, p.2 ∈ cs.map (·.2) := fun p hp => List.mem_map.mpr ⟨p, hp, rfl⟩
  cases own : K.lookup a with
  | some o =>
    have same := kin a o own
    rw [obj] at same
    cases same
    refine headT kin hns hmb boot lim nogen tb hbm room F prom (fun b => if b ∈ cs.map (·.2) then some (.tbl #[]) else none) (fun p hp => if_pos (mem p hp)) (fun b => ?_) (.inr ⟨_, vs.toArray, _, own, rfl, rfl, rfl, ?_, vals_ints isI⟩) (fun b u t => ?_) (fun b t => ?_) obj
    · by_cases hb : b ∈ cs.map (·.2)
      · exact .inr (.inl hb)
      · exact .inl (if_neg hb)
    · rw [List.size_toArray, isI.length]; exact few
    · by_cases hb : b ∈ cs.map (·.2)
      · have t' := (if_pos hb).symm.trans t
        cases t'
        exact isT hb
      · have t' := (if_neg hb).symm.trans t
        cases t'
    · by_cases hb : b ∈ cs.map (·.2)
      · exact .inr hb
      · exact absurd (if_neg hb) t
  | none =>
    refine headT kin hns hmb boot lim nogen tb hbm room F prom (fun b => if b = a then some (.frz { cls := .type "list", data := .seq vs.toArray } (.lst (ns.map V.int))) else if b ∈ cs.map (·.2) then some (.tbl #[]) else none)
      (fun p hp => (if_neg (show ¬ p.2 = a from fun q => aT (by rw [← q]; exact mem p hp))).trans (if_pos (mem p hp))) (fun b => ?_) (.inl (.inr ⟨_, if_pos rfl⟩)) (fun b u t => ?_) (fun b t => ?_) obj
    · by_cases h : b = a
      · exact .inr (.inr ⟨_, _, if_pos h⟩)
      · by_cases hb : b ∈ cs.map (·.2)
        · exact .inr (.inl hb)
        · exact .inl ((if_neg h).trans (if_neg hb))
    · by_cases h : b = a
      · have t' := (if_pos h).symm.trans t
        cases t'
        rw [h]
        exact ⟨obj, by rw [List.length_map]; exact few, vs, _, vals_ints isI, obj⟩
      · have t1 := (if_neg h).symm.trans t
        by_cases hb : b ∈ cs.map (·.2)
        · have t' := (if_pos hb).symm.trans t1
          cases t'
          exact isT hb
        · have t' := (if_neg hb).symm.trans t1
          cases t'
    · by_cases h : b = a
      · exact .inl ⟨h, own⟩
      · by_cases hb : b ∈ cs.map (·.2)
        · exact .inr hb
        · exact absurd ((if_neg h).trans (if_neg hb)) t
end
/-- the table of the def that stands at f (its code object at c, the table at P), by the written part -/
structure TabK (K : PySem.W.Frag) (f c P : Addr) : Prop where
  fn : ∃ (o : Obj) (fd : FuncData), K.lookup f = some o ∧ o.data = .func fd ∧ fd.code = .ref c
  code : ∃ (e : Value) (dd : Option Addr) (vs : Array Value) (sl : Array (Option Value)), K.lookup c = some ⟨e, dd, .fields vs, sl⟩ ∧ vs[11]? = some (.ref P)
  out : K.lookup P = none
  hd : PySem.W.codeHdIn K c P = true
/-- the goal of the head, from the law's promise; tn: the defs that make lambdas -/
theorem walkT {l : PySem.W.OpenLaw} {n k : Nat} {q : Program} {loose : List Str} {XP : (Str → Option Value) → Heap → Prop} {YP : World → Heap → Prop} {d : DefRec} {K : Params → PySem.W.Frag} {sp : PySem.W.Frag → List (Addr × Addr) → Sp}
    (hn : l.most = some n) (hn2 : n ≤ sizeLine) (hdf : d.params.defaults = []) (room : Room k callerA) (hY : ∀ (w : World) (h : Heap), YP w h → (K w.params).In h)
    (F : ∀ (w : World) (mg : Str → Option Value) (fa : Addr) (h : Heap), (K w.params).In h → h.Ns mainGlobals mg → mg d.name = some (.ref fa) →
      ∃ cs : List (Addr × Addr), (∀ p ∈ cs, ∃ (x : Str) (f : Addr), ((recsOf q).any fun e => e.name == x) = true ∧ mg x = some (.ref f) ∧ TabK (K w.params) f p.1 p.2) ∧
        (∀ base : Heap, (K w.params).In base → base.Ns mainGlobals mg → (∀ p ∈ cs, TabB base mg p.1 p.2) → FnG l.prog w (K w.params) mg base CX0 k fa (sp (K w.params) cs)))
    (prom : ∀ (K : PySem.W.Frag) (cs : List (Addr × Addr)) (H : Hp) (a : Addr) (ns : List Int), ns.length ≤ n → (∀ p ∈ cs, H p.2 = some (.tbl #[])) → SqL K H a (ns.map V.int) → sp K cs [.ref a] H (fun v _ => v = .bl true) E0) :
    PySem.W.WalkO q loose XP YP l.row.toRowW d [] (fun f vs => PySem.call f vs) := by
  refine Att.attach_callB hn hdf fun w s₀ z mg mb fa o pm cd doc a vs ns G Y ho hd hcd hmg obj isI few bits nogen => ?_
  have KX := hY w _ Y
  obtain ⟨cs, tc, hF⟩ := F w mg fa _ KX G.T.g hmg
  refine lawT KX G.T.g G.T.b G.T.builtins G.T.nolimit nogen ⟨fun p hp => ?_, fun p hp => ?_, fun p hp => ?_⟩ G.T.bmain obj isI (Nat.le_trans few hn2) room hF fun H at_ s => prom _ cs H a ns few at_ s
  · obtain ⟨x, f, hx, hm, t⟩ := tc p hp
    obtain ⟨o1, fd1, k1, k2, k3⟩ := t.fn
    obtain ⟨e1, dd1, vs1, sl1, k4, k5⟩ := t.code
    obtain ⟨dL, hmem, hn1⟩ := List.any_eq_true.mp hx
    have hn3 : dL.name = x := beq_iff_eq.mp hn1
    obtain ⟨a', o', fd', c', P', h1, h2, h3, h4, h5, h6⟩ := G.T.tab dL hmem
    rw [hn3, hm] at h1
    cases h1
    rw [KX _ _ k1] at h2
    cases h2
    rw [k2] at h3
    cases h3
    rw [k3] at h4
    cases h4
    obtain ⟨⟨oc, vc, e2, _, e3, e4⟩, hP⟩ := h6
    rw [KX _ _ k4] at e2
    cases e2
    cases e3
    rw [k5] at e4
    cases e4
    exact hP
  · obtain ⟨x, f, hx, hm, t⟩ := tc p hp
    exact t.out
  · obtain ⟨x, f, hx, hm, t⟩ := tc p hp
    exact PySem.W.codeHd_of_K KX t.hd
end AZ

set_option Elab.async false
set_option maxRecDepth 100000
set_option maxHeartbeats 4000000
set_option linter.all false
/-! Own work: promises of defs that raise; values that are no numbers. -/
namespace AZ
open PySem L2 PyProof.Rows LamX
section
variable {P : Program} {w : World} {K : PySem.W.Frag} {mg : Str → Option Value} {base : Heap} {k : Nat} {f : Addr} {sp : Sp} {x qual : Str} {st : Stmt} {fd : FuncData} {N ps : List Str}
/-- a def that may raise, by its body -/
theorem fnX_of (F : Fun K x qual st f fd) (S : FnScope N ps (defScope st)) (len : ∀ vs H Q E, sp vs H Q E → vs.length = ps.length)
    (bd : ∀ (cdv : Value) (A : Around) (out : List Env) (z : Shared) (G : Hp) (vs : List V) (Q : VK) (E : XK), NoG (A.deeper (envOfC qual (defScope st) z.heap.objs.size f cdv)) →
      Room k (A.deeper (envOfC qual (defScope st) z.heap.objs.size f cdv)) → Takes (cxOf (CXx P w) P w K mg base N qual (defScope st) f cdv A out z G E) (fun cls d _ H => E cls d H) → sp vs G Q E →
      ∃ t, PSs (cxOf (CXx P w) P w K mg base N qual (defScope st) f cdv A out z G E) (defBody st) t ∧ t { nx := fun _ H' => Q .non H', rt := Q } (start N vs) G) (hb : Binds K fd ps []) : FnG P w K mg base (CXx P w) (k + 1) f sp :=
  (fnOG (CX := CXx P w) F S len fun cdv A out z G vs Q E ng hr h => bd cdv A out z G vs Q E ng hr (takes_of rfl rfl rfl rfl) h).pos len hb
end
/-- what a call hands on of what its callee raises -/
theorem on {X : Cx} {E : XK} (tk : Takes X (fun cls d _ H => E cls d H)) : Passes (CXx X.prog X.w) X E := passes_call tk fun _ _ _ _ h => h
/-- no number: its type is not the class at C, it is no integer, and it is shown -/
structure Odd (K : PySem.W.Frag) (C : Addr) (H : Hp) (v : V) (e : PyData) : Prop where
  ty : ∃ T, TyX K H v (.type T) ∧ PySem.W.kitOne K (.type T) (.ref C) = some false ∧ PySem.W.notFirst K C (.type T) = true ∧ ∃ b1 b2, PySem.W.kitOne K (.type T) (.type "int") = some b1 ∧ PySem.W.kitOne K (.type T) (.type "bool") = some b2 ∧ (b1 && !b2) = false
  sh : Sh K H v e
  shn : Shn e
/-- what is raised for v -/
def Rai (CB : Addr) (v : V) (H : Hp) (E : XK) : Prop := ∀ dx, H dx = none → E (.ref CB) (some dx) (upd H dx (.xd [("value", v)]))
def spOfX (K : PySem.W.Frag) (C CB : Addr) : Sp := fun vs H _ E => ∃ v e, vs = [v] ∧ Odd K C H v e ∧ Rai CB v H E
def spCmpX (K : PySem.W.Frag) (C CB : Addr) : Sp := fun vs H _ E => ∃ a v e dx fs, vs = [.ref a, v] ∧ H a = some (.ins C dx fs) ∧ Odd K C H v e ∧ Rai CB v H E
end AZ

set_option Elab.async false
set_option maxRecDepth 100000
set_option maxHeartbeats 4000000
set_option linter.all false
/-! Own work: an int compared with an instance: the instance's own comparison, turned about; == and != beside values of other types; is True, is False. -/
namespace AZ
open PySem PySem.Spec PySem.W PySem.Calls PyProof.Rows
section
variable {prog : Program} {w : World} {A : Around} {E : Value → Shared → Prop} {s : Shared} {K : Frag} {x C L f g dx : Addr} {h₀ : Heap} {m : Str → Option Value} {ox : Obj} {od : Option Obj} {name : Str} {b tb : Value} {i : Int} {t : Tok}
/-- what an int's comparison does beside an instance: it declines -/
def IntDecC (op : CmpOp) : Prop := ∀ {prog : Program} {w : World} {A : Around} {E : Value → Shared → Prop} {s : Shared} {x C dx : Addr} {i : Int} {t : Tok} {Q : Option Value → Shared → Prop}, s.heap.get? x = some (instObj C dx) → Q none s →
  wpAny (model prog w) A (tryCompare (.int i t) (cmpInfo op).2.1 (.ref x)) Q E s
theorem decC_lt : IntDecC .Lt := fun {prog w A E s x C dx i t Q} hx q => by
  refine wpAny_tryCompare_declines (T := "int") (id := "int.__lt__") (typeIs_int s i t) PySem.F.slot_int_lt (wpAny_call_entry PySem.F.slot_int_lt (typeIs_int s i t) PySem.F.entry_int_lt ?_ (PySem.F.args_int_lt_2 _ _))
  unfold Builtin.«int.__lt__»
  exact intBin_dec hx ⟨_, rfl, rfl, q⟩
theorem decC_le : IntDecC .LtE := fun {prog w A E s x C dx i t Q} hx q => by
  refine wpAny_tryCompare_declines (T := "int") (id := "int.__le__") (typeIs_int s i t) PySem.F.slot_int_le (wpAny_call_entry PySem.F.slot_int_le (typeIs_int s i t) PySem.F.entry_int_le ?_ (PySem.F.args_int_le_2 _ _))
  unfold Builtin.«int.__le__»
  exact intBin_dec hx ⟨_, rfl, rfl, q⟩
theorem decC_gt : IntDecC .Gt := fun {prog w A E s x C dx i t Q} hx q => by
  refine wpAny_tryCompare_declines (T := "int") (id := "int.__gt__") (typeIs_int s i t) PySem.F.slot_int_gt (wpAny_call_entry PySem.F.slot_int_gt (typeIs_int s i t) PySem.F.entry_int_gt ?_ (PySem.F.args_int_gt_2 _ _))
  unfold Builtin.«int.__gt__»
  exact intBin_dec hx ⟨_, rfl, rfl, q⟩
theorem decC_ge : IntDecC .GtE := fun {prog w A E s x C dx i t Q} hx q => by
  refine wpAny_tryCompare_declines (T := "int") (id := "int.__ge__") (typeIs_int s i t) PySem.F.slot_int_ge (wpAny_call_entry PySem.F.slot_int_ge (typeIs_int s i t) PySem.F.entry_int_ge ?_ (PySem.F.args_int_ge_2 _ _))
  unfold Builtin.«int.__ge__»
  exact intBin_dec hx ⟨_, rfl, rfl, q⟩
theorem decC_eq : IntDecC .Eq := fun {prog w A E s x C dx i t Q} hx q => by
  refine wpAny_tryCompare_declines (T := "int") (id := "int.__eq__") (typeIs_int s i t) PySem.F.slot_int_eq (wpAny_call_entry PySem.F.slot_int_eq (typeIs_int s i t) PySem.F.entry_int_eq ?_ (PySem.F.args_int_eq_2 _ _))
  unfold Builtin.«int.__eq__»
  exact intBin_dec hx ⟨_, rfl, rfl, q⟩
theorem decC_ne : IntDecC .NotEq := fun {prog w A E s x C dx i t Q} hx q => by
  refine wpAny_tryCompare_declines (T := "int") (id := "int.__ne__") (typeIs_int s i t) PySem.F.slot_int_ne (wpAny_call_entry PySem.F.slot_int_ne (typeIs_int s i t) PySem.F.entry_int_ne ?_ (PySem.F.args_int_ne_2 _ _))
  unfold Builtin.«int.__ne__»
  exact intBin_dec hx ⟨_, rfl, rfl, q⟩
/-- int, comparison, instance -/
theorem cmp_refl {op : CmpOp} {Q : Value → Shared → Prop} (D : IntDecC op) (hu : A.units < cLine) (F : Fr h₀ L s.heap m) (X₀ : K.In h₀) (I : InstAt s.heap x ox C od) (hx : s.heap.get? x = some (instObj C dx)) (hs2 : subIn K (.ref C) (.type "int") = some false)
    (one : wpAny (model prog w) A (tryCompare (.ref x) (cmpInfo op).2.2 (.int i t)) (fun r s' => ∃ v, r = some v ∧ Q v s') E s) (hth : oneThing? op (.int i t) (.ref x) = none := by rfl) : wpAny (model prog w) A (richCompare op (.int i t) (.ref x)) Q E s := by
  have X := X₀.keeps F.keep
  have L1 : Looks (model prog w) s.heap (typeOf (.int i t)) (.type "int") := Looks.of_pure rfl
  unfold richCompare
  rw [hth]
  refine wpAny_holding (wpAny_bind (wpAny_cRoomFor hu ?_))
  refine wpAny_bind (L1.here (wpAny_bind (I.type.here ?_)))
  have hne : (Value.type "int" != Value.ref C) = true := by
    show (!(Value.type "int" == Value.ref C)) = true
    rw [show (Value.type "int" == Value.ref C) = false from Bool.eq_false_iff.mpr fun q => by cases beq_iff_eq.mp q]
    rfl
  rw [if_pos hne]
  refine wpAny_bind ((looks_subIn X hs2).here ?_)
  simp only [Bool.false_eq_true, if_false]
  refine wpAny_bind (D hx ?_)
  simp only [Bool.not_false, if_true]
  refine wpAny_bind (wpAny_mono one (fun r s' z => ?_) fun _ _ e => e)
  obtain ⟨v, rfl, hq⟩ := z
  exact wpAny_pure hq
end
end AZ
namespace AZ
open PySem L2 PyProof.Rows
theorem sub_of_kit {K : PySem.W.Frag} {C : Addr} (h : PySem.W.kitOne K (.ref C) (.type "int") = some false) : PySem.W.subIn K (.ref C) (.type "int") = some false := by
  unfold PySem.W.kitOne PySem.W.kitCls at h
  rw [if_neg (by intro q; cases (beq_iff_eq.mp q))] at h
  dsimp only at h
  rw [if_pos (by decide +kernel)] at h
  exact h
section
variable {X : Cx}
/-- int < own and the like: the own one, turned about; opr: the own operator that is asked -/
def rReflC (X : Cx) (opr : CmpOp) : R2 := fun x y H Q => ∃ (j : Int) (a C dx : Addr) (fs : List (Str × V)) (f : Addr) (CX : CXT) (k : Nat) (sp : Sp) (E : XK),
  x = .int j ∧ y = .ref a ∧ H a = some (.ins C dx fs) ∧ CmpM X.K C opr f ∧ PySem.W.kitOne X.K (.ref C) (.type "int") = some false ∧ FnR X.prog X.w X.K X.mg X.base CX k f sp ∧ Room k X.A ∧ Passes CX X E ∧ sp [y, x] H Q E
theorem op_reflC {op : CmpOp} (opr : CmpOp) (he : (cmpInfo op).2.2 = (cmpInfo opr).2.1) (D : IntDecC op) (hop : ∀ a b, compareOp op a b = richCompare op a b := by intro _ _; rfl) (hth : ∀ (i : Int) (t : Tok) (x : Addr), oneThing? op (.int i t) (.ref x) = none := by intro _ _ _; rfl) : OpR X (compareOp op) (rReflC X opr) := by
  intro pins s σ H x y v u Q I rx ry h
  obtain ⟨j, a, C, dx, fs, f, CX, k, sp, E, rfl, rfl, ha, hM, ki, F, hr, hx, hs⟩ := h
  obtain ⟨t, rfl⟩ := id rx
  obtain rfl : u = Value.ref a := ry
  have hc : wpAny (model X.prog X.w) X.A (call (.ref f) [.ref a, .int j t]) (PySem.W.CmpBack (EP X pins σ Q)) X.xe s :=
    thn (wpAny_call (run_fnR (us := [.ref a, .int j t]) (vs := [.ref a, .int j]) F hr hx I (.cons rfl (.cons rx .nil)) hs)) fun _ _ z => cmpBack_of z
  obtain ⟨mA, J, _⟩ := ins_get I.hok ha
  have hobj := J.obj
  obtain ⟨od, J, _⟩ := J.look
  obtain ⟨m, hF⟩ := I.fr
  rw [hop]
  refine cmp_refl D hr.units0 hF I.ok.mod.kin J hobj (sub_of_kit ki) ?_ (hth j t a)
  rw [he]
  unfold tryCompare
  refine wpAny_bind (PySem.W.ifBound_K I.kIn J hM.hs hM.hf (wpAny_mono hc (fun v s' hv => ?_) fun _ _ e => e))
  cases v <;> first | exact hv.elim | exact wpAny_pure ⟨_, rfl, hv⟩
/-- int != own -/
def rReflN (X : Cx) : R2 := fun x y H Q => ∃ (j : Int) (a C dx : Addr) (fs : List (Str × V)) (f : Addr) (CX : CXT) (k : Nat) (sp : Sp) (E : XK),
  x = .int j ∧ y = .ref a ∧ H a = some (.ins C dx fs) ∧ NeM X.K C f ∧ PySem.W.kitOne X.K (.ref C) (.type "int") = some false ∧ FnR X.prog X.w X.K X.mg X.base CX k f sp ∧ Room (k + 1) X.A ∧ Passes CX X E ∧ sp [y, x] H (fun v H1 => ∃ r, v = .bl r ∧ Q (.bl (!r)) H1) E
theorem op_reflN : OpR X (compareOp .NotEq) (rReflN X) := by
  intro pins s σ H x y v u Q I rx ry h
  obtain ⟨j, a, C, dx, fs, f, CX, k, sp, E, rfl, rfl, ha, hM, ki, F, hr, hx, hs⟩ := h
  obtain ⟨t, rfl⟩ := id rx
  obtain rfl : u = Value.ref a := ry
  have hc : wpAny (model X.prog X.w) X.A.in1 (call (.ref f) [.ref a, .int j t]) (fun v s' => ∃ r, v = .bool r ∧ EP X pins σ Q (.bool (!r)) s') X.xe s :=
    thn (wpAny_call (run_fnS (us := [.ref a, .int j t]) (vs := [.ref a, .int j]) ⟨hr.in1, rfl⟩ F hx I (.cons rfl (.cons rx .nil)) hs)) fun v s1 z => by
      obtain ⟨z, H1, I1, rz, r, rfl, q⟩ := z
      obtain rfl : v = Value.bool r := rz
      exact ⟨r, rfl, .bl (!r), H1, I1, rfl, q⟩
  obtain ⟨mA, J, _⟩ := ins_get I.hok ha
  have hobj := J.obj
  obtain ⟨od, J, _⟩ := J.look
  obtain ⟨m, hF⟩ := I.fr
  have hu : X.A.units + 1 < cLine := by have := hr.units; omega
  show wpAny (model X.prog X.w) X.A (richCompare .NotEq (.int j t) (.ref a)) (EP X pins σ Q) X.xe s
  exact cmp_refl (op := .NotEq) decC_ne (by omega) hF I.ok.mod.kin J hobj (sub_of_kit ki) (one_ne hu I.kIn J hM.hne hM.hs hM.hf hM.hm hc) (by rfl)
/-- own != a value of another built-in type -/
def rOwnNX (K : PySem.W.Frag) (C : Addr) (sp : Sp) (E : XK) : R2 := fun x y H Q => ∃ (a dx : Addr) (fs : List (Str × V)) (T : String), x = .ref a ∧ H a = some (.ins C dx fs) ∧ TyX K H y (.type T) ∧ PySem.W.notFirst K C (.type T) = true ∧ sp [x, y] H (fun v H1 => ∃ r, v = .bl r ∧ Q (.bl (!r)) H1) E
theorem op_ownNX {C f : Addr} {CX : CXT} {k : Nat} {sp : Sp} {E : XK} (hM : NeM X.K C f) (F : FnR X.prog X.w X.K X.mg X.base CX k f sp) (hr : Room (k + 1) X.A) (hx : Passes CX X E) : OpR X (compareOp .NotEq) (rOwnNX X.K C sp E) := by
  intro pins s σ H x y v u Q I rx ry h
  obtain ⟨a, dx, fs, T, rfl, ha, ty, nf, hs⟩ := h
  obtain rfl : v = Value.ref a := rx
  have hc : wpAny (model X.prog X.w) X.A.in1 (call (.ref f) [.ref a, u]) (fun v s' => ∃ r, v = .bool r ∧ EP X pins σ Q (.bool (!r)) s') X.xe s :=
    thn (wpAny_call (run_fnS (us := [.ref a, u]) (vs := [.ref a, y]) ⟨hr.in1, rfl⟩ F hx I (.cons rfl (.cons ry .nil)) hs)) fun v s1 z => by
      obtain ⟨z, H1, I1, rz, r, rfl, q⟩ := z
      obtain rfl : v = Value.bool r := rz
      exact ⟨r, rfl, .bl (!r), H1, I1, rfl, q⟩
  obtain ⟨mA, J, _⟩ := ins_get I.hok ha
  obtain ⟨od, J, _⟩ := J.look
  obtain ⟨m, hF⟩ := I.fr
  obtain ⟨Pz, Z, pz, _⟩ := kit_of I ry ty
  have hu : X.A.units + 1 < cLine := by have := hr.units; omega
  show wpAny (model X.prog X.w) X.A (richCompare .NotEq (.ref a) u) (EP X pins σ Q) X.xe s
  exact ne_K (tb := .type T) hu hF I.ok.mod.kin J (Z.ty _ _ I.kIn pz) nf hM.hne hM.hs hM.hf hM.hm hc
/-- e is True, e is False -/
theorem op_isB : OpR X (compareOp .Is) (fun x y H Q => ∃ a b, x = .bl a ∧ y = .bl b ∧ Q (.bl (a == b)) H) := by
  intro pins s σ H x y v u Q I rx ry h
  obtain ⟨a, b, rfl, rfl, q⟩ := h
  obtain rfl : v = Value.bool a := rx
  obtain rfl : u = Value.bool b := ry
  have e : compareOp .Is (.bool a) (.bool b) = (do return .bool (← isSame (.bool a) (.bool b))) := rfl
  rw [e]
  refine wpAny_bind ?_
  have e2 : isSame (.bool a) (.bool b) = pure (a == b) := by cases a <;> cases b <;> rfl
  rw [e2]
  exact wpAny_pure (wpAny_pure ⟨.bl (a == b), H, I, rfl, q⟩)
end
end AZ

set_option Elab.async false
set_option maxRecDepth 100000
set_option maxHeartbeats 4000000
set_option linter.all false
/-! Own work: defs that make lambdas; comparisons of all kinds. -/
namespace AZ
open PySem L2 PyProof.Rows LamX
section
variable {P : Program} {w : World} {K : PySem.W.Frag} {mg : Str → Option Value} {base : Heap} {k : Nat} {f : Addr} {sp : Sp} {x qual : Str} {st : Stmt} {fd : FuncData} {N ps : List Str}
/-- a def by its body, its code object known -/
theorem fnC_of (F : Fun K x qual st f fd) (S : FnScope N ps (defScope st)) (len : ∀ vs H Q E, sp vs H Q E → vs.length = ps.length)
    (bd : ∀ (cdv : Value) (A : Around) (out : List Env) (z : Shared) (G : Hp) (vs : List V) (Q : VK) (E : XK), (∀ o fd', K.lookup f = some o → o.data = .func fd' → fd'.code = cdv) → NoG (A.deeper (envOfC qual (defScope st) z.heap.objs.size f cdv)) →
      Room k (A.deeper (envOfC qual (defScope st) z.heap.objs.size f cdv)) → sp vs G Q E →
      ∃ t, PSs (cxOf CX0 P w K mg base N qual (defScope st) f cdv A out z G E).nox (defBody st) t ∧ t { nx := fun _ H' => Q .non H', rt := Q } (start N vs) G)
    (hb : Binds K fd ps []) : FnG P w K mg base CX0 (k + 1) f sp := by
  obtain ⟨oc, od, kV, doc, pm, an, cdv, ct, osl, rfl, look, rec⟩ := F.ex
  intro A out z G us vs Q E ng room env vals prom
  have keep : ∀ b o, base.get? b = some o → z.heap.get? b = some o := fun b o e => (env.bs b o e).1
  have kin := kin0 env
  have many : us.length = ps.length := vals.length.symm.trans (len _ _ _ _ prom)
  have bnd := hb z us kin (by rw [List.append_nil]; exact many)
  rw [List.append_nil] at bnd
  have kinds : ∀ y ∈ ps.zip us, (defScope st).names.lookup y.1 = some .local ∨
      ((defScope st).names.lookup y.1 = some .cell ∧ ((cellsFrom (z.heap.objs.size + 1) (defScope st).names []).lookup y.1).isSome = true) := by
    rintro ⟨n, v⟩ there
    exact (S.par n (List.of_mem_zip there).1).imp id fun c => ⟨c, PySem.W.cellsFrom_some _ _ _ (.inl c)⟩
  refine codeAny_call_function room.depth (kin _ _ look) rfl S.co S.gen rfl (PySem.W.codeRec_of kin rec) (bnd _ _ _ _ (wpAny_newFunctionEnv_cells S.kind kinds ?_))
  rintro env2 rfl z1 made
  refine ⟨(env.mod.nolimit.keeps keep).keeps made.toInCall.keep, codeAny_func ?_⟩
  obtain ⟨t, body, run⟩ := bd cdv A out z G vs Q E (fun o fd' h1 h2 => by rw [look] at h1; cases h1; cases h2; rfl) (ng.deeper _) (room.deeper _) prom
  exact wpAny_mono (body.nox.run [] z1 (start N vs) G _ (inv_start S room.hd env (len _ _ _ _ prom) vals made) run) (fun fl z2 q => ends_CR q) fun e z2 q => q
end
theorem TabK.code_eq {K : PySem.W.Frag} {f c P : Addr} {cdv : Value} (t : TabK K f c P) (h : ∀ o fd', K.lookup f = some o → o.data = .func fd' → fd'.code = cdv) : cdv = .ref c := by
  obtain ⟨o, fd', h1, h2, h3⟩ := t.fn
  rw [← h o fd' h1 h2, h3]
/-! ## what stays beside a growing table -/
theorem Tabs.up {T : List (Addr × Str)} {H H' : Hp} {p : Addr} (t : Tabs T H) (e : Up p H H') : Tabs T H' := fun q hq => by
  obtain ⟨ps, h1, h2, h3⟩ := t q hq
  refine ⟨ps, e _ _ h1 fun _ => rfl, h2, fun pos cv hc => ?_⟩
  obtain ⟨c, e1, e2⟩ := h3 pos cv hc
  exact ⟨c, e1, e _ _ e2 fun _ => rfl⟩
theorem ExtN.same {H H' : Hp} (e : Same H H') : ExtN H H' := fun b o h _ => e b o h
section
variable {K : PySem.W.Frag} {H H' : Hp}
theorem sqL_ext {a : Addr} {xs : List V} (e : ExtN H H') (h : SqL K H a xs) : SqL K H' a xs := h.elim (fun h => Or.inl (h.elim (fun q => Or.inl (e _ _ q fun _ z => nomatch z)) fun ⟨o, q⟩ => Or.inr ⟨o, e _ _ q fun _ z => nomatch z⟩)) Or.inr
theorem sqT_ext {a : Addr} {xs : List V} (e : ExtN H H') (h : SqT K H a xs) : SqT K H' a xs := h.elim (fun h => Or.inl (h.elim (fun q => Or.inl (e _ _ q fun _ z => nomatch z)) fun ⟨o, q⟩ => Or.inr ⟨o, e _ _ q fun _ z => nomatch z⟩)) Or.inr
mutual
theorem dp_ext (e : ExtN H H') : ∀ {v : V} {d : PyData}, Dp K H v d → Dp K H' v d
  | _, _, .non => .non
  | _, _, .bl b => .bl b
  | _, _, .int i => .int i
  | _, _, .str x => .str x
  | _, _, .lst h r => .lst (sqL_ext e h) (dpAll_ext e r)
  | _, _, .tup h r => .tup (sqT_ext e h) (dpAll_ext e r)
theorem dpAll_ext (e : ExtN H H') : ∀ {vs : List V} {ds : List PyData}, DpAll K H vs ds → DpAll K H' vs ds
  | _, _, .nil => .nil
  | _, _, .cons h r => .cons (dp_ext e h) (dpAll_ext e r)
end
theorem Sh.ext {v : V} {d : PyData} (e : ExtN H H') (h : Sh K H v d) : Sh K H' v d := match h with
  | .dp h n => .dp (dp_ext e h) n
  | .dict h => .dict (e _ _ h fun _ z => nomatch z)
end
/-- the promise of a def that tells what its argument, a call, raises: ("ratio", repr of the value) -/
def TTh (K : PySem.W.Frag) (CB : Addr) : (XK → Hp → VK → Prop) → Hp → VK → Prop := fun tl H Q => ∃ v e, Sh K H v e ∧ Shn e ∧ (∀ Q', tl (fun cls dd H' => cls = .ref CB ∧ ∃ dx, dd = some dx ∧ H dx = none ∧ H' = upd H dx (.xd [("value", v)])) H Q') ∧
  ∀ t H', Same H H' → H' t = some (.tup [.str "ratio", .str e.shown]) → Q (.ref t) H'
theorem Sx.hd {K : PySem.W.Frag} {S : Addr} {nm : Str} (x : Sx K S nm) : PySem.W.hasDictIn K S = true := by
  obtain ⟨q, N, bs, sn, sub, ab, col, dd, k0, k1, k2, k3, k5, h⟩ := x.lk
  have e : PySem.W.clsIn K S = some { name := nm, bases := bs, mro := .ref S :: PySem.HandSPX.veTail, ns := N, qualname := q, hasDict := true, slotNames := sn, subclasses := sub, abstract := ab, collection := col, hasDel := false } := by
    unfold PySem.W.clsIn; rw [h]
  unfold PySem.W.hasDictIn
  rw [e]
  simp
theorem Sx.mro {K : PySem.W.Frag} {S : Addr} {nm : Str} (x : Sx K S nm) (b : Value) : PySem.W.mroIn K S b = some ((.ref S :: PySem.HandSPX.veTail).contains b) := by
  obtain ⟨cd, h, m, _⟩ := x.cls
  unfold PySem.W.mroIn
  rw [h, Option.bind_some, m]; rfl
/-- an except clause of the base lets all below it in -/
theorem Ex.exm {K : PySem.W.Frag} {S C fI : Addr} {nm ns : Str} (x : Ex K S C fI nm) (s : Sx K S ns) : PySem.W.exmOne K (.ref C) (.ref S) = some true :=
  PySem.W.exm_ref ((s.mro _).trans (by simp [PySem.HandSPX.veTail])) s.hd s.ty ((x.mro _).trans (by simp [PySem.HandSPX.veTail]))
end AZ

set_option Elab.async false
set_option maxRecDepth 100000
set_option maxHeartbeats 4000000
set_option linter.all false
/-! Own work: the truth of own values; comparisons with an int on either side. -/
namespace AZ
open PySem PySem.Spec PySem.W PySem.Calls PyProof.Rows
section
variable {prog : Program} {w : World} {A : Around} {E : Value → Shared → Prop} {s : Shared} {K : Frag} {x C L f : Addr} {h₀ : Heap} {m : Str → Option Value} {ox : Obj} {od : Option Obj}
theorem bool_own {Q : Value → Shared → Prop} (F : Fr h₀ L s.heap m) (X₀ : K.In h₀) (I : InstAt s.heap x ox C od) (hs : findIn K (.ref C) "__bool__" = some (some (.ref f))) (hf : isFn K (.ref f) = true)
    (h : wpAny (model prog w) A.in1.in1 (call (.ref f) [.ref x]) (PySem.W.BoolBack fun b => Q (.bool b)) E s) : wpAny (model prog w) A (call (.type "bool") [.ref x]) Q E s := by
  refine callType_codes (T := "bool") (Bi := Builtin.«object.__init__») (Q₁ := fun r s₁ => ∃ b, r = .bool b ∧ Q r s₁) PySem.F.called_bool (PySem.F.typeCall_bool_1 _) PySem.F.entry_object_init ?_ ?_
  · refine codeAny_of_tree ?_
    show wpAny _ A.in1.in1 (do checkBuiltinCall "bool.__new__" ⟨[.type "bool", .ref x], []⟩; again (.builtin "bool.__new__" ⟨[.type "bool", .ref x], []⟩)) _ _ s
    refine wpAny_bind (wpAny_of_eq (PySem.F.newCall_bool_1 _) (wpAny_pure ⟨plainId_quiet (by decide +kernel) _, codeAny_builtin PySem.F.entry_bool_new ?_⟩))
    rw [Around.under_plainId (by decide +kernel) _]
    have tr : wpAny (model prog w) A.in1.in1 (truthy (.ref x)) (fun b s₁ => Q (.bool b) s₁) E s := truthy_K F X₀ I hs hf h
    have f1 := PySem.F.conv_sub_bool
    unfold Builtin.«bool.__new__»
    refine wpAny_bind (wpAny_pure ?_)
    refine wpAny_bind (wpAny_of_eq f1 ?_)
    refine wpAny_bind (wpAny_pure ?_)
    exact wpAny_bind (wpAny_mono tr (fun b s₁ hb => wpAny_pure ⟨_, rfl, hb⟩) fun _ _ y => y)
  · rintro obj s₁ ⟨b, rfl, hq⟩
    exact ⟨PySem.typeIs_bool _ _, PySem.F.args_object_init_2 _ _, object_init_meets PySem.F.called_bool.init.lookup PySem.F.called_bool.made (by decide) prog w A.in1 _ s₁ ⟨PySem.typeIs_bool _ _, rfl, hq⟩⟩
end
end AZ
namespace AZ
open PySem L2 PyProof.Rows
/-- what the truth of an instance asks of the class at C: its own __bool__ at f -/
structure BoolM (K : PySem.W.Frag) (C f : Addr) : Prop where
  hs : PySem.W.findIn K (.ref C) "__bool__" = some (some (.ref f))
  hf : PySem.W.isFn K (.ref f) = true
section
variable {X : Cx} {a : Expr} {ta : TE} {pos : Pos}
theorem boolBack_of {pins : List (Addr × Obj)} {σ : L2.St} {Q : Bool → Hp → Prop} {v : Value} {s : Shared} {R : Bool → Shared → Prop} (k : ∀ b s' H', Inv X pins σ H' s' → Q b H' → R b s') (h : EP X pins σ (fun v H1 => ∃ z, v = .bl z ∧ Q z H1) v s) : PySem.W.BoolBack R v s := by
  obtain ⟨z, H1, I1, rz, y, rfl, q⟩ := h
  obtain rfl : v = Value.bool y := rz
  exact k _ _ _ I1 q
def rBoolO (X : Cx) (d : Nat) (x : V) (H : Hp) (Q : Bool → Hp → Prop) : Prop := ∃ (a C dx : Addr) (fs : List (Str × V)) (f : Addr) (CX : CXT) (k : Nat) (sp : Sp) (E : XK),
  x = .ref a ∧ H a = some (.ins C dx fs) ∧ BoolM X.K C f ∧ FnR X.prog X.w X.K X.mg X.base CX k f sp ∧ Room (k + d) X.A ∧ Passes CX X E ∧ sp [x] H (fun v H1 => ∃ z, v = .bl z ∧ Q z H1) E
/-- bool(x) -/
theorem call_boolO : CallR X (.type "bool") (fun xs H Q => ∃ x, xs = [x] ∧ rBoolO X 2 x H fun b H1 => Q (.bl b) H1) := by
  intro pins s σ H xs us Q I rv q
  obtain ⟨x, rfl, a, C, dx, fs, f, CX, k, sp, E, rfl, ha, hM, F, hr, hx, hs⟩ := q
  cases rv with
  | cons r1 r2 =>
    cases r2
    cases r1
    have hc : wpAny (model X.prog X.w) X.A.in1.in1 (call (.ref f) [.ref a]) (PySem.W.BoolBack fun b => EP X pins σ Q (.bool b)) X.xe s :=
      thn (wpAny_call (run_fnS (us := [.ref a]) (vs := [.ref a]) ⟨hr.in1.in1, rfl⟩ F hx I (.cons rfl .nil) hs)) fun v s3 z => boolBack_of (fun b s' H' I' q => ⟨.bl b, H', I', rfl, q⟩) z
    obtain ⟨mA, J, _⟩ := ins_get I.hok ha
    obtain ⟨od, J, _⟩ := J.look
    obtain ⟨m, hF⟩ := I.fr
    exact bool_own hF I.ok.mod.kin J hM.hs hM.hf hc
theorem uBool : CallR X (.type "bool") (fun xs H Q => ((∃ i, xs = [.int i] ∧ Q (.bl (i != 0)) H) ∨ ∃ k, xs = [.bl k] ∧ Q (.bl k) H) ∨ ∃ x, xs = [x] ∧ rBoolO X 2 x H fun b H1 => Q (.bl b) H1) := CallR.or' call_bool1 call_boolO
/-- not x, x an own value -/
theorem pe_notO (ha : PE X a ta) : PE X (.UnaryOp .Not a pos) (fun σ H Q => ta σ H fun x H1 => rBoolO X 0 x H1 fun b H2 => Q (.bl (!b)) H2) := by
  refine ⟨fun pins s σ H Q I h => ?_⟩
  refine UnaryOp_ (thn (ha.run pins s σ H _ I h) fun v s1 ⟨x, H1, I1, r1, a, C, dx, fs, f, CX, k, sp, E, ex, e, hM, F, hr, hx, hs⟩ => ?_)
  subst ex
  obtain rfl : v = Value.ref a := r1
  have hc : wpAny (model X.prog X.w) X.A (call (.ref f) [.ref a]) (PySem.W.BoolBack fun b => EP X pins σ Q (.bool (!b))) X.xe s1 :=
    thn (wpAny_call (run_fnR (us := [.ref a]) (vs := [.ref a]) F hr hx I1 (.cons rfl .nil) hs)) fun v s3 z => boolBack_of (fun b s' H' I' q => ⟨.bl (!b), H', I', rfl, q⟩) z
  obtain ⟨mA, J, _⟩ := ins_get I1.hok e
  obtain ⟨od, J, _⟩ := J.look
  obtain ⟨m, hF⟩ := I1.fr
  exact not_of (PySem.W.truthy_K hF I1.ok.mod.kin J hM.hs hM.hf hc)
theorem uLtR : OpR X (compareOp .Lt) (orR (rI0 fun i j => .bl (decide (i < j))) (orR (rOwnC X .Lt) (rReflC X .Gt))) := op_or2 op_lt (op_or2 (op_ownC _) (op_reflC .Gt rfl decC_lt))
theorem uLeR : OpR X (compareOp .LtE) (orR (rI0 fun i j => .bl (decide (i ≤ j))) (orR (rOwnC X .LtE) (rReflC X .GtE))) := op_or2 op_le (op_or2 (op_ownC _) (op_reflC .GtE rfl decC_le))
theorem uGtR : OpR X (compareOp .Gt) (orR (rI0 fun i j => .bl (decide (j < i))) (orR (rOwnC X .Gt) (rReflC X .Lt))) := op_or2 op_gt (op_or2 (op_ownC _) (op_reflC .Lt rfl decC_gt))
theorem uGeR : OpR X (compareOp .GtE) (orR (rI0 fun i j => .bl (decide (j ≤ i))) (orR (rOwnC X .GtE) (rReflC X .LtE))) := op_or2 op_ge (op_or2 (op_ownC _) (op_reflC .LtE rfl decC_ge))
end
end AZ

set_option Elab.async false
set_option maxRecDepth 100000
set_option maxHeartbeats 4000000
set_option linter.all false
/-! Own work: list comprehensions out of which errors come. -/
namespace AZ
open PySem L2 PySem.Spec PyProof.Rows
section
variable {M : Model} {A : Around} {E : Value → Shared → Prop} {s : Shared} {env : Env}
/-- what must hold behind a block that may raise, its environment told -/
def xPost (M : Model) (A : Around) (E : Value → Shared → Prop) (use : Option (Value → Sem Unit)) (Q : Value → Shared → Prop) (L : Value) (ce : Env) : Result → Shared → Prop
  | .ok f, t => compPost M A E use Q L ce.locals (.ok f) t
  | .error u, t => ∃ m, t.heap.Ns ce.locals m ∧ ∀ g, Heap.SameBut ce.locals t.heap g → wpAny M A (passOn "comprehension.variables-let-go" u ce : Sem Value) (fun _ _ => False) E { t with heap := g }
theorem compr_x {ex : Expr} {sc : Scope} {pos : Pos} {mk fst : Sem Value} {g : Comprehension} {gs : List Comprehension} {cl : List (Str × Addr)} {use : Option (Value → Sem Unit)} {Q : Value → Shared → Prop}
    (e1 : clausesOf ex = g :: gs) (e2 : ∀ x, foldedSetIterable g.iter env x = pure x) (e3 : closureFor sc env = pure cl) (e4 : sc.kind = .function) (e5 : ∀ x ∈ sc.names, x.2 = .local → sc.names.lookup x.1 = some .local)
    (run : wpAny M A fst (fun x t1 => wpAny M A (pyIter x) (fun it t2 => wpAny M A mk (fun L t3 =>
      wpAny M A (newFunctionEnv sc env.globals cl [] env.qual none .none (some env))
        (fun ce t4 => codeAny M A (.compStart ex 0 it L { ce with scope := relabel sc env }) (xPost M A E use Q L { ce with scope := relabel sc env }) t4) E t3) E t2) E t1) E s) :
    wpAny M A (comprehension ex sc env pos mk false fst use) Q E s := by
  unfold comprehension
  rw [e3, e1]
  refine wpAny_bind (thn run fun x t1 r1 => wpAny_bind (wpAny_standAt (wpAny_bind (wpAny_of_eq (e2 x) (wpAny_bind (wpAny_holding (thn r1 fun it t2 r2 => ?_)))))))
  refine wpAny_standIf (wpAny_bind (thn r2 fun L t3 r3 => wpAny_bind (wpAny_pure (wpAny_bind (thn r3 fun ce t4 r4 => ?_)))))
  have kind : Scope.kind (Env.scope { ce with scope := relabel sc env }) = .function := e4
  have loc : ∀ x ∈ (sc.names.filter fun x => (x.2 == .local || x.2 == .cell) && x.1 != (".0" : Str)).reverse, x.2 = .local → Env.kindOf { ce with scope := relabel sc env } x.1 = some .local :=
    fun x hx hl => lookup_relabel_local (e5 x (List.mem_filter.mp (List.mem_reverse.mp hx)).1 hl)
  have loc' : ∀ x ∈ (sc.names.filter fun x => (x.2 == .local || x.2 == .cell) && x.1 != (".0" : Str)).reverse.drop 1 ++ (sc.names.filter fun x => (x.2 == .local || x.2 == .cell) && x.1 != (".0" : Str)).reverse.take 1,
      x.2 = .local → Env.kindOf { ce with scope := relabel sc env } x.1 = some .local :=
    fun x hx hl => (List.mem_append.mp hx).elim (fun z => loc x (List.mem_of_mem_drop z) hl) fun z => loc x (List.mem_of_mem_take z) hl
  dsimp only
  refine wpAny_holding (wpAny_bind (wpAny_attempt (wpAny_holding (wpAny_run (codeAny_mono r4 fun r t5 hr => ?_)))))
  match r, hr with
  | .error u, hr =>
    obtain ⟨m, hn, hr⟩ := hr
    exact wpAny_bind (wpAny_holding (wpAny_comp_letGo (cenv := { ce with scope := relabel sc env }) kind _ t5 m loc hn fun h' _ _ sb => wpAny_mono (hr h' sb) (fun _ _ z => z.elim) fun _ _ z => z))
  | .ok f, hr =>
    cases use with
    | none =>
      obtain ⟨m, hn, hr⟩ := hr
      exact wpAny_bind (wpAny_holding (wpAny_comp_letGo (cenv := { ce with scope := relabel sc env }) kind _ t5 m loc hn fun h' _ _ sb => wpAny_pure (hr h' sb)))
    | some u =>
      refine wpAny_bind (wpAny_rule (wpAny_bind (wpAny_holding (thn hr fun _ t6 hr' => ?_))))
      obtain ⟨m, hn, hr'⟩ := hr'
      exact wpAny_bind (wpAny_comp_letGo (cenv := { ce with scope := relabel sc env }) kind _ t6 m loc' hn fun h' _ _ sb => wpAny_pure (hr' h' sb))
end
theorem note_frame {x : Value} {e1 e2 : Env} (h : e1.frame = e2.frame) : noteFrame x e1 = noteFrame x e2 := by
  unfold noteFrame PySem.frameOf
  rw [h]
theorem ff_but {B B' h h' : Heap} {C : Addr} (k : ∀ b, b ≠ C → h'.get? b = h.get? b) (n : ∀ b, B.get? b = none → B'.get? b = none) : ∀ {l : List Env}, h.FunFrames B l → C ∉ frs l → h'.FunFrames B' l
  | [], _, _ => trivial
  | env :: l, ⟨k1, ⟨L, o, hf, hB, ho, hd⟩, r⟩, nc => by
    have q : ∀ b, b ∈ frs (env :: l) → b ≠ C := fun b hb z => nc (z ▸ hb)
    refine ⟨k1, ⟨L, o, hf, n L hB, ?_, hd⟩, ff_but k n r fun z => ?_⟩
    · rw [k L (q L (List.mem_filterMap.mpr ⟨env, List.mem_cons_self, hf⟩))]; exact ho
    · obtain ⟨e, he, z⟩ := List.mem_filterMap.mp z
      exact nc (List.mem_filterMap.mpr ⟨e, List.mem_cons_of_mem _ he, z⟩)
/-- the block's context, with a wish about errors -/
abbrev blkX (X : Cx) (s : Shared) (H : Hp) (scope : Scope) (ce : Env) (fp : List Addr) (xe : Value → Shared → Prop) : Cx := { X.blk s H scope ce fp with xe := xe }
section
variable {X : Cx} {pins : List (Addr × Obj)} {σ : L2.St} {H3 : Hp} {s3 : Shared} {E : XK}
/-- what a call in the block lets out goes out of the def, too -/
theorem blk_passes (tk : L2.Takes X (fun cls d _ H => E cls d H)) (hs : X.stack = X.env :: X.outer) (hf : X.env.frame = some X.env.locals) {scope : Scope} {ce : Env} {fp : List Addr} {L : Value} {use : Option (Value → Sem Unit)} {Qf : Value → Shared → Prop}
    (I3 : Inv X pins σ H3 s3) (f3 : ∀ b ∈ fp, FpOk X pins H3 b) (cL : ce.locals = s3.heap.objs.size) (cF : ce.frame = X.env.frame) :
    Passes (CXx X.prog X.w) (blkX X s3 H3 scope ce fp (notedBy (model X.prog X.w) X.A ce fun e s' => xPost (model X.prog X.w) X.A X.xe use Qf L ce (.error e) s')) E := by
  intro pins' σ' H s u s' I c
  have J : Inv X pins σ H s := I3.call' (ch := fp) I.os I.base I.hok I.bare fun b hb => ⟨(f3 b hb).2.2.2.1, (f3 b hb).2.1, (f3 b hb).2.2.2.2.1, (f3 b hb).2.2.2.2.2⟩
  obtain ⟨a, B, H', cls, d, rfl, fl, hok, ub, na, os, ag, hE⟩ := c
  obtain ⟨m, hn, _⟩ := I.loc
  have nC : H ce.locals = none := I.free
  have hn : s.heap.Ns ce.locals m := hn
  obtain ⟨oC, esC, epC, gC, rC⟩ := hn
  generalize hC : ce.locals = C at *
  have cle : s3.heap.objs.size ≤ C := Nat.le_of_eq cL.symm
  have nfC : C ∉ frs X.stack := fun z => by
    rcases List.mem_cons.mp (I3.stkSub C z) with z | z
    · exact Nat.lt_irrefl _ (Nat.lt_of_lt_of_le I3.lt (z ▸ cle))
    · exact I3.nofs cle z
  have BC : B.get? C = some oC := ub.keep C oC gC nC nfC
  have nC' : H' C = none := ub.free C oC gC nC
  have hfr : X.A.frames = some (X.env :: X.outer) := by rw [J.ok.frames, hs]
  show wpAny (model X.prog X.w) X.A (noteFrame (.ref a) ce) _ _ s'
  rw [note_frame cF]
  have fl' := fl
  rw [hs] at fl'
  refine HandSPX.looks_onZ L2.Zc.steady hfr hf fl' fun h1 hld up1 => ?_
  rw [← hs] at hld
  obtain ⟨k1, k2, k3, oe, vs, T, oT, ts, he, hz, hd, g1, hnT, hTe, hT, hdT, g3⟩ := hld
  show ∃ m, Heap.Ns h1 ce.locals m ∧ _
  rw [hC]
  refine ⟨m, ⟨oC, esC, epC, k1 C oC BC, rC⟩, fun h2 sb => ?_⟩
  have aC : a ≠ C := fun z => by rw [z, BC] at k2; cases k2
  have TC : T ≠ C := fun z => by rw [z, BC] at hnT; cases hnT
  have e2 : ∀ b, b ≠ C → h2.get? b = h1.get? b := fun b hb => sb.2 b hb
  -- the ground without the block's variables
  generalize hB : PySem.W.hideAll B [C] = B'
  have ofB : ∀ b o, B'.get? b = some o → B.get? b = some o := fun b o e => by rw [← hB] at e; exact PySem.W.of_hideAll _ e
  have toB : ∀ b o, b ≠ C → B.get? b = some o → B'.get? b = some o := fun b o hb e => by rw [← hB]; exact PySem.W.hideAll_get _ e (by simp [hb])
  have noC : B'.get? C = none := by rw [← hB]; exact PySem.W.hideAll_none _ (by simp)
  have nB : ∀ b, B.get? b = none → B'.get? b = none := fun b e => by
    cases q : B'.get? b with
    | none => rfl
    | some o => rw [ofB b o q] at e; cases e
  have st2 : B'.StaysIn h2 := fun b o e => by
    have hb : b ≠ C := fun z => by rw [z, noC] at e; cases e
    rw [e2 b hb]
    exact k1 b o (ofB b o e)
  have ff2 : h2.FunFrames B' X.stack := ff_but e2 nB k3 nfC
  have tz : HandSPX.TracedZ h2 B' a (L2.Zc cls d) (rawInt X.env.locals) := ⟨oe, vs, T, oT, ts, (e2 a aC).trans he, hz, hd, g1, nB T hnT, hTe, (e2 T TC).trans hT, hdT, g3⟩
  unfold PySem.passOn
  refine wpAny_bind (wpAny_field ((e2 a aC).trans he) hd g1 ?_)
  rw [if_neg (by simp)]
  refine wpAny_bind ?_
  refine HandSPX.setFlight_anyZ (base := B') (l := X.stack) (fl := rawInt X.env.locals) (fr := ce.frame) st2 ff2 tz fun h4 q1 q2 q3 up4 => wpAny_throw (tk _ _ ?_)
  have ef : ce.frame = some X.env.locals := cF.trans hf
  rw [ef] at q3
  have slots : ∀ b ∈ frs X.stack, ∀ o, s.heap.get? b = some o → ∃ sl, h4.get? b = some { o with slots := sl } := fun b hb o e => by
    obtain ⟨_, o', e', hnd⟩ := J.stack.mem hb
    rw [e] at e'; cases e'
    obtain ⟨sl, x1⟩ := ub.slot b o e hb
    obtain ⟨sl2, x2⟩ := up1 b _ x1 hnd
    have x3 : h2.get? b = some _ := (e2 b fun z => nfC (z ▸ hb)).trans x2
    obtain ⟨sl3, x4⟩ := up4 b _ x3 hnd
    exact ⟨sl3, x4⟩
  obtain ⟨G, G1, G2⟩ := L2.restrict h4 fun b => (B'.get? b).isSome || decide (b ∈ frs X.stack)
  have gB : ∀ b o, B'.get? b = some o → G.get? b = some o := fun b o e => by
    rw [G1 b (by simp [e])]
    exact q1 b o e
  have gF : ∀ b, b ∈ frs X.stack → G.get? b = h4.get? b := fun b hb => G1 b (by simp [hb])
  have og : ∀ b o, G.get? b = some o → h4.get? b = some o ∧ ((B'.get? b).isSome = true ∨ b ∈ frs X.stack) := fun b o e => by
    cases q : ((B'.get? b).isSome || decide (b ∈ frs X.stack)) with
    | false => rw [G2 b q] at e; cases e
    | true =>
      rw [G1 b q] at e
      exact ⟨e, by simpa [Bool.or_eq_true] using q⟩
  have ne1 : ∀ b, b ∉ [C] → b ≠ C := fun b hb z => hb (by simp [z])
  have fo := I3.fpOk (b := C) (H' := H) cle nC
  refine ⟨a, B', { s with heap := G, gens := s'.gens, drawn := s'.drawn, toks := s'.toks }, pins, σ, H', cls, d, rfl, ?_, fun b o e hb => ?_, Heap.UpToSlots.of_keeps fun b o e => (og b o e).1, .inr (.inr ⟨q1, nB a k2, q2, q3⟩), na, os, ag, hE⟩
  · refine J.call (ch := [C]) ⟨fun b o e n hb hc => gB b o (toB b o (ne1 b hc) (ub.keep b o e n hb)), fun b o e n hb hc => ?_, fun b o e n _ => ub.free b o e n, fun b o e hc => ?_, ub.tups, ub.frzs, ub.tbls⟩ ?_ ag fun b hb => ?_
    · rw [gF b hb]
      exact slots b hb o e
    · by_cases hb : b ∈ frs X.stack
      · obtain ⟨sl, q⟩ := slots b hb o e
        exact ⟨_, by rw [gF b hb]; exact q⟩
      · obtain ⟨o', q⟩ := ub.there b o e hb
        exact ⟨o', gB b o' (toB b o' (ne1 b hc) q)⟩
    · exact fun b v e => (hok b v e).stay (fun c x hc r => gB c x (toB c x (fun z => by
        rw [z] at hc
        rcases hc with hc | hc
        · rw [← hc, nC'] at e; cases e
        · rw [nC'] at hc; cases hc) r)) (fun _ r => r) fun _ _ r => r
    · have : b = C := by simpa using hb
      subst this
      exact ⟨fo.2.2.2.1, fo.2.1, fo.2.2.2.2.1, fo.2.2.2.2.2⟩
  · obtain ⟨e', h⟩ := og b o e
    rcases h with h | h
    · obtain ⟨o', q⟩ := Option.isSome_iff_exists.mp h
      have z := q1 b o' q
      rw [e'] at z; cases z
      exact q
    · exact absurd h hb
end
section
variable {X : Cx}
/-- the promise about a part of the block: wherever what calls let out is let out -/
def BlkPE (X : Cx) (E : XK) (scope : Scope) (elt : Expr) (te : TE) : Prop := ∀ (s : Shared) (H : Hp) (C : Addr) (cl : List (Str × Addr)) (fp : List Addr) (xe : Value → Shared → Prop),
  Passes (CXx X.prog X.w) (blkX X s H scope (compEnvC scope cl C X.env) fp xe) E → PE (blkX X s H scope (compEnvC scope cl C X.env) fp xe) elt te
theorem lcx_core {E : XK} {pins : List (Addr × Obj)} {s : Shared} {σ : L2.St} {H : Hp} {Q : VK} {elt tg iter : Expr} {scope : Scope} {own : List (Str × Nat)} {pos pos' : Pos} {wi : TI} {g : TG} {te : TE} {use : Option (Value → Sem Unit)} {Qf : Value → Shared → Prop}
    (tk : L2.Takes X (fun cls d _ H => E cls d H)) (hst : X.stack = X.env :: X.outer) (hfl : X.env.frame = some X.env.locals)
    (hc : X.calm = true) (hN : X.N.Nodup) (I : Inv X pins σ H s) (hi : PI X tg iter wi) (ok : BlkOk X.N X.env.scope scope own)
    (hg : ∀ (s : Shared) (H : Hp) (C : Addr) (cl : List (Str × Addr)) (fp : List Addr) (xe : Value → Shared → Prop), PG (blkX X s H scope (compEnvC scope cl C X.env) fp xe) tg g)
    (he : BlkPE X E scope elt te) (hs : ∀ x, foldedSetIterable iter X.env x = pure x)
    (h : tLc wi g tYes te (own.map (·.2)) σ H Q)
    (hRR : ∀ D C t m H', Inv X pins σ H' t → Q (.ref D) H' → t.heap.Ns C m → FpOk X pins H' C → compPost (model X.prog X.w) X.A X.xe use Qf (.ref D) C (.ok .next) t) :
    wpAny (model X.prog X.w) X.A (comprehension (.ListComp elt [⟨tg, iter, [], 0⟩] scope pos) scope X.env pos' (newList []) false (eval iter X.env) use) Qf X.xe s := by
  have cells : ∀ y ∈ scope.names, y.2 = .free → ∃ c, X.env.cells.lookup y.1 = some c := fun y hy e => (ok.free y hy e).elim (fun k => I.ok.has _ (.inl k)) fun k => I.ok.has _ (.inr k)
  refine compr_x (use := use) rfl hs (closure_ok cells) ok.kind (fun y hy e => by rw [ok.uniq y hy, e]) (thn (hi.run pins s σ H _ I h) fun xv s1 hx => thn hx fun itv s2 h2 => ?_)
  obtain ⟨it, fp, tn, J, H2, rfl, I2, T, st2, f2, q⟩ := h2
  refine wpAny_newObj_type (newEnv_comp ?_) (by show 0 ≤ sizeLine; decide)
  generalize hD : s2.heap.objs.size = D
  obtain ⟨W, ⟨m0, w0⟩, turn⟩ := q D (I2.hok.fresh (Nat.le_of_eq hD))
  generalize hs3 : ({ s2 with heap := s2.heap.push { cls := .type "list", data := .seq ([] : List Value).toArray } } : Shared) = s3
  have heap3 : s3.heap = s2.heap.push { cls := .type "list", data := .seq ([] : List Value).toArray } := by rw [← hs3]
  have I3 : Inv X pins σ (upd H2 D (.lst [])) s3 := by
    rw [← hs3]
    refine I2.laid (t' := s2.toks) (fun b o e => Heap.get?_push_of_some _ e) (Nat.le_of_eq hD) ⟨Nat.zero_le _, [], 0, .nil, ?_⟩
    rw [← hD]; exact Heap.get?_push_size _ rfl
  have f3 : ∀ b ∈ fp, FpOk X pins (upd H2 D (.lst [])) b ∧ b < s3.heap.objs.size := fun b hb => by
    obtain ⟨o, e, _⟩ := T.obj _ _ st2 b hb
    have hlt := Heap.lt_size e
    refine ⟨⟨?_, (f2 b hb).2⟩, by rw [heap3, Heap.size_push]; exact Nat.lt_succ_of_lt hlt⟩
    rw [upd_ne (by rw [← hD]; exact Nat.ne_of_lt hlt)]; exact (f2 b hb).1
  have st3 : tn 0 s3.heap := T.keep _ _ _ st2 fun b _ o e => by rw [heap3]; exact Heap.get?_push_of_some _ e
  have I4 := block_start I3 ok hN f3
  have pg := hg s3 (upd H2 D (.lst [])) s3.heap.objs.size (cellsFrom (s3.heap.objs.size + 1) scope.names (cloFrom X.env.cells scope.names [])) fp
  have pe := he s3 (upd H2 D (.lst [])) s3.heap.objs.size (cellsFrom (s3.heap.objs.size + 1) scope.names (cloFrom X.env.cells scope.names [])) fp
  generalize hce : compEnvC scope (cellsFrom (s3.heap.objs.size + 1) scope.names (cloFrom X.env.cells scope.names [])) s3.heap.objs.size X.env = ce at I4 pg pe
  have cL : ce.locals = s3.heap.objs.size := by subst hce; rfl
  have cF : ce.frame = X.env.frame := by subst hce; rfl
  have ps := blk_passes (scope := scope) (L := .ref D) (use := use) (Qf := Qf) tk hst hfl I3 (fun b hb => (f3 b hb).1) cL cF
  generalize hxe : (notedBy (model X.prog X.w) X.A ce fun e s' => xPost (model X.prog X.w) X.A X.xe use Qf (.ref D) ce (.error e) s') = xe at ps
  have pg := pg xe
  have pe := pe xe ps
  generalize hH3 : upd H2 D (.lst []) = H3 at I3 I4 pg pe w0 f3 ps
  generalize hs4 : ({ s3 with heap := pushCells (s3.heap.push { cls := .type "dict", data := .dict #[] }) scope.names } : Shared) = s4 at I4
  have I4 : Inv (blkX X s3 H3 scope ce fp xe) [] (wipe σ (own.map (·.2))) H3 s4 := ⟨⟨I4.ok.mod, I4.ok.kind, I4.ok.glob, I4.ok.blt, I4.ok.above, I4.ok.inj, I4.ok.has, I4.ok.cab, I4.ok.hd, I4.ok.frames, I4.ok.stk, I4.ok.exf, I4.ok.bs, I4.ok.bsz, I4.ok.noex, I4.ok.exfs, I4.ok.funs, I4.ok.frf⟩, I4.os, I4.bare, I4.base, I4.loc, I4.cell, I4.free, I4.freeC, I4.pin, I4.hok, I4.len⟩
  have st4 : tn 0 s4.heap := T.keep _ _ _ st3 fun b _ o e => by rw [← hs4]; exact pushCells_keeps _ _ _ _ (Heap.get?_push_of_some _ e)
  have stat : ∀ {σ' : L2.St} {H' : Hp} {s' : Shared}, Inv (blkX X s3 H3 scope ce fp xe) [] σ' H' s' → (∀ b ∈ fp, H' b = none) → ∀ b ∈ fp, FpOk (blkX X s3 H3 scope ce fp xe) [] H' b := fun I' hn b hb =>
    ⟨hn b hb, (I'.ok.exf b hb).1, I'.ok.exfs b hb, .inl hb, fun x c e => (I'.ok.exf b hb).2 x c e, fun p hp => absurd (show p ∈ ([] : List (Addr × Obj)) ++ [] from hp) (by simp)⟩
  have loop : codeAny (model X.prog X.w) X.A (.compLoop (.ListComp elt [⟨tg, iter, [], 0⟩] scope pos) 0 (.ref it) (.ref D) ce) (xPost (model X.prog X.w) X.A X.xe use Qf (.ref D) ce) s4 := by
    refine compLoop_any (fun n s' => ∃ i H', Inv (blkX X s3 H3 scope ce fp xe) [] (wipe σ (own.map (·.2))) H' s' ∧ tn i s'.heap ∧ (∀ b ∈ fp, H' b = none) ∧ W i n H') ?_ m0 ⟨0, H3, I4, st4, fun b hb => (f3 b hb).1.1, w0⟩
    rintro n s5 ⟨i, H5, I5, st5, n5, w5⟩
    rw [hxe]
    rcases turn i n H5 w5 with ⟨stop, qq⟩ | ⟨go, Nx, hNx, step⟩
    · refine thnF (T.done (blkX X s3 H3 scope ce fp xe) rfl rfl rfl hc i [] s5 _ H5 (fun _ _ => False) I5 (stat I5 n5) st5 stop) fun r s6 ⟨hr, I6⟩ => ?_
      subst hr
      have I7 : Inv X pins σ H5 s6 := I3.call' (ch := fp) I6.os I6.base I6.hok I6.bare fun b hb => ⟨(f3 b hb).1.2.2.2.1, (f3 b hb).1.2.1, (f3 b hb).1.2.2.2.2.1, (f3 b hb).1.2.2.2.2.2⟩
      have nC : H5 ce.locals = none := I6.free
      obtain ⟨m, hn, _⟩ := I6.loc
      exact hRR D ce.locals s6 m H5 I7 qq hn (I3.fpOk (Nat.le_of_eq cL.symm) nC)
    · refine thnF (T.item (blkX X s3 H3 scope ce fp xe) rfl rfl rfl hc i [] s5 _ H5 (fun _ _ => False) I5 (stat I5 n5) st5 go) fun r s6 ⟨u, hr, h6⟩ => ?_
      subst hr
      refine thnF h6 fun _ s7 ⟨x, H7, I7, r7, y7, st7, n7⟩ => ?_
      have I7' := I7.pinned (stat I7 n7) (T.obj _ _ st7)
      refine thn (pg.run _ s7 _ H7 x u _ I7' r7 (step x H7 y7)) fun _ s8 ⟨σ8, H8, I8, hw8, q8⟩ => ?_
      refine thn ((pts_nil (X := blkX X s3 H3 scope ce fp xe)).run _ s8 σ8 H8 _ I8 q8) fun b s9 ⟨H9, I9, q9⟩ => ?_
      have fin : ∀ {s' : Shared} {H' : Hp}, Inv (blkX X s3 H3 scope ce fp xe) ([] ++ pinsAt fp s7.heap) σ8 H' s' → Nx H' → ∃ m, m < n ∧ ∃ i H', Inv (blkX X s3 H3 scope ce fp xe) [] (wipe σ (own.map (·.2))) H' s' ∧ tn i s'.heap ∧ (∀ b ∈ fp, H' b = none) ∧ W i m H' := fun {s' H'} I' nx => by
        obtain ⟨m', hm, w'⟩ := hNx H' nx
        have pin' : ∀ b ∈ fp, ∀ o, s7.heap.get? b = some o → s'.heap.get? b = some o ∧ H' b = none := fun b hb o e =>
          (fun z => ⟨z.1, z.2.1⟩) (I'.pin (b, o) (List.mem_append_right _ (List.mem_append_right _ (mem_pinsAt hb e))))
        refine ⟨m', hm, i + 1, H', (I'.unpinned (pins := [])).weak (by rw [← hw8, wipe_length]) (fun j v e => (wipe_some (hw8 ▸ e)).1), T.keep _ _ _ st7 fun b hb o e => (pin' b hb o e).1, fun b hb => ?_, w'⟩
        obtain ⟨o, e, _⟩ := T.obj _ _ st7 b hb
        exact (pin' b hb o e).2
      match b, q9 with
      | false, q9 => exact fin I9 q9
      | true, q9 =>
        refine thn (pe.run _ s9 σ8 H9 _ I9 q9) fun z s10 ⟨yv, H10, I10, r10, acc, hD10, hz10, nx⟩ => ?_
        exact app_ok (X := blkX X s3 H3 scope ce fp xe) I10 hD10 hz10 r10 fun s11 I11 => fin I11 nx
  have fst := codeAny_compStart_list loop (T.self X.A 0 _ _ _ st4 loop)
  rw [← hce] at fst
  exact fst
/-- as a value -/
theorem pe_lcx {E : XK} {elt tg iter : Expr} {scope : Scope} {own : List (Str × Nat)} {pos : Pos} {wi : TI} {g : TG} {te : TE} (tk : L2.Takes X (fun cls d _ H => E cls d H)) (hst : X.stack = X.env :: X.outer) (hfl : X.env.frame = some X.env.locals)
    (hc : X.calm = true) (hN : X.N.Nodup) (hi : PI X tg iter wi) (ok : BlkOk X.N X.env.scope scope own)
    (hg : ∀ (s : Shared) (H : Hp) (C : Addr) (cl : List (Str × Addr)) (fp : List Addr) (xe : Value → Shared → Prop), PG (blkX X s H scope (compEnvC scope cl C X.env) fp xe) tg g)
    (he : BlkPE X E scope elt te) (hs : ∀ x, foldedSetIterable iter X.env x = pure x := by intro _; rfl) :
    PE X (.ListComp elt [⟨tg, iter, [], 0⟩] scope pos) (tLc wi g tYes te (own.map (·.2))) := by
  refine ⟨fun pins s σ H Q I h => ?_⟩
  rw [eval_ListComp]
  refine lcx_core tk hst hfl hc hN I hi ok hg he hs h fun D C t m H' I' q hn ⟨f0, f1, f2, f3, f4, f5⟩ => ⟨m, hn, fun h'' sb => ?_⟩
  exact ⟨.ref D, H', I'.turned (t' := t.toks) (fun b o hb e => (sb.2 b hb).trans e) f0 f1 f3 f4 f5, rfl, q⟩
end
end AZ
/-! ## more of promises that may raise -/
namespace AZ
open PySem L2 PyProof.Rows
section
variable {P : Program} {w : World} {K : PySem.W.Frag} {mg : Str → Option Value} {base : Heap} {CX : CXT} {k j : Nat} {f : Addr} {sp sp' : Sp} {x qual : Str} {st : Stmt} {fd : FuncData} {N ps : List Str}
theorem FnG.toX (F : FnG P w K mg base CX0 k f sp) : FnG P w K mg base CX k f sp := fun A out z G us vs Q E ng room env vals prom =>
  codeAny_mono (F A out z G us vs Q E ng room env vals prom) fun r s' q => match r, q with
    | .error _, q => q.elim
    | .ok (.ret _), q => q
    | .ok .next, q => q.elim
    | .ok .brk, q => q.elim
    | .ok .cont, q => q.elim
theorem FnG.up (F : FnG P w K mg base CX j f sp) (h : j ≤ k) : FnG P w K mg base CX k f sp := fun A out z G us vs Q E ng room env vals prom => F A out z G us vs Q E ng (room.mono h) env vals prom
theorem FnG.or (F : FnG P w K mg base CX k f sp) (F' : FnG P w K mg base CX k f sp') : FnG P w K mg base CX k f (fun vs H Q E => sp vs H Q E ∨ sp' vs H Q E) := fun A out z G us vs Q E ng room env vals prom =>
  prom.elim (F A out z G us vs Q E ng room env vals) (F' A out z G us vs Q E ng room env vals)
/-- a def that may raise, by its body, for any binding -/
theorem fnXO_of (F : Fun K x qual st f fd) (S : FnScope N ps (defScope st)) (len : ∀ vs H Q E, sp vs H Q E → vs.length = ps.length)
    (bd : ∀ (cdv : Value) (A : Around) (out : List Env) (z : Shared) (G : Hp) (vs : List V) (Q : VK) (E : XK), NoG (A.deeper (envOfC qual (defScope st) z.heap.objs.size f cdv)) →
      Room k (A.deeper (envOfC qual (defScope st) z.heap.objs.size f cdv)) → Takes (cxOf (CXx P w) P w K mg base N qual (defScope st) f cdv A out z G E) (fun cls d _ H => E cls d H) → sp vs G Q E →
      ∃ t, PSs (cxOf (CXx P w) P w K mg base N qual (defScope st) f cdv A out z G E) (defBody st) t ∧ t { nx := fun _ H' => Q .non H', rt := Q } (start N vs) G) : FnOG P w K mg base (CXx P w) (k + 1) f fd ps sp :=
  fnOG (CX := CXx P w) F S len fun cdv A out z G vs Q E ng hr h => bd cdv A out z G vs Q E ng hr (takes_of rfl rfl rfl rfl) h
def g01 : List V → List V → List V
  | [], zs => zs
  | _ :: _, _ => []
theorem FnOG.key01 {p : Str} (F : FnOG P w K mg base CX k f fd [p] sp) (len : ∀ vs H Q E, sp vs H Q E → vs.length = 1) (h : ∀ a : Value, bindArgs fd ⟨[], [(p, a)]⟩ = pure [(p, a)]) : FnGk P w K mg base CX k f [p] g01 sp := by
  intro A out z G us ws vs zs Q E ng room env r rz prom
  have ln := len _ _ _ _ prom
  match vs, us, zs, ws, r, rz, ln, prom with
  | [], [], [_], [b], .nil, .cons r2 .nil, _, prom => exact F A out z G ⟨[], [(p, b)]⟩ [b] _ Q E ng room env (.of_eq (h b)) rfl (.cons r2 .nil) prom
  | [], [], [], [], .nil, .nil, ln, _ => cases ln
  | [], [], _ :: _ :: _, _ :: _ :: _, .nil, .cons _ (.cons _ _), ln, _ => cases ln
  | _ :: _, _ :: _, _, _, .cons _ _, _, ln, _ => cases ln
end
/-- where nothing is let out, whatever is called -/
theorem passF {X : Cx} : Passes (CXx X.prog X.w) X (fun _ _ _ => False) := fun _ _ _ _ _ _ _ c => by
  obtain ⟨a, B, H', cls, d, _, _, _, _, _, _, _, z⟩ := c
  exact z.elim
section
variable {X : Cx} {tg e : Expr} {w1 w2 : TI}
theorem PI.or (h1 : PI X tg e w1) (h2 : PI X tg e w2) : PI X tg e (fun σ H R => w1 σ H R ∨ w2 σ H R) := ⟨fun pins s σ H R I h => h.elim (h1.run pins s σ H R I) (h2.run pins s σ H R I)⟩
theorem pi_seq {tl : TE} (h : PE X e tl) : PI X tg e (fun σ H R => iList X.K tl σ H R ∨ iTup X.K tl σ H R) := PI.or (pi_list h) (pi_tup h)
end
section
variable {X : Cx} {CX : CXT} {k : Nat} {C g : Addr} {sp : Sp} {E : XK} {o : Expr} {kws : List Keyword} {m : Str} {ks : List Str} {pos apos : Pos} {ta : TE} {t : TA} {gV : List V → List V → List V}
/-- C.m(k = e), m a static method -/
def tSMk (C : Addr) (gV : List V → List V → List V) (sp : Sp) (E : XK) (ta : TE) (t : TA) : TE := fun σ H Q => ta σ H fun x H1 => x = .ref C ∧ t σ H1 fun zs H2 => sp (gV [] zs) H2 Q E
theorem pe_smethGk {pl : Sem Bool} (he : PE X o ta) (c : SMet X.K C m g) (F : FnGk X.prog X.w X.K X.mg X.base CX k g ks gV sp) (ng : NoG X.A) (hr : Room k X.A) (hx : Passes CX X E) (hkw : PK X kws t)
    (hall : (backToKw pos (keywordEach kws X.env)).all (·.1.isSome) = true := by rfl) (hks : (backToKw pos (keywordEach kws X.env)).filterMap (·.1) = ks := by rfl)
    (hpl : ((backTo pos (starEach [] X.env)).any (·.1) || (backToKw pos (keywordEach kws X.env)).any (·.1.isNone)) = false := by rfl)
    (ht : eval (.Call (.Attribute o m apos) [] kws pos) X.env = (eval o X.env >>= fun ov => standAt apos.atName >>= fun _ => holding [ov] (getMethod ov m pl) >>= fun r =>
      callWith pos r.1 r.2 (backTo pos (starEach [] X.env)) (backToKw pos (keywordEach kws X.env))) := by rfl) :
    PE X (.Call (.Attribute o m apos) [] kws pos) (tSMk C gV sp E ta t) := by
  refine ⟨fun pins s σ H Q I h => ?_⟩
  refine PySem.W.methodCall_KW (pl := pl) (thn (he.run pins s σ H _ I h) fun u s1 ⟨x, H1, I1, rx, ex, q⟩ => ?_) ht
  subst ex
  obtain rfl : u = Value.ref C := rx
  obtain ⟨mc, p, rest, r, at_, rc⟩ := c.ex
  refine PySem.W.method_cls I1.kIn r.ga (PySem.W.cls_bind I1.kIn r.rd at_ (wpAny_call (PySem.W.sm_get (s := { s1 with toks := s1.toks + 1 }) I1.kIn rc (PySem.W.handed_on rfl ?_))))
  refine PySem.W.callWith_KW0 (first := []) (h₀ := X.base) I1.ok.mod.kin c.kp hall (thn (hkw.run pos pins _ σ H1 _ (I1.tok _) q) fun ws s2 ⟨zs, H2, I2, rz, q2⟩ => ⟨I2.kIn, ?_⟩) hpl
  rw [hks]
  refine wpAny_call (codeAny_mono (F X.A X.stack s2 H2 [] ws [] zs Q E ng hr I2.env0 .nil rz q2) fun r s' hq => ?_)
  match r, hq with
  | .error e, hq => exact hx pins σ H2 s2 e s' I2 hq
  | .ok (.ret _), hq => exact I2.after hq
  | .ok .next, hq => exact hq.elim
  | .ok .brk, hq => exact hq.elim
  | .ok .cont, hq => exact hq.elim
end
end AZ

set_option Elab.async false
set_option maxRecDepth 100000
set_option maxHeartbeats 4000000
set_option linter.all false
/-! Own work: tests that are conditional expressions. -/
namespace AZ
open PySem L2 PyProof.Rows
section
variable {X : Cx} {c a b : Expr} {pos : Pos} {tA ta tb : TT}
def tIfT (tc ta tb : TT) : TT := fun σ H Q => tc σ H fun d H1 => if d = true then ta σ H1 Q else tb σ H1 Q
theorem pt_ifE (hc : PT X c tA) (ha : PT X a ta) (hb : PT X b tb) : PT X (.IfExp c a b pos) (tIfT tA ta tb) := by
  refine ⟨fun pins s σ H Q I h => ?_⟩
  show wpAny (model X.prog X.w) X.A (PySem.isTrue (.IfExp c a b pos) X.env _) _ _ _
  rw [PySem.isTrue]
  refine wpAny_bind (thn (hc.run pins s σ H _ I h) fun d s1 ⟨H1, I1, q1⟩ => ?_)
  cases d with
  | true => exact ha.run pins s1 σ H1 Q I1 q1
  | false => exact hb.run pins s1 σ H1 Q I1 q1
end
end AZ

set_option Elab.async false
set_option maxRecDepth 100000
set_option maxHeartbeats 4000000
set_option linter.all false
/-! Own work: own comparisons and fields within a comprehension's block, told without the context. -/
namespace GQ
open PySem PySem.SeqAt
open AutoSeq1 (wpAny_loadPart')
open MeetsSeq MeetsSeq2 MeetsSeq3 SeqRoads2
section
variable {prog : Program} {w : World} {A : Around} {R : Result → Shared → Prop}
theorem list_eq_diff {l b : Addr} {xs ys : Array Value} {n1 n2 : Nat} {d1 d2 : Option Addr} {s1 s2 : Array (Option Value)} {z : Shared} (g1 : z.heap.get? l = some { cls := .type "list", dict := d1, data := .seq xs n1, slots := s1 }) (g2 : z.heap.get? b = some { cls := .type "list", dict := d2, data := .seq ys n2, slots := s2 })
    (ne : xs.size ≠ ys.size) (last : R (.ok (.ret (.bool false))) z) : wpAny (model prog w) A.in1 (Builtin.«list.__eq__» ⟨[.ref l, .ref b], []⟩) (FinOf prog w A R) (fun x z' => R (.error x) z') z := by
  obtain ⟨hp, gs, dr, tk, os⟩ := z
  have isList := AutoSeq1.sub_list_list
  have diff : (xs.size != ys.size) = true := by simp [ne]
  wp_walk using wpAny_loadPart' g1, wpAny_loadPart' g2
  exact last
end
section
variable {prog : Program} {w : World} {A : Around} {R : Result → Shared → Prop}
theorem list_ne_diff {l b : Addr} {xs ys : Array Value} {n1 n2 : Nat} {d1 d2 : Option Addr} {s1 s2 : Array (Option Value)} {z : Shared} (g1 : z.heap.get? l = some { cls := .type "list", dict := d1, data := .seq xs n1, slots := s1 }) (g2 : z.heap.get? b = some { cls := .type "list", dict := d2, data := .seq ys n2, slots := s2 })
    (ne : xs.size ≠ ys.size) (last : R (.ok (.ret (.bool true))) z) : wpAny (model prog w) A.in1 (Builtin.«list.__ne__» ⟨[.ref l, .ref b], []⟩) (FinOf prog w A R) (fun x z' => R (.error x) z') z := by
  obtain ⟨hp, gs, dr, tk, os⟩ := z
  have isList := AutoSeq1.sub_list_list
  have diff : (xs.size != ys.size) = true := by simp [ne]
  wp_walk using wpAny_loadPart' g1, wpAny_loadPart' g2
  exact last
end
section
variable {prog : Program} {w : World} {A : Around} {X : Value → Shared → Prop} {z : Shared}
theorem ne_lists_diff {l b : Addr} {xs ys : Array Value} {n1 n2 : Nat} {d1 d2 : Option Addr} {s1 s2 : Array (Option Value)} {Q : Value → Shared → Prop} (room : A.units < cLine) (g1 : z.heap.get? l = some { cls := .type "list", dict := d1, data := .seq xs n1, slots := s1 }) (g2 : z.heap.get? b = some { cls := .type "list", dict := d2, data := .seq ys n2, slots := s2 })
    (ne : xs.size ≠ ys.size) (last : Q (.bool true) z) : wpAny (model prog w) A (richCompare .NotEq (.ref l) (.ref b)) Q X z :=
  wpAny_richCompare_same_room (op := .NotEq) ⟨_, g1, rfl⟩ ⟨_, g2, rfl⟩ F.slot_list_ne (call_here F.slot_list_ne ⟨_, g1, rfl⟩ F.entry_list_ne (F.args_list_ne_2 _ _)
    (list_ne_diff (R := wants (fun v s' => v ≠ .notImplemented ∧ Q v s') X) g1 g2 ne ⟨(fun x => nomatch x), last⟩)) room
theorem eq_lists_diff {l b : Addr} {xs ys : Array Value} {n1 n2 : Nat} {d1 d2 : Option Addr} {s1 s2 : Array (Option Value)} {Q : Value → Shared → Prop} (room : A.units < cLine) (g1 : z.heap.get? l = some { cls := .type "list", dict := d1, data := .seq xs n1, slots := s1 }) (g2 : z.heap.get? b = some { cls := .type "list", dict := d2, data := .seq ys n2, slots := s2 })
    (ne : xs.size ≠ ys.size) (last : Q (.bool false) z) : wpAny (model prog w) A (richCompare .Eq (.ref l) (.ref b)) Q X z :=
  wpAny_richCompare_same_room (op := .Eq) ⟨_, g1, rfl⟩ ⟨_, g2, rfl⟩ F.slot_list_eq (call_here F.slot_list_eq ⟨_, g1, rfl⟩ F.entry_list_eq (F.args_list_eq_2 _ _)
    (list_eq_diff (R := wants (fun v s' => v ≠ .notImplemented ∧ Q v s') X) g1 g2 ne ⟨(fun x => nomatch x), last⟩)) room
end
end GQ
namespace AZ
open PySem L2 PyProof.Rows
section
variable {X : Cx}
/-- two lists of unlike lengths are not equal, whatever they hold -/
def rEqDiff : R2 := fun x y H Q => ∃ (a b : Addr) (xs ys : List V), x = .ref a ∧ y = .ref b ∧ H a = some (.lst xs) ∧ H b = some (.lst ys) ∧ xs.length ≠ ys.length ∧ Q (.bl false) H
theorem op_eqDiff (hu : X.A.units < cLine) : OpR X (compareOp .Eq) rEqDiff := by
  intro pins s σ H x y v u Q I rx ry h
  obtain ⟨a, b, xs, ys, rfl, rfl, ha, hb, ne, q⟩ := h
  cases rx
  cases ry
  obtain ⟨z, its, k, r, e⟩ := I.hok a _ ha
  obtain ⟨z2, its2, k2, r2, e2⟩ := I.hok b _ hb
  exact GQ.eq_lists_diff hu e e2 (by rw [List.size_toArray, List.size_toArray, ← r.length, ← r2.length]; exact ne) ⟨.bl false, H, I, rfl, q⟩
def rNeDiff : R2 := fun x y H Q => ∃ (a b : Addr) (xs ys : List V), x = .ref a ∧ y = .ref b ∧ H a = some (.lst xs) ∧ H b = some (.lst ys) ∧ xs.length ≠ ys.length ∧ Q (.bl true) H
theorem op_neDiff (hu : X.A.units < cLine) : OpR X (compareOp .NotEq) rNeDiff := by
  intro pins s σ H x y v u Q I rx ry h
  obtain ⟨a, b, xs, ys, rfl, rfl, ha, hb, ne, q⟩ := h
  cases rx
  cases ry
  obtain ⟨z, its, k, r, e⟩ := I.hok a _ ha
  obtain ⟨z2, its2, k2, r2, e2⟩ := I.hok b _ hb
  exact GQ.ne_lists_diff hu e e2 (by rw [List.size_toArray, List.size_toArray, ← r.length, ← r2.length]; exact ne) ⟨.bl true, H, I, rfl, q⟩
end
section
variable {X : Cx} {K : PySem.W.Frag}
/-- tuple(x), told without the context -/
def rTupK (K : PySem.W.Frag) : List V → Hp → VK → Prop := fun xs H Q => ∃ p ys, xs = [.ref p] ∧ ((SqL K H p ys ∧ ∀ l, H l = none → Q (.ref l) (upd H l (.tup ys))) ∨ (SqT K H p ys ∧ Q (.ref p) H))
theorem call_tupleK (h : X.K = K) : CallR X (.type "tuple") (rTupK K) := by
  subst h
  exact call_tuple_of
end
section
variable {X : Cx} {K : PySem.W.Frag} {C f : Addr} {k : Nat} {CX : CXT} {sp : Sp} {E : XK}
theorem opBy {F : Value → Value → Sem Value} {r r' : R2} (h : OpR X F r) (e : ∀ x y H Q, r' x y H Q → r x y H Q) : OpR X F r' := fun pins s σ H x y v u Q I rx ry q => h pins s σ H x y v u Q I rx ry (e _ _ _ _ q)
def rCF (C : Addr) (sp : Sp) (E : XK) : R2 := fun x y H Q => ∃ (a dx : Addr) (fs : List (Str × V)), x = .ref a ∧ H a = some (.ins C dx fs) ∧ RightI C H y ∧ sp [x, y] H Q E
def rRF (C : Addr) (sp : Sp) (E : XK) : R2 := fun x y H Q => ∃ (j : Int) (a dx : Addr) (fs : List (Str × V)), x = .int j ∧ y = .ref a ∧ H a = some (.ins C dx fs) ∧ sp [y, x] H Q E
def rNF (C : Addr) (sp : Sp) (E : XK) : R2 := fun x y H Q => ∃ (a dx : Addr) (fs : List (Str × V)), x = .ref a ∧ H a = some (.ins C dx fs) ∧ RightI C H y ∧ sp [x, y] H (fun v H1 => ∃ r, v = .bl r ∧ Q (.bl (!r)) H1) E
theorem op_ownCF {op : CmpOp} (M : CmpM X.K C op f) (F : FnR X.prog X.w X.K X.mg X.base CX k f sp) (hr : Room k X.A) (hx : Passes CX X E) (hop : ∀ a b, compareOp op a b = richCompare op a b := by intro _ _; rfl) : OpR X (compareOp op) (rCF C sp E) :=
  opBy (op_ownC op hop) fun _ _ _ _ ⟨a, dx, fs, h1, h2, h3, h4⟩ => ⟨a, C, dx, fs, f, CX, k, sp, E, h1, h2, h3, M, F, hr, hx, h4⟩
theorem op_reflCF {op : CmpOp} (opr : CmpOp) (he : (cmpInfo op).2.2 = (cmpInfo opr).2.1) (D : IntDecC op) (M : CmpM X.K C opr f) (ki : PySem.W.kitOne X.K (.ref C) (.type "int") = some false) (F : FnR X.prog X.w X.K X.mg X.base CX k f sp) (hr : Room k X.A) (hx : Passes CX X E)
    (hop : ∀ a b, compareOp op a b = richCompare op a b := by intro _ _; rfl) (hth : ∀ (i : Int) (t : Tok) (x : Addr), oneThing? op (.int i t) (.ref x) = none := by intro _ _ _; rfl) : OpR X (compareOp op) (rRF C sp E) :=
  opBy (op_reflC opr he D hop hth) fun _ _ _ _ ⟨j, a, dx, fs, h1, h2, h3, h4⟩ => ⟨j, a, C, dx, fs, f, CX, k, sp, E, h1, h2, h3, M, ki, F, hr, hx, h4⟩
theorem op_ownNF (M : NeM X.K C f) (F : FnR X.prog X.w X.K X.mg X.base CX k f sp) (hr : Room (k + 1) X.A) (hx : Passes CX X E) : OpR X (compareOp .NotEq) (rNF C sp E) :=
  opBy op_ownN fun _ _ _ _ ⟨a, dx, fs, h1, h2, h3, h4⟩ => ⟨a, C, dx, fs, f, CX, k, sp, E, h1, h2, h3, M, F, hr, hx, h4⟩
end
section
variable {X : Cx} {K : PySem.W.Frag} {o : Expr} {to : TE} {f : Str} {pos : Pos}
theorem pe_fldK (h : X.K = K) (ho : PE X o to) (hb : attributeBase o f X.env (eval o X.env) = eval o X.env) : PE X (.Attribute o f pos) (tFld K to f) := by
  subst h
  exact pe_fld ho hb
end
end AZ

set_option Elab.async false
set_option maxRecDepth 100000
set_option maxHeartbeats 4000000
set_option linter.all false
/-! Own work: x in c, c of a class with __contains__. -/
namespace AZ
open PySem L2 PyProof.Rows
section
variable {X : Cx} {C f : Addr} {k : Nat} {CX : CXT} {sp : Sp} {E : XK}
structure InM (K : PySem.W.Frag) (C f : Addr) : Prop where
  hs : PySem.W.findIn K (.ref C) "__contains__" = some (some (.ref f))
  hf : PySem.W.isFn K (.ref f) = true
def rInO (C : Addr) (sp : Sp) (E : XK) : R2 := fun x y H Q => ∃ (a dx : Addr) (fs : List (Str × V)), y = .ref a ∧ H a = some (.ins C dx fs) ∧ sp [y, x] H (fun v H1 => ∃ b, v = .bl b ∧ Q (.bl b) H1) E
theorem op_inO (M : InM X.K C f) (F : FnG X.prog X.w X.K X.mg X.base CX k f sp) (ng : NoG X.A) (hr : Room k X.A) (hx : Passes CX X E) : OpR X (compareOp .In) (rInO C sp E) := by
  intro pins s σ H x y v u Q I rx ry h
  obtain ⟨a, dx, fs, rfl, ha, q⟩ := h
  obtain rfl : u = Value.ref a := ry
  have hc : wpAny (model X.prog X.w) X.A (call (.ref f) [.ref a, v]) (fun r s' => wpAny (model X.prog X.w) X.A (truthy r) (fun b s2 => EP X pins σ Q (.bool b) s2) X.xe s') X.xe s :=
    thn (wpAny_call (run_fnG (us := [.ref a, v]) (vs := [.ref a, x]) F ng hr hx I (.cons rfl (.cons rx .nil)) q)) fun r s1 z => by
      obtain ⟨z, H1, I1, rz, b, rfl, q⟩ := z
      obtain rfl : r = Value.bool b := rz
      exact wpAny_truthy_bool ⟨.bl b, H1, I1, rfl, q⟩
  obtain ⟨mA, J, _⟩ := ins_get I.hok ha
  obtain ⟨od, J, _⟩ := J.look
  obtain ⟨m, hF⟩ := I.fr
  exact PySem.W.in_K hF I.ok.mod.kin J M.hs M.hf hc
end
end AZ

set_option Elab.async false
set_option maxRecDepth 100000
set_option maxHeartbeats 4000000
set_option linter.all false
/-! Own work: promises of defs with defaults, called by place, with some left out, or by name. -/
namespace AZ
open PySem L2 PyProof.Rows
theorem binds_seq {K : PySem.W.Frag} {T : Addr} {o : Obj} {its : List Value} {n : Nat} {s : Shared} {fd : FuncData} {as : Args} {bs : List (Str × Value)} {k : Option (Array Value) → Sem (List (Str × Value))}
    (kin : K.In s.heap) (l : List.lookup T K = some o) (hd : o.data = .seq its.toArray n) (h1 : bindArgs fd as = seqItems? (.ref T) >>= k) (h2 : k (some its.toArray) = pure bs) : BindsTo s fd as bs := by
  intro M A E Q q
  rw [h1]
  have g := kin _ _ l
  show wpAny M A (seqItems? (.ref T) >>= k) Q E s
  unfold seqItems?
  refine wpAny_bind (wpAny_bind (wpAny_load g ?_))
  rw [hd]
  refine wpAny_pure ?_
  show wpAny M A (k (some its.toArray)) Q E s
  rw [h2]
  exact wpAny_pure q
section
variable {P : Program} {w : World} {K : PySem.W.Frag} {mg : Str → Option Value} {base : Heap} {CX : CXT} {k : Nat} {f : Addr} {sp : Sp} {x qual : Str} {pa : Arguments} {body : List Stmt} {sc : Scope} {dvs : List V} {kws : List (Str × V)} {fd : FuncData} {N ps ks : List Str}
theorem kbnD {n : Nat} {g : List Value → List Value → List Value} {gV : List V → List V → List V} (F : FunD K x qual pa body sc dvs kws f fd) (nd : dvs ≠ [])
    (h : ∀ (T : Addr) (kV doc pm : Value) (an : Option Addr) (cdv ct : Value) (us ws its : List Value), us.length = n → ws.length = ks.length → its.length = dvs.length →
      ∃ k, bindArgs (PySem.W.fnOf x qual pa body sc (.ref T) kV doc pm an cdv ct) ⟨us, ks.zip ws⟩ = seqItems? (.ref T) >>= k ∧ k (some its.toArray) = pure (ps.zip (g us ws)))
    (rel : ∀ {vs us zs ws}, Vals vs us → Vals zs ws → Vals (gV vs zs) (g us ws)) : KBn K fd ps n ks g gV where
  to := fun s us ws kin l1 l2 => by
    obtain ⟨oc, od, dV, kV, doc, pm, an, cdv, ct, osl, rfl, look, rec, dv, kw⟩ := F.ex
    rcases dv with ⟨e, _⟩ | ⟨_, T, o, its, m, rfl, lt, hd, vi⟩
    · exact absurd e nd
    · obtain ⟨k, e1, e2⟩ := h T kV doc pm an cdv ct us ws its l1 l2 vi.length.symm
      exact binds_seq kin lt hd e1 e2
  rel := rel
theorem fnOGD (F : FunD K x qual pa body sc dvs kws f fd) (S : FnScope N ps sc) (len : ∀ vs H Q E, sp vs H Q E → vs.length = ps.length)
    (bd : ∀ (cdv : Value) (A : Around) (out : List Env) (z : Shared) (G : Hp) (vs : List V) (Q : VK) (E : XK), NoG (A.deeper (envOfC qual sc z.heap.objs.size f cdv)) →
      Room k (A.deeper (envOfC qual sc z.heap.objs.size f cdv)) → sp vs G Q E →
      ∃ t, PSs (cxOf CX P w K mg base N qual sc f cdv A out z G E) body t ∧ t { nx := fun _ H' => Q .non H', rt := Q } (start N vs) G) : FnOG P w K mg base CX (k + 1) f fd ps sp := by
  obtain ⟨oc, od, dV, kV, doc, pm, an, cdv, ct, osl, rfl, look, rec, _, _⟩ := F.ex
  intro A out z G as us vs Q E ng room env bnd many vals prom
  have keep : ∀ b o, base.get? b = some o → z.heap.get? b = some o := fun b o e => (env.bs b o e).1
  have kin := kin0 env
  have kinds : ∀ y ∈ ps.zip us, sc.names.lookup y.1 = some .local ∨
      (sc.names.lookup y.1 = some .cell ∧ ((cellsFrom (z.heap.objs.size + 1) sc.names []).lookup y.1).isSome = true) := by
    rintro ⟨n, v⟩ there
    exact (S.par n (List.of_mem_zip there).1).imp id fun c => ⟨c, PySem.W.cellsFrom_some _ _ _ (.inl c)⟩
  refine codeAny_call_function room.depth (kin _ _ look) rfl S.co S.gen rfl (PySem.W.codeRec_of kin rec) (bnd _ _ _ _ (wpAny_newFunctionEnv_cells S.kind kinds ?_))
  rintro env2 rfl z1 made
  refine ⟨(env.mod.nolimit.keeps keep).keeps made.toInCall.keep, codeAny_func ?_⟩
  obtain ⟨t, body, run⟩ := bd cdv A out z G vs Q E (ng.deeper _) (room.deeper _) prom
  exact wpAny_mono (body.run [] z1 (start N vs) G _ (inv_start S room.hd env (len _ _ _ _ prom) vals made) run) (fun fl z2 q => by
    cases fl with
    | ret v => obtain ⟨y, σ, G2, J, rel, q⟩ := q; exact ⟨y, G2, J.os, J.bare, J.base, J.hok, rel, q⟩
    | next => obtain ⟨σ, G2, J, q⟩ := q; exact ⟨.non, G2, J.os, J.bare, J.base, J.hok, rfl, q⟩
    | brk => obtain ⟨σ, G2, J, q⟩ := q; exact q.elim
    | cont => obtain ⟨σ, G2, J, q⟩ := q; exact q.elim) fun e z2 q => q
/-- .. that may raise -/
theorem fnXD (F : FunD K x qual pa body sc dvs kws f fd) (S : FnScope N ps sc) (len : ∀ vs H Q E, sp vs H Q E → vs.length = ps.length)
    (bd : ∀ (cdv : Value) (A : Around) (out : List Env) (z : Shared) (G : Hp) (vs : List V) (Q : VK) (E : XK), NoG (A.deeper (envOfC qual sc z.heap.objs.size f cdv)) →
      Room k (A.deeper (envOfC qual sc z.heap.objs.size f cdv)) → Takes (cxOf (CXx P w) P w K mg base N qual sc f cdv A out z G E) (fun cls d _ H => E cls d H) → sp vs G Q E →
      ∃ t, PSs (cxOf (CXx P w) P w K mg base N qual sc f cdv A out z G E) body t ∧ t { nx := fun _ H' => Q .non H', rt := Q } (start N vs) G) : FnOG P w K mg base (CXx P w) (k + 1) f fd ps sp :=
  fnOGD (CX := CXx P w) F S len fun cdv A out z G vs Q E ng hr h => bd cdv A out z G vs Q E ng hr (takes_of rfl rfl rfl rfl) h
/-- where the last ones are left out -/
theorem FnOG.posD {ds : List Value} {dv : List V} (F : FnOG P w K mg base CX k f fd ps sp) (len : ∀ vs H Q E, sp vs H Q E → vs.length = ps.length) (hb : Binds K fd ps ds) (hd : Vals dv ds) : FnG P w K mg base CX k f (fun vs H Q E => sp (vs ++ dv) H Q E) := by
  intro A out z G us vs Q E ng room env vals prom
  have va := vals.append hd
  have many : (us ++ ds).length = ps.length := va.length.symm.trans (len _ _ _ _ prom)
  exact F A out z G ⟨us, []⟩ (us ++ ds) (vs ++ dv) Q E ng room env (hb z us (kin0 env) many) many va prom
end
/-- two by their names, the other way round -/
def g02 {α : Type} : List α → List α → List α
  | [], [b, a] => [a, b]
  | _, _ => []
theorem vals_g02 : ∀ {vs zs : List V} {us ws : List Value}, Vals vs us → Vals zs ws → Vals (g02 vs zs) (g02 us ws)
  | _, _, _, _, .nil, .cons a (.cons b .nil) => .cons b (.cons a .nil)
  | _, _, _, _, .nil, .nil => .nil
  | _, _, _, _, .nil, .cons _ .nil => .nil
  | _, _, _, _, .nil, .cons _ (.cons _ (.cons _ _)) => .nil
  | _, _, _, _, .cons _ _, _ => .nil
/-- four by their names, the other way round -/
def g04 {α : Type} : List α → List α → List α
  | [], [d, c, b, a] => [a, b, c, d]
  | _, _ => []
theorem vals_g04 : ∀ {vs zs : List V} {us ws : List Value}, Vals vs us → Vals zs ws → Vals (g04 vs zs) (g04 us ws)
  | _, _, _, _, .nil, .cons a (.cons b (.cons c (.cons e .nil))) => .cons e (.cons c (.cons b (.cons a .nil)))
  | _, _, _, _, .nil, .nil => .nil
  | _, _, _, _, .nil, .cons _ .nil => .nil
  | _, _, _, _, .nil, .cons _ (.cons _ .nil) => .nil
  | _, _, _, _, .nil, .cons _ (.cons _ (.cons _ .nil)) => .nil
  | _, _, _, _, .nil, .cons _ (.cons _ (.cons _ (.cons _ (.cons _ _)))) => .nil
  | _, _, _, _, .cons _ _, _ => .nil
end AZ

set_option Elab.async false
set_option maxRecDepth 100000
set_option maxHeartbeats 4000000
set_option linter.all false
/-! Own work: bool(x) of a tuple. -/
namespace AZ
open PySem PySem.Spec PySem.W PySem.Calls PyProof.Rows
section
variable {prog : Program} {w : World} {A : Around} {E : Value → Shared → Prop} {s : Shared} {v : Value}
theorem bool_tr {Q : Value → Shared → Prop} (tr : wpAny (model prog w) A.in1.in1 (truthy v) (fun b s₁ => Q (.bool b) s₁) E s) : wpAny (model prog w) A (call (.type "bool") [v]) Q E s := by
  refine callType_codes (T := "bool") (Bi := Builtin.«object.__init__») (Q₁ := fun r s₁ => ∃ b, r = .bool b ∧ Q r s₁) PySem.F.called_bool (PySem.F.typeCall_bool_1 _) PySem.F.entry_object_init ?_ ?_
  · refine codeAny_of_tree ?_
    show wpAny _ A.in1.in1 (do checkBuiltinCall "bool.__new__" ⟨[.type "bool", v], []⟩; again (.builtin "bool.__new__" ⟨[.type "bool", v], []⟩)) _ _ s
    refine wpAny_bind (wpAny_of_eq (PySem.F.newCall_bool_1 _) (wpAny_pure ⟨plainId_quiet (by decide +kernel) _, codeAny_builtin PySem.F.entry_bool_new ?_⟩))
    rw [Around.under_plainId (by decide +kernel) _]
    have f1 := PySem.F.conv_sub_bool
    unfold Builtin.«bool.__new__»
    refine wpAny_bind (wpAny_pure ?_)
    refine wpAny_bind (wpAny_of_eq f1 ?_)
    refine wpAny_bind (wpAny_pure ?_)
    exact wpAny_bind (wpAny_mono tr (fun b s₁ hb => wpAny_pure ⟨_, rfl, hb⟩) fun _ _ y => y)
  · rintro obj s₁ ⟨b, rfl, hq⟩
    exact ⟨PySem.typeIs_bool _ _, PySem.F.args_object_init_2 _ _, object_init_meets PySem.F.called_bool.init.lookup PySem.F.called_bool.made (by decide) prog w A.in1 _ s₁ ⟨PySem.typeIs_bool _ _, rfl, hq⟩⟩
end
end AZ
namespace AZ
open PySem L2 PyProof.Rows
section
variable {X : Cx}
theorem call_boolT : CallR X (.type "bool") (fun xs H Q => ∃ p ys, xs = [.ref p] ∧ SqT X.K H p ys ∧ Q (.bl (!ys.isEmpty)) H) := by
  intro pins s σ H xs us Q I rv q
  obtain ⟨p, ys, rfl, ht, q⟩ := q
  cases rv with
  | cons r1 r2 =>
    cases r2
    cases r1
    obtain ⟨its, vi, it, hl⟩ := I.tuple ht
    have e : (!its.toArray.isEmpty) = !ys.isEmpty := by cases vi <;> rfl
    have n : ((its.toArray.size : Nat) : Int) < 2 ^ 63 := by
      have h1 := vi.length
      have h2 : its.toArray.size = its.length := List.size_toArray
      have h3 : sizeLine < 2 ^ 63 := by decide +kernel
      omega
    refine bool_tr (truthy_tuple it n ?_)
    rw [e]
    exact ⟨.bl _, H, I.tok _, rfl, q⟩
theorem uBoolT : CallR X (.type "bool") (fun xs H Q => ((∃ i, xs = [.int i] ∧ Q (.bl (i != 0)) H) ∨ ∃ k, xs = [.bl k] ∧ Q (.bl k) H) ∨ ∃ p ys, xs = [.ref p] ∧ SqT X.K H p ys ∧ Q (.bl (!ys.isEmpty)) H) := CallR.or' call_bool1 call_boolT
end
end AZ

set_option Elab.async false
set_option maxRecDepth 100000
set_option maxHeartbeats 4000000
set_option linter.all false
namespace AZ
open PySem L2
theorem sc__law_pen : FnScope ["_law_script"] ["_law_script"] (defScope s__law_pen) := ⟨rfl, rfl, rfl, by decide +kernel, rfl, by decide +kernel, by decide +kernel⟩
theorem sc__law_draw : FnScope ["_law_pen_here", "_law_many", "_law_digit", "_law_turn", "_law_drawn", "_law_great", "_law_mixed"] ["_law_pen_here", "_law_many"] (defScope s__law_draw) := ⟨rfl, rfl, rfl, by decide +kernel, rfl, by decide +kernel, by decide +kernel⟩
theorem sc__law_pick : FnScope ["_law_pen_here", "_law_some"] ["_law_pen_here", "_law_some"] (defScope s__law_pick) := ⟨rfl, rfl, rfl, by decide +kernel, rfl, by decide +kernel, by decide +kernel⟩
theorem sc_is_integer : FnScope ["value"] ["value"] (defScope s_is_integer) := ⟨rfl, rfl, rfl, by decide +kernel, rfl, by decide +kernel, by decide +kernel⟩
theorem sc_Ratio___init__ : FnScope ["self", "over", "under", "shared"] ["self", "over", "under"] (defScope s_Ratio___init__) := ⟨rfl, rfl, rfl, by decide +kernel, rfl, by decide +kernel, by decide +kernel⟩
theorem sc_Ratio_of : FnScope ["value"] ["value"] (defScope s_Ratio_of) := ⟨rfl, rfl, rfl, by decide +kernel, rfl, by decide +kernel, by decide +kernel⟩
theorem sc_Ratio___add__ : FnScope ["self", "other", "added"] ["self", "other"] (defScope s_Ratio___add__) := ⟨rfl, rfl, rfl, by decide +kernel, rfl, by decide +kernel, by decide +kernel⟩
theorem sc_Ratio___sub__ : FnScope ["self", "other", "taken"] ["self", "other"] (defScope s_Ratio___sub__) := ⟨rfl, rfl, rfl, by decide +kernel, rfl, by decide +kernel, by decide +kernel⟩
theorem sc_Ratio___mul__ : FnScope ["self", "other", "factor"] ["self", "other"] (defScope s_Ratio___mul__) := ⟨rfl, rfl, rfl, by decide +kernel, rfl, by decide +kernel, by decide +kernel⟩
theorem sc_Ratio___lt__ : FnScope ["self", "other", "against"] ["self", "other"] (defScope s_Ratio___lt__) := ⟨rfl, rfl, rfl, by decide +kernel, rfl, by decide +kernel, by decide +kernel⟩
theorem sc_Ratio___le__ : FnScope ["self", "other", "against"] ["self", "other"] (defScope s_Ratio___le__) := ⟨rfl, rfl, rfl, by decide +kernel, rfl, by decide +kernel, by decide +kernel⟩
theorem sc_Ratio___gt__ : FnScope ["self", "other", "against"] ["self", "other"] (defScope s_Ratio___gt__) := ⟨rfl, rfl, rfl, by decide +kernel, rfl, by decide +kernel, by decide +kernel⟩
theorem sc_Ratio___ge__ : FnScope ["self", "other", "against"] ["self", "other"] (defScope s_Ratio___ge__) := ⟨rfl, rfl, rfl, by decide +kernel, rfl, by decide +kernel, by decide +kernel⟩
theorem sc_Ratio___eq__ : FnScope ["self", "other"] ["self", "other"] (defScope s_Ratio___eq__) := ⟨rfl, rfl, rfl, by decide +kernel, rfl, by decide +kernel, by decide +kernel⟩
theorem sc_Ratio_floor : FnScope ["self"] ["self"] (defScope s_Ratio_floor) := ⟨rfl, rfl, rfl, by decide +kernel, rfl, by decide +kernel, by decide +kernel⟩
theorem sc_Ratio_ceiling : FnScope ["self"] ["self"] (defScope s_Ratio_ceiling) := ⟨rfl, rfl, rfl, by decide +kernel, rfl, by decide +kernel, by decide +kernel⟩
theorem sc_Ratio___str__ : FnScope ["self"] ["self"] (defScope s_Ratio___str__) := ⟨rfl, rfl, rfl, by decide +kernel, rfl, by decide +kernel, by decide +kernel⟩
theorem sc_Ratio___bool__ : FnScope ["self"] ["self"] (defScope s_Ratio___bool__) := ⟨rfl, rfl, rfl, by decide +kernel, rfl, by decide +kernel, by decide +kernel⟩
theorem sc_BadRatio___init__ : FnScope ["self", "value"] ["self", "value"] (defScope s_BadRatio___init__) := ⟨rfl, rfl, rfl, by decide +kernel, rfl, by decide +kernel, by decide +kernel⟩
theorem sc_all_numbers : FnScope ["values", "value"] ["values"] (defScope s_all_numbers) := ⟨rfl, rfl, rfl, by decide +kernel, rfl, by decide +kernel, by decide +kernel⟩
theorem sc_bound_of : FnScope ["values", "is_greatest", "numbers", "bound", "number"] ["values", "is_greatest"] (defScope s_bound_of) := ⟨rfl, rfl, rfl, by decide +kernel, rfl, by decide +kernel, by decide +kernel⟩
theorem sc_Ratio_highest : FnScope ["values"] ["values"] (defScope s_Ratio_highest) := ⟨rfl, rfl, rfl, by decide +kernel, rfl, by decide +kernel, by decide +kernel⟩
theorem sc_Ratio_lowest : FnScope ["values"] ["values"] (defScope s_Ratio_lowest) := ⟨rfl, rfl, rfl, by decide +kernel, rfl, by decide +kernel, by decide +kernel⟩
theorem sc_is_number : FnScope ["value"] ["value"] (defScope s_is_number) := ⟨rfl, rfl, rfl, by decide +kernel, rfl, by decide +kernel, by decide +kernel⟩
theorem sc_is_zoom : FnScope ["value"] ["value"] (defScope s_is_zoom) := ⟨rfl, rfl, rfl, by decide +kernel, rfl, by decide +kernel, by decide +kernel⟩
theorem sc_is_place : FnScope ["value"] ["value"] (defScope s_is_place) := ⟨rfl, rfl, rfl, by decide +kernel, rfl, by decide +kernel, by decide +kernel⟩
theorem sc_many_upto : FnScope ["marks", "zoom", "low", "high", "middle"] ["marks", "zoom"] (defScope s_many_upto) := ⟨rfl, rfl, rfl, by decide +kernel, rfl, by decide +kernel, by decide +kernel⟩
theorem sc_state_ahead : FnScope ["marks", "at", "is_first"] ["marks", "at", "is_first"] (defScope s_state_ahead) := ⟨rfl, rfl, rfl, by decide +kernel, rfl, by decide +kernel, by decide +kernel⟩
theorem sc_changing : FnScope ["marks", "is_first", "kept", "is_in", "zoom", "is_at", "is_behind"] ["marks", "is_first"] (defScope s_changing) := ⟨rfl, rfl, rfl, by decide +kernel, rfl, by decide +kernel, by decide +kernel⟩
theorem sc_is_mark : FnScope ["value"] ["value"] (defScope s_is_mark) := ⟨rfl, rfl, rfl, by decide +kernel, rfl, by decide +kernel, by decide +kernel⟩
theorem sc_checked_marks : FnScope ["marks", "end", "last", "mark", "zoom", "is_at", "is_behind"] ["marks", "end"] (defScope s_checked_marks) := ⟨rfl, rfl, rfl, by decide +kernel, rfl, by decide +kernel, by decide +kernel⟩
theorem sc_least_turn : FnScope ["begin", "turn", "marks", "steps", "ahead", "zoom", "is_at", "is_behind", "many"] ["begin", "turn", "marks"] (defScope s_least_turn) := ⟨rfl, rfl, rfl, by decide +kernel, rfl, by decide +kernel, by decide +kernel⟩
theorem sc_least_begin : FnScope ["begin", "turn", "marks", "is_first", "early", "late", "low", "high", "is_alike"] ["begin", "turn", "marks", "is_first"] (defScope s_least_begin) := ⟨rfl, rfl, rfl, by decide +kernel, rfl, by decide +kernel, by decide +kernel⟩
theorem sc_normal_form : FnScope ["begin", "turn", "marks", "is_first", "kept", "new_turn", "new_begin"] ["begin", "turn", "marks", "is_first"] (defScope s_normal_form) := ⟨rfl, rfl, rfl, by decide +kernel, rfl, by decide +kernel, by decide +kernel⟩
theorem sc_Zooms___init__ : FnScope ["self", "begin", "turn", "marks", "is_first", "rows", "told", "form"] ["self", "begin", "turn", "marks", "is_first"] (defScope s_Zooms___init__) := ⟨rfl, rfl, rfl, by decide +kernel, rfl, by decide +kernel, by decide +kernel⟩
theorem sc_Zooms_everything : FnScope [] [] (defScope s_Zooms_everything) := ⟨rfl, rfl, rfl, by decide +kernel, rfl, by decide +kernel, by decide +kernel⟩
theorem sc_Zooms_nothing : FnScope [] [] (defScope s_Zooms_nothing) := ⟨rfl, rfl, rfl, by decide +kernel, rfl, by decide +kernel, by decide +kernel⟩
theorem sc_BadZooms___init__ : FnScope ["self", "part"] ["self", "part"] (defScope s_BadZooms___init__) := ⟨rfl, rfl, rfl, by decide +kernel, rfl, by decide +kernel, by decide +kernel⟩
theorem sc_Zooms_beyond : FnScope ["low", "is_low"] ["low", "is_low"] (defScope s_Zooms_beyond) := ⟨rfl, rfl, rfl, by decide +kernel, rfl, by decide +kernel, by decide +kernel⟩
theorem sc_Zooms_between : FnScope ["low", "high", "is_low", "is_high", "begins"] ["low", "high", "is_low", "is_high"] (defScope s_Zooms_between) := ⟨rfl, rfl, rfl, by decide +kernel, rfl, by decide +kernel, by decide +kernel⟩
theorem sc_Zooms_mark : FnScope ["self", "index", "round_marks", "turns", "zoom", "is_at", "is_behind"] ["self", "index"] (defScope s_Zooms_mark) := ⟨rfl, rfl, rfl, by decide +kernel, rfl, by decide +kernel, by decide +kernel⟩
theorem sc_Zooms_state_behind : FnScope ["self", "many"] ["self", "many"] (defScope s_Zooms_state_behind) := ⟨rfl, rfl, rfl, by decide +kernel, rfl, by decide +kernel, by decide +kernel⟩
theorem sc_Zooms___bool__ : FnScope ["self"] ["self"] (defScope s_Zooms___bool__) := ⟨rfl, rfl, rfl, by decide +kernel, rfl, by decide +kernel, by decide +kernel⟩
theorem sc_Ratio_divided : FnScope ["self", "other", "divisor"] ["self", "other"] (defScope s_Ratio_divided) := ⟨rfl, rfl, rfl, by decide +kernel, rfl, by decide +kernel, by decide +kernel⟩
theorem sc_Ratio___rsub__ : FnScope ["self", "other"] ["self", "other"] (defScope s_Ratio___rsub__) := ⟨rfl, rfl, rfl, by decide +kernel, rfl, by decide +kernel, by decide +kernel⟩
theorem sc_Zooms___contains__ : FnScope ["self", "x", "many"] ["self", "x"] (defScope s_Zooms___contains__) := ⟨rfl, rfl, rfl, by decide +kernel, rfl, by decide +kernel, by decide +kernel⟩
theorem sc_Zooms___eq__ : FnScope ["self", "other"] ["self", "other"] (defScope s_Zooms___eq__) := ⟨rfl, rfl, rfl, by decide +kernel, rfl, by decide +kernel, by decide +kernel⟩
theorem sc_Zooms___invert__ : FnScope ["self", "marks", "zoom", "is_at", "is_behind"] ["self"] (defScope s_Zooms___invert__) := ⟨rfl, rfl, rfl, by decide +kernel, rfl, by decide +kernel, by decide +kernel⟩
theorem sc_Zooms_joined : FnScope ["self", "other", "sign", "turn", "begin", "many", "others", "rows", "index", "other_rows", "both"] ["self", "other", "sign"] (defScope s_Zooms_joined) := ⟨rfl, rfl, rfl, by decide +kernel, rfl, by decide +kernel, by decide +kernel⟩
theorem sc_Zooms___sub__ : FnScope ["self", "other"] ["self", "other"] (defScope s_Zooms___sub__) := ⟨rfl, rfl, rfl, by decide +kernel, rfl, by decide +kernel, by decide +kernel⟩
theorem sc_common_multiple : FnScope ["one", "other"] ["one", "other"] (defScope s_common_multiple) := ⟨rfl, rfl, rfl, by decide +kernel, rfl, by decide +kernel, by decide +kernel⟩
theorem sc_joined_truth : FnScope ["one", "other", "sign"] ["one", "other", "sign"] (defScope s_joined_truth) := ⟨rfl, rfl, rfl, by decide +kernel, rfl, by decide +kernel, by decide +kernel⟩
theorem sc_marks_joined : FnScope ["rows", "others", "is_first", "is_other_first", "sign", "joined", "is_one", "is_other", "at", "beside", "is_row", "zoom", "is_one_at", "is_other_at"] ["rows", "others", "is_first", "is_other_first", "sign"] (defScope s_marks_joined) := ⟨rfl, rfl, rfl, by decide +kernel, rfl, by decide +kernel, by decide +kernel⟩
theorem sc__law_number : FnScope ["_law_pen_here", "_law_some"] ["_law_pen_here"] (defScope s__law_number) := ⟨rfl, rfl, rfl, by decide +kernel, rfl, by decide +kernel, by decide +kernel⟩
theorem sc__law_heard : FnScope ["_law_ask", "_law_caught", "error"] ["_law_ask"] (defScope s__law_heard) := ⟨rfl, rfl, rfl, by decide +kernel, rfl, by decide +kernel, by decide +kernel⟩
theorem sc__law_beside : FnScope ["_law_number_here", "_law_step", "_law_zoom"] ["_law_number_here"] (defScope s__law_beside) := ⟨rfl, rfl, rfl, by decide +kernel, rfl, by decide +kernel, by decide +kernel⟩
theorem sc__law_between_right : FnScope ["_law_pen_here", "_law_ends", "_law_low", "_law_high", "_law_is_low", "_law_is_high", "_law_heard_here", "_law_found", "_law_zoom", "_law_due"] ["_law_pen_here"] (defScope s__law_between_right) := ⟨rfl, rfl, rfl, by decide +kernel, rfl, by decide +kernel, by decide +kernel⟩
theorem sc__law_beyond_right : FnScope ["_law_pen_here", "_law_low", "_law_is_low", "_law_found", "_law_zoom"] ["_law_pen_here"] (defScope s__law_beyond_right) := ⟨rfl, rfl, rfl, by decide +kernel, rfl, by decide +kernel, by decide +kernel⟩
theorem sc__law_refused_right : FnScope ["_law_pen_here", "_law_odd", "_law_bad", "_law_heard_here"] ["_law_pen_here"] (defScope s__law_refused_right) := ⟨rfl, rfl, rfl, by decide +kernel, rfl, by decide +kernel, by decide +kernel⟩
theorem sc_law : FnScope ["_law_script", "_law_pen_here", "_law_lap", "_law_every", "_law_none", "_law_told"] ["_law_script"] (defScope s_law) := ⟨rfl, rfl, rfl, by decide +kernel, rfl, by decide +kernel, by decide +kernel⟩
theorem sc_Ratio_common : FnScope ["values", "shared", "number", "over"] ["values"] (defScope s_Ratio_common) := ⟨rfl, rfl, rfl, by decide +kernel, rfl, by decide +kernel, by decide +kernel⟩
theorem sc_Zooms_marks_upto : FnScope ["self", "zoom", "turns"] ["self", "zoom"] (defScope s_Zooms_marks_upto) := ⟨rfl, rfl, rfl, by decide +kernel, rfl, by decide +kernel, by decide +kernel⟩
/-- where the defs and classes stand -/
structure Ad where
  (_law_pen _law_draw _law_pick Ratio is_integer Ratio___init__ Ratio_of Ratio___add__ Ratio___sub__ Ratio___mul__ Ratio___lt__ Ratio___le__ Ratio___gt__ Ratio___ge__ Ratio___eq__ Ratio_floor Ratio_ceiling Ratio___str__ Ratio___bool__ BadRatio___init__ SnapError BadRatio all_numbers bound_of Ratio_highest Ratio_lowest is_number is_zoom is_place many_upto state_ahead changing is_mark checked_marks least_turn least_begin Ratio___radd__ Ratio___rsub__ normal_form Zooms___init__ Zooms Zooms_everything Zooms_nothing BadZooms___init__ BadZooms Zooms_beyond Zooms_between Zooms_mark Zooms_state_behind Zooms___bool__ Ratio_divided Zooms___contains__ Zooms___eq__ Zooms___invert__ Zooms_joined Zooms___sub__ common_multiple joined_truth marks_joined _law_number _law_heard _law_beside _law_between_right _law_beyond_right _law_refused_right law Zooms_marks_upto Ratio_common Ratio___rmul__ cp_law cp__law_between_right cp__law_refused_right cc_law cc__law_between_right cc__law_refused_right : Addr)
/-- what the walk asks of the text's top -/
structure Tx (K : PySem.W.Frag) (mg : Str → Option Value) (d : Ad) : Prop where
  F__law_pen : ∃ fd, Fun K "_law_pen" "_law_pen" s__law_pen d._law_pen fd
  n_list : mg "list" = none
  F__law_draw : ∃ fd, Fun K "_law_draw" "_law_draw" s__law_draw d._law_draw fd
  n_int : mg "int" = none
  n_len : mg "len" = none
  n_abs : mg "abs" = none
  F__law_pick : ∃ fd, Fun K "_law_pick" "_law_pick" s__law_pick d._law_pick fd
  k__law_draw : PySem.W.keepIn K (.ref d._law_draw) = true
  m__law_draw : mg "_law_draw" = some (.ref d._law_draw)
  i_int_is_int : PySem.W.kitOne K (.type "int") (.type "int") = some true
  i_int_is_bool : PySem.W.kitOne K (.type "int") (.type "bool") = some false
  y_Ratio : TyC K d.Ratio
  c_Ratio : Cls K d.Ratio
  i_Ratio_is_int : PySem.W.kitOne K (.ref d.Ratio) (.type "int") = some false
  i_Ratio_is_bool : PySem.W.kitOne K (.ref d.Ratio) (.type "bool") = some false
  F_is_integer : ∃ fd, Fun K "is_integer" "is_integer" s_is_integer d.is_integer fd
  n_isinstance : mg "isinstance" = none
  n_bool : mg "bool" = none
  D_Ratio___init__ : ∃ fd, FunD K "__init__" "Ratio.__init__" (defArgs s_Ratio___init__) (defBody s_Ratio___init__) (defScope s_Ratio___init__) [.int 1] [] d.Ratio___init__ fd
  k_is_integer : PySem.W.keepIn K (.ref d.is_integer) = true
  m_is_integer : mg "is_integer" = some (.ref d.is_integer)
  m_gcd : mg "gcd" = some (.builtin "math.gcd")
  a_Ratio_over : NoAttr K d.Ratio "over"
  a_Ratio_under : NoAttr K d.Ratio "under"
  F_Ratio_of : ∃ fd, Fun K "of" "Ratio.of" s_Ratio_of d.Ratio_of fd
  m_Ratio : mg "Ratio" = some (.ref d.Ratio)
  mk_Ratio : Mk K d.Ratio d.Ratio___init__
  i_int_is_Ratio : PySem.W.kitOne K (.type "int") (.ref d.Ratio) = some false
  i_Ratio_is_Ratio : PySem.W.kitOne K (.ref d.Ratio) (.ref d.Ratio) = some true
  F_Ratio___add__ : ∃ fd, Fun K "__add__" "Ratio.__add__" s_Ratio___add__ d.Ratio___add__ fd
  s_Ratio_of : SMet K d.Ratio "of" d.Ratio_of
  F_Ratio___sub__ : ∃ fd, Fun K "__sub__" "Ratio.__sub__" s_Ratio___sub__ d.Ratio___sub__ fd
  F_Ratio___mul__ : ∃ fd, Fun K "__mul__" "Ratio.__mul__" s_Ratio___mul__ d.Ratio___mul__ fd
  F_Ratio___lt__ : ∃ fd, Fun K "__lt__" "Ratio.__lt__" s_Ratio___lt__ d.Ratio___lt__ fd
  F_Ratio___le__ : ∃ fd, Fun K "__le__" "Ratio.__le__" s_Ratio___le__ d.Ratio___le__ fd
  F_Ratio___gt__ : ∃ fd, Fun K "__gt__" "Ratio.__gt__" s_Ratio___gt__ d.Ratio___gt__ fd
  F_Ratio___ge__ : ∃ fd, Fun K "__ge__" "Ratio.__ge__" s_Ratio___ge__ d.Ratio___ge__ fd
  F_Ratio___eq__ : ∃ fd, Fun K "__eq__" "Ratio.__eq__" s_Ratio___eq__ d.Ratio___eq__ fd
  F_Ratio_floor : ∃ fd, Fun K "floor" "Ratio.floor" s_Ratio_floor d.Ratio_floor fd
  F_Ratio_ceiling : ∃ fd, Fun K "ceiling" "Ratio.ceiling" s_Ratio_ceiling d.Ratio_ceiling fd
  F_Ratio___str__ : ∃ fd, Fun K "__str__" "Ratio.__str__" s_Ratio___str__ d.Ratio___str__ fd
  n_str : mg "str" = none
  F_Ratio___bool__ : ∃ fd, Fun K "__bool__" "Ratio.__bool__" s_Ratio___bool__ d.Ratio___bool__ fd
  F_BadRatio___init__ : ∃ fd, Fun K "__init__" "BadRatio.__init__" s_BadRatio___init__ d.BadRatio___init__ fd
  vi_SnapError : VInit K d.SnapError
  m_SnapError : mg "SnapError" = some (.ref d.SnapError)
  ex_BadRatio : Ex K d.SnapError d.BadRatio d.BadRatio___init__ "BadRatio"
  a_BadRatio_value : NoAttr K d.BadRatio "value"
  m_BadRatio : mg "BadRatio" = some (.ref d.BadRatio)
  i_list_is_list : PySem.W.kitOne K (.type "list") (.type "list") = some true
  i_tuple_is_list : PySem.W.kitOne K (.type "tuple") (.type "list") = some false
  i_tuple_is_tuple : PySem.W.kitOne K (.type "tuple") (.type "tuple") = some true
  F_all_numbers : ∃ fd, Fun K "all_numbers" "all_numbers" s_all_numbers d.all_numbers fd
  n_tuple : mg "tuple" = none
  F_bound_of : ∃ fd, Fun K "bound_of" "bound_of" s_bound_of d.bound_of fd
  k_all_numbers : PySem.W.keepIn K (.ref d.all_numbers) = true
  m_all_numbers : mg "all_numbers" = some (.ref d.all_numbers)
  q_Ratio_gt : CmpM K d.Ratio .Gt d.Ratio___gt__
  q_Ratio_lt : CmpM K d.Ratio .Lt d.Ratio___lt__
  F_Ratio_highest : ∃ fd, Fun K "highest" "Ratio.highest" s_Ratio_highest d.Ratio_highest fd
  k_bound_of : PySem.W.keepIn K (.ref d.bound_of) = true
  m_bound_of : mg "bound_of" = some (.ref d.bound_of)
  F_Ratio_lowest : ∃ fd, Fun K "lowest" "Ratio.lowest" s_Ratio_lowest d.Ratio_lowest fd
  F_is_number : ∃ fd, Fun K "is_number" "is_number" s_is_number d.is_number fd
  F_is_zoom : ∃ fd, Fun K "is_zoom" "is_zoom" s_is_zoom d.is_zoom fd
  k_is_number : PySem.W.keepIn K (.ref d.is_number) = true
  m_is_number : mg "is_number" = some (.ref d.is_number)
  F_is_place : ∃ fd, Fun K "is_place" "is_place" s_is_place d.is_place fd
  q_Ratio_ge : CmpM K d.Ratio .GtE d.Ratio___ge__
  F_many_upto : ∃ fd, Fun K "many_upto" "many_upto" s_many_upto d.many_upto fd
  q_Ratio_le : CmpM K d.Ratio .LtE d.Ratio___le__
  F_state_ahead : ∃ fd, Fun K "state_ahead" "state_ahead" s_state_ahead d.state_ahead fd
  F_changing : ∃ fd, Fun K "changing" "changing" s_changing d.changing fd
  F_is_mark : ∃ fd, Fun K "is_mark" "is_mark" s_is_mark d.is_mark fd
  k_is_zoom : PySem.W.keepIn K (.ref d.is_zoom) = true
  m_is_zoom : mg "is_zoom" = some (.ref d.is_zoom)
  i_bool_is_bool : PySem.W.kitOne K (.type "bool") (.type "bool") = some true
  F_checked_marks : ∃ fd, Fun K "checked_marks" "checked_marks" s_checked_marks d.checked_marks fd
  k_is_mark : PySem.W.keepIn K (.ref d.is_mark) = true
  m_is_mark : mg "is_mark" = some (.ref d.is_mark)
  F_least_turn : ∃ fd, Fun K "least_turn" "least_turn" s_least_turn d.least_turn fd
  F_least_begin : ∃ fd, Fun K "least_begin" "least_begin" s_least_begin d.least_begin fd
  k_many_upto : PySem.W.keepIn K (.ref d.many_upto) = true
  m_many_upto : mg "many_upto" = some (.ref d.many_upto)
  s_Ratio_highest : SMet K d.Ratio "highest" d.Ratio_highest
  b_Ratio_add : BinM K d.Ratio .Add d.Ratio___add__
  q_Ratio_eq : CmpM K d.Ratio .Eq d.Ratio___eq__
  b_Ratio_sub : BinM K d.Ratio .Sub d.Ratio___sub__
  z_Ratio : NeM K d.Ratio d.Ratio___eq__
  F_normal_form : ∃ fd, Fun K "normal_form" "normal_form" s_normal_form d.normal_form fd
  k_changing : PySem.W.keepIn K (.ref d.changing) = true
  m_changing : mg "changing" = some (.ref d.changing)
  k_least_turn : PySem.W.keepIn K (.ref d.least_turn) = true
  m_least_turn : mg "least_turn" = some (.ref d.least_turn)
  k_least_begin : PySem.W.keepIn K (.ref d.least_begin) = true
  m_least_begin : mg "least_begin" = some (.ref d.least_begin)
  F_Zooms___init__ : ∃ fd, Fun K "__init__" "Zooms.__init__" s_Zooms___init__ d.Zooms___init__ fd
  k_is_place : PySem.W.keepIn K (.ref d.is_place) = true
  m_is_place : mg "is_place" = some (.ref d.is_place)
  k_checked_marks : PySem.W.keepIn K (.ref d.checked_marks) = true
  m_checked_marks : mg "checked_marks" = some (.ref d.checked_marks)
  k_state_ahead : PySem.W.keepIn K (.ref d.state_ahead) = true
  m_state_ahead : mg "state_ahead" = some (.ref d.state_ahead)
  k_normal_form : PySem.W.keepIn K (.ref d.normal_form) = true
  m_normal_form : mg "normal_form" = some (.ref d.normal_form)
  c_Zooms : Cls K d.Zooms
  a_Zooms_begin : NoAttr K d.Zooms "begin"
  a_Zooms_turn : NoAttr K d.Zooms "turn"
  a_Zooms_marks : NoAttr K d.Zooms "marks"
  a_Zooms_is_first : NoAttr K d.Zooms "is_first"
  a_Zooms_once : NoAttr K d.Zooms "once"
  F_Zooms_everything : ∃ fd, Fun K "everything" "Zooms.everything" s_Zooms_everything d.Zooms_everything fd
  mk_Zooms : Mk K d.Zooms d.Zooms___init__
  m_Zooms : mg "Zooms" = some (.ref d.Zooms)
  F_Zooms_nothing : ∃ fd, Fun K "nothing" "Zooms.nothing" s_Zooms_nothing d.Zooms_nothing fd
  F_BadZooms___init__ : ∃ fd, Fun K "__init__" "BadZooms.__init__" s_BadZooms___init__ d.BadZooms___init__ fd
  ex_BadZooms : Ex K d.SnapError d.BadZooms d.BadZooms___init__ "BadZooms"
  a_BadZooms_part : NoAttr K d.BadZooms "part"
  D_Zooms_beyond : ∃ fd, FunD K "beyond" "Zooms.beyond" (defArgs s_Zooms_beyond) (defBody s_Zooms_beyond) (defScope s_Zooms_beyond) [.bl true] [] d.Zooms_beyond fd
  m_BadZooms : mg "BadZooms" = some (.ref d.BadZooms)
  D_Zooms_between : ∃ fd, FunD K "between" "Zooms.between" (defArgs s_Zooms_between) (defBody s_Zooms_between) (defScope s_Zooms_between) [.bl true, .bl true] [] d.Zooms_between fd
  F_Zooms_mark : ∃ fd, Fun K "mark" "Zooms.mark" s_Zooms_mark d.Zooms_mark fd
  F_Zooms_state_behind : ∃ fd, Fun K "state_behind" "Zooms.state_behind" s_Zooms_state_behind d.Zooms_state_behind fd
  h_Zooms_mark : Meth K d.Zooms "mark" d.Zooms_mark
  F_Zooms___bool__ : ∃ fd, Fun K "__bool__" "Zooms.__bool__" s_Zooms___bool__ d.Zooms___bool__ fd
  F_Ratio_divided : ∃ fd, Fun K "divided" "Ratio.divided" s_Ratio_divided d.Ratio_divided fd
  F_Ratio___rsub__ : ∃ fd, Fun K "__rsub__" "Ratio.__rsub__" s_Ratio___rsub__ d.Ratio___rsub__ fd
  in_Zooms : InM K d.Zooms d.Zooms___contains__
  F_Zooms___contains__ : ∃ fd, Fun K "__contains__" "Zooms.__contains__" s_Zooms___contains__ d.Zooms___contains__ fd
  F_Zooms___eq__ : ∃ fd, Fun K "__eq__" "Zooms.__eq__" s_Zooms___eq__ d.Zooms___eq__ fd
  F_Zooms___invert__ : ∃ fd, Fun K "__invert__" "Zooms.__invert__" s_Zooms___invert__ d.Zooms___invert__ fd
  F_Zooms_joined : ∃ fd, Fun K "joined" "Zooms.joined" s_Zooms_joined d.Zooms_joined fd
  F_Zooms___sub__ : ∃ fd, Fun K "__sub__" "Zooms.__sub__" s_Zooms___sub__ d.Zooms___sub__ fd
  F_common_multiple : ∃ fd, Fun K "common_multiple" "common_multiple" s_common_multiple d.common_multiple fd
  F_joined_truth : ∃ fd, Fun K "joined_truth" "joined_truth" s_joined_truth d.joined_truth fd
  F_marks_joined : ∃ fd, Fun K "marks_joined" "marks_joined" s_marks_joined d.marks_joined fd
  F__law_number : ∃ fd, Fun K "_law_number" "_law_number" s__law_number d._law_number fd
  F__law_heard : ∃ fd, Fun K "_law_heard" "_law_heard" s__law_heard d._law_heard fd
  F__law_beside : ∃ fd, Fun K "_law_beside" "_law_beside" s__law_beside d._law_beside fd
  F__law_between_right : ∃ fd, Fun K "_law_between_right" "_law_between_right" s__law_between_right d._law_between_right fd
  F__law_beyond_right : ∃ fd, Fun K "_law_beyond_right" "_law_beyond_right" s__law_beyond_right d._law_beyond_right fd
  F__law_refused_right : ∃ fd, Fun K "_law_refused_right" "_law_refused_right" s__law_refused_right d._law_refused_right fd
  F_law : ∃ fd, Fun K "law" "law" s_law d.law fd
  u_Zooms_invert : UnM K d.Zooms "__invert__" d.Zooms___invert__
  q_Zooms_eq : CmpM K d.Zooms .Eq d.Zooms___eq__
  z_Zooms : NeM K d.Zooms d.Zooms___eq__
  b_Zooms_sub : BinM K d.Zooms .Sub d.Zooms___sub__
  bo_Zooms : BoolM K d.Zooms d.Zooms___bool__
  h_Zooms_marks_upto : Meth K d.Zooms "marks_upto" d.Zooms_marks_upto
  h_Zooms_state_behind : Meth K d.Zooms "state_behind" d.Zooms_state_behind
  h_Zooms_joined : Meth K d.Zooms "joined" d.Zooms_joined
  h_Ratio_divided : Meth K d.Ratio "divided" d.Ratio_divided
  h_Ratio_ceiling : Meth K d.Ratio "ceiling" d.Ratio_ceiling
  F_Ratio_common : ∃ fd, Fun K "common" "Ratio.common" s_Ratio_common d.Ratio_common fd
  s_Ratio_common : SMet K d.Ratio "common" d.Ratio_common
  s_Ratio_lowest : SMet K d.Ratio "lowest" d.Ratio_lowest
  s_Zooms_between : SMet K d.Zooms "between" d.Zooms_between
  s_Zooms_beyond : SMet K d.Zooms "beyond" d.Zooms_beyond
  s_Zooms_everything : SMet K d.Zooms "everything" d.Zooms_everything
  s_Zooms_nothing : SMet K d.Zooms "nothing" d.Zooms_nothing
  k_marks_joined : PySem.W.keepIn K (.ref d.marks_joined) = true
  m_marks_joined : mg "marks_joined" = some (.ref d.marks_joined)
  k_joined_truth : PySem.W.keepIn K (.ref d.joined_truth) = true
  m_joined_truth : mg "joined_truth" = some (.ref d.joined_truth)
  k_common_multiple : PySem.W.keepIn K (.ref d.common_multiple) = true
  m_common_multiple : mg "common_multiple" = some (.ref d.common_multiple)
  n_range : mg "range" = none
  i_Zooms_is_Zooms : PySem.W.kitOne K (.ref d.Zooms) (.ref d.Zooms) = some true
  y_Zooms : TyC K d.Zooms
  cv_Zooms_MOST_MARKS : ∃ mc u, ClX.CRead K d.Zooms mc ∧ ClX.CVal K d.Zooms mc "MOST_MARKS" (.int 3000) u
  v_Ratio_sub : ReflM K d.Ratio "__sub__" "__rsub__" d.Ratio___sub__ d.Ratio___rsub__
  bo_Ratio : BoolM K d.Ratio d.Ratio___bool__
  m_law : mg "law" = some (.ref d.law)
  sx_SnapError : Sx K d.SnapError "SnapError"
  gx_all : Gx K
  m__law_number : mg "_law_number" = some (.ref d._law_number)
  k__law_number : PySem.W.keepIn K (.ref d._law_number) = true
  m__law_heard : mg "_law_heard" = some (.ref d._law_heard)
  k__law_heard : PySem.W.keepIn K (.ref d._law_heard) = true
  m__law_beside : mg "_law_beside" = some (.ref d._law_beside)
  k__law_beside : PySem.W.keepIn K (.ref d._law_beside) = true
  m__law_between_right : mg "_law_between_right" = some (.ref d._law_between_right)
  k__law_between_right : PySem.W.keepIn K (.ref d._law_between_right) = true
  m__law_beyond_right : mg "_law_beyond_right" = some (.ref d._law_beyond_right)
  k__law_beyond_right : PySem.W.keepIn K (.ref d._law_beyond_right) = true
  m__law_refused_right : mg "_law_refused_right" = some (.ref d._law_refused_right)
  k__law_refused_right : PySem.W.keepIn K (.ref d._law_refused_right) = true
  m__law_pen : mg "_law_pen" = some (.ref d._law_pen)
  k__law_pen : PySem.W.keepIn K (.ref d._law_pen) = true
  m__law_pick : mg "_law_pick" = some (.ref d._law_pick)
  k__law_pick : PySem.W.keepIn K (.ref d._law_pick) = true
  w_Zooms_bool : PySem.W.notFirst K d.Zooms (.type "bool") = true
  F_Zooms_marks_upto : ∃ fd, Fun K "marks_upto" "Zooms.marks_upto" s_Zooms_marks_upto d.Zooms_marks_upto fd
  b_Ratio_mul : BinM K d.Ratio .Mult d.Ratio___mul__
  dn_law____law_between_right : d.cp_law ≠ d.cp__law_between_right
  dn_law____law_refused_right : d.cp_law ≠ d.cp__law_refused_right
  dn__law_between_right____law_refused_right : d.cp__law_between_right ≠ d.cp__law_refused_right
  tab_law : TabK K d.law d.cc_law d.cp_law
  tab__law_between_right : TabK K d._law_between_right d.cc__law_between_right d.cp__law_between_right
  tab__law_refused_right : TabK K d._law_refused_right d.cc__law_refused_right d.cp__law_refused_right
  gx_object : Gx K
  i_NoneType_is_Ratio : PySem.W.kitOne K (.type "NoneType") (.ref d.Ratio) = some false
  w_Ratio_NoneType : PySem.W.notFirst K d.Ratio (.type "NoneType") = true
  i_NoneType_is_int : PySem.W.kitOne K (.type "NoneType") (.type "int") = some false
  i_NoneType_is_bool : PySem.W.kitOne K (.type "NoneType") (.type "bool") = some false
  i_bool_is_Ratio : PySem.W.kitOne K (.type "bool") (.ref d.Ratio) = some false
  w_Ratio_bool : PySem.W.notFirst K d.Ratio (.type "bool") = true
  i_bool_is_int : PySem.W.kitOne K (.type "bool") (.type "int") = some true
  i_str_is_Ratio : PySem.W.kitOne K (.type "str") (.ref d.Ratio) = some false
  w_Ratio_str : PySem.W.notFirst K d.Ratio (.type "str") = true
  i_str_is_int : PySem.W.kitOne K (.type "str") (.type "int") = some false
  i_str_is_bool : PySem.W.kitOne K (.type "str") (.type "bool") = some false
  i_tuple_is_Ratio : PySem.W.kitOne K (.type "tuple") (.ref d.Ratio) = some false
  w_Ratio_tuple : PySem.W.notFirst K d.Ratio (.type "tuple") = true
  i_tuple_is_int : PySem.W.kitOne K (.type "tuple") (.type "int") = some false
  i_tuple_is_bool : PySem.W.kitOne K (.type "tuple") (.type "bool") = some false
  i_list_is_Ratio : PySem.W.kitOne K (.type "list") (.ref d.Ratio) = some false
  w_Ratio_list : PySem.W.notFirst K d.Ratio (.type "list") = true
  i_list_is_int : PySem.W.kitOne K (.type "list") (.type "int") = some false
  i_list_is_bool : PySem.W.kitOne K (.type "list") (.type "bool") = some false
end AZ
namespace AZ
open PySem L2
theorem tx_mk {K : PySem.W.Frag} {h : Heap} {mg : Str → Option Value} {A__law_pen A__law_draw A__law_pick A_Ratio A_is_integer A_Ratio___init__ A_Ratio_of A_Ratio___add__ A_Ratio___sub__ A_Ratio___mul__ A_Ratio___lt__ A_Ratio___le__ A_Ratio___gt__ A_Ratio___ge__ A_Ratio___eq__ A_Ratio_floor A_Ratio_ceiling A_Ratio___str__ A_Ratio___bool__ A_BadRatio___init__ A_SnapError A_BadRatio A_all_numbers A_bound_of A_Ratio_highest A_Ratio_lowest A_is_number A_is_zoom A_is_place A_many_upto A_state_ahead A_changing A_is_mark A_checked_marks A_least_turn A_least_begin A_Ratio___radd__ A_Ratio___rsub__ A_normal_form A_Zooms___init__ A_Zooms A_Zooms_everything A_Zooms_nothing A_BadZooms___init__ A_BadZooms A_Zooms_beyond A_Zooms_between A_Zooms_mark A_Zooms_state_behind A_Zooms___bool__ A_Ratio_divided A_Zooms___contains__ A_Zooms___eq__ A_Zooms___invert__ A_Zooms_joined A_Zooms___sub__ A_common_multiple A_joined_truth A_marks_joined A__law_number A__law_heard A__law_beside A__law_between_right A__law_beyond_right A__law_refused_right A_law A_Zooms_marks_upto A_Ratio_common A_Ratio___rmul__ A_cp_law A_cp__law_between_right A_cp__law_refused_right A_cc_law A_cc__law_between_right A_cc__law_refused_right : Addr} {cd2__law_between_right cd2__law_refused_right cd2_law cd_BadRatio___init__ cd_BadZooms___init__ cd_Ratio___add__ cd_Ratio___bool__ cd_Ratio___eq__ cd_Ratio___ge__ cd_Ratio___gt__ cd_Ratio___init__ cd_Ratio___le__ cd_Ratio___lt__ cd_Ratio___mul__ cd_Ratio___rsub__ cd_Ratio___str__ cd_Ratio___sub__ cd_Ratio_ceiling cd_Ratio_common cd_Ratio_divided cd_Ratio_floor cd_Ratio_highest cd_Ratio_lowest cd_Ratio_of cd_Zooms___bool__ cd_Zooms___contains__ cd_Zooms___eq__ cd_Zooms___init__ cd_Zooms___invert__ cd_Zooms___sub__ cd_Zooms_between cd_Zooms_beyond cd_Zooms_everything cd_Zooms_joined cd_Zooms_mark cd_Zooms_marks_upto cd_Zooms_nothing cd_Zooms_state_behind cd__law_beside cd__law_between_right cd__law_beyond_right cd__law_draw cd__law_heard cd__law_number cd__law_pen cd__law_pick cd__law_refused_right cd_all_numbers cd_bound_of cd_changing cd_checked_marks cd_common_multiple cd_is_integer cd_is_mark cd_is_number cd_is_place cd_is_zoom cd_joined_truth cd_law cd_least_begin cd_least_turn cd_many_upto cd_marks_joined cd_normal_form cd_state_ahead ct2__law_between_right ct2__law_refused_right ct2_law ct_BadRatio___init__ ct_BadZooms___init__ ct_Ratio___add__ ct_Ratio___bool__ ct_Ratio___eq__ ct_Ratio___ge__ ct_Ratio___gt__ ct_Ratio___init__ ct_Ratio___le__ ct_Ratio___lt__ ct_Ratio___mul__ ct_Ratio___rsub__ ct_Ratio___str__ ct_Ratio___sub__ ct_Ratio_ceiling ct_Ratio_common ct_Ratio_divided ct_Ratio_floor ct_Ratio_highest ct_Ratio_lowest ct_Ratio_of ct_Zooms___bool__ ct_Zooms___contains__ ct_Zooms___eq__ ct_Zooms___init__ ct_Zooms___invert__ ct_Zooms___sub__ ct_Zooms_between ct_Zooms_beyond ct_Zooms_everything ct_Zooms_joined ct_Zooms_mark ct_Zooms_marks_upto ct_Zooms_nothing ct_Zooms_state_behind ct__law_beside ct__law_between_right ct__law_beyond_right ct__law_draw ct__law_heard ct__law_number ct__law_pen ct__law_pick ct__law_refused_right ct_all_numbers ct_bound_of ct_changing ct_checked_marks ct_common_multiple ct_is_integer ct_is_mark ct_is_number ct_is_place ct_is_zoom ct_joined_truth ct_law ct_least_begin ct_least_turn ct_many_upto ct_marks_joined ct_normal_form ct_state_ahead dc2__law_between_right dc2__law_refused_right dc2_law dc_BadRatio___init__ dc_BadZooms___init__ dc_Ratio___add__ dc_Ratio___bool__ dc_Ratio___eq__ dc_Ratio___ge__ dc_Ratio___gt__ dc_Ratio___init__ dc_Ratio___le__ dc_Ratio___lt__ dc_Ratio___mul__ dc_Ratio___rsub__ dc_Ratio___str__ dc_Ratio___sub__ dc_Ratio_ceiling dc_Ratio_common dc_Ratio_divided dc_Ratio_floor dc_Ratio_highest dc_Ratio_lowest dc_Ratio_of dc_Zooms___bool__ dc_Zooms___contains__ dc_Zooms___eq__ dc_Zooms___init__ dc_Zooms___invert__ dc_Zooms___sub__ dc_Zooms_between dc_Zooms_beyond dc_Zooms_everything dc_Zooms_joined dc_Zooms_mark dc_Zooms_marks_upto dc_Zooms_nothing dc_Zooms_state_behind dc__law_beside dc__law_between_right dc__law_beyond_right dc__law_draw dc__law_heard dc__law_number dc__law_pen dc__law_pick dc__law_refused_right dc_all_numbers dc_bound_of dc_changing dc_checked_marks dc_common_multiple dc_is_integer dc_is_mark dc_is_number dc_is_place dc_is_zoom dc_joined_truth dc_law dc_least_begin dc_least_turn dc_many_upto dc_marks_joined dc_normal_form dc_state_ahead kV2__law_between_right kV2__law_refused_right kV2_law kV_BadRatio___init__ kV_BadZooms___init__ kV_Ratio___add__ kV_Ratio___bool__ kV_Ratio___eq__ kV_Ratio___ge__ kV_Ratio___gt__ kV_Ratio___init__ kV_Ratio___le__ kV_Ratio___lt__ kV_Ratio___mul__ kV_Ratio___rsub__ kV_Ratio___str__ kV_Ratio___sub__ kV_Ratio_ceiling kV_Ratio_common kV_Ratio_divided kV_Ratio_floor kV_Ratio_highest kV_Ratio_lowest kV_Ratio_of kV_Zooms___bool__ kV_Zooms___contains__ kV_Zooms___eq__ kV_Zooms___init__ kV_Zooms___invert__ kV_Zooms___sub__ kV_Zooms_between kV_Zooms_beyond kV_Zooms_everything kV_Zooms_joined kV_Zooms_mark kV_Zooms_marks_upto kV_Zooms_nothing kV_Zooms_state_behind kV__law_beside kV__law_between_right kV__law_beyond_right kV__law_draw kV__law_heard kV__law_number kV__law_pen kV__law_pick kV__law_refused_right kV_all_numbers kV_bound_of kV_changing kV_checked_marks kV_common_multiple kV_is_integer kV_is_mark kV_is_number kV_is_place kV_is_zoom kV_joined_truth kV_law kV_least_begin kV_least_turn kV_many_upto kV_marks_joined kV_normal_form kV_state_ahead oc2__law_between_right oc2__law_refused_right oc2_law oc_BadRatio___init__ oc_BadZooms___init__ oc_Ratio___add__ oc_Ratio___bool__ oc_Ratio___eq__ oc_Ratio___ge__ oc_Ratio___gt__ oc_Ratio___init__ oc_Ratio___le__ oc_Ratio___lt__ oc_Ratio___mul__ oc_Ratio___rsub__ oc_Ratio___str__ oc_Ratio___sub__ oc_Ratio_ceiling oc_Ratio_common oc_Ratio_divided oc_Ratio_floor oc_Ratio_highest oc_Ratio_lowest oc_Ratio_of oc_Zooms___bool__ oc_Zooms___contains__ oc_Zooms___eq__ oc_Zooms___init__ oc_Zooms___invert__ oc_Zooms___sub__ oc_Zooms_between oc_Zooms_beyond oc_Zooms_everything oc_Zooms_joined oc_Zooms_mark oc_Zooms_marks_upto oc_Zooms_nothing oc_Zooms_state_behind oc__law_beside oc__law_between_right oc__law_beyond_right oc__law_draw oc__law_heard oc__law_number oc__law_pen oc__law_pick oc__law_refused_right oc_all_numbers oc_bound_of oc_changing oc_checked_marks oc_common_multiple oc_is_integer oc_is_mark oc_is_number oc_is_place oc_is_zoom oc_joined_truth oc_law oc_least_begin oc_least_turn oc_many_upto oc_marks_joined oc_normal_form oc_state_ahead pm2__law_between_right pm2__law_refused_right pm2_law pm_BadRatio___init__ pm_BadZooms___init__ pm_Ratio___add__ pm_Ratio___bool__ pm_Ratio___eq__ pm_Ratio___ge__ pm_Ratio___gt__ pm_Ratio___init__ pm_Ratio___le__ pm_Ratio___lt__ pm_Ratio___mul__ pm_Ratio___rsub__ pm_Ratio___str__ pm_Ratio___sub__ pm_Ratio_ceiling pm_Ratio_common pm_Ratio_divided pm_Ratio_floor pm_Ratio_highest pm_Ratio_lowest pm_Ratio_of pm_Zooms___bool__ pm_Zooms___contains__ pm_Zooms___eq__ pm_Zooms___init__ pm_Zooms___invert__ pm_Zooms___sub__ pm_Zooms_between pm_Zooms_beyond pm_Zooms_everything pm_Zooms_joined pm_Zooms_mark pm_Zooms_marks_upto pm_Zooms_nothing pm_Zooms_state_behind pm__law_beside pm__law_between_right pm__law_beyond_right pm__law_draw pm__law_heard pm__law_number pm__law_pen pm__law_pick pm__law_refused_right pm_all_numbers pm_bound_of pm_changing pm_checked_marks pm_common_multiple pm_is_integer pm_is_mark pm_is_number pm_is_place pm_is_zoom pm_joined_truth pm_law pm_least_begin pm_least_turn pm_many_upto pm_marks_joined pm_normal_form pm_state_ahead tc_Ratio___init__ tc_Zooms_between tc_Zooms_beyond : Value} {an2__law_between_right an2__law_refused_right an2_law an_BadRatio___init__ an_BadZooms___init__ an_Ratio___add__ an_Ratio___bool__ an_Ratio___eq__ an_Ratio___ge__ an_Ratio___gt__ an_Ratio___init__ an_Ratio___le__ an_Ratio___lt__ an_Ratio___mul__ an_Ratio___rsub__ an_Ratio___str__ an_Ratio___sub__ an_Ratio_ceiling an_Ratio_common an_Ratio_divided an_Ratio_floor an_Ratio_highest an_Ratio_lowest an_Ratio_of an_Zooms___bool__ an_Zooms___contains__ an_Zooms___eq__ an_Zooms___init__ an_Zooms___invert__ an_Zooms___sub__ an_Zooms_between an_Zooms_beyond an_Zooms_everything an_Zooms_joined an_Zooms_mark an_Zooms_marks_upto an_Zooms_nothing an_Zooms_state_behind an__law_beside an__law_between_right an__law_beyond_right an__law_draw an__law_heard an__law_number an__law_pen an__law_pick an__law_refused_right an_all_numbers an_bound_of an_changing an_checked_marks an_common_multiple an_is_integer an_is_mark an_is_number an_is_place an_is_zoom an_joined_truth an_law an_least_begin an_least_turn an_many_upto an_marks_joined an_normal_form an_state_ahead od2__law_between_right od2__law_refused_right od2_law od_BadRatio___init__ od_BadZooms___init__ od_Ratio___add__ od_Ratio___bool__ od_Ratio___eq__ od_Ratio___ge__ od_Ratio___gt__ od_Ratio___init__ od_Ratio___le__ od_Ratio___lt__ od_Ratio___mul__ od_Ratio___rsub__ od_Ratio___str__ od_Ratio___sub__ od_Ratio_ceiling od_Ratio_common od_Ratio_divided od_Ratio_floor od_Ratio_highest od_Ratio_lowest od_Ratio_of od_Zooms___bool__ od_Zooms___contains__ od_Zooms___eq__ od_Zooms___init__ od_Zooms___invert__ od_Zooms___sub__ od_Zooms_between od_Zooms_beyond od_Zooms_everything od_Zooms_joined od_Zooms_mark od_Zooms_marks_upto od_Zooms_nothing od_Zooms_state_behind od__law_beside od__law_between_right od__law_beyond_right od__law_draw od__law_heard od__law_number od__law_pen od__law_pick od__law_refused_right od_all_numbers od_bound_of od_changing od_checked_marks od_common_multiple od_is_integer od_is_mark od_is_number od_is_place od_is_zoom od_joined_truth od_law od_least_begin od_least_turn od_many_upto od_marks_joined od_normal_form od_state_ahead td2__law_between_right td2__law_refused_right td2_law td_Ratio___init__ td_Zooms_between td_Zooms_beyond : Option Addr} {sl2__law_between_right sl2__law_refused_right sl2_law sl_BadRatio___init__ sl_BadZooms___init__ sl_Ratio___add__ sl_Ratio___bool__ sl_Ratio___eq__ sl_Ratio___ge__ sl_Ratio___gt__ sl_Ratio___init__ sl_Ratio___le__ sl_Ratio___lt__ sl_Ratio___mul__ sl_Ratio___rsub__ sl_Ratio___str__ sl_Ratio___sub__ sl_Ratio_ceiling sl_Ratio_common sl_Ratio_divided sl_Ratio_floor sl_Ratio_highest sl_Ratio_lowest sl_Ratio_of sl_Zooms___bool__ sl_Zooms___contains__ sl_Zooms___eq__ sl_Zooms___init__ sl_Zooms___invert__ sl_Zooms___sub__ sl_Zooms_between sl_Zooms_beyond sl_Zooms_everything sl_Zooms_joined sl_Zooms_mark sl_Zooms_marks_upto sl_Zooms_nothing sl_Zooms_state_behind sl__law_beside sl__law_between_right sl__law_beyond_right sl__law_draw sl__law_heard sl__law_number sl__law_pen sl__law_pick sl__law_refused_right sl_all_numbers sl_bound_of sl_changing sl_checked_marks sl_common_multiple sl_is_integer sl_is_mark sl_is_number sl_is_place sl_is_zoom sl_joined_truth sl_law sl_least_begin sl_least_turn sl_many_upto sl_marks_joined sl_normal_form sl_state_ahead ts2__law_between_right ts2__law_refused_right ts2_law ts_Ratio___init__ ts_Zooms_between ts_Zooms_beyond : Array (Option Value)} {tn_Ratio___init__ tn_Zooms_between tn_Zooms_beyond : Nat} {tk0_Ratio___init__ tk0_cv_Zooms_MOST_MARKS : Tok} {dT_Ratio___init__ dT_Zooms_between dT_Zooms_beyond pp_Ratio_common pp_Ratio_highest pp_Ratio_lowest pp_Ratio_of pp_Zooms_between pp_Zooms_beyond pp_Zooms_everything pp_Zooms_nothing : Addr} {fv__law_between_right fv__law_refused_right fv_law rr_Ratio_common rr_Ratio_highest rr_Ratio_lowest rr_Ratio_of rr_Zooms_between rr_Zooms_beyond rr_Zooms_everything rr_Zooms_nothing : List Value} {fo_Ratio_add fo_Ratio_mul fo_Ratio_sub fo_Zooms_sub ro_Ratio_add ro_Ratio_mul ro_Ratio_sub ro_Zooms_sub : Option Value} {e0_BadRatio e0_BadZooms e0_SnapError : Option Value} {e1_BadRatio e1_BadZooms e1_SnapError : Option Value} {e2_BadRatio e2_BadZooms e2_SnapError : Option Value} {e3_BadRatio e3_BadZooms e3_SnapError : Option Value} {e5_BadRatio e5_BadZooms e5_SnapError : Option Value} {eN_BadRatio eN_BadZooms eN_SnapError : Addr} {ea_BadRatio ea_BadZooms ea_SnapError : Bool} {eb_BadRatio eb_BadZooms eb_SnapError : List Value} {ec_BadRatio ec_BadZooms ec_SnapError : Option Bool} {ed_BadRatio ed_BadZooms ed_SnapError : Option Addr} {en_BadRatio en_BadZooms en_SnapError : List Str} {eq_BadRatio eq_BadZooms eq_SnapError : Str} {eu_BadRatio eu_BadZooms eu_SnapError : List Value} (X : K.In h) (G : h.Ns mainGlobals mg)
    (L__law_pen : PySem.W.nsIn K mainGlobals "_law_pen" = some (some (.ref A__law_pen)))
    (L__law_draw : PySem.W.nsIn K mainGlobals "_law_draw" = some (some (.ref A__law_draw)))
    (L__law_pick : PySem.W.nsIn K mainGlobals "_law_pick" = some (some (.ref A__law_pick)))
    (L_Ratio : PySem.W.nsIn K mainGlobals "Ratio" = some (some (.ref A_Ratio)))
    (L_is_integer : PySem.W.nsIn K mainGlobals "is_integer" = some (some (.ref A_is_integer)))
    (L_SnapError : PySem.W.nsIn K mainGlobals "SnapError" = some (some (.ref A_SnapError)))
    (L_BadRatio : PySem.W.nsIn K mainGlobals "BadRatio" = some (some (.ref A_BadRatio)))
    (L_all_numbers : PySem.W.nsIn K mainGlobals "all_numbers" = some (some (.ref A_all_numbers)))
    (L_bound_of : PySem.W.nsIn K mainGlobals "bound_of" = some (some (.ref A_bound_of)))
    (L_is_number : PySem.W.nsIn K mainGlobals "is_number" = some (some (.ref A_is_number)))
    (L_is_zoom : PySem.W.nsIn K mainGlobals "is_zoom" = some (some (.ref A_is_zoom)))
    (L_is_place : PySem.W.nsIn K mainGlobals "is_place" = some (some (.ref A_is_place)))
    (L_many_upto : PySem.W.nsIn K mainGlobals "many_upto" = some (some (.ref A_many_upto)))
    (L_state_ahead : PySem.W.nsIn K mainGlobals "state_ahead" = some (some (.ref A_state_ahead)))
    (L_changing : PySem.W.nsIn K mainGlobals "changing" = some (some (.ref A_changing)))
    (L_is_mark : PySem.W.nsIn K mainGlobals "is_mark" = some (some (.ref A_is_mark)))
    (L_checked_marks : PySem.W.nsIn K mainGlobals "checked_marks" = some (some (.ref A_checked_marks)))
    (L_least_turn : PySem.W.nsIn K mainGlobals "least_turn" = some (some (.ref A_least_turn)))
    (L_least_begin : PySem.W.nsIn K mainGlobals "least_begin" = some (some (.ref A_least_begin)))
    (L_normal_form : PySem.W.nsIn K mainGlobals "normal_form" = some (some (.ref A_normal_form)))
    (L_Zooms : PySem.W.nsIn K mainGlobals "Zooms" = some (some (.ref A_Zooms)))
    (L_BadZooms : PySem.W.nsIn K mainGlobals "BadZooms" = some (some (.ref A_BadZooms)))
    (L_common_multiple : PySem.W.nsIn K mainGlobals "common_multiple" = some (some (.ref A_common_multiple)))
    (L_joined_truth : PySem.W.nsIn K mainGlobals "joined_truth" = some (some (.ref A_joined_truth)))
    (L_marks_joined : PySem.W.nsIn K mainGlobals "marks_joined" = some (some (.ref A_marks_joined)))
    (L__law_number : PySem.W.nsIn K mainGlobals "_law_number" = some (some (.ref A__law_number)))
    (L__law_heard : PySem.W.nsIn K mainGlobals "_law_heard" = some (some (.ref A__law_heard)))
    (L__law_beside : PySem.W.nsIn K mainGlobals "_law_beside" = some (some (.ref A__law_beside)))
    (L__law_between_right : PySem.W.nsIn K mainGlobals "_law_between_right" = some (some (.ref A__law_between_right)))
    (L__law_beyond_right : PySem.W.nsIn K mainGlobals "_law_beyond_right" = some (some (.ref A__law_beyond_right)))
    (L__law_refused_right : PySem.W.nsIn K mainGlobals "_law_refused_right" = some (some (.ref A__law_refused_right)))
    (L_law : PySem.W.nsIn K mainGlobals "law" = some (some (.ref A_law)))
    (L_Ratio___init__ : PySem.W.findIn K (.ref A_Ratio) "__init__" = some (some (.ref A_Ratio___init__)))
    (L_Ratio___add__ : PySem.W.findIn K (.ref A_Ratio) "__add__" = some (some (.ref A_Ratio___add__)))
    (L_Ratio___sub__ : PySem.W.findIn K (.ref A_Ratio) "__sub__" = some (some (.ref A_Ratio___sub__)))
    (L_Ratio___mul__ : PySem.W.findIn K (.ref A_Ratio) "__mul__" = some (some (.ref A_Ratio___mul__)))
    (L_Ratio___lt__ : PySem.W.findIn K (.ref A_Ratio) "__lt__" = some (some (.ref A_Ratio___lt__)))
    (L_Ratio___le__ : PySem.W.findIn K (.ref A_Ratio) "__le__" = some (some (.ref A_Ratio___le__)))
    (L_Ratio___gt__ : PySem.W.findIn K (.ref A_Ratio) "__gt__" = some (some (.ref A_Ratio___gt__)))
    (L_Ratio___ge__ : PySem.W.findIn K (.ref A_Ratio) "__ge__" = some (some (.ref A_Ratio___ge__)))
    (L_Ratio___eq__ : PySem.W.findIn K (.ref A_Ratio) "__eq__" = some (some (.ref A_Ratio___eq__)))
    (L_Ratio_floor : PySem.W.findIn K (.ref A_Ratio) "floor" = some (some (.ref A_Ratio_floor)))
    (L_Ratio_ceiling : PySem.W.findIn K (.ref A_Ratio) "ceiling" = some (some (.ref A_Ratio_ceiling)))
    (L_Ratio___str__ : PySem.W.findIn K (.ref A_Ratio) "__str__" = some (some (.ref A_Ratio___str__)))
    (L_Ratio___bool__ : PySem.W.findIn K (.ref A_Ratio) "__bool__" = some (some (.ref A_Ratio___bool__)))
    (L_BadRatio___init__ : PySem.W.findIn K (.ref A_BadRatio) "__init__" = some (some (.ref A_BadRatio___init__)))
    (L_Ratio___radd__ : PySem.W.findIn K (.ref A_Ratio) "__radd__" = some (some (.ref A_Ratio___radd__)))
    (L_Ratio___rsub__ : PySem.W.findIn K (.ref A_Ratio) "__rsub__" = some (some (.ref A_Ratio___rsub__)))
    (L_Zooms___init__ : PySem.W.findIn K (.ref A_Zooms) "__init__" = some (some (.ref A_Zooms___init__)))
    (L_BadZooms___init__ : PySem.W.findIn K (.ref A_BadZooms) "__init__" = some (some (.ref A_BadZooms___init__)))
    (L_Zooms_mark : PySem.W.findIn K (.ref A_Zooms) "mark" = some (some (.ref A_Zooms_mark)))
    (L_Zooms_state_behind : PySem.W.findIn K (.ref A_Zooms) "state_behind" = some (some (.ref A_Zooms_state_behind)))
    (L_Zooms___bool__ : PySem.W.findIn K (.ref A_Zooms) "__bool__" = some (some (.ref A_Zooms___bool__)))
    (L_Ratio_divided : PySem.W.findIn K (.ref A_Ratio) "divided" = some (some (.ref A_Ratio_divided)))
    (L_Zooms___contains__ : PySem.W.findIn K (.ref A_Zooms) "__contains__" = some (some (.ref A_Zooms___contains__)))
    (L_Zooms___eq__ : PySem.W.findIn K (.ref A_Zooms) "__eq__" = some (some (.ref A_Zooms___eq__)))
    (L_Zooms___invert__ : PySem.W.findIn K (.ref A_Zooms) "__invert__" = some (some (.ref A_Zooms___invert__)))
    (L_Zooms_joined : PySem.W.findIn K (.ref A_Zooms) "joined" = some (some (.ref A_Zooms_joined)))
    (L_Zooms___sub__ : PySem.W.findIn K (.ref A_Zooms) "__sub__" = some (some (.ref A_Zooms___sub__)))
    (L_Zooms_marks_upto : PySem.W.findIn K (.ref A_Zooms) "marks_upto" = some (some (.ref A_Zooms_marks_upto)))
    (L_Ratio___rmul__ : PySem.W.findIn K (.ref A_Ratio) "__rmul__" = some (some (.ref A_Ratio___rmul__)))
    (s_Ratio_of_r : PySem.W.readsIn K A_Ratio (.type "type") = true)
    (s_Ratio_highest_r : PySem.W.readsIn K A_Ratio (.type "type") = true)
    (s_Ratio_common_r : PySem.W.readsIn K A_Ratio (.type "type") = true)
    (s_Ratio_lowest_r : PySem.W.readsIn K A_Ratio (.type "type") = true)
    (s_Zooms_between_r : PySem.W.readsIn K A_Zooms (.type "type") = true)
    (s_Zooms_beyond_r : PySem.W.readsIn K A_Zooms (.type "type") = true)
    (s_Zooms_everything_r : PySem.W.readsIn K A_Zooms (.type "type") = true)
    (s_Zooms_nothing_r : PySem.W.readsIn K A_Zooms (.type "type") = true)
    (s_Ratio_of_a : PySem.W.findCls K (.ref A_Ratio) (.type "type") "of" = some (.get (.builtin "staticmethod.__get__") (.ref pp_Ratio_of) .none (.ref A_Ratio)))
    (s_Ratio_highest_a : PySem.W.findCls K (.ref A_Ratio) (.type "type") "highest" = some (.get (.builtin "staticmethod.__get__") (.ref pp_Ratio_highest) .none (.ref A_Ratio)))
    (s_Ratio_common_a : PySem.W.findCls K (.ref A_Ratio) (.type "type") "common" = some (.get (.builtin "staticmethod.__get__") (.ref pp_Ratio_common) .none (.ref A_Ratio)))
    (s_Ratio_lowest_a : PySem.W.findCls K (.ref A_Ratio) (.type "type") "lowest" = some (.get (.builtin "staticmethod.__get__") (.ref pp_Ratio_lowest) .none (.ref A_Ratio)))
    (s_Zooms_between_a : PySem.W.findCls K (.ref A_Zooms) (.type "type") "between" = some (.get (.builtin "staticmethod.__get__") (.ref pp_Zooms_between) .none (.ref A_Zooms)))
    (s_Zooms_beyond_a : PySem.W.findCls K (.ref A_Zooms) (.type "type") "beyond" = some (.get (.builtin "staticmethod.__get__") (.ref pp_Zooms_beyond) .none (.ref A_Zooms)))
    (s_Zooms_everything_a : PySem.W.findCls K (.ref A_Zooms) (.type "type") "everything" = some (.get (.builtin "staticmethod.__get__") (.ref pp_Zooms_everything) .none (.ref A_Zooms)))
    (s_Zooms_nothing_a : PySem.W.findCls K (.ref A_Zooms) (.type "type") "nothing" = some (.get (.builtin "staticmethod.__get__") (.ref pp_Zooms_nothing) .none (.ref A_Zooms)))
    (s_Ratio_of_q : PySem.W.recIn K pp_Ratio_of "staticmethod" = some (.ref A_Ratio_of :: rr_Ratio_of))
    (s_Ratio_highest_q : PySem.W.recIn K pp_Ratio_highest "staticmethod" = some (.ref A_Ratio_highest :: rr_Ratio_highest))
    (s_Ratio_common_q : PySem.W.recIn K pp_Ratio_common "staticmethod" = some (.ref A_Ratio_common :: rr_Ratio_common))
    (s_Ratio_lowest_q : PySem.W.recIn K pp_Ratio_lowest "staticmethod" = some (.ref A_Ratio_lowest :: rr_Ratio_lowest))
    (s_Zooms_between_q : PySem.W.recIn K pp_Zooms_between "staticmethod" = some (.ref A_Zooms_between :: rr_Zooms_between))
    (s_Zooms_beyond_q : PySem.W.recIn K pp_Zooms_beyond "staticmethod" = some (.ref A_Zooms_beyond :: rr_Zooms_beyond))
    (s_Zooms_everything_q : PySem.W.recIn K pp_Zooms_everything "staticmethod" = some (.ref A_Zooms_everything :: rr_Zooms_everything))
    (s_Zooms_nothing_q : PySem.W.recIn K pp_Zooms_nothing "staticmethod" = some (.ref A_Zooms_nothing :: rr_Zooms_nothing))
    (F__law_pen_l : K.lookup A__law_pen = some ⟨oc__law_pen, od__law_pen, .func (PySem.W.fnOf "_law_pen" "_law_pen" (defArgs s__law_pen) (defBody s__law_pen) (defScope s__law_pen) .none kV__law_pen dc__law_pen pm__law_pen an__law_pen cd__law_pen ct__law_pen), sl__law_pen⟩)
    (F__law_draw_l : K.lookup A__law_draw = some ⟨oc__law_draw, od__law_draw, .func (PySem.W.fnOf "_law_draw" "_law_draw" (defArgs s__law_draw) (defBody s__law_draw) (defScope s__law_draw) .none kV__law_draw dc__law_draw pm__law_draw an__law_draw cd__law_draw ct__law_draw), sl__law_draw⟩)
    (F__law_pick_l : K.lookup A__law_pick = some ⟨oc__law_pick, od__law_pick, .func (PySem.W.fnOf "_law_pick" "_law_pick" (defArgs s__law_pick) (defBody s__law_pick) (defScope s__law_pick) .none kV__law_pick dc__law_pick pm__law_pick an__law_pick cd__law_pick ct__law_pick), sl__law_pick⟩)
    (F_is_integer_l : K.lookup A_is_integer = some ⟨oc_is_integer, od_is_integer, .func (PySem.W.fnOf "is_integer" "is_integer" (defArgs s_is_integer) (defBody s_is_integer) (defScope s_is_integer) .none kV_is_integer dc_is_integer pm_is_integer an_is_integer cd_is_integer ct_is_integer), sl_is_integer⟩)
    (D_Ratio___init___l : K.lookup A_Ratio___init__ = some ⟨oc_Ratio___init__, od_Ratio___init__, .func (PySem.W.fnOf "__init__" "Ratio.__init__" (defArgs s_Ratio___init__) (defBody s_Ratio___init__) (defScope s_Ratio___init__) (.ref dT_Ratio___init__) kV_Ratio___init__ dc_Ratio___init__ pm_Ratio___init__ an_Ratio___init__ cd_Ratio___init__ ct_Ratio___init__), sl_Ratio___init__⟩)
    (F_Ratio_of_l : K.lookup A_Ratio_of = some ⟨oc_Ratio_of, od_Ratio_of, .func (PySem.W.fnOf "of" "Ratio.of" (defArgs s_Ratio_of) (defBody s_Ratio_of) (defScope s_Ratio_of) .none kV_Ratio_of dc_Ratio_of pm_Ratio_of an_Ratio_of cd_Ratio_of ct_Ratio_of), sl_Ratio_of⟩)
    (F_Ratio___add___l : K.lookup A_Ratio___add__ = some ⟨oc_Ratio___add__, od_Ratio___add__, .func (PySem.W.fnOf "__add__" "Ratio.__add__" (defArgs s_Ratio___add__) (defBody s_Ratio___add__) (defScope s_Ratio___add__) .none kV_Ratio___add__ dc_Ratio___add__ pm_Ratio___add__ an_Ratio___add__ cd_Ratio___add__ ct_Ratio___add__), sl_Ratio___add__⟩)
    (F_Ratio___sub___l : K.lookup A_Ratio___sub__ = some ⟨oc_Ratio___sub__, od_Ratio___sub__, .func (PySem.W.fnOf "__sub__" "Ratio.__sub__" (defArgs s_Ratio___sub__) (defBody s_Ratio___sub__) (defScope s_Ratio___sub__) .none kV_Ratio___sub__ dc_Ratio___sub__ pm_Ratio___sub__ an_Ratio___sub__ cd_Ratio___sub__ ct_Ratio___sub__), sl_Ratio___sub__⟩)
    (F_Ratio___mul___l : K.lookup A_Ratio___mul__ = some ⟨oc_Ratio___mul__, od_Ratio___mul__, .func (PySem.W.fnOf "__mul__" "Ratio.__mul__" (defArgs s_Ratio___mul__) (defBody s_Ratio___mul__) (defScope s_Ratio___mul__) .none kV_Ratio___mul__ dc_Ratio___mul__ pm_Ratio___mul__ an_Ratio___mul__ cd_Ratio___mul__ ct_Ratio___mul__), sl_Ratio___mul__⟩)
    (F_Ratio___lt___l : K.lookup A_Ratio___lt__ = some ⟨oc_Ratio___lt__, od_Ratio___lt__, .func (PySem.W.fnOf "__lt__" "Ratio.__lt__" (defArgs s_Ratio___lt__) (defBody s_Ratio___lt__) (defScope s_Ratio___lt__) .none kV_Ratio___lt__ dc_Ratio___lt__ pm_Ratio___lt__ an_Ratio___lt__ cd_Ratio___lt__ ct_Ratio___lt__), sl_Ratio___lt__⟩)
    (F_Ratio___le___l : K.lookup A_Ratio___le__ = some ⟨oc_Ratio___le__, od_Ratio___le__, .func (PySem.W.fnOf "__le__" "Ratio.__le__" (defArgs s_Ratio___le__) (defBody s_Ratio___le__) (defScope s_Ratio___le__) .none kV_Ratio___le__ dc_Ratio___le__ pm_Ratio___le__ an_Ratio___le__ cd_Ratio___le__ ct_Ratio___le__), sl_Ratio___le__⟩)
    (F_Ratio___gt___l : K.lookup A_Ratio___gt__ = some ⟨oc_Ratio___gt__, od_Ratio___gt__, .func (PySem.W.fnOf "__gt__" "Ratio.__gt__" (defArgs s_Ratio___gt__) (defBody s_Ratio___gt__) (defScope s_Ratio___gt__) .none kV_Ratio___gt__ dc_Ratio___gt__ pm_Ratio___gt__ an_Ratio___gt__ cd_Ratio___gt__ ct_Ratio___gt__), sl_Ratio___gt__⟩)
    (F_Ratio___ge___l : K.lookup A_Ratio___ge__ = some ⟨oc_Ratio___ge__, od_Ratio___ge__, .func (PySem.W.fnOf "__ge__" "Ratio.__ge__" (defArgs s_Ratio___ge__) (defBody s_Ratio___ge__) (defScope s_Ratio___ge__) .none kV_Ratio___ge__ dc_Ratio___ge__ pm_Ratio___ge__ an_Ratio___ge__ cd_Ratio___ge__ ct_Ratio___ge__), sl_Ratio___ge__⟩)
    (F_Ratio___eq___l : K.lookup A_Ratio___eq__ = some ⟨oc_Ratio___eq__, od_Ratio___eq__, .func (PySem.W.fnOf "__eq__" "Ratio.__eq__" (defArgs s_Ratio___eq__) (defBody s_Ratio___eq__) (defScope s_Ratio___eq__) .none kV_Ratio___eq__ dc_Ratio___eq__ pm_Ratio___eq__ an_Ratio___eq__ cd_Ratio___eq__ ct_Ratio___eq__), sl_Ratio___eq__⟩)
    (F_Ratio_floor_l : K.lookup A_Ratio_floor = some ⟨oc_Ratio_floor, od_Ratio_floor, .func (PySem.W.fnOf "floor" "Ratio.floor" (defArgs s_Ratio_floor) (defBody s_Ratio_floor) (defScope s_Ratio_floor) .none kV_Ratio_floor dc_Ratio_floor pm_Ratio_floor an_Ratio_floor cd_Ratio_floor ct_Ratio_floor), sl_Ratio_floor⟩)
    (F_Ratio_ceiling_l : K.lookup A_Ratio_ceiling = some ⟨oc_Ratio_ceiling, od_Ratio_ceiling, .func (PySem.W.fnOf "ceiling" "Ratio.ceiling" (defArgs s_Ratio_ceiling) (defBody s_Ratio_ceiling) (defScope s_Ratio_ceiling) .none kV_Ratio_ceiling dc_Ratio_ceiling pm_Ratio_ceiling an_Ratio_ceiling cd_Ratio_ceiling ct_Ratio_ceiling), sl_Ratio_ceiling⟩)
    (F_Ratio___str___l : K.lookup A_Ratio___str__ = some ⟨oc_Ratio___str__, od_Ratio___str__, .func (PySem.W.fnOf "__str__" "Ratio.__str__" (defArgs s_Ratio___str__) (defBody s_Ratio___str__) (defScope s_Ratio___str__) .none kV_Ratio___str__ dc_Ratio___str__ pm_Ratio___str__ an_Ratio___str__ cd_Ratio___str__ ct_Ratio___str__), sl_Ratio___str__⟩)
    (F_Ratio___bool___l : K.lookup A_Ratio___bool__ = some ⟨oc_Ratio___bool__, od_Ratio___bool__, .func (PySem.W.fnOf "__bool__" "Ratio.__bool__" (defArgs s_Ratio___bool__) (defBody s_Ratio___bool__) (defScope s_Ratio___bool__) .none kV_Ratio___bool__ dc_Ratio___bool__ pm_Ratio___bool__ an_Ratio___bool__ cd_Ratio___bool__ ct_Ratio___bool__), sl_Ratio___bool__⟩)
    (F_BadRatio___init___l : K.lookup A_BadRatio___init__ = some ⟨oc_BadRatio___init__, od_BadRatio___init__, .func (PySem.W.fnOf "__init__" "BadRatio.__init__" (defArgs s_BadRatio___init__) (defBody s_BadRatio___init__) (defScope s_BadRatio___init__) .none kV_BadRatio___init__ dc_BadRatio___init__ pm_BadRatio___init__ an_BadRatio___init__ cd_BadRatio___init__ ct_BadRatio___init__), sl_BadRatio___init__⟩)
    (F_all_numbers_l : K.lookup A_all_numbers = some ⟨oc_all_numbers, od_all_numbers, .func (PySem.W.fnOf "all_numbers" "all_numbers" (defArgs s_all_numbers) (defBody s_all_numbers) (defScope s_all_numbers) .none kV_all_numbers dc_all_numbers pm_all_numbers an_all_numbers cd_all_numbers ct_all_numbers), sl_all_numbers⟩)
    (F_bound_of_l : K.lookup A_bound_of = some ⟨oc_bound_of, od_bound_of, .func (PySem.W.fnOf "bound_of" "bound_of" (defArgs s_bound_of) (defBody s_bound_of) (defScope s_bound_of) .none kV_bound_of dc_bound_of pm_bound_of an_bound_of cd_bound_of ct_bound_of), sl_bound_of⟩)
    (F_Ratio_highest_l : K.lookup A_Ratio_highest = some ⟨oc_Ratio_highest, od_Ratio_highest, .func (PySem.W.fnOf "highest" "Ratio.highest" (defArgs s_Ratio_highest) (defBody s_Ratio_highest) (defScope s_Ratio_highest) .none kV_Ratio_highest dc_Ratio_highest pm_Ratio_highest an_Ratio_highest cd_Ratio_highest ct_Ratio_highest), sl_Ratio_highest⟩)
    (F_Ratio_lowest_l : K.lookup A_Ratio_lowest = some ⟨oc_Ratio_lowest, od_Ratio_lowest, .func (PySem.W.fnOf "lowest" "Ratio.lowest" (defArgs s_Ratio_lowest) (defBody s_Ratio_lowest) (defScope s_Ratio_lowest) .none kV_Ratio_lowest dc_Ratio_lowest pm_Ratio_lowest an_Ratio_lowest cd_Ratio_lowest ct_Ratio_lowest), sl_Ratio_lowest⟩)
    (F_is_number_l : K.lookup A_is_number = some ⟨oc_is_number, od_is_number, .func (PySem.W.fnOf "is_number" "is_number" (defArgs s_is_number) (defBody s_is_number) (defScope s_is_number) .none kV_is_number dc_is_number pm_is_number an_is_number cd_is_number ct_is_number), sl_is_number⟩)
    (F_is_zoom_l : K.lookup A_is_zoom = some ⟨oc_is_zoom, od_is_zoom, .func (PySem.W.fnOf "is_zoom" "is_zoom" (defArgs s_is_zoom) (defBody s_is_zoom) (defScope s_is_zoom) .none kV_is_zoom dc_is_zoom pm_is_zoom an_is_zoom cd_is_zoom ct_is_zoom), sl_is_zoom⟩)
    (F_is_place_l : K.lookup A_is_place = some ⟨oc_is_place, od_is_place, .func (PySem.W.fnOf "is_place" "is_place" (defArgs s_is_place) (defBody s_is_place) (defScope s_is_place) .none kV_is_place dc_is_place pm_is_place an_is_place cd_is_place ct_is_place), sl_is_place⟩)
    (F_many_upto_l : K.lookup A_many_upto = some ⟨oc_many_upto, od_many_upto, .func (PySem.W.fnOf "many_upto" "many_upto" (defArgs s_many_upto) (defBody s_many_upto) (defScope s_many_upto) .none kV_many_upto dc_many_upto pm_many_upto an_many_upto cd_many_upto ct_many_upto), sl_many_upto⟩)
    (F_state_ahead_l : K.lookup A_state_ahead = some ⟨oc_state_ahead, od_state_ahead, .func (PySem.W.fnOf "state_ahead" "state_ahead" (defArgs s_state_ahead) (defBody s_state_ahead) (defScope s_state_ahead) .none kV_state_ahead dc_state_ahead pm_state_ahead an_state_ahead cd_state_ahead ct_state_ahead), sl_state_ahead⟩)
    (F_changing_l : K.lookup A_changing = some ⟨oc_changing, od_changing, .func (PySem.W.fnOf "changing" "changing" (defArgs s_changing) (defBody s_changing) (defScope s_changing) .none kV_changing dc_changing pm_changing an_changing cd_changing ct_changing), sl_changing⟩)
    (F_is_mark_l : K.lookup A_is_mark = some ⟨oc_is_mark, od_is_mark, .func (PySem.W.fnOf "is_mark" "is_mark" (defArgs s_is_mark) (defBody s_is_mark) (defScope s_is_mark) .none kV_is_mark dc_is_mark pm_is_mark an_is_mark cd_is_mark ct_is_mark), sl_is_mark⟩)
    (F_checked_marks_l : K.lookup A_checked_marks = some ⟨oc_checked_marks, od_checked_marks, .func (PySem.W.fnOf "checked_marks" "checked_marks" (defArgs s_checked_marks) (defBody s_checked_marks) (defScope s_checked_marks) .none kV_checked_marks dc_checked_marks pm_checked_marks an_checked_marks cd_checked_marks ct_checked_marks), sl_checked_marks⟩)
    (F_least_turn_l : K.lookup A_least_turn = some ⟨oc_least_turn, od_least_turn, .func (PySem.W.fnOf "least_turn" "least_turn" (defArgs s_least_turn) (defBody s_least_turn) (defScope s_least_turn) .none kV_least_turn dc_least_turn pm_least_turn an_least_turn cd_least_turn ct_least_turn), sl_least_turn⟩)
    (F_least_begin_l : K.lookup A_least_begin = some ⟨oc_least_begin, od_least_begin, .func (PySem.W.fnOf "least_begin" "least_begin" (defArgs s_least_begin) (defBody s_least_begin) (defScope s_least_begin) .none kV_least_begin dc_least_begin pm_least_begin an_least_begin cd_least_begin ct_least_begin), sl_least_begin⟩)
    (F_normal_form_l : K.lookup A_normal_form = some ⟨oc_normal_form, od_normal_form, .func (PySem.W.fnOf "normal_form" "normal_form" (defArgs s_normal_form) (defBody s_normal_form) (defScope s_normal_form) .none kV_normal_form dc_normal_form pm_normal_form an_normal_form cd_normal_form ct_normal_form), sl_normal_form⟩)
    (F_Zooms___init___l : K.lookup A_Zooms___init__ = some ⟨oc_Zooms___init__, od_Zooms___init__, .func (PySem.W.fnOf "__init__" "Zooms.__init__" (defArgs s_Zooms___init__) (defBody s_Zooms___init__) (defScope s_Zooms___init__) .none kV_Zooms___init__ dc_Zooms___init__ pm_Zooms___init__ an_Zooms___init__ cd_Zooms___init__ ct_Zooms___init__), sl_Zooms___init__⟩)
    (F_Zooms_everything_l : K.lookup A_Zooms_everything = some ⟨oc_Zooms_everything, od_Zooms_everything, .func (PySem.W.fnOf "everything" "Zooms.everything" (defArgs s_Zooms_everything) (defBody s_Zooms_everything) (defScope s_Zooms_everything) .none kV_Zooms_everything dc_Zooms_everything pm_Zooms_everything an_Zooms_everything cd_Zooms_everything ct_Zooms_everything), sl_Zooms_everything⟩)
    (F_Zooms_nothing_l : K.lookup A_Zooms_nothing = some ⟨oc_Zooms_nothing, od_Zooms_nothing, .func (PySem.W.fnOf "nothing" "Zooms.nothing" (defArgs s_Zooms_nothing) (defBody s_Zooms_nothing) (defScope s_Zooms_nothing) .none kV_Zooms_nothing dc_Zooms_nothing pm_Zooms_nothing an_Zooms_nothing cd_Zooms_nothing ct_Zooms_nothing), sl_Zooms_nothing⟩)
    (F_BadZooms___init___l : K.lookup A_BadZooms___init__ = some ⟨oc_BadZooms___init__, od_BadZooms___init__, .func (PySem.W.fnOf "__init__" "BadZooms.__init__" (defArgs s_BadZooms___init__) (defBody s_BadZooms___init__) (defScope s_BadZooms___init__) .none kV_BadZooms___init__ dc_BadZooms___init__ pm_BadZooms___init__ an_BadZooms___init__ cd_BadZooms___init__ ct_BadZooms___init__), sl_BadZooms___init__⟩)
    (D_Zooms_beyond_l : K.lookup A_Zooms_beyond = some ⟨oc_Zooms_beyond, od_Zooms_beyond, .func (PySem.W.fnOf "beyond" "Zooms.beyond" (defArgs s_Zooms_beyond) (defBody s_Zooms_beyond) (defScope s_Zooms_beyond) (.ref dT_Zooms_beyond) kV_Zooms_beyond dc_Zooms_beyond pm_Zooms_beyond an_Zooms_beyond cd_Zooms_beyond ct_Zooms_beyond), sl_Zooms_beyond⟩)
    (D_Zooms_between_l : K.lookup A_Zooms_between = some ⟨oc_Zooms_between, od_Zooms_between, .func (PySem.W.fnOf "between" "Zooms.between" (defArgs s_Zooms_between) (defBody s_Zooms_between) (defScope s_Zooms_between) (.ref dT_Zooms_between) kV_Zooms_between dc_Zooms_between pm_Zooms_between an_Zooms_between cd_Zooms_between ct_Zooms_between), sl_Zooms_between⟩)
    (F_Zooms_mark_l : K.lookup A_Zooms_mark = some ⟨oc_Zooms_mark, od_Zooms_mark, .func (PySem.W.fnOf "mark" "Zooms.mark" (defArgs s_Zooms_mark) (defBody s_Zooms_mark) (defScope s_Zooms_mark) .none kV_Zooms_mark dc_Zooms_mark pm_Zooms_mark an_Zooms_mark cd_Zooms_mark ct_Zooms_mark), sl_Zooms_mark⟩)
    (F_Zooms_state_behind_l : K.lookup A_Zooms_state_behind = some ⟨oc_Zooms_state_behind, od_Zooms_state_behind, .func (PySem.W.fnOf "state_behind" "Zooms.state_behind" (defArgs s_Zooms_state_behind) (defBody s_Zooms_state_behind) (defScope s_Zooms_state_behind) .none kV_Zooms_state_behind dc_Zooms_state_behind pm_Zooms_state_behind an_Zooms_state_behind cd_Zooms_state_behind ct_Zooms_state_behind), sl_Zooms_state_behind⟩)
    (F_Zooms___bool___l : K.lookup A_Zooms___bool__ = some ⟨oc_Zooms___bool__, od_Zooms___bool__, .func (PySem.W.fnOf "__bool__" "Zooms.__bool__" (defArgs s_Zooms___bool__) (defBody s_Zooms___bool__) (defScope s_Zooms___bool__) .none kV_Zooms___bool__ dc_Zooms___bool__ pm_Zooms___bool__ an_Zooms___bool__ cd_Zooms___bool__ ct_Zooms___bool__), sl_Zooms___bool__⟩)
    (F_Ratio_divided_l : K.lookup A_Ratio_divided = some ⟨oc_Ratio_divided, od_Ratio_divided, .func (PySem.W.fnOf "divided" "Ratio.divided" (defArgs s_Ratio_divided) (defBody s_Ratio_divided) (defScope s_Ratio_divided) .none kV_Ratio_divided dc_Ratio_divided pm_Ratio_divided an_Ratio_divided cd_Ratio_divided ct_Ratio_divided), sl_Ratio_divided⟩)
    (F_Ratio___rsub___l : K.lookup A_Ratio___rsub__ = some ⟨oc_Ratio___rsub__, od_Ratio___rsub__, .func (PySem.W.fnOf "__rsub__" "Ratio.__rsub__" (defArgs s_Ratio___rsub__) (defBody s_Ratio___rsub__) (defScope s_Ratio___rsub__) .none kV_Ratio___rsub__ dc_Ratio___rsub__ pm_Ratio___rsub__ an_Ratio___rsub__ cd_Ratio___rsub__ ct_Ratio___rsub__), sl_Ratio___rsub__⟩)
    (F_Zooms___contains___l : K.lookup A_Zooms___contains__ = some ⟨oc_Zooms___contains__, od_Zooms___contains__, .func (PySem.W.fnOf "__contains__" "Zooms.__contains__" (defArgs s_Zooms___contains__) (defBody s_Zooms___contains__) (defScope s_Zooms___contains__) .none kV_Zooms___contains__ dc_Zooms___contains__ pm_Zooms___contains__ an_Zooms___contains__ cd_Zooms___contains__ ct_Zooms___contains__), sl_Zooms___contains__⟩)
    (F_Zooms___eq___l : K.lookup A_Zooms___eq__ = some ⟨oc_Zooms___eq__, od_Zooms___eq__, .func (PySem.W.fnOf "__eq__" "Zooms.__eq__" (defArgs s_Zooms___eq__) (defBody s_Zooms___eq__) (defScope s_Zooms___eq__) .none kV_Zooms___eq__ dc_Zooms___eq__ pm_Zooms___eq__ an_Zooms___eq__ cd_Zooms___eq__ ct_Zooms___eq__), sl_Zooms___eq__⟩)
    (F_Zooms___invert___l : K.lookup A_Zooms___invert__ = some ⟨oc_Zooms___invert__, od_Zooms___invert__, .func (PySem.W.fnOf "__invert__" "Zooms.__invert__" (defArgs s_Zooms___invert__) (defBody s_Zooms___invert__) (defScope s_Zooms___invert__) .none kV_Zooms___invert__ dc_Zooms___invert__ pm_Zooms___invert__ an_Zooms___invert__ cd_Zooms___invert__ ct_Zooms___invert__), sl_Zooms___invert__⟩)
    (F_Zooms_joined_l : K.lookup A_Zooms_joined = some ⟨oc_Zooms_joined, od_Zooms_joined, .func (PySem.W.fnOf "joined" "Zooms.joined" (defArgs s_Zooms_joined) (defBody s_Zooms_joined) (defScope s_Zooms_joined) .none kV_Zooms_joined dc_Zooms_joined pm_Zooms_joined an_Zooms_joined cd_Zooms_joined ct_Zooms_joined), sl_Zooms_joined⟩)
    (F_Zooms___sub___l : K.lookup A_Zooms___sub__ = some ⟨oc_Zooms___sub__, od_Zooms___sub__, .func (PySem.W.fnOf "__sub__" "Zooms.__sub__" (defArgs s_Zooms___sub__) (defBody s_Zooms___sub__) (defScope s_Zooms___sub__) .none kV_Zooms___sub__ dc_Zooms___sub__ pm_Zooms___sub__ an_Zooms___sub__ cd_Zooms___sub__ ct_Zooms___sub__), sl_Zooms___sub__⟩)
    (F_common_multiple_l : K.lookup A_common_multiple = some ⟨oc_common_multiple, od_common_multiple, .func (PySem.W.fnOf "common_multiple" "common_multiple" (defArgs s_common_multiple) (defBody s_common_multiple) (defScope s_common_multiple) .none kV_common_multiple dc_common_multiple pm_common_multiple an_common_multiple cd_common_multiple ct_common_multiple), sl_common_multiple⟩)
    (F_joined_truth_l : K.lookup A_joined_truth = some ⟨oc_joined_truth, od_joined_truth, .func (PySem.W.fnOf "joined_truth" "joined_truth" (defArgs s_joined_truth) (defBody s_joined_truth) (defScope s_joined_truth) .none kV_joined_truth dc_joined_truth pm_joined_truth an_joined_truth cd_joined_truth ct_joined_truth), sl_joined_truth⟩)
    (F_marks_joined_l : K.lookup A_marks_joined = some ⟨oc_marks_joined, od_marks_joined, .func (PySem.W.fnOf "marks_joined" "marks_joined" (defArgs s_marks_joined) (defBody s_marks_joined) (defScope s_marks_joined) .none kV_marks_joined dc_marks_joined pm_marks_joined an_marks_joined cd_marks_joined ct_marks_joined), sl_marks_joined⟩)
    (F__law_number_l : K.lookup A__law_number = some ⟨oc__law_number, od__law_number, .func (PySem.W.fnOf "_law_number" "_law_number" (defArgs s__law_number) (defBody s__law_number) (defScope s__law_number) .none kV__law_number dc__law_number pm__law_number an__law_number cd__law_number ct__law_number), sl__law_number⟩)
    (F__law_heard_l : K.lookup A__law_heard = some ⟨oc__law_heard, od__law_heard, .func (PySem.W.fnOf "_law_heard" "_law_heard" (defArgs s__law_heard) (defBody s__law_heard) (defScope s__law_heard) .none kV__law_heard dc__law_heard pm__law_heard an__law_heard cd__law_heard ct__law_heard), sl__law_heard⟩)
    (F__law_beside_l : K.lookup A__law_beside = some ⟨oc__law_beside, od__law_beside, .func (PySem.W.fnOf "_law_beside" "_law_beside" (defArgs s__law_beside) (defBody s__law_beside) (defScope s__law_beside) .none kV__law_beside dc__law_beside pm__law_beside an__law_beside cd__law_beside ct__law_beside), sl__law_beside⟩)
    (F__law_between_right_l : K.lookup A__law_between_right = some ⟨oc__law_between_right, od__law_between_right, .func (PySem.W.fnOf "_law_between_right" "_law_between_right" (defArgs s__law_between_right) (defBody s__law_between_right) (defScope s__law_between_right) .none kV__law_between_right dc__law_between_right pm__law_between_right an__law_between_right cd__law_between_right ct__law_between_right), sl__law_between_right⟩)
    (F__law_beyond_right_l : K.lookup A__law_beyond_right = some ⟨oc__law_beyond_right, od__law_beyond_right, .func (PySem.W.fnOf "_law_beyond_right" "_law_beyond_right" (defArgs s__law_beyond_right) (defBody s__law_beyond_right) (defScope s__law_beyond_right) .none kV__law_beyond_right dc__law_beyond_right pm__law_beyond_right an__law_beyond_right cd__law_beyond_right ct__law_beyond_right), sl__law_beyond_right⟩)
    (F__law_refused_right_l : K.lookup A__law_refused_right = some ⟨oc__law_refused_right, od__law_refused_right, .func (PySem.W.fnOf "_law_refused_right" "_law_refused_right" (defArgs s__law_refused_right) (defBody s__law_refused_right) (defScope s__law_refused_right) .none kV__law_refused_right dc__law_refused_right pm__law_refused_right an__law_refused_right cd__law_refused_right ct__law_refused_right), sl__law_refused_right⟩)
    (F_law_l : K.lookup A_law = some ⟨oc_law, od_law, .func (PySem.W.fnOf "law" "law" (defArgs s_law) (defBody s_law) (defScope s_law) .none kV_law dc_law pm_law an_law cd_law ct_law), sl_law⟩)
    (F_Ratio_common_l : K.lookup A_Ratio_common = some ⟨oc_Ratio_common, od_Ratio_common, .func (PySem.W.fnOf "common" "Ratio.common" (defArgs s_Ratio_common) (defBody s_Ratio_common) (defScope s_Ratio_common) .none kV_Ratio_common dc_Ratio_common pm_Ratio_common an_Ratio_common cd_Ratio_common ct_Ratio_common), sl_Ratio_common⟩)
    (F_Zooms_marks_upto_l : K.lookup A_Zooms_marks_upto = some ⟨oc_Zooms_marks_upto, od_Zooms_marks_upto, .func (PySem.W.fnOf "marks_upto" "Zooms.marks_upto" (defArgs s_Zooms_marks_upto) (defBody s_Zooms_marks_upto) (defScope s_Zooms_marks_upto) .none kV_Zooms_marks_upto dc_Zooms_marks_upto pm_Zooms_marks_upto an_Zooms_marks_upto cd_Zooms_marks_upto ct_Zooms_marks_upto), sl_Zooms_marks_upto⟩)
    (F__law_pen_c : PySem.W.codeIn K cd__law_pen "_law_pen" = true)
    (F__law_pen_k : PySem.W.keepIn K (.ref A__law_pen) = true)
    (n_list_a : PySem.W.nsIn K mainGlobals "list" = some none)
    (F__law_draw_c : PySem.W.codeIn K cd__law_draw "_law_draw" = true)
    (F__law_draw_k : PySem.W.keepIn K (.ref A__law_draw) = true)
    (n_int_a : PySem.W.nsIn K mainGlobals "int" = some none)
    (n_len_a : PySem.W.nsIn K mainGlobals "len" = some none)
    (n_abs_a : PySem.W.nsIn K mainGlobals "abs" = some none)
    (F__law_pick_c : PySem.W.codeIn K cd__law_pick "_law_pick" = true)
    (F__law_pick_k : PySem.W.keepIn K (.ref A__law_pick) = true)
    (k__law_draw_a : PySem.W.keepIn K (.ref A__law_draw) = true)
    (m__law_draw_a : PySem.W.nsIn K mainGlobals "_law_draw" = some (some (.ref A__law_draw)))
    (y_Ratio_a : PySem.W.findIn K (.ref A_Ratio) "__class__" = some (some (.builtin "object.__class__")))
    (y_Ratio_n : PySem.W.specialIn K (.builtin "object.__class__") "__get__" = some (some (.builtin "getset_descriptor.__get__")))
    (y_Ratio_t : PySem.W.takesIn K (.builtin "object.__class__") = some true)
    (y_Ratio_m : PySem.W.mroIn K A_Ratio (.type "object") = some true)
    (c_Ratio_p : PySem.W.plainGet K A_Ratio Str.empty = true)
    (c_Ratio_h : PySem.W.hasDictIn K A_Ratio = true)
    (c_Ratio_o : PySem.W.plainOver K A_Ratio = true)
    (c_Ratio_s : PySem.W.findIn K (.ref A_Ratio) "__setattr__" = some (some (.builtin "object.__setattr__")))
    (i_Ratio_is_int_a : PySem.W.subIn K (.ref A_Ratio) (.type "int") = some false)
    (i_Ratio_is_bool_a : PySem.W.subIn K (.ref A_Ratio) (.type "bool") = some false)
    (F_is_integer_c : PySem.W.codeIn K cd_is_integer "is_integer" = true)
    (F_is_integer_k : PySem.W.keepIn K (.ref A_is_integer) = true)
    (n_isinstance_a : PySem.W.nsIn K mainGlobals "isinstance" = some none)
    (n_bool_a : PySem.W.nsIn K mainGlobals "bool" = some none)
    (D_Ratio___init___c : PySem.W.codeIn K cd_Ratio___init__ "Ratio.__init__" = true)
    (D_Ratio___init___k : PySem.W.keepIn K (.ref A_Ratio___init__) = true)
    (D_Ratio___init___t : K.lookup dT_Ratio___init__ = some ⟨tc_Ratio___init__, td_Ratio___init__, .seq (List.toArray [.int 1 tk0_Ratio___init__]) tn_Ratio___init__, ts_Ratio___init__⟩)
    (k_is_integer_a : PySem.W.keepIn K (.ref A_is_integer) = true)
    (m_is_integer_a : PySem.W.nsIn K mainGlobals "is_integer" = some (some (.ref A_is_integer)))
    (m_gcd_a : PySem.W.nsIn K mainGlobals "gcd" = some (some (.builtin "math.gcd")))
    (a_Ratio_over_a : PySem.W.findIn K (.ref A_Ratio) "over" = some none)
    (a_Ratio_under_a : PySem.W.findIn K (.ref A_Ratio) "under" = some none)
    (F_Ratio_of_c : PySem.W.codeIn K cd_Ratio_of "Ratio.of" = true)
    (F_Ratio_of_k : PySem.W.keepIn K (.ref A_Ratio_of) = true)
    (m_Ratio_a : PySem.W.nsIn K mainGlobals "Ratio" = some (some (.ref A_Ratio)))
    (mk_Ratio_m : PySem.W.makesIn K A_Ratio = true)
    (mk_Ratio_i : PySem.W.findIn K (.ref A_Ratio) "__init__" = some (some (.ref A_Ratio___init__)))
    (mk_Ratio_f : PySem.W.isFn K (.ref A_Ratio___init__) = true)
    (mk_Ratio_k : PySem.W.keepIn K (.ref A_Ratio) = true)
    (i_int_is_Ratio_c : PySem.W.isClsIn K A_Ratio = true)
    (i_int_is_Ratio_t : PySem.W.typeIn K (.ref A_Ratio) = some (.type "type"))
    (i_int_is_Ratio_a : PySem.W.subIn K (.type "int") (.ref A_Ratio) = some false)
    (F_Ratio___add___c : PySem.W.codeIn K cd_Ratio___add__ "Ratio.__add__" = true)
    (F_Ratio___add___k : PySem.W.keepIn K (.ref A_Ratio___add__) = true)
    (s_Ratio_of_g : PySem.W.specialIn K (.ref A_Ratio) "__getattribute__" = some (some (.builtin "type.__getattribute__")))
    (s_Ratio_of_k : PySem.W.keepIn K (.ref A_Ratio_of) = true)
    (F_Ratio___sub___c : PySem.W.codeIn K cd_Ratio___sub__ "Ratio.__sub__" = true)
    (F_Ratio___sub___k : PySem.W.keepIn K (.ref A_Ratio___sub__) = true)
    (F_Ratio___mul___c : PySem.W.codeIn K cd_Ratio___mul__ "Ratio.__mul__" = true)
    (F_Ratio___mul___k : PySem.W.keepIn K (.ref A_Ratio___mul__) = true)
    (F_Ratio___lt___c : PySem.W.codeIn K cd_Ratio___lt__ "Ratio.__lt__" = true)
    (F_Ratio___lt___k : PySem.W.keepIn K (.ref A_Ratio___lt__) = true)
    (F_Ratio___le___c : PySem.W.codeIn K cd_Ratio___le__ "Ratio.__le__" = true)
    (F_Ratio___le___k : PySem.W.keepIn K (.ref A_Ratio___le__) = true)
    (F_Ratio___gt___c : PySem.W.codeIn K cd_Ratio___gt__ "Ratio.__gt__" = true)
    (F_Ratio___gt___k : PySem.W.keepIn K (.ref A_Ratio___gt__) = true)
    (F_Ratio___ge___c : PySem.W.codeIn K cd_Ratio___ge__ "Ratio.__ge__" = true)
    (F_Ratio___ge___k : PySem.W.keepIn K (.ref A_Ratio___ge__) = true)
    (F_Ratio___eq___c : PySem.W.codeIn K cd_Ratio___eq__ "Ratio.__eq__" = true)
    (F_Ratio___eq___k : PySem.W.keepIn K (.ref A_Ratio___eq__) = true)
    (F_Ratio_floor_c : PySem.W.codeIn K cd_Ratio_floor "Ratio.floor" = true)
    (F_Ratio_floor_k : PySem.W.keepIn K (.ref A_Ratio_floor) = true)
    (F_Ratio_ceiling_c : PySem.W.codeIn K cd_Ratio_ceiling "Ratio.ceiling" = true)
    (F_Ratio_ceiling_k : PySem.W.keepIn K (.ref A_Ratio_ceiling) = true)
    (F_Ratio___str___c : PySem.W.codeIn K cd_Ratio___str__ "Ratio.__str__" = true)
    (F_Ratio___str___k : PySem.W.keepIn K (.ref A_Ratio___str__) = true)
    (n_str_a : PySem.W.nsIn K mainGlobals "str" = some none)
    (F_Ratio___bool___c : PySem.W.codeIn K cd_Ratio___bool__ "Ratio.__bool__" = true)
    (F_Ratio___bool___k : PySem.W.keepIn K (.ref A_Ratio___bool__) = true)
    (F_BadRatio___init___c : PySem.W.codeIn K cd_BadRatio___init__ "BadRatio.__init__" = true)
    (F_BadRatio___init___k : PySem.W.keepIn K (.ref A_BadRatio___init__) = true)
    (vi_SnapError_r : PySem.W.readsIn K A_SnapError (.type "type") = true)
    (vi_SnapError_g : PySem.W.specialIn K (.ref A_SnapError) "__getattribute__" = some (some (.builtin "type.__getattribute__")))
    (vi_SnapError_v : PySem.W.findCls K (.ref A_SnapError) (.type "type") "__init__" = some (.val (.builtin "ValueError.__init__")))
    (m_SnapError_a : PySem.W.nsIn K mainGlobals "SnapError" = some (some (.ref A_SnapError)))
    (ex_BadRatio_l : K.lookup A_BadRatio = some (excClassObj "BadRatio" eq_BadRatio A_BadRatio eN_BadRatio eb_BadRatio (.ref A_SnapError :: PySem.HandSPX.veTail) true en_BadRatio eu_BadRatio ea_BadRatio ec_BadRatio ed_BadRatio e0_BadRatio e1_BadRatio e2_BadRatio e3_BadRatio e5_BadRatio "ValueError.__new__"))
    (ex_BadRatio_s : PySem.W.findIn K (.ref A_BadRatio) "__setattr__" = some (some (.builtin "object.__setattr__")))
    (ex_BadRatio_g : PySem.W.findIn K (.ref A_BadRatio) "__getattribute__" = some (some (.builtin "BaseException.__getattribute__")))
    (ex_BadRatio_h : PySem.W.findIn K (.ref A_BadRatio) "__getattr__" = some none)
    (ex_BadRatio_c : PySem.W.findIn K (.ref A_BadRatio) "__class__" = some (some (.builtin "object.__class__")))
    (ex_BadRatio_i : PySem.W.findIn K (.ref A_BadRatio) "__init__" = some (some (.ref A_BadRatio___init__)))
    (ex_BadRatio_f : PySem.W.typeIn K (.ref A_BadRatio___init__) = some (.type "function"))
    (ex_BadRatio_k : PySem.W.keepIn K (.ref A_BadRatio) = true)
    (a_BadRatio_value_a : PySem.W.findIn K (.ref A_BadRatio) "value" = some none)
    (m_BadRatio_a : PySem.W.nsIn K mainGlobals "BadRatio" = some (some (.ref A_BadRatio)))
    (F_all_numbers_c : PySem.W.codeIn K cd_all_numbers "all_numbers" = true)
    (F_all_numbers_k : PySem.W.keepIn K (.ref A_all_numbers) = true)
    (n_tuple_a : PySem.W.nsIn K mainGlobals "tuple" = some none)
    (F_bound_of_c : PySem.W.codeIn K cd_bound_of "bound_of" = true)
    (F_bound_of_k : PySem.W.keepIn K (.ref A_bound_of) = true)
    (k_all_numbers_a : PySem.W.keepIn K (.ref A_all_numbers) = true)
    (m_all_numbers_a : PySem.W.nsIn K mainGlobals "all_numbers" = some (some (.ref A_all_numbers)))
    (q_Ratio_gt_s : PySem.W.findIn K (.ref A_Ratio) "__gt__" = some (some (.ref A_Ratio___gt__)))
    (q_Ratio_gt_f : PySem.W.isFn K (.ref A_Ratio___gt__) = true)
    (q_Ratio_gt_n : PySem.W.notFirst K A_Ratio (.type "int") = true)
    (q_Ratio_lt_s : PySem.W.findIn K (.ref A_Ratio) "__lt__" = some (some (.ref A_Ratio___lt__)))
    (q_Ratio_lt_f : PySem.W.isFn K (.ref A_Ratio___lt__) = true)
    (q_Ratio_lt_n : PySem.W.notFirst K A_Ratio (.type "int") = true)
    (F_Ratio_highest_c : PySem.W.codeIn K cd_Ratio_highest "Ratio.highest" = true)
    (F_Ratio_highest_k : PySem.W.keepIn K (.ref A_Ratio_highest) = true)
    (k_bound_of_a : PySem.W.keepIn K (.ref A_bound_of) = true)
    (m_bound_of_a : PySem.W.nsIn K mainGlobals "bound_of" = some (some (.ref A_bound_of)))
    (F_Ratio_lowest_c : PySem.W.codeIn K cd_Ratio_lowest "Ratio.lowest" = true)
    (F_Ratio_lowest_k : PySem.W.keepIn K (.ref A_Ratio_lowest) = true)
    (F_is_number_c : PySem.W.codeIn K cd_is_number "is_number" = true)
    (F_is_number_k : PySem.W.keepIn K (.ref A_is_number) = true)
    (F_is_zoom_c : PySem.W.codeIn K cd_is_zoom "is_zoom" = true)
    (F_is_zoom_k : PySem.W.keepIn K (.ref A_is_zoom) = true)
    (k_is_number_a : PySem.W.keepIn K (.ref A_is_number) = true)
    (m_is_number_a : PySem.W.nsIn K mainGlobals "is_number" = some (some (.ref A_is_number)))
    (F_is_place_c : PySem.W.codeIn K cd_is_place "is_place" = true)
    (F_is_place_k : PySem.W.keepIn K (.ref A_is_place) = true)
    (q_Ratio_ge_s : PySem.W.findIn K (.ref A_Ratio) "__ge__" = some (some (.ref A_Ratio___ge__)))
    (q_Ratio_ge_f : PySem.W.isFn K (.ref A_Ratio___ge__) = true)
    (q_Ratio_ge_n : PySem.W.notFirst K A_Ratio (.type "int") = true)
    (F_many_upto_c : PySem.W.codeIn K cd_many_upto "many_upto" = true)
    (F_many_upto_k : PySem.W.keepIn K (.ref A_many_upto) = true)
    (q_Ratio_le_s : PySem.W.findIn K (.ref A_Ratio) "__le__" = some (some (.ref A_Ratio___le__)))
    (q_Ratio_le_f : PySem.W.isFn K (.ref A_Ratio___le__) = true)
    (q_Ratio_le_n : PySem.W.notFirst K A_Ratio (.type "int") = true)
    (F_state_ahead_c : PySem.W.codeIn K cd_state_ahead "state_ahead" = true)
    (F_state_ahead_k : PySem.W.keepIn K (.ref A_state_ahead) = true)
    (F_changing_c : PySem.W.codeIn K cd_changing "changing" = true)
    (F_changing_k : PySem.W.keepIn K (.ref A_changing) = true)
    (F_is_mark_c : PySem.W.codeIn K cd_is_mark "is_mark" = true)
    (F_is_mark_k : PySem.W.keepIn K (.ref A_is_mark) = true)
    (k_is_zoom_a : PySem.W.keepIn K (.ref A_is_zoom) = true)
    (m_is_zoom_a : PySem.W.nsIn K mainGlobals "is_zoom" = some (some (.ref A_is_zoom)))
    (F_checked_marks_c : PySem.W.codeIn K cd_checked_marks "checked_marks" = true)
    (F_checked_marks_k : PySem.W.keepIn K (.ref A_checked_marks) = true)
    (k_is_mark_a : PySem.W.keepIn K (.ref A_is_mark) = true)
    (m_is_mark_a : PySem.W.nsIn K mainGlobals "is_mark" = some (some (.ref A_is_mark)))
    (F_least_turn_c : PySem.W.codeIn K cd_least_turn "least_turn" = true)
    (F_least_turn_k : PySem.W.keepIn K (.ref A_least_turn) = true)
    (F_least_begin_c : PySem.W.codeIn K cd_least_begin "least_begin" = true)
    (F_least_begin_k : PySem.W.keepIn K (.ref A_least_begin) = true)
    (k_many_upto_a : PySem.W.keepIn K (.ref A_many_upto) = true)
    (m_many_upto_a : PySem.W.nsIn K mainGlobals "many_upto" = some (some (.ref A_many_upto)))
    (s_Ratio_highest_g : PySem.W.specialIn K (.ref A_Ratio) "__getattribute__" = some (some (.builtin "type.__getattribute__")))
    (s_Ratio_highest_k : PySem.W.keepIn K (.ref A_Ratio_highest) = true)
    (b_Ratio_add_s : PySem.W.findIn K (.ref A_Ratio) "__add__" = some (some (.ref A_Ratio___add__)))
    (b_Ratio_add_f : PySem.W.isFn K (.ref A_Ratio___add__) = true)
    (b_Ratio_add_c : PySem.W.selfFirst K A_Ratio = true)
    (b_Ratio_add_r : PySem.W.findIn K (.ref A_Ratio) "__radd__" = some (some (.ref A_Ratio___radd__)))
    (b_Ratio_add_t : PySem.W.findIn K (.type "int") "__add__" = some fo_Ratio_add)
    (b_Ratio_add_u : PySem.W.findIn K (.type "int") "__radd__" = some ro_Ratio_add)
    (b_Ratio_add_w : PySem.W.subIn K (.type "int") (.ref A_Ratio) = some false)
    (q_Ratio_eq_s : PySem.W.findIn K (.ref A_Ratio) "__eq__" = some (some (.ref A_Ratio___eq__)))
    (q_Ratio_eq_f : PySem.W.isFn K (.ref A_Ratio___eq__) = true)
    (q_Ratio_eq_n : PySem.W.notFirst K A_Ratio (.type "int") = true)
    (b_Ratio_sub_s : PySem.W.findIn K (.ref A_Ratio) "__sub__" = some (some (.ref A_Ratio___sub__)))
    (b_Ratio_sub_f : PySem.W.isFn K (.ref A_Ratio___sub__) = true)
    (b_Ratio_sub_c : PySem.W.selfFirst K A_Ratio = true)
    (b_Ratio_sub_r : PySem.W.findIn K (.ref A_Ratio) "__rsub__" = some (some (.ref A_Ratio___rsub__)))
    (b_Ratio_sub_t : PySem.W.findIn K (.type "int") "__sub__" = some fo_Ratio_sub)
    (b_Ratio_sub_u : PySem.W.findIn K (.type "int") "__rsub__" = some ro_Ratio_sub)
    (b_Ratio_sub_w : PySem.W.subIn K (.type "int") (.ref A_Ratio) = some false)
    (z_Ratio_e : PySem.W.findIn K (.ref A_Ratio) "__ne__" = some (some (.builtin "object.__ne__")))
    (z_Ratio_s : PySem.W.findIn K (.ref A_Ratio) "__eq__" = some (some (.ref A_Ratio___eq__)))
    (z_Ratio_f : PySem.W.isFn K (.ref A_Ratio___eq__) = true)
    (z_Ratio_m : PySem.W.mroIn K A_Ratio (.type "object") = some true)
    (z_Ratio_n : PySem.W.notFirst K A_Ratio (.type "int") = true)
    (F_normal_form_c : PySem.W.codeIn K cd_normal_form "normal_form" = true)
    (F_normal_form_k : PySem.W.keepIn K (.ref A_normal_form) = true)
    (k_changing_a : PySem.W.keepIn K (.ref A_changing) = true)
    (m_changing_a : PySem.W.nsIn K mainGlobals "changing" = some (some (.ref A_changing)))
    (k_least_turn_a : PySem.W.keepIn K (.ref A_least_turn) = true)
    (m_least_turn_a : PySem.W.nsIn K mainGlobals "least_turn" = some (some (.ref A_least_turn)))
    (k_least_begin_a : PySem.W.keepIn K (.ref A_least_begin) = true)
    (m_least_begin_a : PySem.W.nsIn K mainGlobals "least_begin" = some (some (.ref A_least_begin)))
    (F_Zooms___init___c : PySem.W.codeIn K cd_Zooms___init__ "Zooms.__init__" = true)
    (F_Zooms___init___k : PySem.W.keepIn K (.ref A_Zooms___init__) = true)
    (k_is_place_a : PySem.W.keepIn K (.ref A_is_place) = true)
    (m_is_place_a : PySem.W.nsIn K mainGlobals "is_place" = some (some (.ref A_is_place)))
    (k_checked_marks_a : PySem.W.keepIn K (.ref A_checked_marks) = true)
    (m_checked_marks_a : PySem.W.nsIn K mainGlobals "checked_marks" = some (some (.ref A_checked_marks)))
    (k_state_ahead_a : PySem.W.keepIn K (.ref A_state_ahead) = true)
    (m_state_ahead_a : PySem.W.nsIn K mainGlobals "state_ahead" = some (some (.ref A_state_ahead)))
    (k_normal_form_a : PySem.W.keepIn K (.ref A_normal_form) = true)
    (m_normal_form_a : PySem.W.nsIn K mainGlobals "normal_form" = some (some (.ref A_normal_form)))
    (c_Zooms_p : PySem.W.plainGet K A_Zooms Str.empty = true)
    (c_Zooms_h : PySem.W.hasDictIn K A_Zooms = true)
    (c_Zooms_o : PySem.W.plainOver K A_Zooms = true)
    (c_Zooms_s : PySem.W.findIn K (.ref A_Zooms) "__setattr__" = some (some (.builtin "object.__setattr__")))
    (a_Zooms_begin_a : PySem.W.findIn K (.ref A_Zooms) "begin" = some none)
    (a_Zooms_turn_a : PySem.W.findIn K (.ref A_Zooms) "turn" = some none)
    (a_Zooms_marks_a : PySem.W.findIn K (.ref A_Zooms) "marks" = some none)
    (a_Zooms_is_first_a : PySem.W.findIn K (.ref A_Zooms) "is_first" = some none)
    (a_Zooms_once_a : PySem.W.findIn K (.ref A_Zooms) "once" = some none)
    (F_Zooms_everything_c : PySem.W.codeIn K cd_Zooms_everything "Zooms.everything" = true)
    (F_Zooms_everything_k : PySem.W.keepIn K (.ref A_Zooms_everything) = true)
    (mk_Zooms_m : PySem.W.makesIn K A_Zooms = true)
    (mk_Zooms_i : PySem.W.findIn K (.ref A_Zooms) "__init__" = some (some (.ref A_Zooms___init__)))
    (mk_Zooms_f : PySem.W.isFn K (.ref A_Zooms___init__) = true)
    (mk_Zooms_k : PySem.W.keepIn K (.ref A_Zooms) = true)
    (m_Zooms_a : PySem.W.nsIn K mainGlobals "Zooms" = some (some (.ref A_Zooms)))
    (F_Zooms_nothing_c : PySem.W.codeIn K cd_Zooms_nothing "Zooms.nothing" = true)
    (F_Zooms_nothing_k : PySem.W.keepIn K (.ref A_Zooms_nothing) = true)
    (F_BadZooms___init___c : PySem.W.codeIn K cd_BadZooms___init__ "BadZooms.__init__" = true)
    (F_BadZooms___init___k : PySem.W.keepIn K (.ref A_BadZooms___init__) = true)
    (ex_BadZooms_l : K.lookup A_BadZooms = some (excClassObj "BadZooms" eq_BadZooms A_BadZooms eN_BadZooms eb_BadZooms (.ref A_SnapError :: PySem.HandSPX.veTail) true en_BadZooms eu_BadZooms ea_BadZooms ec_BadZooms ed_BadZooms e0_BadZooms e1_BadZooms e2_BadZooms e3_BadZooms e5_BadZooms "ValueError.__new__"))
    (ex_BadZooms_s : PySem.W.findIn K (.ref A_BadZooms) "__setattr__" = some (some (.builtin "object.__setattr__")))
    (ex_BadZooms_g : PySem.W.findIn K (.ref A_BadZooms) "__getattribute__" = some (some (.builtin "BaseException.__getattribute__")))
    (ex_BadZooms_h : PySem.W.findIn K (.ref A_BadZooms) "__getattr__" = some none)
    (ex_BadZooms_c : PySem.W.findIn K (.ref A_BadZooms) "__class__" = some (some (.builtin "object.__class__")))
    (ex_BadZooms_i : PySem.W.findIn K (.ref A_BadZooms) "__init__" = some (some (.ref A_BadZooms___init__)))
    (ex_BadZooms_f : PySem.W.typeIn K (.ref A_BadZooms___init__) = some (.type "function"))
    (ex_BadZooms_k : PySem.W.keepIn K (.ref A_BadZooms) = true)
    (a_BadZooms_part_a : PySem.W.findIn K (.ref A_BadZooms) "part" = some none)
    (D_Zooms_beyond_c : PySem.W.codeIn K cd_Zooms_beyond "Zooms.beyond" = true)
    (D_Zooms_beyond_k : PySem.W.keepIn K (.ref A_Zooms_beyond) = true)
    (D_Zooms_beyond_t : K.lookup dT_Zooms_beyond = some ⟨tc_Zooms_beyond, td_Zooms_beyond, .seq (List.toArray [.bool true]) tn_Zooms_beyond, ts_Zooms_beyond⟩)
    (m_BadZooms_a : PySem.W.nsIn K mainGlobals "BadZooms" = some (some (.ref A_BadZooms)))
    (D_Zooms_between_c : PySem.W.codeIn K cd_Zooms_between "Zooms.between" = true)
    (D_Zooms_between_k : PySem.W.keepIn K (.ref A_Zooms_between) = true)
    (D_Zooms_between_t : K.lookup dT_Zooms_between = some ⟨tc_Zooms_between, td_Zooms_between, .seq (List.toArray [.bool true, .bool true]) tn_Zooms_between, ts_Zooms_between⟩)
    (F_Zooms_mark_c : PySem.W.codeIn K cd_Zooms_mark "Zooms.mark" = true)
    (F_Zooms_mark_k : PySem.W.keepIn K (.ref A_Zooms_mark) = true)
    (F_Zooms_state_behind_c : PySem.W.codeIn K cd_Zooms_state_behind "Zooms.state_behind" = true)
    (F_Zooms_state_behind_k : PySem.W.keepIn K (.ref A_Zooms_state_behind) = true)
    (h_Zooms_mark_a : PySem.W.findIn K (.ref A_Zooms) "mark" = some (some (.ref A_Zooms_mark)))
    (h_Zooms_mark_f : PySem.W.isFn K (.ref A_Zooms_mark) = true)
    (h_Zooms_mark_k : PySem.W.keepIn K (.ref A_Zooms_mark) = true)
    (F_Zooms___bool___c : PySem.W.codeIn K cd_Zooms___bool__ "Zooms.__bool__" = true)
    (F_Zooms___bool___k : PySem.W.keepIn K (.ref A_Zooms___bool__) = true)
    (F_Ratio_divided_c : PySem.W.codeIn K cd_Ratio_divided "Ratio.divided" = true)
    (F_Ratio_divided_k : PySem.W.keepIn K (.ref A_Ratio_divided) = true)
    (F_Ratio___rsub___c : PySem.W.codeIn K cd_Ratio___rsub__ "Ratio.__rsub__" = true)
    (F_Ratio___rsub___k : PySem.W.keepIn K (.ref A_Ratio___rsub__) = true)
    (in_Zooms_s : PySem.W.findIn K (.ref A_Zooms) "__contains__" = some (some (.ref A_Zooms___contains__)))
    (in_Zooms_f : PySem.W.isFn K (.ref A_Zooms___contains__) = true)
    (F_Zooms___contains___c : PySem.W.codeIn K cd_Zooms___contains__ "Zooms.__contains__" = true)
    (F_Zooms___contains___k : PySem.W.keepIn K (.ref A_Zooms___contains__) = true)
    (F_Zooms___eq___c : PySem.W.codeIn K cd_Zooms___eq__ "Zooms.__eq__" = true)
    (F_Zooms___eq___k : PySem.W.keepIn K (.ref A_Zooms___eq__) = true)
    (F_Zooms___invert___c : PySem.W.codeIn K cd_Zooms___invert__ "Zooms.__invert__" = true)
    (F_Zooms___invert___k : PySem.W.keepIn K (.ref A_Zooms___invert__) = true)
    (F_Zooms_joined_c : PySem.W.codeIn K cd_Zooms_joined "Zooms.joined" = true)
    (F_Zooms_joined_k : PySem.W.keepIn K (.ref A_Zooms_joined) = true)
    (F_Zooms___sub___c : PySem.W.codeIn K cd_Zooms___sub__ "Zooms.__sub__" = true)
    (F_Zooms___sub___k : PySem.W.keepIn K (.ref A_Zooms___sub__) = true)
    (F_common_multiple_c : PySem.W.codeIn K cd_common_multiple "common_multiple" = true)
    (F_common_multiple_k : PySem.W.keepIn K (.ref A_common_multiple) = true)
    (F_joined_truth_c : PySem.W.codeIn K cd_joined_truth "joined_truth" = true)
    (F_joined_truth_k : PySem.W.keepIn K (.ref A_joined_truth) = true)
    (F_marks_joined_c : PySem.W.codeIn K cd_marks_joined "marks_joined" = true)
    (F_marks_joined_k : PySem.W.keepIn K (.ref A_marks_joined) = true)
    (F__law_number_c : PySem.W.codeIn K cd__law_number "_law_number" = true)
    (F__law_number_k : PySem.W.keepIn K (.ref A__law_number) = true)
    (F__law_heard_c : PySem.W.codeIn K cd__law_heard "_law_heard" = true)
    (F__law_heard_k : PySem.W.keepIn K (.ref A__law_heard) = true)
    (F__law_beside_c : PySem.W.codeIn K cd__law_beside "_law_beside" = true)
    (F__law_beside_k : PySem.W.keepIn K (.ref A__law_beside) = true)
    (F__law_between_right_c : PySem.W.codeIn K cd__law_between_right "_law_between_right" = true)
    (F__law_between_right_k : PySem.W.keepIn K (.ref A__law_between_right) = true)
    (F__law_beyond_right_c : PySem.W.codeIn K cd__law_beyond_right "_law_beyond_right" = true)
    (F__law_beyond_right_k : PySem.W.keepIn K (.ref A__law_beyond_right) = true)
    (F__law_refused_right_c : PySem.W.codeIn K cd__law_refused_right "_law_refused_right" = true)
    (F__law_refused_right_k : PySem.W.keepIn K (.ref A__law_refused_right) = true)
    (F_law_c : PySem.W.codeIn K cd_law "law" = true)
    (F_law_k : PySem.W.keepIn K (.ref A_law) = true)
    (u_Zooms_invert_s : PySem.W.findIn K (.ref A_Zooms) "__invert__" = some (some (.ref A_Zooms___invert__)))
    (u_Zooms_invert_f : PySem.W.isFn K (.ref A_Zooms___invert__) = true)
    (q_Zooms_eq_s : PySem.W.findIn K (.ref A_Zooms) "__eq__" = some (some (.ref A_Zooms___eq__)))
    (q_Zooms_eq_f : PySem.W.isFn K (.ref A_Zooms___eq__) = true)
    (q_Zooms_eq_n : PySem.W.notFirst K A_Zooms (.type "int") = true)
    (z_Zooms_e : PySem.W.findIn K (.ref A_Zooms) "__ne__" = some (some (.builtin "object.__ne__")))
    (z_Zooms_s : PySem.W.findIn K (.ref A_Zooms) "__eq__" = some (some (.ref A_Zooms___eq__)))
    (z_Zooms_f : PySem.W.isFn K (.ref A_Zooms___eq__) = true)
    (z_Zooms_m : PySem.W.mroIn K A_Zooms (.type "object") = some true)
    (z_Zooms_n : PySem.W.notFirst K A_Zooms (.type "int") = true)
    (b_Zooms_sub_s : PySem.W.findIn K (.ref A_Zooms) "__sub__" = some (some (.ref A_Zooms___sub__)))
    (b_Zooms_sub_f : PySem.W.isFn K (.ref A_Zooms___sub__) = true)
    (b_Zooms_sub_c : PySem.W.selfFirst K A_Zooms = true)
    (b_Zooms_sub_r : PySem.W.findIn K (.ref A_Zooms) "__rsub__" = some (none))
    (b_Zooms_sub_t : PySem.W.findIn K (.type "int") "__sub__" = some fo_Zooms_sub)
    (b_Zooms_sub_u : PySem.W.findIn K (.type "int") "__rsub__" = some ro_Zooms_sub)
    (b_Zooms_sub_w : PySem.W.subIn K (.type "int") (.ref A_Zooms) = some false)
    (bo_Zooms_s : PySem.W.findIn K (.ref A_Zooms) "__bool__" = some (some (.ref A_Zooms___bool__)))
    (bo_Zooms_f : PySem.W.isFn K (.ref A_Zooms___bool__) = true)
    (h_Zooms_marks_upto_a : PySem.W.findIn K (.ref A_Zooms) "marks_upto" = some (some (.ref A_Zooms_marks_upto)))
    (h_Zooms_marks_upto_f : PySem.W.isFn K (.ref A_Zooms_marks_upto) = true)
    (h_Zooms_marks_upto_k : PySem.W.keepIn K (.ref A_Zooms_marks_upto) = true)
    (h_Zooms_state_behind_a : PySem.W.findIn K (.ref A_Zooms) "state_behind" = some (some (.ref A_Zooms_state_behind)))
    (h_Zooms_state_behind_f : PySem.W.isFn K (.ref A_Zooms_state_behind) = true)
    (h_Zooms_state_behind_k : PySem.W.keepIn K (.ref A_Zooms_state_behind) = true)
    (h_Zooms_joined_a : PySem.W.findIn K (.ref A_Zooms) "joined" = some (some (.ref A_Zooms_joined)))
    (h_Zooms_joined_f : PySem.W.isFn K (.ref A_Zooms_joined) = true)
    (h_Zooms_joined_k : PySem.W.keepIn K (.ref A_Zooms_joined) = true)
    (h_Ratio_divided_a : PySem.W.findIn K (.ref A_Ratio) "divided" = some (some (.ref A_Ratio_divided)))
    (h_Ratio_divided_f : PySem.W.isFn K (.ref A_Ratio_divided) = true)
    (h_Ratio_divided_k : PySem.W.keepIn K (.ref A_Ratio_divided) = true)
    (h_Ratio_ceiling_a : PySem.W.findIn K (.ref A_Ratio) "ceiling" = some (some (.ref A_Ratio_ceiling)))
    (h_Ratio_ceiling_f : PySem.W.isFn K (.ref A_Ratio_ceiling) = true)
    (h_Ratio_ceiling_k : PySem.W.keepIn K (.ref A_Ratio_ceiling) = true)
    (F_Ratio_common_c : PySem.W.codeIn K cd_Ratio_common "Ratio.common" = true)
    (F_Ratio_common_k : PySem.W.keepIn K (.ref A_Ratio_common) = true)
    (s_Ratio_common_g : PySem.W.specialIn K (.ref A_Ratio) "__getattribute__" = some (some (.builtin "type.__getattribute__")))
    (s_Ratio_common_k : PySem.W.keepIn K (.ref A_Ratio_common) = true)
    (s_Ratio_lowest_g : PySem.W.specialIn K (.ref A_Ratio) "__getattribute__" = some (some (.builtin "type.__getattribute__")))
    (s_Ratio_lowest_k : PySem.W.keepIn K (.ref A_Ratio_lowest) = true)
    (s_Zooms_between_g : PySem.W.specialIn K (.ref A_Zooms) "__getattribute__" = some (some (.builtin "type.__getattribute__")))
    (s_Zooms_between_k : PySem.W.keepIn K (.ref A_Zooms_between) = true)
    (s_Zooms_beyond_g : PySem.W.specialIn K (.ref A_Zooms) "__getattribute__" = some (some (.builtin "type.__getattribute__")))
    (s_Zooms_beyond_k : PySem.W.keepIn K (.ref A_Zooms_beyond) = true)
    (s_Zooms_everything_g : PySem.W.specialIn K (.ref A_Zooms) "__getattribute__" = some (some (.builtin "type.__getattribute__")))
    (s_Zooms_everything_k : PySem.W.keepIn K (.ref A_Zooms_everything) = true)
    (s_Zooms_nothing_g : PySem.W.specialIn K (.ref A_Zooms) "__getattribute__" = some (some (.builtin "type.__getattribute__")))
    (s_Zooms_nothing_k : PySem.W.keepIn K (.ref A_Zooms_nothing) = true)
    (k_marks_joined_a : PySem.W.keepIn K (.ref A_marks_joined) = true)
    (m_marks_joined_a : PySem.W.nsIn K mainGlobals "marks_joined" = some (some (.ref A_marks_joined)))
    (k_joined_truth_a : PySem.W.keepIn K (.ref A_joined_truth) = true)
    (m_joined_truth_a : PySem.W.nsIn K mainGlobals "joined_truth" = some (some (.ref A_joined_truth)))
    (k_common_multiple_a : PySem.W.keepIn K (.ref A_common_multiple) = true)
    (m_common_multiple_a : PySem.W.nsIn K mainGlobals "common_multiple" = some (some (.ref A_common_multiple)))
    (n_range_a : PySem.W.nsIn K mainGlobals "range" = some none)
    (y_Zooms_a : PySem.W.findIn K (.ref A_Zooms) "__class__" = some (some (.builtin "object.__class__")))
    (y_Zooms_n : PySem.W.specialIn K (.builtin "object.__class__") "__get__" = some (some (.builtin "getset_descriptor.__get__")))
    (y_Zooms_t : PySem.W.takesIn K (.builtin "object.__class__") = some true)
    (y_Zooms_m : PySem.W.mroIn K A_Zooms (.type "object") = some true)
    (cv_Zooms_MOST_MARKS_r : PySem.W.readsIn K A_Zooms (.type "type") = true)
    (cv_Zooms_MOST_MARKS_g : PySem.W.specialIn K (.ref A_Zooms) "__getattribute__" = some (some (.builtin "type.__getattribute__")))
    (cv_Zooms_MOST_MARKS_v : PySem.W.findCls K (.ref A_Zooms) (.type "type") "MOST_MARKS" = some (.val (.int 3000 tk0_cv_Zooms_MOST_MARKS)))
    (v_Ratio_sub_s : PySem.W.findIn K (.ref A_Ratio) "__sub__" = some (some (.ref A_Ratio___sub__)))
    (v_Ratio_sub_r : PySem.W.findIn K (.ref A_Ratio) "__rsub__" = some (some (.ref A_Ratio___rsub__)))
    (v_Ratio_sub_f : PySem.W.isFn K (.ref A_Ratio___rsub__) = true)
    (v_Ratio_sub_c : PySem.W.selfFirst K A_Ratio = true)
    (v_Ratio_sub_u : PySem.W.subIn K (.ref A_Ratio) (.type "int") = some false)
    (bo_Ratio_s : PySem.W.findIn K (.ref A_Ratio) "__bool__" = some (some (.ref A_Ratio___bool__)))
    (bo_Ratio_f : PySem.W.isFn K (.ref A_Ratio___bool__) = true)
    (m_law_a : PySem.W.nsIn K mainGlobals "law" = some (some (.ref A_law)))
    (sx_SnapError_l : K.lookup A_SnapError = some (excClassObj "SnapError" eq_SnapError A_SnapError eN_SnapError eb_SnapError PySem.HandSPX.veTail true en_SnapError eu_SnapError ea_SnapError ec_SnapError ed_SnapError e0_SnapError e1_SnapError e2_SnapError e3_SnapError e5_SnapError "ValueError.__new__"))
    (gx_all_n : PySem.W.specialIn K (.builtin "object.__class__") "__get__" = some (some (.builtin "getset_descriptor.__get__")))
    (gx_all_t : PySem.W.takesIn K (.builtin "object.__class__") = some true)
    (m__law_number_a : PySem.W.nsIn K mainGlobals "_law_number" = some (some (.ref A__law_number)))
    (k__law_number_a : PySem.W.keepIn K (.ref A__law_number) = true)
    (m__law_heard_a : PySem.W.nsIn K mainGlobals "_law_heard" = some (some (.ref A__law_heard)))
    (k__law_heard_a : PySem.W.keepIn K (.ref A__law_heard) = true)
    (m__law_beside_a : PySem.W.nsIn K mainGlobals "_law_beside" = some (some (.ref A__law_beside)))
    (k__law_beside_a : PySem.W.keepIn K (.ref A__law_beside) = true)
    (m__law_between_right_a : PySem.W.nsIn K mainGlobals "_law_between_right" = some (some (.ref A__law_between_right)))
    (k__law_between_right_a : PySem.W.keepIn K (.ref A__law_between_right) = true)
    (m__law_beyond_right_a : PySem.W.nsIn K mainGlobals "_law_beyond_right" = some (some (.ref A__law_beyond_right)))
    (k__law_beyond_right_a : PySem.W.keepIn K (.ref A__law_beyond_right) = true)
    (m__law_refused_right_a : PySem.W.nsIn K mainGlobals "_law_refused_right" = some (some (.ref A__law_refused_right)))
    (k__law_refused_right_a : PySem.W.keepIn K (.ref A__law_refused_right) = true)
    (m__law_pen_a : PySem.W.nsIn K mainGlobals "_law_pen" = some (some (.ref A__law_pen)))
    (k__law_pen_a : PySem.W.keepIn K (.ref A__law_pen) = true)
    (m__law_pick_a : PySem.W.nsIn K mainGlobals "_law_pick" = some (some (.ref A__law_pick)))
    (k__law_pick_a : PySem.W.keepIn K (.ref A__law_pick) = true)
    (w_Zooms_bool_n : PySem.W.notFirst K A_Zooms (.type "bool") = true)
    (F_Zooms_marks_upto_c : PySem.W.codeIn K cd_Zooms_marks_upto "Zooms.marks_upto" = true)
    (F_Zooms_marks_upto_k : PySem.W.keepIn K (.ref A_Zooms_marks_upto) = true)
    (b_Ratio_mul_s : PySem.W.findIn K (.ref A_Ratio) "__mul__" = some (some (.ref A_Ratio___mul__)))
    (b_Ratio_mul_f : PySem.W.isFn K (.ref A_Ratio___mul__) = true)
    (b_Ratio_mul_c : PySem.W.selfFirst K A_Ratio = true)
    (b_Ratio_mul_r : PySem.W.findIn K (.ref A_Ratio) "__rmul__" = some (some (.ref A_Ratio___rmul__)))
    (b_Ratio_mul_t : PySem.W.findIn K (.type "int") "__mul__" = some fo_Ratio_mul)
    (b_Ratio_mul_u : PySem.W.findIn K (.type "int") "__rmul__" = some ro_Ratio_mul)
    (b_Ratio_mul_w : PySem.W.subIn K (.type "int") (.ref A_Ratio) = some false)
    (tab_law_l : K.lookup A_law = some ⟨oc2_law, od2_law, .func (PySem.W.fnOf "law" "law" (defArgs s_law) (defBody s_law) (defScope s_law) .none kV2_law dc2_law pm2_law an2_law (.ref A_cc_law) ct2_law), sl2_law⟩)
    (tab_law_c : K.lookup A_cc_law = some ⟨cd2_law, td2_law, .fields (List.toArray fv_law), ts2_law⟩)
    (tab_law_v : fv_law[11]? = some (.ref A_cp_law))
    (tab_law_o : K.lookup A_cp_law = none)
    (tab_law_h : PySem.W.codeHdIn K A_cc_law A_cp_law = true)
    (tab__law_between_right_l : K.lookup A__law_between_right = some ⟨oc2__law_between_right, od2__law_between_right, .func (PySem.W.fnOf "_law_between_right" "_law_between_right" (defArgs s__law_between_right) (defBody s__law_between_right) (defScope s__law_between_right) .none kV2__law_between_right dc2__law_between_right pm2__law_between_right an2__law_between_right (.ref A_cc__law_between_right) ct2__law_between_right), sl2__law_between_right⟩)
    (tab__law_between_right_c : K.lookup A_cc__law_between_right = some ⟨cd2__law_between_right, td2__law_between_right, .fields (List.toArray fv__law_between_right), ts2__law_between_right⟩)
    (tab__law_between_right_v : fv__law_between_right[11]? = some (.ref A_cp__law_between_right))
    (tab__law_between_right_o : K.lookup A_cp__law_between_right = none)
    (tab__law_between_right_h : PySem.W.codeHdIn K A_cc__law_between_right A_cp__law_between_right = true)
    (tab__law_refused_right_l : K.lookup A__law_refused_right = some ⟨oc2__law_refused_right, od2__law_refused_right, .func (PySem.W.fnOf "_law_refused_right" "_law_refused_right" (defArgs s__law_refused_right) (defBody s__law_refused_right) (defScope s__law_refused_right) .none kV2__law_refused_right dc2__law_refused_right pm2__law_refused_right an2__law_refused_right (.ref A_cc__law_refused_right) ct2__law_refused_right), sl2__law_refused_right⟩)
    (tab__law_refused_right_c : K.lookup A_cc__law_refused_right = some ⟨cd2__law_refused_right, td2__law_refused_right, .fields (List.toArray fv__law_refused_right), ts2__law_refused_right⟩)
    (tab__law_refused_right_v : fv__law_refused_right[11]? = some (.ref A_cp__law_refused_right))
    (tab__law_refused_right_o : K.lookup A_cp__law_refused_right = none)
    (tab__law_refused_right_h : PySem.W.codeHdIn K A_cc__law_refused_right A_cp__law_refused_right = true)
    (gx_object_n : PySem.W.specialIn K (.builtin "object.__class__") "__get__" = some (some (.builtin "getset_descriptor.__get__")))
    (gx_object_t : PySem.W.takesIn K (.builtin "object.__class__") = some true)
    (i_NoneType_is_Ratio_c : PySem.W.isClsIn K A_Ratio = true)
    (i_NoneType_is_Ratio_t : PySem.W.typeIn K (.ref A_Ratio) = some (.type "type"))
    (i_NoneType_is_Ratio_a : PySem.W.subIn K (.type "NoneType") (.ref A_Ratio) = some false)
    (w_Ratio_NoneType_n : PySem.W.notFirst K A_Ratio (.type "NoneType") = true)
    (i_bool_is_Ratio_c : PySem.W.isClsIn K A_Ratio = true)
    (i_bool_is_Ratio_t : PySem.W.typeIn K (.ref A_Ratio) = some (.type "type"))
    (i_bool_is_Ratio_a : PySem.W.subIn K (.type "bool") (.ref A_Ratio) = some false)
    (w_Ratio_bool_n : PySem.W.notFirst K A_Ratio (.type "bool") = true)
    (i_str_is_Ratio_c : PySem.W.isClsIn K A_Ratio = true)
    (i_str_is_Ratio_t : PySem.W.typeIn K (.ref A_Ratio) = some (.type "type"))
    (i_str_is_Ratio_a : PySem.W.subIn K (.type "str") (.ref A_Ratio) = some false)
    (w_Ratio_str_n : PySem.W.notFirst K A_Ratio (.type "str") = true)
    (i_tuple_is_Ratio_c : PySem.W.isClsIn K A_Ratio = true)
    (i_tuple_is_Ratio_t : PySem.W.typeIn K (.ref A_Ratio) = some (.type "type"))
    (i_tuple_is_Ratio_a : PySem.W.subIn K (.type "tuple") (.ref A_Ratio) = some false)
    (w_Ratio_tuple_n : PySem.W.notFirst K A_Ratio (.type "tuple") = true)
    (i_list_is_Ratio_c : PySem.W.isClsIn K A_Ratio = true)
    (i_list_is_Ratio_t : PySem.W.typeIn K (.ref A_Ratio) = some (.type "type"))
    (i_list_is_Ratio_a : PySem.W.subIn K (.type "list") (.ref A_Ratio) = some false)
    (w_Ratio_list_n : PySem.W.notFirst K A_Ratio (.type "list") = true)
    (dn_law____law_between_right_n : A_cp_law ≠ A_cp__law_between_right)
    (dn_law____law_refused_right_n : A_cp_law ≠ A_cp__law_refused_right)
    (dn__law_between_right____law_refused_right_n : A_cp__law_between_right ≠ A_cp__law_refused_right)
    : Tx K mg ⟨A__law_pen, A__law_draw, A__law_pick, A_Ratio, A_is_integer, A_Ratio___init__, A_Ratio_of, A_Ratio___add__, A_Ratio___sub__, A_Ratio___mul__, A_Ratio___lt__, A_Ratio___le__, A_Ratio___gt__, A_Ratio___ge__, A_Ratio___eq__, A_Ratio_floor, A_Ratio_ceiling, A_Ratio___str__, A_Ratio___bool__, A_BadRatio___init__, A_SnapError, A_BadRatio, A_all_numbers, A_bound_of, A_Ratio_highest, A_Ratio_lowest, A_is_number, A_is_zoom, A_is_place, A_many_upto, A_state_ahead, A_changing, A_is_mark, A_checked_marks, A_least_turn, A_least_begin, A_Ratio___radd__, A_Ratio___rsub__, A_normal_form, A_Zooms___init__, A_Zooms, A_Zooms_everything, A_Zooms_nothing, A_BadZooms___init__, A_BadZooms, A_Zooms_beyond, A_Zooms_between, A_Zooms_mark, A_Zooms_state_behind, A_Zooms___bool__, A_Ratio_divided, A_Zooms___contains__, A_Zooms___eq__, A_Zooms___invert__, A_Zooms_joined, A_Zooms___sub__, A_common_multiple, A_joined_truth, A_marks_joined, A__law_number, A__law_heard, A__law_beside, A__law_between_right, A__law_beyond_right, A__law_refused_right, A_law, A_Zooms_marks_upto, A_Ratio_common, A_Ratio___rmul__, A_cp_law, A_cp__law_between_right, A_cp__law_refused_right, A_cc_law, A_cc__law_between_right, A_cc__law_refused_right⟩ where
    F__law_pen := ⟨_, fun_mk (st := s__law_pen) F__law_pen_l F__law_pen_c F__law_pen_k⟩
    n_list := PySem.W.mg_none_of X G n_list_a
    F__law_draw := ⟨_, fun_mk (st := s__law_draw) F__law_draw_l F__law_draw_c F__law_draw_k⟩
    n_int := PySem.W.mg_none_of X G n_int_a
    n_len := PySem.W.mg_none_of X G n_len_a
    n_abs := PySem.W.mg_none_of X G n_abs_a
    F__law_pick := ⟨_, fun_mk (st := s__law_pick) F__law_pick_l F__law_pick_c F__law_pick_k⟩
    k__law_draw := k__law_draw_a
    m__law_draw := PySem.W.mg_of X G m__law_draw_a
    i_int_is_int := L2.kit_ty (by decide +kernel)
    i_int_is_bool := L2.kit_ty (by decide +kernel)
    y_Ratio := ⟨y_Ratio_a, y_Ratio_n, y_Ratio_t, y_Ratio_m⟩
    c_Ratio := ⟨c_Ratio_p, c_Ratio_h, c_Ratio_o, c_Ratio_s⟩
    i_Ratio_is_int := kit_rt (by decide +kernel) i_Ratio_is_int_a
    i_Ratio_is_bool := kit_rt (by decide +kernel) i_Ratio_is_bool_a
    F_is_integer := ⟨_, fun_mk (st := s_is_integer) F_is_integer_l F_is_integer_c F_is_integer_k⟩
    n_isinstance := PySem.W.mg_none_of X G n_isinstance_a
    n_bool := PySem.W.mg_none_of X G n_bool_a
    D_Ratio___init__ := ⟨_, ⟨_, _, _, _, _, _, _, _, _, _, rfl, D_Ratio___init___l, D_Ratio___init___c, Or.inr ⟨by simp, _, _, _, _, rfl, D_Ratio___init___t, rfl, (Paired.cons ⟨_, rfl⟩ Paired.nil)⟩, Or.inl rfl⟩, D_Ratio___init___k⟩
    k_is_integer := k_is_integer_a
    m_is_integer := PySem.W.mg_of X G m_is_integer_a
    m_gcd := PySem.W.mg_of X G m_gcd_a
    a_Ratio_over := a_Ratio_over_a
    a_Ratio_under := a_Ratio_under_a
    F_Ratio_of := ⟨_, fun_mk (st := s_Ratio_of) F_Ratio_of_l F_Ratio_of_c F_Ratio_of_k⟩
    m_Ratio := PySem.W.mg_of X G m_Ratio_a
    mk_Ratio := ⟨mk_Ratio_m, mk_Ratio_i, mk_Ratio_f, mk_Ratio_k⟩
    i_int_is_Ratio := kit_tr i_int_is_Ratio_c i_int_is_Ratio_t i_int_is_Ratio_a
    i_Ratio_is_Ratio := kit_rr
    F_Ratio___add__ := ⟨_, fun_mk (st := s_Ratio___add__) F_Ratio___add___l F_Ratio___add___c F_Ratio___add___k⟩
    s_Ratio_of := ⟨⟨_, _, _, ⟨s_Ratio_of_r, s_Ratio_of_g⟩, s_Ratio_of_a, s_Ratio_of_q⟩, s_Ratio_of_k⟩
    F_Ratio___sub__ := ⟨_, fun_mk (st := s_Ratio___sub__) F_Ratio___sub___l F_Ratio___sub___c F_Ratio___sub___k⟩
    F_Ratio___mul__ := ⟨_, fun_mk (st := s_Ratio___mul__) F_Ratio___mul___l F_Ratio___mul___c F_Ratio___mul___k⟩
    F_Ratio___lt__ := ⟨_, fun_mk (st := s_Ratio___lt__) F_Ratio___lt___l F_Ratio___lt___c F_Ratio___lt___k⟩
    F_Ratio___le__ := ⟨_, fun_mk (st := s_Ratio___le__) F_Ratio___le___l F_Ratio___le___c F_Ratio___le___k⟩
    F_Ratio___gt__ := ⟨_, fun_mk (st := s_Ratio___gt__) F_Ratio___gt___l F_Ratio___gt___c F_Ratio___gt___k⟩
    F_Ratio___ge__ := ⟨_, fun_mk (st := s_Ratio___ge__) F_Ratio___ge___l F_Ratio___ge___c F_Ratio___ge___k⟩
    F_Ratio___eq__ := ⟨_, fun_mk (st := s_Ratio___eq__) F_Ratio___eq___l F_Ratio___eq___c F_Ratio___eq___k⟩
    F_Ratio_floor := ⟨_, fun_mk (st := s_Ratio_floor) F_Ratio_floor_l F_Ratio_floor_c F_Ratio_floor_k⟩
    F_Ratio_ceiling := ⟨_, fun_mk (st := s_Ratio_ceiling) F_Ratio_ceiling_l F_Ratio_ceiling_c F_Ratio_ceiling_k⟩
    F_Ratio___str__ := ⟨_, fun_mk (st := s_Ratio___str__) F_Ratio___str___l F_Ratio___str___c F_Ratio___str___k⟩
    n_str := PySem.W.mg_none_of X G n_str_a
    F_Ratio___bool__ := ⟨_, fun_mk (st := s_Ratio___bool__) F_Ratio___bool___l F_Ratio___bool___c F_Ratio___bool___k⟩
    F_BadRatio___init__ := ⟨_, fun_mk (st := s_BadRatio___init__) F_BadRatio___init___l F_BadRatio___init___c F_BadRatio___init___k⟩
    vi_SnapError := ⟨⟨_, ⟨vi_SnapError_r, vi_SnapError_g⟩, vi_SnapError_v⟩⟩
    m_SnapError := PySem.W.mg_of X G m_SnapError_a
    ex_BadRatio := ⟨⟨_, _, _, _, _, _, _, _, _, _, _, _, _, ex_BadRatio_l⟩, ex_BadRatio_s, ex_BadRatio_g, ex_BadRatio_h, ex_BadRatio_c, ex_BadRatio_i, ex_BadRatio_f, ex_BadRatio_k⟩
    a_BadRatio_value := a_BadRatio_value_a
    m_BadRatio := PySem.W.mg_of X G m_BadRatio_a
    i_list_is_list := L2.kit_ty (by decide +kernel)
    i_tuple_is_list := L2.kit_ty (by decide +kernel)
    i_tuple_is_tuple := L2.kit_ty (by decide +kernel)
    F_all_numbers := ⟨_, fun_mk (st := s_all_numbers) F_all_numbers_l F_all_numbers_c F_all_numbers_k⟩
    n_tuple := PySem.W.mg_none_of X G n_tuple_a
    F_bound_of := ⟨_, fun_mk (st := s_bound_of) F_bound_of_l F_bound_of_c F_bound_of_k⟩
    k_all_numbers := k_all_numbers_a
    m_all_numbers := PySem.W.mg_of X G m_all_numbers_a
    q_Ratio_gt := ⟨q_Ratio_gt_s, q_Ratio_gt_f, q_Ratio_gt_n⟩
    q_Ratio_lt := ⟨q_Ratio_lt_s, q_Ratio_lt_f, q_Ratio_lt_n⟩
    F_Ratio_highest := ⟨_, fun_mk (st := s_Ratio_highest) F_Ratio_highest_l F_Ratio_highest_c F_Ratio_highest_k⟩
    k_bound_of := k_bound_of_a
    m_bound_of := PySem.W.mg_of X G m_bound_of_a
    F_Ratio_lowest := ⟨_, fun_mk (st := s_Ratio_lowest) F_Ratio_lowest_l F_Ratio_lowest_c F_Ratio_lowest_k⟩
    F_is_number := ⟨_, fun_mk (st := s_is_number) F_is_number_l F_is_number_c F_is_number_k⟩
    F_is_zoom := ⟨_, fun_mk (st := s_is_zoom) F_is_zoom_l F_is_zoom_c F_is_zoom_k⟩
    k_is_number := k_is_number_a
    m_is_number := PySem.W.mg_of X G m_is_number_a
    F_is_place := ⟨_, fun_mk (st := s_is_place) F_is_place_l F_is_place_c F_is_place_k⟩
    q_Ratio_ge := ⟨q_Ratio_ge_s, q_Ratio_ge_f, q_Ratio_ge_n⟩
    F_many_upto := ⟨_, fun_mk (st := s_many_upto) F_many_upto_l F_many_upto_c F_many_upto_k⟩
    q_Ratio_le := ⟨q_Ratio_le_s, q_Ratio_le_f, q_Ratio_le_n⟩
    F_state_ahead := ⟨_, fun_mk (st := s_state_ahead) F_state_ahead_l F_state_ahead_c F_state_ahead_k⟩
    F_changing := ⟨_, fun_mk (st := s_changing) F_changing_l F_changing_c F_changing_k⟩
    F_is_mark := ⟨_, fun_mk (st := s_is_mark) F_is_mark_l F_is_mark_c F_is_mark_k⟩
    k_is_zoom := k_is_zoom_a
    m_is_zoom := PySem.W.mg_of X G m_is_zoom_a
    i_bool_is_bool := L2.kit_ty (by decide +kernel)
    F_checked_marks := ⟨_, fun_mk (st := s_checked_marks) F_checked_marks_l F_checked_marks_c F_checked_marks_k⟩
    k_is_mark := k_is_mark_a
    m_is_mark := PySem.W.mg_of X G m_is_mark_a
    F_least_turn := ⟨_, fun_mk (st := s_least_turn) F_least_turn_l F_least_turn_c F_least_turn_k⟩
    F_least_begin := ⟨_, fun_mk (st := s_least_begin) F_least_begin_l F_least_begin_c F_least_begin_k⟩
    k_many_upto := k_many_upto_a
    m_many_upto := PySem.W.mg_of X G m_many_upto_a
    s_Ratio_highest := ⟨⟨_, _, _, ⟨s_Ratio_highest_r, s_Ratio_highest_g⟩, s_Ratio_highest_a, s_Ratio_highest_q⟩, s_Ratio_highest_k⟩
    b_Ratio_add := ⟨b_Ratio_add_s, b_Ratio_add_f, b_Ratio_add_c, ⟨_, b_Ratio_add_r, Or.inr ⟨_, rfl⟩⟩, ⟨_, _, b_Ratio_add_t, b_Ratio_add_u⟩, b_Ratio_add_w⟩
    q_Ratio_eq := ⟨q_Ratio_eq_s, q_Ratio_eq_f, q_Ratio_eq_n⟩
    b_Ratio_sub := ⟨b_Ratio_sub_s, b_Ratio_sub_f, b_Ratio_sub_c, ⟨_, b_Ratio_sub_r, Or.inr ⟨_, rfl⟩⟩, ⟨_, _, b_Ratio_sub_t, b_Ratio_sub_u⟩, b_Ratio_sub_w⟩
    z_Ratio := ⟨z_Ratio_e, z_Ratio_s, z_Ratio_f, z_Ratio_m, z_Ratio_n⟩
    F_normal_form := ⟨_, fun_mk (st := s_normal_form) F_normal_form_l F_normal_form_c F_normal_form_k⟩
    k_changing := k_changing_a
    m_changing := PySem.W.mg_of X G m_changing_a
    k_least_turn := k_least_turn_a
    m_least_turn := PySem.W.mg_of X G m_least_turn_a
    k_least_begin := k_least_begin_a
    m_least_begin := PySem.W.mg_of X G m_least_begin_a
    F_Zooms___init__ := ⟨_, fun_mk (st := s_Zooms___init__) F_Zooms___init___l F_Zooms___init___c F_Zooms___init___k⟩
    k_is_place := k_is_place_a
    m_is_place := PySem.W.mg_of X G m_is_place_a
    k_checked_marks := k_checked_marks_a
    m_checked_marks := PySem.W.mg_of X G m_checked_marks_a
    k_state_ahead := k_state_ahead_a
    m_state_ahead := PySem.W.mg_of X G m_state_ahead_a
    k_normal_form := k_normal_form_a
    m_normal_form := PySem.W.mg_of X G m_normal_form_a
    c_Zooms := ⟨c_Zooms_p, c_Zooms_h, c_Zooms_o, c_Zooms_s⟩
    a_Zooms_begin := a_Zooms_begin_a
    a_Zooms_turn := a_Zooms_turn_a
    a_Zooms_marks := a_Zooms_marks_a
    a_Zooms_is_first := a_Zooms_is_first_a
    a_Zooms_once := a_Zooms_once_a
    F_Zooms_everything := ⟨_, fun_mk (st := s_Zooms_everything) F_Zooms_everything_l F_Zooms_everything_c F_Zooms_everything_k⟩
    mk_Zooms := ⟨mk_Zooms_m, mk_Zooms_i, mk_Zooms_f, mk_Zooms_k⟩
    m_Zooms := PySem.W.mg_of X G m_Zooms_a
    F_Zooms_nothing := ⟨_, fun_mk (st := s_Zooms_nothing) F_Zooms_nothing_l F_Zooms_nothing_c F_Zooms_nothing_k⟩
    F_BadZooms___init__ := ⟨_, fun_mk (st := s_BadZooms___init__) F_BadZooms___init___l F_BadZooms___init___c F_BadZooms___init___k⟩
    ex_BadZooms := ⟨⟨_, _, _, _, _, _, _, _, _, _, _, _, _, ex_BadZooms_l⟩, ex_BadZooms_s, ex_BadZooms_g, ex_BadZooms_h, ex_BadZooms_c, ex_BadZooms_i, ex_BadZooms_f, ex_BadZooms_k⟩
    a_BadZooms_part := a_BadZooms_part_a
    D_Zooms_beyond := ⟨_, ⟨_, _, _, _, _, _, _, _, _, _, rfl, D_Zooms_beyond_l, D_Zooms_beyond_c, Or.inr ⟨by simp, _, _, _, _, rfl, D_Zooms_beyond_t, rfl, (Paired.cons rfl Paired.nil)⟩, Or.inl rfl⟩, D_Zooms_beyond_k⟩
    m_BadZooms := PySem.W.mg_of X G m_BadZooms_a
    D_Zooms_between := ⟨_, ⟨_, _, _, _, _, _, _, _, _, _, rfl, D_Zooms_between_l, D_Zooms_between_c, Or.inr ⟨by simp, _, _, _, _, rfl, D_Zooms_between_t, rfl, (Paired.cons rfl (Paired.cons rfl Paired.nil))⟩, Or.inl rfl⟩, D_Zooms_between_k⟩
    F_Zooms_mark := ⟨_, fun_mk (st := s_Zooms_mark) F_Zooms_mark_l F_Zooms_mark_c F_Zooms_mark_k⟩
    F_Zooms_state_behind := ⟨_, fun_mk (st := s_Zooms_state_behind) F_Zooms_state_behind_l F_Zooms_state_behind_c F_Zooms_state_behind_k⟩
    h_Zooms_mark := ⟨h_Zooms_mark_a, h_Zooms_mark_f, h_Zooms_mark_k⟩
    F_Zooms___bool__ := ⟨_, fun_mk (st := s_Zooms___bool__) F_Zooms___bool___l F_Zooms___bool___c F_Zooms___bool___k⟩
    F_Ratio_divided := ⟨_, fun_mk (st := s_Ratio_divided) F_Ratio_divided_l F_Ratio_divided_c F_Ratio_divided_k⟩
    F_Ratio___rsub__ := ⟨_, fun_mk (st := s_Ratio___rsub__) F_Ratio___rsub___l F_Ratio___rsub___c F_Ratio___rsub___k⟩
    in_Zooms := ⟨in_Zooms_s, in_Zooms_f⟩
    F_Zooms___contains__ := ⟨_, fun_mk (st := s_Zooms___contains__) F_Zooms___contains___l F_Zooms___contains___c F_Zooms___contains___k⟩
    F_Zooms___eq__ := ⟨_, fun_mk (st := s_Zooms___eq__) F_Zooms___eq___l F_Zooms___eq___c F_Zooms___eq___k⟩
    F_Zooms___invert__ := ⟨_, fun_mk (st := s_Zooms___invert__) F_Zooms___invert___l F_Zooms___invert___c F_Zooms___invert___k⟩
    F_Zooms_joined := ⟨_, fun_mk (st := s_Zooms_joined) F_Zooms_joined_l F_Zooms_joined_c F_Zooms_joined_k⟩
    F_Zooms___sub__ := ⟨_, fun_mk (st := s_Zooms___sub__) F_Zooms___sub___l F_Zooms___sub___c F_Zooms___sub___k⟩
    F_common_multiple := ⟨_, fun_mk (st := s_common_multiple) F_common_multiple_l F_common_multiple_c F_common_multiple_k⟩
    F_joined_truth := ⟨_, fun_mk (st := s_joined_truth) F_joined_truth_l F_joined_truth_c F_joined_truth_k⟩
    F_marks_joined := ⟨_, fun_mk (st := s_marks_joined) F_marks_joined_l F_marks_joined_c F_marks_joined_k⟩
    F__law_number := ⟨_, fun_mk (st := s__law_number) F__law_number_l F__law_number_c F__law_number_k⟩
    F__law_heard := ⟨_, fun_mk (st := s__law_heard) F__law_heard_l F__law_heard_c F__law_heard_k⟩
    F__law_beside := ⟨_, fun_mk (st := s__law_beside) F__law_beside_l F__law_beside_c F__law_beside_k⟩
    F__law_between_right := ⟨_, fun_mk (st := s__law_between_right) F__law_between_right_l F__law_between_right_c F__law_between_right_k⟩
    F__law_beyond_right := ⟨_, fun_mk (st := s__law_beyond_right) F__law_beyond_right_l F__law_beyond_right_c F__law_beyond_right_k⟩
    F__law_refused_right := ⟨_, fun_mk (st := s__law_refused_right) F__law_refused_right_l F__law_refused_right_c F__law_refused_right_k⟩
    F_law := ⟨_, fun_mk (st := s_law) F_law_l F_law_c F_law_k⟩
    u_Zooms_invert := ⟨u_Zooms_invert_s, u_Zooms_invert_f⟩
    q_Zooms_eq := ⟨q_Zooms_eq_s, q_Zooms_eq_f, q_Zooms_eq_n⟩
    z_Zooms := ⟨z_Zooms_e, z_Zooms_s, z_Zooms_f, z_Zooms_m, z_Zooms_n⟩
    b_Zooms_sub := ⟨b_Zooms_sub_s, b_Zooms_sub_f, b_Zooms_sub_c, ⟨_, b_Zooms_sub_r, Or.inl rfl⟩, ⟨_, _, b_Zooms_sub_t, b_Zooms_sub_u⟩, b_Zooms_sub_w⟩
    bo_Zooms := ⟨bo_Zooms_s, bo_Zooms_f⟩
    h_Zooms_marks_upto := ⟨h_Zooms_marks_upto_a, h_Zooms_marks_upto_f, h_Zooms_marks_upto_k⟩
    h_Zooms_state_behind := ⟨h_Zooms_state_behind_a, h_Zooms_state_behind_f, h_Zooms_state_behind_k⟩
    h_Zooms_joined := ⟨h_Zooms_joined_a, h_Zooms_joined_f, h_Zooms_joined_k⟩
    h_Ratio_divided := ⟨h_Ratio_divided_a, h_Ratio_divided_f, h_Ratio_divided_k⟩
    h_Ratio_ceiling := ⟨h_Ratio_ceiling_a, h_Ratio_ceiling_f, h_Ratio_ceiling_k⟩
    F_Ratio_common := ⟨_, fun_mk (st := s_Ratio_common) F_Ratio_common_l F_Ratio_common_c F_Ratio_common_k⟩
    s_Ratio_common := ⟨⟨_, _, _, ⟨s_Ratio_common_r, s_Ratio_common_g⟩, s_Ratio_common_a, s_Ratio_common_q⟩, s_Ratio_common_k⟩
    s_Ratio_lowest := ⟨⟨_, _, _, ⟨s_Ratio_lowest_r, s_Ratio_lowest_g⟩, s_Ratio_lowest_a, s_Ratio_lowest_q⟩, s_Ratio_lowest_k⟩
    s_Zooms_between := ⟨⟨_, _, _, ⟨s_Zooms_between_r, s_Zooms_between_g⟩, s_Zooms_between_a, s_Zooms_between_q⟩, s_Zooms_between_k⟩
    s_Zooms_beyond := ⟨⟨_, _, _, ⟨s_Zooms_beyond_r, s_Zooms_beyond_g⟩, s_Zooms_beyond_a, s_Zooms_beyond_q⟩, s_Zooms_beyond_k⟩
    s_Zooms_everything := ⟨⟨_, _, _, ⟨s_Zooms_everything_r, s_Zooms_everything_g⟩, s_Zooms_everything_a, s_Zooms_everything_q⟩, s_Zooms_everything_k⟩
    s_Zooms_nothing := ⟨⟨_, _, _, ⟨s_Zooms_nothing_r, s_Zooms_nothing_g⟩, s_Zooms_nothing_a, s_Zooms_nothing_q⟩, s_Zooms_nothing_k⟩
    k_marks_joined := k_marks_joined_a
    m_marks_joined := PySem.W.mg_of X G m_marks_joined_a
    k_joined_truth := k_joined_truth_a
    m_joined_truth := PySem.W.mg_of X G m_joined_truth_a
    k_common_multiple := k_common_multiple_a
    m_common_multiple := PySem.W.mg_of X G m_common_multiple_a
    n_range := PySem.W.mg_none_of X G n_range_a
    i_Zooms_is_Zooms := kit_rr
    y_Zooms := ⟨y_Zooms_a, y_Zooms_n, y_Zooms_t, y_Zooms_m⟩
    cv_Zooms_MOST_MARKS := ⟨_, _, ⟨cv_Zooms_MOST_MARKS_r, cv_Zooms_MOST_MARKS_g⟩, ⟨cv_Zooms_MOST_MARKS_v, ⟨_, rfl⟩⟩⟩
    v_Ratio_sub := ⟨v_Ratio_sub_s, v_Ratio_sub_r, v_Ratio_sub_f, v_Ratio_sub_c, v_Ratio_sub_u⟩
    bo_Ratio := ⟨bo_Ratio_s, bo_Ratio_f⟩
    m_law := PySem.W.mg_of X G m_law_a
    sx_SnapError := ⟨⟨_, _, _, _, _, _, _, _, _, _, _, _, _, sx_SnapError_l⟩⟩
    gx_all := ⟨gx_all_n, gx_all_t⟩
    m__law_number := PySem.W.mg_of X G m__law_number_a
    k__law_number := k__law_number_a
    m__law_heard := PySem.W.mg_of X G m__law_heard_a
    k__law_heard := k__law_heard_a
    m__law_beside := PySem.W.mg_of X G m__law_beside_a
    k__law_beside := k__law_beside_a
    m__law_between_right := PySem.W.mg_of X G m__law_between_right_a
    k__law_between_right := k__law_between_right_a
    m__law_beyond_right := PySem.W.mg_of X G m__law_beyond_right_a
    k__law_beyond_right := k__law_beyond_right_a
    m__law_refused_right := PySem.W.mg_of X G m__law_refused_right_a
    k__law_refused_right := k__law_refused_right_a
    m__law_pen := PySem.W.mg_of X G m__law_pen_a
    k__law_pen := k__law_pen_a
    m__law_pick := PySem.W.mg_of X G m__law_pick_a
    k__law_pick := k__law_pick_a
    w_Zooms_bool := w_Zooms_bool_n
    F_Zooms_marks_upto := ⟨_, fun_mk (st := s_Zooms_marks_upto) F_Zooms_marks_upto_l F_Zooms_marks_upto_c F_Zooms_marks_upto_k⟩
    b_Ratio_mul := ⟨b_Ratio_mul_s, b_Ratio_mul_f, b_Ratio_mul_c, ⟨_, b_Ratio_mul_r, Or.inr ⟨_, rfl⟩⟩, ⟨_, _, b_Ratio_mul_t, b_Ratio_mul_u⟩, b_Ratio_mul_w⟩
    dn_law____law_between_right := dn_law____law_between_right_n
    dn_law____law_refused_right := dn_law____law_refused_right_n
    dn__law_between_right____law_refused_right := dn__law_between_right____law_refused_right_n
    tab_law := ⟨⟨_, _, tab_law_l, rfl, rfl⟩, ⟨_, _, _, _, tab_law_c, by simpa using tab_law_v⟩, tab_law_o, tab_law_h⟩
    tab__law_between_right := ⟨⟨_, _, tab__law_between_right_l, rfl, rfl⟩, ⟨_, _, _, _, tab__law_between_right_c, by simpa using tab__law_between_right_v⟩, tab__law_between_right_o, tab__law_between_right_h⟩
    tab__law_refused_right := ⟨⟨_, _, tab__law_refused_right_l, rfl, rfl⟩, ⟨_, _, _, _, tab__law_refused_right_c, by simpa using tab__law_refused_right_v⟩, tab__law_refused_right_o, tab__law_refused_right_h⟩
    gx_object := ⟨gx_object_n, gx_object_t⟩
    i_NoneType_is_Ratio := kit_tr i_NoneType_is_Ratio_c i_NoneType_is_Ratio_t i_NoneType_is_Ratio_a
    w_Ratio_NoneType := w_Ratio_NoneType_n
    i_NoneType_is_int := L2.kit_ty (by decide +kernel)
    i_NoneType_is_bool := L2.kit_ty (by decide +kernel)
    i_bool_is_Ratio := kit_tr i_bool_is_Ratio_c i_bool_is_Ratio_t i_bool_is_Ratio_a
    w_Ratio_bool := w_Ratio_bool_n
    i_bool_is_int := L2.kit_ty (by decide +kernel)
    i_str_is_Ratio := kit_tr i_str_is_Ratio_c i_str_is_Ratio_t i_str_is_Ratio_a
    w_Ratio_str := w_Ratio_str_n
    i_str_is_int := L2.kit_ty (by decide +kernel)
    i_str_is_bool := L2.kit_ty (by decide +kernel)
    i_tuple_is_Ratio := kit_tr i_tuple_is_Ratio_c i_tuple_is_Ratio_t i_tuple_is_Ratio_a
    w_Ratio_tuple := w_Ratio_tuple_n
    i_tuple_is_int := L2.kit_ty (by decide +kernel)
    i_tuple_is_bool := L2.kit_ty (by decide +kernel)
    i_list_is_Ratio := kit_tr i_list_is_Ratio_c i_list_is_Ratio_t i_list_is_Ratio_a
    w_Ratio_list := w_Ratio_list_n
    i_list_is_int := L2.kit_ty (by decide +kernel)
    i_list_is_bool := L2.kit_ty (by decide +kernel)
open PySem L2
def spLawH (K : PySem.W.Frag) (cs : List (Addr × Addr)) : Sp := fun vs H Q _ => ∃ (a : Addr) (ns : List Int), vs = [.ref a] ∧ SqL K H a (ns.map V.int) ∧ ns.length ≤ 63 ∧ (∀ p ∈ cs, H p.2 = some (.tbl #[])) ∧ ∀ H', Q (.bl true) H'
theorem walk {l : PySem.W.OpenLaw} {q : Program} {loose : List Str} {XP : (Str → Option Value) → Heap → Prop} {YP : World → Heap → Prop} {r : DefRec} {K : Params → PySem.W.Frag} (hn : l.most = some 63) (hdf : r.params.defaults = [])
    (hY : ∀ (w : World) (h : Heap), YP w h → (K w.params).In h)
    (F : ∀ (w : World) (mg : Str → Option Value) (fa : Addr) (h : Heap), (K w.params).In h → h.Ns mainGlobals mg → mg r.name = some (.ref fa) →
      ∃ cs : List (Addr × Addr), (∀ p ∈ cs, ∃ (x : Str) (f : Addr), ((PyProof.Rows.recsOf q).any fun e => e.name == x) = true ∧ mg x = some (.ref f) ∧ TabK (K w.params) f p.1 p.2) ∧
        (∀ base : Heap, (K w.params).In base → base.Ns mainGlobals mg → (∀ p ∈ cs, LamX.TabB base mg p.1 p.2) → FnG l.prog w (K w.params) mg base CX0 20 fa (spLawH (K w.params) cs))) :
    PySem.W.WalkO q loose XP YP l.row.toRowW r [] (fun f vs => PySem.call f vs) :=
  walkT (n := 63) (k := 20) (sp := spLawH) hn (by decide) hdf ⟨rfl, by decide, by decide⟩ hY F fun _ _ _ a ns hl ht hS => ⟨a, ns, rfl, hS, hl, ht, fun _ => rfl⟩
end AZ
namespace AZ
open PySem L2
/-- a pen: its list at l, the spot at most n -/
def PenL (H : Hp) (p l : Addr) (n : Nat) : Prop := ∃ (ns : List Int) (spot great : Int), l ≠ p ∧ H p = some (.lst [.ref l, .int spot, .int great]) ∧ H l = some (.lst (ns.map V.int)) ∧ ns.length ≤ 63 ∧ 0 ≤ spot ∧ spot ≤ n
def PenAt (H : Hp) (p : Addr) (n : Nat) : Prop := ∃ l, PenL H p l n
def spPenL (K : PySem.W.Frag) : Sp := fun vs H Q _ => ∃ (a : Addr) (ns : List Int), vs = [.ref a] ∧ SqL K H a (ns.map V.int) ∧ ns.length ≤ 63 ∧ ∀ p l H', H p = none → H l = none → Same H H' → PenL H' p l 0 → Q (.ref p) H'
def spDrawL : Sp := fun vs H Q _ => ∃ (p l : Addr) (n : Nat) (many : Int), vs = [.ref p, .int many] ∧ PenL H p l n ∧ n < 100000 ∧ 0 < many ∧ many ≤ 1000 ∧
  ∀ d H', 0 ≤ d → d < many → PenL H' p l (n + 1) → Up p H H' → Q (.int d) H'
def spPen (K : PySem.W.Frag) : Sp := fun vs H Q _ => ∃ (a : Addr) (ns : List Int), vs = [.ref a] ∧ SqL K H a (ns.map V.int) ∧ ns.length ≤ 63 ∧ ∀ p H', H p = none → Same H H' → PenAt H' p 0 → Q (.ref p) H'
def spDraw : Sp := fun vs H Q _ => ∃ (p : Addr) (n : Nat) (many : Int), vs = [.ref p, .int many] ∧ PenAt H p n ∧ n < 100000 ∧ 0 < many ∧ many ≤ 1000 ∧
  ∀ d H', 0 ≤ d → d < many → PenAt H' p (n + 1) → Up p H H' → Q (.int d) H'
/-- a list beside the pen, or a tuple, at s -/
def SeqAt' (H : Hp) (p s : Addr) (xs : List V) : Prop := (H s = some (.lst xs) ∧ s ≠ p) ∨ H s = some (.tup xs)
theorem SeqAt'.up {H H' : Hp} {p s : Addr} {xs : List V} (h : SeqAt' H p s xs) (e : Up p H H') : SeqAt' H' p s xs := h.elim (fun h => Or.inl ⟨e.lst h.1 h.2, h.2⟩) fun h => Or.inr (e.tup h)
def spPickL : Sp := fun vs H Q _ => ∃ (p l s : Addr) (n : Nat) (xs : List V), vs = [.ref p, .ref s] ∧ PenL H p l n ∧ n < 100000 ∧ SeqAt' H p s xs ∧ 0 < xs.length ∧ xs.length ≤ 1000 ∧
  ∀ x H', x ∈ xs → PenL H' p l (n + 1) → Up p H H' → Q x H'
def spPick : Sp := fun vs H Q _ => ∃ (p s : Addr) (n : Nat) (xs : List V), vs = [.ref p, .ref s] ∧ PenAt H p n ∧ n < 100000 ∧ SeqAt' H p s xs ∧ 0 < xs.length ∧ xs.length ≤ 1000 ∧
  ∀ x H', x ∈ xs → PenAt H' p (n + 1) → Up p H H' → Q x H'
section
variable {P : Program} {w : World} {K : PySem.W.Frag} {mg : Str → Option Value} {base : Heap} {d : Ad}
theorem G__law_penL (T : Tx K mg d) : FnR P w K mg base CX0 1 d._law_pen (spPenL K) := by
  obtain ⟨fd, F⟩ := T.F__law_pen
  refine FnR.imp (FnOk.raw (F.ok sc__law_pen (sp := spPenL K) (fun vs H Q E h => ?_) (fun cdv A outer s H vs Q E hr h => ?_)) (F.binds fun _ _ _ _ _ _ us hl => match us, hl with | [_], _ => rfl) .nil) fun vs H Q E h => by rw [List.append_nil]; exact h
  · obtain ⟨a, ns, rfl, _⟩ := h
    rfl
  · obtain ⟨a, ns, rfl, hS, hlen, k⟩ := h
    -- slots: 0 _law_script
    refine ⟨_, (pss_one (ps_ret (pe_lst (pa_cons (pe_callTy call_list_of (by rfl) T.n_list (by decide +kernel) (pa_cons (pe_slice sl_list (pv 0) po_none (po_some pe_int)) pa_nil)) (pa_cons pe_int (pa_cons pe_int pa_nil)))))), ?_⟩
    refine ⟨_, rfl, _, rfl, a, _, rfl, hS, fun q hq => ⟨_, _, rfl, .inl (SqL.of upd_same), fun l hl => ⟨(by show 3 ≤ sizeLine; decide), fun p hp => ?_⟩⟩⟩
    have h1 : Same H (upd H q (.lst (cutV (ns.map V.int) none (some 63)))) := fun b o e => by rw [upd_ne (ne_of_none e hq)]; exact e
    have h2 : Same H (upd (upd H q (.lst (cutV (ns.map V.int) none (some 63)))) l (.lst (cutV (ns.map V.int) none (some 63)))) := h1.trans fun b o e => by rw [upd_ne (ne_of_none e hl)]; exact e
    have hlp : l ≠ p := ne_of_none upd_same hp
    refine k p l _ ((h2).free hp) (h1.free hl) (h2.trans fun b o e => by rw [upd_ne (ne_of_none e hp)]; exact e) ⟨(ns.drop (HT.sIx ns.length 0 none)).take (HT.sIx ns.length ns.length (some 63) - HT.sIx ns.length 0 none), 0, 0, hlp, upd_same, ?_, ?_, Int.le_refl _, Int.le_refl _⟩
    · rw [upd_ne hlp, upd_same]
      unfold cutV
      rw [List.map_take, List.map_drop, List.length_map]
    · rw [List.length_take, List.length_drop]
      omega
theorem G__law_pen (T : Tx K mg d) : FnR P w K mg base CX0 1 d._law_pen (spPen K) :=
  (G__law_penL T).imp fun vs H Q E ⟨a, ns, h1, h2, h3, k⟩ => ⟨a, ns, h1, h2, h3, fun p l H' np _ e hp => k p H' np e ⟨l, hp⟩⟩
theorem pen_ix0 {K : PySem.W.Frag} {H : Hp} {p : Addr} {a b c : V} (h : H p = some (.lst [a, b, c])) : SqL K H p [a, b, c] := SqL.of h
theorem G__law_drawL (T : Tx K mg d) : FnR P w K mg base CX0 1 d._law_draw spDrawL := by
  obtain ⟨fd, F⟩ := T.F__law_draw
  refine FnR.imp (FnOk.raw (F.ok sc__law_draw (sp := spDrawL) (fun vs H Q E h => ?_) (fun cdv A outer s H vs Q E hr h => ?_)) (F.binds fun _ _ _ _ _ _ us hl => match us, hl with | [_, _], _ => rfl) .nil) fun vs H Q E h => by rw [List.append_nil]; exact h
  · obtain ⟨p, l, n, many, rfl, _⟩ := h
    rfl
  · obtain ⟨p, l, n, many, rfl, ⟨ns, spot, great, hlp, hp, hl, hlen, hs0, hsn⟩, hn, hm0, hm1, k⟩ := h
    -- slots: 0 _law_pen_here, 1 _law_many, 2 _law_digit, 3 _law_turn, 4 _law_drawn, 5 _law_great, 6 _law_mixed
    refine ⟨_, (pss_cons (ps_if (pt_cmpR uGt (pe_ix ix_seq (pv 0) pe_int (fun _ _ => rfl)) pe_int (nomark _)) (pss_cons (ps_set (i := 2) sc__law_draw.nd rfl (Or.inl rfl) (pe_op uMod (pe_callTy call_int1 (by rfl) T.n_int (by decide +kernel) (pa_cons (pe_ix ix_seq (pv 0) pe_int (fun _ _ => rfl)) pa_nil)) (pv 1)))
      (pss_cons (ps_asg (pe_op uDiv (pe_callTy call_int1 (by rfl) T.n_int (by decide +kernel) (pa_cons (pe_ix ix_seq (pv 0) pe_int (fun _ _ => rfl)) pa_nil)) (pv 1)) (pg_sub (pv 0) pe_int set_list))
      (pss_one (ps_ret (pv 2))))) pss_nil)
      (pss_cons (ps_set (i := 3) sc__law_draw.nd rfl (Or.inl rfl) (pe_ix ix_seq (pv 0) pe_int (fun _ _ => rfl)))
      (pss_cons (ps_asg (pe_op uAdd (pv 3) pe_int) (pg_sub (pv 0) pe_int set_list))
      (pss_cons (ps_set (i := 4) sc__law_draw.nd rfl (Or.inl rfl) (pe_op uAdd (pe_op uMul pe_int (pv 3)) pe_int))
      (pss_cons (ps_if (pt_cmpR (uNe hr.units) (pe_ix ix_seq (pv 0) pe_int (fun _ _ => rfl)) (pe_lst pa_nil) (nomark _)) (pss_one (ps_set (i := 4) sc__law_draw.nd rfl (Or.inl rfl) (pe_ix ix_seq (pe_ix ix_seq (pv 0) pe_int (fun _ _ => rfl)) (pe_op uMod (pe_callTy call_int1 (by rfl) T.n_int (by decide +kernel) (pa_cons (pv 3) pa_nil)) (pe_callB call_len_seq (by rfl) T.n_len (by decide +kernel) (pa_cons (pe_ix ix_seq (pv 0) pe_int (fun _ _ => rfl)) pa_nil))) (fun _ _ => rfl)))) pss_nil)
      (pss_cons (ps_if (PW.pt (pw_and (pt_cmpR uLt (pv 3) (pe_callB call_len_seq (by rfl) T.n_len (by decide +kernel) (pa_cons (pe_ix ix_seq (pv 0) pe_int (fun _ _ => rfl)) pa_nil)) (nomark _)) (pw_and1 (pt_cmpR uGe (pe_callB call_abs (by rfl) T.n_abs (by decide +kernel) (pa_cons (pv 4) pa_nil)) (pe_op op_pow pe_int pe_int) (nomark _))))) (pss_cons (ps_set (i := 5) sc__law_draw.nd rfl (Or.inl rfl) (pe_op uAdd (pe_op uMul pe_int (pe_op uSub (pe_callB call_abs (by rfl) T.n_abs (by decide +kernel) (pa_cons (pv 4) pa_nil)) (pe_op op_pow pe_int pe_int))) (pe_callTy call_int1 (by rfl) T.n_int (by decide +kernel) (pa_cons (pe_cmpR uLt (pv 4) pe_int (nomark _)) pa_nil))))
      (pss_cons (ps_asg (pe_op uDiv (pe_callTy call_int1 (by rfl) T.n_int (by decide +kernel) (pa_cons (pv 5) pa_nil)) (pv 1)) (pg_sub (pv 0) pe_int set_list))
      (pss_one (ps_ret (pe_op uMod (pe_callTy call_int1 (by rfl) T.n_int (by decide +kernel) (pa_cons (pv 5) pa_nil)) (pv 1)))))) pss_nil)
      (pss_cons (ps_set (i := 6) sc__law_draw.nd rfl (Or.inl rfl) (pe_op uMod (pe_callTy call_int1 (by rfl) T.n_int (by decide +kernel) (pa_cons (pe_op op_pow (pe_op uAdd (pe_op uAdd (pe_op uMod (pe_callTy call_int1 (by rfl) T.n_int (by decide +kernel) (pa_cons (pv 4) pa_nil)) pe_int) (pe_op uMul pe_int (pv 3))) pe_int) pe_int) pa_nil)) pe_int))
      (pss_cons (ps_set (i := 6) sc__law_draw.nd rfl (Or.inl rfl) (pe_op uMod (pe_callTy call_int1 (by rfl) T.n_int (by decide +kernel) (pa_cons (pe_op op_pow (pe_op uAdd (pe_op uAdd (pe_op uMul (pv 6) (pe_op uAdd (pe_op uMul pe_int (pv 3)) pe_int)) (pe_op uMul (pe_op uMul pe_int (pv 3)) (pv 3))) pe_int) pe_int) pa_nil)) pe_int))
      (pss_one (ps_ret (pe_op uMod (pe_callTy call_int1 (by rfl) T.n_int (by decide +kernel) (pa_cons (pe_op uDiv (pv 6) pe_int) pa_nil)) (pv 1)))))))))))), ?_⟩
    refine ⟨_, rfl, Or.inl ⟨p, _, 2, _, rfl, rfl, SqL.of hp, at_of (j := 2) rfl rfl, Or.inl ⟨_, _, rfl, rfl, _, rfl, ite2 (fun hg => ?_) (fun hg => ?_)⟩⟩⟩
    · refine ⟨_, rfl, Or.inl ⟨p, _, 2, _, rfl, rfl, SqL.of hp, at_of (j := 2) rfl rfl, Or.inl ⟨_, rfl, _, rfl, Or.inl ⟨_, _, rfl, rfl, by omega, ?_⟩⟩⟩⟩
      refine ⟨_, rfl, Or.inl ⟨p, _, 2, _, rfl, rfl, SqL.of hp, at_of (j := 2) rfl rfl, Or.inl ⟨_, rfl, _, rfl, Or.inl ⟨_, _, rfl, rfl, small_div hm0 (by omega), ?_⟩⟩⟩⟩
      refine ⟨_, rfl, p, _, _, 2, rfl, rfl, hp, rfl, ?_⟩
      refine ⟨_, rfl, ?_⟩
      exact k _ _ (fm0 hm0).1 (fm0 hm0).2 ⟨ns, spot, great.fdiv many, hlp, upd_same, by rw [upd_ne hlp]; exact hl, hlen, hs0, by omega⟩ (Up.put hp)
    · refine ⟨_, rfl, Or.inl ⟨p, _, 1, _, rfl, rfl, SqL.of hp, at_of (j := 1) rfl rfl, ?_⟩⟩
      refine ⟨_, rfl, Or.inl ⟨_, _, rfl, rfl, ?_⟩⟩
      refine ⟨_, rfl, p, _, _, 1, rfl, rfl, hp, rfl, ?_⟩
      refine ⟨_, rfl, Or.inl ⟨_, _, rfl, rfl, mulL (by decide), Or.inl ⟨_, _, rfl, rfl, ?_⟩⟩⟩
      have hl1 : upd H p (.lst [.ref l, .int (spot + 1), .int great]) l = some (.lst (ns.map V.int)) := by rw [upd_ne hlp]; exact hl
      have hp1 : upd H p (.lst [.ref l, .int (spot + 1), .int great]) p = some (.lst [.ref l, .int (spot + 1), .int great]) := upd_same
      refine ⟨_, rfl, Or.inl ⟨p, _, 0, _, rfl, rfl, SqL.of hp1, at_of (j := 0) rfl rfl, (by show 0 ≤ sizeLine; decide), fun e he => ?_⟩⟩
      have hpe : p ≠ e := ne_of_none hp1 he
      have hle : l ≠ e := ne_of_none hl1 he
      have hl2 : upd (upd H p (.lst [.ref l, .int (spot + 1), .int great])) e (.lst []) l = some (.lst (ns.map V.int)) := by rw [upd_ne hle]; exact hl1
      have hp2 : upd (upd H p (.lst [.ref l, .int (spot + 1), .int great])) e (.lst []) p = some (.lst [.ref l, .int (spot + 1), .int great]) := by rw [upd_ne hpe]; exact hp1
      refine Or.inr ⟨.list (ns.map PyData.int), .list [], .lst (SqL.of hl2) (dp_ints ns), .lst (SqL.of upd_same) .nil, shaped_ints ns, shaped_ints [], _, rfl, ite2 (fun hc => ?A) (fun hc => ?B)⟩
      case' A =>
        have hne : 0 < ns.length := by
          rw [eqv_nil] at hc
          cases ns with
          | nil => simp at hc
          | cons a r => simp
        obtain ⟨hj0, hj1⟩ := fm0 (a := spot) (b := (ns.length : Int)) (by omega)
        obtain ⟨j, hj⟩ : ∃ j : Nat, spot.fmod ns.length = (j : Int) := ⟨(spot.fmod ns.length).toNat, by omega⟩
        obtain ⟨c, hcj⟩ : ∃ c, ns[j]? = some c := ⟨ns[j]'(by omega), List.getElem?_eq_getElem _⟩
        refine ⟨_, rfl, Or.inl ⟨p, _, 0, _, rfl, rfl, SqL.of hp2, at_of (j := 0) rfl rfl, ?_⟩⟩
        refine ⟨_, rfl, Or.inl ⟨_, rfl, _, rfl, Or.inl ⟨p, _, 0, _, rfl, rfl, SqL.of hp2, at_of (j := 0) rfl rfl, ⟨_, _, rfl, Or.inl (SqL.of hl2), Or.inl ⟨_, _, rfl, rfl, (by rw [List.length_map]; omega), ?_⟩⟩⟩⟩⟩
        refine Or.inl ⟨l, _, _, .int c, rfl, rfl, SqL.of hl2, at_of (j := j) (by rw [List.length_map]; exact hj) (by rw [List.getElem?_map, hcj]; rfl), ?_⟩
      case' B => generalize 83933 * spot + 4057 = c
      all_goals
        have up1 : Up p H (upd (upd H p (.lst [.ref l, .int (spot + 1), .int great])) e (.lst [])) := (Up.put hp).new' he
        refine ⟨_, rfl, _, rfl, Or.inl ⟨p, _, 0, _, rfl, rfl, SqL.of hp2, at_of (j := 0) rfl rfl, ⟨_, _, rfl, Or.inl (SqL.of hl2), Or.inl ⟨_, _, rfl, rfl, _, rfl, ite2 (fun h1 => ?_) (fun h1 => ?_)⟩⟩⟩⟩
        · refine ⟨_, rfl, ⟨_, rfl, ⟨_, _, rfl, rfl, ⟨by decide, by decide, by decide⟩, Or.inl ⟨_, _, rfl, rfl, _, rfl, ite2 (fun h2 => ?_) (fun h2 => ?_)⟩⟩⟩⟩
          · refine ⟨_, rfl, ⟨_, rfl, ⟨_, _, rfl, rfl, ⟨by decide, by decide, by decide⟩, Or.inl ⟨_, _, rfl, rfl, Or.inl ⟨_, _, rfl, rfl, mulL (by decide), ⟨_, rfl, Or.inl ⟨_, _, rfl, rfl, Or.inr ⟨_, rfl, Or.inl ⟨_, _, rfl, rfl, ?_⟩⟩⟩⟩⟩⟩⟩⟩⟩
            refine ⟨_, rfl, Or.inl ⟨_, rfl, _, rfl, Or.inl ⟨_, _, rfl, rfl, small_div hm0 (by omega), ?_⟩⟩⟩
            refine ⟨_, rfl, p, _, _, 2, rfl, rfl, hp2, rfl, ?_⟩
            refine ⟨_, rfl, Or.inl ⟨_, rfl, _, rfl, Or.inl ⟨_, _, rfl, rfl, by omega, ?_⟩⟩⟩
            exact k _ _ (fm0 hm0).1 (fm0 hm0).2 ⟨ns, spot + 1, _, hlp, upd_same, by rw [upd_ne hlp]; exact hl2, hlen, by omega, by omega⟩ (up1.trans (Up.put hp2))
          · refine ⟨_, rfl, Or.inl ⟨_, rfl, Or.inl ⟨_, _, rfl, rfl, nz (by decide), ⟨_, rfl, Or.inl ⟨_, _, rfl, rfl, mulL (by decide), Or.inl ⟨_, _, rfl, rfl, Or.inl ⟨_, _, rfl, rfl, ⟨_, _, rfl, rfl, ⟨by decide, by decide, stir1 (by decide) (by decide) (by decide) (by decide) (by decide) (by decide) hs0 (by omega)⟩, Or.inl ⟨_, rfl, Or.inl ⟨_, _, rfl, rfl, nz (by decide), ?_⟩⟩⟩⟩⟩⟩⟩⟩⟩⟩
            refine ⟨_, rfl, ⟨_, rfl, Or.inl ⟨_, _, rfl, rfl, mulL (by decide), Or.inl ⟨_, _, rfl, rfl, Or.inl ⟨_, _, rfl, rfl, stir3 (by decide) (by decide) _, ⟨_, rfl, Or.inl ⟨_, _, rfl, rfl, mulL (by decide), ⟨_, rfl, Or.inl ⟨_, _, rfl, rfl, stir4 (by decide) (by decide) hs0 (by omega) _, Or.inl ⟨_, _, rfl, rfl, Or.inl ⟨_, _, rfl, rfl, ⟨_, _, rfl, rfl, ⟨by decide, by decide, stir2 (by decide) (by decide) (by decide) (by decide) (by decide) (by decide) (by decide) (by decide) hs0 (by omega)⟩, Or.inl ⟨_, rfl, Or.inl ⟨_, _, rfl, rfl, nz (by decide), ?_⟩⟩⟩⟩⟩⟩⟩⟩⟩⟩⟩⟩⟩⟩
            refine ⟨_, rfl, Or.inl ⟨_, _, rfl, rfl, small_div (by decide) (by decide), Or.inl ⟨_, rfl, ⟨_, rfl, Or.inl ⟨_, _, rfl, rfl, by omega, ?_⟩⟩⟩⟩⟩
            exact k _ _ (fm0 hm0).1 (fm0 hm0).2 ⟨ns, spot + 1, great, hlp, hp2, hl2, hlen, by omega, by omega⟩ up1
        · refine ⟨_, rfl, Or.inl ⟨_, rfl, Or.inl ⟨_, _, rfl, rfl, nz (by decide), ⟨_, rfl, Or.inl ⟨_, _, rfl, rfl, mulL (by decide), Or.inl ⟨_, _, rfl, rfl, Or.inl ⟨_, _, rfl, rfl, ⟨_, _, rfl, rfl, ⟨by decide, by decide, stir1 (by decide) (by decide) (by decide) (by decide) (by decide) (by decide) hs0 (by omega)⟩, Or.inl ⟨_, rfl, Or.inl ⟨_, _, rfl, rfl, nz (by decide), ?_⟩⟩⟩⟩⟩⟩⟩⟩⟩⟩
          refine ⟨_, rfl, ⟨_, rfl, Or.inl ⟨_, _, rfl, rfl, mulL (by decide), Or.inl ⟨_, _, rfl, rfl, Or.inl ⟨_, _, rfl, rfl, stir3 (by decide) (by decide) _, ⟨_, rfl, Or.inl ⟨_, _, rfl, rfl, mulL (by decide), ⟨_, rfl, Or.inl ⟨_, _, rfl, rfl, stir4 (by decide) (by decide) hs0 (by omega) _, Or.inl ⟨_, _, rfl, rfl, Or.inl ⟨_, _, rfl, rfl, ⟨_, _, rfl, rfl, ⟨by decide, by decide, stir2 (by decide) (by decide) (by decide) (by decide) (by decide) (by decide) (by decide) (by decide) hs0 (by omega)⟩, Or.inl ⟨_, rfl, Or.inl ⟨_, _, rfl, rfl, nz (by decide), ?_⟩⟩⟩⟩⟩⟩⟩⟩⟩⟩⟩⟩⟩⟩
          refine ⟨_, rfl, Or.inl ⟨_, _, rfl, rfl, small_div (by decide) (by decide), Or.inl ⟨_, rfl, ⟨_, rfl, Or.inl ⟨_, _, rfl, rfl, by omega, ?_⟩⟩⟩⟩⟩
          exact k _ _ (fm0 hm0).1 (fm0 hm0).2 ⟨ns, spot + 1, great, hlp, hp2, hl2, hlen, by omega, by omega⟩ up1
theorem G__law_draw (T : Tx K mg d) : FnR P w K mg base CX0 1 d._law_draw spDraw :=
  (G__law_drawL T).imp fun vs H Q E ⟨p, n, many, h1, ⟨l, hp⟩, h2, h3, h4, k⟩ => ⟨p, l, n, many, h1, hp, h2, h3, h4, fun x H' a b q u => k x H' a b ⟨l, q⟩ u⟩
theorem G__law_pickL (T : Tx K mg d) : FnR P w K mg base CX0 2 d._law_pick spPickL := by
  obtain ⟨fd, F⟩ := T.F__law_pick
  have G__law_draw : FnR P w K mg base CX0 1 d._law_draw spDrawL := G__law_drawL T
  refine FnR.imp (FnOk.raw (F.ok sc__law_pick (sp := spPickL) (fun vs H Q E h => ?_) (fun cdv A outer s H vs Q E hr h => ?_)) (F.binds fun _ _ _ _ _ _ us hl => match us, hl with | [_, _], _ => rfl) .nil) fun vs H Q E h => by rw [List.append_nil]; exact h
  · obtain ⟨p, l, s, n, xs, rfl, _⟩ := h
    rfl
  · obtain ⟨p, l, a, n, xs, rfl, hp, hn, hs, hx0, hx1, k⟩ := h
    -- slots: 0 _law_pen_here, 1 _law_some
    refine ⟨_, (pss_one (ps_ret (pe_ix ix_seq (pv 1) (pe_fnR G__law_draw (hr.mono (by decide)) T.k__law_draw T.m__law_draw pass0 (pa_cons (pv 0) (pa_cons (pe_callB call_len_seq (by rfl) T.n_len (by decide +kernel) (pa_cons (pv 1) pa_nil)) pa_nil))) (fun _ _ => rfl)))), ?_⟩
    refine ⟨_, rfl, _, rfl, _, rfl, ⟨_, xs, rfl, hs.elim (fun h => Or.inl (SqL.of h.1)) (fun h => Or.inr (SqT.of h)), ⟨p, l, n, _, rfl, hp, hn, by omega, by omega, fun e H' h0 h1 hp' up => ?_⟩⟩⟩
    obtain ⟨j, rfl⟩ : ∃ j : Nat, e = (j : Int) := ⟨e.toNat, by omega⟩
    have hj : j < xs.length := by omega
    have q := k xs[j] H' (List.getElem_mem hj) hp' up
    rcases hs.up up with h | h
    · exact Or.inl ⟨a, xs, _, _, rfl, rfl, SqL.of h.1, atI_nat (List.getElem?_eq_getElem hj), q⟩
    · exact Or.inr (Or.inl ⟨a, xs, _, _, rfl, rfl, SqT.of h, atI_nat (List.getElem?_eq_getElem hj), q⟩)
theorem G__law_pick (T : Tx K mg d) : FnR P w K mg base CX0 2 d._law_pick spPick :=
  (G__law_pickL T).imp fun vs H Q E ⟨p, s, n, xs, h1, ⟨l, hp⟩, h2, h3, h4, h5, k⟩ => ⟨p, l, s, n, xs, h1, hp, h2, h3, h4, h5, fun x H' a q u => k x H' a ⟨l, q⟩ u⟩
end

end AZ
namespace AZ
open PySem L2
/-! ## fractions as objects -/
abbrev ratF (q : Rat) : List (Str × V) := [("over", .int q.num), ("under", .int (q.den : Int))]
def IsRat (C : Addr) (H : Hp) (a : Addr) (q : Rat) : Prop := ∃ dx, H a = some (.ins C dx (ratF q))
theorem IsRat.up {C p a : Addr} {H H' : Hp} {q : Rat} (h : IsRat C H a q) (e : Up p H H') : IsRat C H' a q := let ⟨dx, x⟩ := h; ⟨dx, e.ins x⟩
theorem IsRat.same {C a : Addr} {H H' : Hp} {q : Rat} (h : IsRat C H a q) (e : Same H H') : IsRat C H' a q := let ⟨dx, x⟩ := h; ⟨dx, e _ _ x⟩
/-- an int or a fraction -/
def Num (C : Addr) (H : Hp) (v : V) (q : Rat) : Prop := (∃ i : Int, v = .int i ∧ q = (i : Rat)) ∨ ∃ a, v = .ref a ∧ IsRat C H a q
theorem Num.up {C p : Addr} {H H' : Hp} {v : V} {q : Rat} (h : Num C H v q) (e : Up p H H') : Num C H' v q := h.elim Or.inl fun ⟨a, x, y⟩ => Or.inr ⟨a, x, y.up e⟩
theorem Num.same {C : Addr} {H H' : Hp} {v : V} {q : Rat} (h : Num C H v q) (e : Same H H') : Num C H' v q := h.elim Or.inl fun ⟨a, x, y⟩ => Or.inr ⟨a, x, y.same e⟩
theorem Num.right {C : Addr} {H : Hp} {v : V} {q : Rat} (h : Num C H v q) : RightI C H v := by
  rcases h with ⟨i, rfl, _⟩ | ⟨a, rfl, dx, x⟩
  · exact Or.inl ⟨i, rfl⟩
  · exact Or.inr ⟨a, dx, _, rfl, x⟩
/-- whether x is an integer, by its type -/
def IsI (K : PySem.W.Frag) (H : Hp) (x : V) (b : Bool) : Prop := ∃ (t : Value) (b1 b2 : Bool), TyX K H x t ∧ PySem.W.kitOne K t (.type "int") = some b1 ∧ PySem.W.kitOne K t (.type "bool") = some b2 ∧ (b1 && !b2) = b
def spIsInt (K : PySem.W.Frag) : Sp := fun vs H Q _ => ∃ x b, vs = [x] ∧ IsI K H x b ∧ Q (.bl b) H
def spIsNum (K : PySem.W.Frag) (C : Addr) : Sp := fun vs H Q _ => ∃ x q, vs = [x] ∧ Num C H x q ∧ Q (.bl true) H
def spInit (C : Addr) : Sp := fun vs H Q _ => ∃ (p dx : Addr) (a b : Int), vs = [.ref p, .int a, .int b] ∧ H p = some (.ins C dx []) ∧ b ≠ 0 ∧ b.natAbs < 2 ^ 8000 ∧
  ∀ H', (∀ x o, H x = some o → x ≠ p → H' x = some o) → IsRat C H' p (Rat.divInt a b) → Q .non H'
theorem made {C x dx : Addr} {a b : Int} {H : Hp} {Q : VK} {E : XK} (nx : H x = none) (nd : H dx = none) (hb : b ≠ 0) (hs : b.natAbs < 2 ^ 8000) (k : ∀ H', Same H H' → IsRat C H' x (Rat.divInt a b) → Q (.ref x) H') :
    spInit C [.ref x, .int a, .int b] (upd (upd H dx (.own x)) x (.ins C dx [])) (fun v H2 => v = .non ∧ Q (.ref x) H2) E :=
  ⟨x, dx, a, b, rfl, upd_same, hb, hs, fun H' kp r => ⟨rfl, k H' (Same.made nx nd kp) r⟩⟩
theorem made' {C x dx : Addr} {a b : Int} {H : Hp} {W : VK} {E : XK} (nx : H x = none) (nd : H dx = none) (hb : b ≠ 0) (hs : b.natAbs < 2 ^ 8000) (k : ∀ H', Same H H' → IsRat C H' x (Rat.divInt a b) → W .non H') :
    spInit C [.ref x, .int a, .int b] (upd (upd H dx (.own x)) x (.ins C dx [])) W E :=
  ⟨x, dx, a, b, rfl, upd_same, hb, hs, fun H' kp r => k H' (Same.made nx nd kp) r⟩
def spOf (C : Addr) : Sp := fun vs H Q _ => ∃ v q, vs = [v] ∧ Num C H v q ∧ ∀ p H', Same H H' → IsRat C H' p q → Q (.ref p) H'
def spBin (C : Addr) (f : Rat → Rat → Rat) : Sp := fun vs H Q _ => ∃ a v x y, vs = [.ref a, v] ∧ IsRat C H a x ∧ Num C H v y ∧ Sz 2000 x ∧ Sz 2000 y ∧ ∀ p H', Same H H' → IsRat C H' p (f x y) → Q (.ref p) H'
def spCmp (C : Addr) (f : Rat → Rat → Bool) : Sp := fun vs H Q _ => ∃ a v x y, vs = [.ref a, v] ∧ IsRat C H a x ∧ Num C H v y ∧ Sz 2000 x ∧ Sz 2000 y ∧ ∀ H', Same H H' → Q (.bl (f x y)) H'
def spFlo (C : Addr) (f : Rat → Int) : Sp := fun vs H Q _ => ∃ a x, vs = [.ref a] ∧ IsRat C H a x ∧ Sz 8000 x ∧ Q (.int (f x)) H
section
variable {P : Program} {w : World} {K : PySem.W.Frag} {mg : Str → Option Value} {base : Heap} {d : Ad}
theorem isI_int (T : Tx K mg d) {H : Hp} {i : Int} : IsI K H (.int i) true := ⟨_, true, false, .base (.int i), T.i_int_is_int, T.i_int_is_bool, rfl⟩
theorem isI_rat (T : Tx K mg d) {H : Hp} {a : Addr} {q : Rat} (h : IsRat d.Ratio H a q) : IsI K H (.ref a) false := let ⟨_, x⟩ := h; ⟨_, false, false, T.y_Ratio.ty T.c_Ratio x, T.i_Ratio_is_int, T.i_Ratio_is_bool, rfl⟩
theorem G_is_integer (T : Tx K mg d) : FnR P w K mg base CX0 1 d.is_integer (spIsInt K) := by
  obtain ⟨fd, F⟩ := T.F_is_integer
  refine FnR.imp (FnOk.raw (F.ok sc_is_integer (sp := spIsInt K) (fun vs H Q E h => ?_) (fun cdv A outer s H vs Q E hr h => ?_)) (F.binds fun _ _ _ _ _ _ us hl => match us, hl with | [_], _ => rfl) .nil) fun vs H Q E h => by rw [List.append_nil]; exact h
  · obtain ⟨x, b, rfl, _⟩ := h
    rfl
  · obtain ⟨x, b, rfl, ⟨t, b1, b2, ty, k1, k2, rfl⟩, k⟩ := h
    -- slots: 0 value
    refine ⟨_, (pss_one (ps_ret (pe_and (pe_callB uIsi (by rfl) T.n_isinstance (by decide +kernel) (pa_cons (pv 0) (pa_cons (pe_bltn (v := .ty "int") (by rfl) T.n_int (by decide +kernel) rfl) pa_nil))) (pe_one (pe_not (pe_callB uIsi (by rfl) T.n_isinstance (by decide +kernel) (pa_cons (pv 0) (pa_cons (pe_bltn (v := .ty "bool") (by rfl) T.n_bool (by decide +kernel) rfl) pa_nil)))))))), ?_⟩
    refine ⟨_, rfl, Or.inl ⟨_, _, _, _, b1, rfl, .ty _, ty, k1, b1, rfl, ?_⟩⟩
    cases b1
    · exact k
    · exact ⟨_, rfl, Or.inl ⟨_, _, _, _, b2, rfl, .ty _, ty, k2, b2, rfl, k⟩⟩
theorem G_Ratio___init__ (T : Tx K mg d) : FnR P w K mg base CX0 2 d.Ratio___init__ (fun vs H Q E => spInit d.Ratio vs H Q E ∨ spInit d.Ratio (vs ++ [.int 1]) H Q E) := by
  obtain ⟨fd, F⟩ := T.D_Ratio___init__
  have G_is_integer : FnR P w K mg base CX0 1 d.is_integer (spIsInt K) := G_is_integer T
  have G : FnOk P w K mg base CX0 2 d.Ratio___init__ fd ["self", "over", "under"] (spInit d.Ratio) := by
    refine F.ok sc_Ratio___init__ (fun vs H Q E h => ?_) (fun cdv A outer s H vs Q E hr h => ?_)
    · obtain ⟨p, dx, a, b, rfl, _⟩ := h
      rfl
    obtain ⟨p, dx, a, b, rfl, hp, hb, hs, k⟩ := h
    -- slots: 0 self, 1 over, 2 under, 3 shared
    refine ⟨_, (pss_cons (ps_if (pt_not (pt_val (pe_fnR G_is_integer (hr.mono (by decide)) T.k_is_integer T.m_is_integer pass0 (pa_cons (pv 1) pa_nil)))) pss_never pss_nil)
      (pss_cons (ps_if (PW.pt (pw_or (pt_not (pt_val (pe_fnR G_is_integer (hr.mono (by decide)) T.k_is_integer T.m_is_integer pass0 (pa_cons (pv 2) pa_nil)))) (pw_or1 (pt_cmpR (uEq hr.units) (pv 2) pe_int (nomark _))))) pss_never pss_nil)
      (pss_cons (ps_set (i := 3) sc_Ratio___init__.nd rfl (Or.inl rfl) (pe_callBfun cr_gcd rfl T.m_gcd (pa_cons (pv 1) (pa_cons (pv 2) pa_nil))))
      (pss_cons (ps_if (pt_cmpR uLt (pv 2) pe_int (nomark _)) (pss_one (ps_set (i := 3) sc_Ratio___init__.nd rfl (Or.inl rfl) (pe_un uNeg (pv 3)))) pss_nil)
      (pss_cons (ps_fld (pv 0) (pe_op uDiv (pv 1) (pv 3)) rfl)
      (pss_one (ps_fld (pv 0) (pe_op uDiv (pv 2) (pv 3)) rfl))))))), ?_⟩
    refine ⟨_, rfl, ⟨_, _, rfl, isI_int T, true, rfl, iteF ?_⟩⟩
    refine ⟨_, rfl, ⟨_, _, rfl, isI_int T, true, rfl, iteF ⟨_, rfl, Or.inl ⟨rfl, _, rfl, ifF (by simp [dec_int, hb]) ?_⟩⟩⟩⟩
    refine ⟨_, rfl, _, rfl, ⟨_, _, rfl, ?_⟩⟩
    have hg : ((Nat.gcd a.natAbs b.natAbs : Nat) : Int) = (Int.gcd a b : Int) := rfl
    have g0 := gcd_pos a b hb
    have g1 := gcd_le a b hb
    have fin : ∀ g : Int, g = (if b < 0 then -(Int.gcd a b : Int) else (Int.gcd a b : Int)) → CDivZ a g ∧ CDivZ b g ∧ a.fdiv g = (Rat.divInt a b).num ∧ b.fdiv g = ((Rat.divInt a b).den : Int) := fun g eg => by
      have n0 : g ≠ 0 := by rw [eg]; split <;> omega
      have n1 : g.natAbs < 2 ^ 8000 := by
        have : g.natAbs ≤ b.natAbs := by rw [eg]; split <;> omega
        exact Nat.lt_of_le_of_lt this hs
      exact ⟨divZ n0 n1 (by decide) (by decide), divZ n0 n1 (by decide) (by decide), by rw [eg]; exact (num_di a b hb).symm, by rw [eg]; exact (den_di a b hb).symm⟩
    have last : ∀ (x y : Int), x = (Rat.divInt a b).num → y = ((Rat.divInt a b).den : Int) → Q V.non (upd (upd H p (.ins d.Ratio dx [("over", .int x)])) p (.ins d.Ratio dx [("over", .int x), ("under", .int y)])) := fun x y ex ey => by
      refine k _ (fun z o e n => by rw [upd_ne n, upd_ne n]; exact e) ⟨dx, ?_⟩
      rw [upd_same, ex, ey]
    refine ⟨_, rfl, Or.inl ⟨_, _, rfl, rfl, _, rfl, ite2 (fun h => ?_) (fun h => ?_)⟩⟩
    · have h' : b < 0 := of_decide_eq_true h
      obtain ⟨c1, c2, e1, e2⟩ := fin (-(Int.gcd a b : Int)) (by rw [if_pos h'])
      refine ⟨_, rfl, Or.inl ⟨_, rfl, ?_⟩⟩
      refine ⟨_, rfl, _, rfl, Or.inl ⟨_, _, rfl, rfl, c1, _, rfl, p, _, dx, _, rfl, hp, T.c_Ratio, T.a_Ratio_over, (by show 0 < 1000; decide), ?_⟩⟩
      refine ⟨_, rfl, _, rfl, Or.inl ⟨_, _, rfl, rfl, c2, _, rfl, p, _, dx, _, rfl, upd_same, T.c_Ratio, T.a_Ratio_under, (by show 1 < 1000; decide), ?_⟩⟩
      exact last _ _ e1 e2
    · have h' : ¬ b < 0 := of_decide_eq_false (Bool.not_eq_true _ ▸ h)
      obtain ⟨c1, c2, e1, e2⟩ := fin (Int.gcd a b : Int) (by rw [if_neg h'])
      refine ⟨_, rfl, _, rfl, Or.inl ⟨_, _, rfl, rfl, c1, _, rfl, p, _, dx, _, rfl, hp, T.c_Ratio, T.a_Ratio_over, (by show 0 < 1000; decide), ?_⟩⟩
      refine ⟨_, rfl, _, rfl, Or.inl ⟨_, _, rfl, rfl, c2, _, rfl, p, _, dx, _, rfl, upd_same, T.c_Ratio, T.a_Ratio_under, (by show 1 < 1000; decide), ?_⟩⟩
      exact last _ _ e1 e2
  obtain ⟨ds0, r0, b0⟩ := F.binds1 (ps := ["self", "over", "under"]) 3 1 (by simp) rfl fun T kV doc pm an cdv ct us its h1 h2 => match us, its, h1, h2 with
    | [_, _, _], [_], _, _ => ⟨_, rfl, by dsimp only; rfl⟩
  obtain ⟨ds1, r1, b1⟩ := F.binds1 (ps := ["self", "over", "under"]) 2 0 (by simp) rfl fun T kV doc pm an cdv ct us its h1 h2 => match us, its, h1, h2 with
    | [_, _], [_], _, _ => ⟨_, rfl, by dsimp only; rfl⟩
  exact FnR.or ((FnOk.raw G b0 r0).imp fun vs H Q E h => by rw [show vs ++ List.drop 1 [V.int 1] = vs from List.append_nil vs]; exact h) (FnOk.raw G b1 r1)
theorem G_Ratio_of (T : Tx K mg d) : FnR P w K mg base CX0 4 d.Ratio_of (spOf d.Ratio) := by
  have G_is_integer : FnR P w K mg base CX0 1 d.is_integer (spIsInt K) := G_is_integer T
  have G_Ratio___init__ : FnR P w K mg base CX0 2 d.Ratio___init__ _ := G_Ratio___init__ T
  obtain ⟨fd, F⟩ := T.F_Ratio_of
  refine FnR.imp (FnOk.raw (F.ok sc_Ratio_of (k := 3) (sp := spOf d.Ratio) (fun vs H Q E h => ?_) (fun cdv A outer s H vs Q E hr h => ?_)) (F.binds fun _ _ _ _ _ _ us hl => match us, hl with | [_], _ => rfl) .nil) fun vs H Q E h => by rw [List.append_nil]; exact h
  · obtain ⟨v, q, rfl, _⟩ := h
    rfl
  · obtain ⟨v, q, rfl, hv, k⟩ := h
    -- slots: 0 value
    refine ⟨_, (pss_cons (ps_if (pt_val (pe_callB uIsi (by rfl) T.n_isinstance (by decide +kernel) (pa_cons (pv 0) (pa_cons (pe_glob (v := .ref _) rfl T.m_Ratio rfl) pa_nil)))) (pss_one (ps_ret (pv 0))) pss_nil)
      (pss_cons (ps_if (pt_not (pt_val (pe_fnR G_is_integer (hr.mono (by decide)) T.k_is_integer T.m_is_integer pass0 (pa_cons (pv 0) pa_nil)))) pss_never pss_nil)
      (pss_one (ps_ret (StX.pe_makeR T.mk_Ratio G_Ratio___init__ (hr.mono (by decide)) rfl T.m_Ratio pass0 (pa_cons (pv 0) pa_nil)))))), ?_⟩
    rcases hv with ⟨i, rfl, rfl⟩ | ⟨a, rfl, dx, ha⟩
    · refine ⟨_, rfl, Or.inl ⟨_, _, _, _, false, rfl, .own _, .base (.int i), T.i_int_is_Ratio, false, rfl, iteF ?_⟩⟩
      refine ⟨_, rfl, ⟨_, _, rfl, isI_int T, true, rfl, iteF ?_⟩⟩
      refine ⟨_, rfl, fun x dx nx nd ne => Or.inr (made nx nd (by decide) (by decide) fun H' e r => k x H' e ?_)⟩
      rw [r_int] at r
      exact r
    · refine ⟨_, rfl, Or.inl ⟨_, _, _, _, true, rfl, .own _, T.y_Ratio.ty T.c_Ratio ha, T.i_Ratio_is_Ratio, true, rfl, iteT ?_⟩⟩
      exact ⟨_, rfl, k a H (Same.refl H) ⟨dx, ha⟩⟩
theorem G_Ratio___add__ (T : Tx K mg d) : FnR P w K mg base CX0 5 d.Ratio___add__ (spBin d.Ratio (· + ·)) := by
  have G_Ratio_of : FnR P w K mg base CX0 4 d.Ratio_of (spOf d.Ratio) := G_Ratio_of T
  have G_Ratio___init__ : FnR P w K mg base CX0 2 d.Ratio___init__ _ := G_Ratio___init__ T
  obtain ⟨fd, F⟩ := T.F_Ratio___add__
  refine FnR.imp (FnOk.raw (F.ok sc_Ratio___add__ (k := 4) (sp := spBin d.Ratio (· + ·)) (fun vs H Q E h => ?_) (fun cdv A outer s H vs Q E hr h => ?_)) (F.binds fun _ _ _ _ _ _ us hl => match us, hl with | [_, _], _ => rfl) .nil) fun vs H Q E h => by rw [List.append_nil]; exact h
  · obtain ⟨a, v, x, y, rfl, _⟩ := h
    rfl
  · obtain ⟨a, v, x, y, rfl, ⟨dx, ha⟩, hy, zx, zy, k⟩ := h
    -- slots: 0 self, 1 other, 2 added
    refine ⟨_, (pss_cons (ps_set (i := 2) sc_Ratio___add__.nd rfl (Or.inl rfl) (pe_smeth (pe_glob (v := .ref _) rfl T.m_Ratio rfl) T.s_Ratio_of G_Ratio_of (hr.mono (by decide)) pass0 (pa_cons (pv 1) pa_nil)))
      (pss_one (ps_ret (StX.pe_makeR T.mk_Ratio G_Ratio___init__ (hr.mono (by decide)) rfl T.m_Ratio pass0 (pa_cons (pe_op uAdd (pe_op uMul (pe_fld (pv 0) rfl) (pe_fld (pv 2) rfl)) (pe_op uMul (pe_fld (pv 2) rfl) (pe_fld (pv 0) rfl))) (pa_cons (pe_op uMul (pe_fld (pv 0) rfl) (pe_fld (pv 2) rfl)) pa_nil)))))), ?_⟩
    refine ⟨rfl, _, rfl, ⟨_, y, rfl, hy, fun b H1 e1 ⟨dy, hb⟩ => ?_⟩⟩
    have ha := e1 _ _ ha
    refine ⟨_, rfl, a, _, dx, _, _, rfl, ha, T.c_Ratio, T.a_Ratio_over, rfl, _, rfl, b, _, dy, _, _, rfl, hb, T.c_Ratio, T.a_Ratio_under, rfl, Or.inl ⟨_, _, rfl, rfl, mul2 (szN zx) (szD zy), _, rfl, b, _, dy, _, _, rfl, hb, T.c_Ratio, T.a_Ratio_over, rfl, _, rfl, a, _, dx, _, _, rfl, ha, T.c_Ratio, T.a_Ratio_under, rfl, Or.inl ⟨_, _, rfl, rfl, mul2 (szN zy) (szD zx), Or.inl ⟨_, _, rfl, rfl, ?_⟩⟩⟩⟩
    refine ⟨_, rfl, a, _, dx, _, _, rfl, ha, T.c_Ratio, T.a_Ratio_under, rfl, _, rfl, b, _, dy, _, _, rfl, hb, T.c_Ratio, T.a_Ratio_under, rfl, Or.inl ⟨_, _, rfl, rfl, mul2 (szD zx) (szD zy), fun p dp np nd ne => Or.inl (made np nd (den0 x y) (den2 zx zy) fun H2 e2 r => k p H2 (e1.trans e2) ?_)⟩⟩
    rw [r_add] at r
    exact r
theorem G_Ratio___sub__ (T : Tx K mg d) : FnR P w K mg base CX0 5 d.Ratio___sub__ (spBin d.Ratio (· - ·)) := by
  have G_Ratio_of : FnR P w K mg base CX0 4 d.Ratio_of (spOf d.Ratio) := G_Ratio_of T
  have G_Ratio___init__ : FnR P w K mg base CX0 2 d.Ratio___init__ _ := G_Ratio___init__ T
  obtain ⟨fd, F⟩ := T.F_Ratio___sub__
  refine FnR.imp (FnOk.raw (F.ok sc_Ratio___sub__ (k := 4) (sp := spBin d.Ratio (· - ·)) (fun vs H Q E h => ?_) (fun cdv A outer s H vs Q E hr h => ?_)) (F.binds fun _ _ _ _ _ _ us hl => match us, hl with | [_, _], _ => rfl) .nil) fun vs H Q E h => by rw [List.append_nil]; exact h
  · obtain ⟨a, v, x, y, rfl, _⟩ := h
    rfl
  · obtain ⟨a, v, x, y, rfl, ⟨dx, ha⟩, hy, zx, zy, k⟩ := h
    -- slots: 0 self, 1 other, 2 taken
    refine ⟨_, (pss_cons (ps_set (i := 2) sc_Ratio___sub__.nd rfl (Or.inl rfl) (pe_smeth (pe_glob (v := .ref _) rfl T.m_Ratio rfl) T.s_Ratio_of G_Ratio_of (hr.mono (by decide)) pass0 (pa_cons (pv 1) pa_nil)))
      (pss_one (ps_ret (StX.pe_makeR T.mk_Ratio G_Ratio___init__ (hr.mono (by decide)) rfl T.m_Ratio pass0 (pa_cons (pe_op uSub (pe_op uMul (pe_fld (pv 0) rfl) (pe_fld (pv 2) rfl)) (pe_op uMul (pe_fld (pv 2) rfl) (pe_fld (pv 0) rfl))) (pa_cons (pe_op uMul (pe_fld (pv 0) rfl) (pe_fld (pv 2) rfl)) pa_nil)))))), ?_⟩
    refine ⟨rfl, _, rfl, ⟨_, y, rfl, hy, fun b H1 e1 ⟨dy, hb⟩ => ?_⟩⟩
    have ha := e1 _ _ ha
    refine ⟨_, rfl, a, _, dx, _, _, rfl, ha, T.c_Ratio, T.a_Ratio_over, rfl, _, rfl, b, _, dy, _, _, rfl, hb, T.c_Ratio, T.a_Ratio_under, rfl, Or.inl ⟨_, _, rfl, rfl, mul2 (szN zx) (szD zy), _, rfl, b, _, dy, _, _, rfl, hb, T.c_Ratio, T.a_Ratio_over, rfl, _, rfl, a, _, dx, _, _, rfl, ha, T.c_Ratio, T.a_Ratio_under, rfl, Or.inl ⟨_, _, rfl, rfl, mul2 (szN zy) (szD zx), Or.inl ⟨_, _, rfl, rfl, ?_⟩⟩⟩⟩
    refine ⟨_, rfl, a, _, dx, _, _, rfl, ha, T.c_Ratio, T.a_Ratio_under, rfl, _, rfl, b, _, dy, _, _, rfl, hb, T.c_Ratio, T.a_Ratio_under, rfl, Or.inl ⟨_, _, rfl, rfl, mul2 (szD zx) (szD zy), fun p dp np nd ne => Or.inl (made np nd (den0 x y) (den2 zx zy) fun H2 e2 r => k p H2 (e1.trans e2) ?_)⟩⟩
    rw [r_sub] at r
    exact r
theorem G_Ratio___mul__ (T : Tx K mg d) : FnR P w K mg base CX0 5 d.Ratio___mul__ (spBin d.Ratio (· * ·)) := by
  have G_Ratio_of : FnR P w K mg base CX0 4 d.Ratio_of (spOf d.Ratio) := G_Ratio_of T
  have G_Ratio___init__ : FnR P w K mg base CX0 2 d.Ratio___init__ _ := G_Ratio___init__ T
  obtain ⟨fd, F⟩ := T.F_Ratio___mul__
  refine FnR.imp (FnOk.raw (F.ok sc_Ratio___mul__ (k := 4) (sp := spBin d.Ratio (· * ·)) (fun vs H Q E h => ?_) (fun cdv A outer s H vs Q E hr h => ?_)) (F.binds fun _ _ _ _ _ _ us hl => match us, hl with | [_, _], _ => rfl) .nil) fun vs H Q E h => by rw [List.append_nil]; exact h
  · obtain ⟨a, v, x, y, rfl, _⟩ := h
    rfl
  · obtain ⟨a, v, x, y, rfl, ⟨dx, ha⟩, hy, zx, zy, k⟩ := h
    -- slots: 0 self, 1 other, 2 factor
    refine ⟨_, (pss_cons (ps_set (i := 2) sc_Ratio___mul__.nd rfl (Or.inl rfl) (pe_smeth (pe_glob (v := .ref _) rfl T.m_Ratio rfl) T.s_Ratio_of G_Ratio_of (hr.mono (by decide)) pass0 (pa_cons (pv 1) pa_nil)))
      (pss_one (ps_ret (StX.pe_makeR T.mk_Ratio G_Ratio___init__ (hr.mono (by decide)) rfl T.m_Ratio pass0 (pa_cons (pe_op uMul (pe_fld (pv 0) rfl) (pe_fld (pv 2) rfl)) (pa_cons (pe_op uMul (pe_fld (pv 0) rfl) (pe_fld (pv 2) rfl)) pa_nil)))))), ?_⟩
    refine ⟨rfl, _, rfl, ⟨_, y, rfl, hy, fun b H1 e1 ⟨dy, hb⟩ => ?_⟩⟩
    have ha := e1 _ _ ha
    refine ⟨_, rfl, a, _, dx, _, _, rfl, ha, T.c_Ratio, T.a_Ratio_over, rfl, _, rfl, b, _, dy, _, _, rfl, hb, T.c_Ratio, T.a_Ratio_over, rfl, Or.inl ⟨_, _, rfl, rfl, mul2 (szN zx) (szN zy), ?_⟩⟩
    refine ⟨_, rfl, a, _, dx, _, _, rfl, ha, T.c_Ratio, T.a_Ratio_under, rfl, _, rfl, b, _, dy, _, _, rfl, hb, T.c_Ratio, T.a_Ratio_under, rfl, Or.inl ⟨_, _, rfl, rfl, mul2 (szD zx) (szD zy), fun p dp np nd ne => Or.inl (made np nd (den0 x y) (den2 zx zy) fun H2 e2 r => k p H2 (e1.trans e2) ?_)⟩⟩
    rw [r_mul] at r
    exact r
theorem G_Ratio___lt__ (T : Tx K mg d) : FnR P w K mg base CX0 5 d.Ratio___lt__ (spCmp d.Ratio fun x y => decide (x < y)) := by
  have G_Ratio_of : FnR P w K mg base CX0 4 d.Ratio_of (spOf d.Ratio) := G_Ratio_of T
  have G_Ratio___init__ : FnR P w K mg base CX0 2 d.Ratio___init__ _ := G_Ratio___init__ T
  obtain ⟨fd, F⟩ := T.F_Ratio___lt__
  refine FnR.imp (FnOk.raw (F.ok sc_Ratio___lt__ (k := 4) (sp := spCmp d.Ratio fun x y => decide (x < y)) (fun vs H Q E h => ?_) (fun cdv A outer s H vs Q E hr h => ?_)) (F.binds fun _ _ _ _ _ _ us hl => match us, hl with | [_, _], _ => rfl) .nil) fun vs H Q E h => by rw [List.append_nil]; exact h
  · obtain ⟨a, v, x, y, rfl, _⟩ := h
    rfl
  · obtain ⟨a, v, x, y, rfl, ⟨dx, ha⟩, hy, zx, zy, k⟩ := h
    -- slots: 0 self, 1 other, 2 against
    refine ⟨_, (pss_cons (ps_set (i := 2) sc_Ratio___lt__.nd rfl (Or.inl rfl) (pe_smeth (pe_glob (v := .ref _) rfl T.m_Ratio rfl) T.s_Ratio_of G_Ratio_of (hr.mono (by decide)) pass0 (pa_cons (pv 1) pa_nil)))
      (pss_one (ps_ret (pe_cmpR uLt (pe_op uMul (pe_fld (pv 0) rfl) (pe_fld (pv 2) rfl)) (pe_op uMul (pe_fld (pv 2) rfl) (pe_fld (pv 0) rfl)) (nomark _))))), ?_⟩
    refine ⟨rfl, _, rfl, ⟨_, y, rfl, hy, fun b H1 e1 ⟨dy, hb⟩ => ?_⟩⟩
    have ha := e1 _ _ ha
    refine ⟨_, rfl, a, _, dx, _, _, rfl, ha, T.c_Ratio, T.a_Ratio_over, rfl, _, rfl, b, _, dy, _, _, rfl, hb, T.c_Ratio, T.a_Ratio_under, rfl, Or.inl ⟨_, _, rfl, rfl, mul2 (szN zx) (szD zy), _, rfl, b, _, dy, _, _, rfl, hb, T.c_Ratio, T.a_Ratio_over, rfl, _, rfl, a, _, dx, _, _, rfl, ha, T.c_Ratio, T.a_Ratio_under, rfl, Or.inl ⟨_, _, rfl, rfl, mul2 (szN zy) (szD zx), Or.inl ⟨_, _, rfl, rfl, ?_⟩⟩⟩⟩
    have q : Q (.bl (decide (x < y))) H1 := k H1 e1
    rw [decide_eq_decide.mpr (Rat.lt_iff x y)] at q
    exact q
theorem G_Ratio___le__ (T : Tx K mg d) : FnR P w K mg base CX0 5 d.Ratio___le__ (spCmp d.Ratio fun x y => decide (x ≤ y)) := by
  have G_Ratio_of : FnR P w K mg base CX0 4 d.Ratio_of (spOf d.Ratio) := G_Ratio_of T
  have G_Ratio___init__ : FnR P w K mg base CX0 2 d.Ratio___init__ _ := G_Ratio___init__ T
  obtain ⟨fd, F⟩ := T.F_Ratio___le__
  refine FnR.imp (FnOk.raw (F.ok sc_Ratio___le__ (k := 4) (sp := spCmp d.Ratio fun x y => decide (x ≤ y)) (fun vs H Q E h => ?_) (fun cdv A outer s H vs Q E hr h => ?_)) (F.binds fun _ _ _ _ _ _ us hl => match us, hl with | [_, _], _ => rfl) .nil) fun vs H Q E h => by rw [List.append_nil]; exact h
  · obtain ⟨a, v, x, y, rfl, _⟩ := h
    rfl
  · obtain ⟨a, v, x, y, rfl, ⟨dx, ha⟩, hy, zx, zy, k⟩ := h
    -- slots: 0 self, 1 other, 2 against
    refine ⟨_, (pss_cons (ps_set (i := 2) sc_Ratio___le__.nd rfl (Or.inl rfl) (pe_smeth (pe_glob (v := .ref _) rfl T.m_Ratio rfl) T.s_Ratio_of G_Ratio_of (hr.mono (by decide)) pass0 (pa_cons (pv 1) pa_nil)))
      (pss_one (ps_ret (pe_cmpR uLe (pe_op uMul (pe_fld (pv 0) rfl) (pe_fld (pv 2) rfl)) (pe_op uMul (pe_fld (pv 2) rfl) (pe_fld (pv 0) rfl)) (nomark _))))), ?_⟩
    refine ⟨rfl, _, rfl, ⟨_, y, rfl, hy, fun b H1 e1 ⟨dy, hb⟩ => ?_⟩⟩
    have ha := e1 _ _ ha
    refine ⟨_, rfl, a, _, dx, _, _, rfl, ha, T.c_Ratio, T.a_Ratio_over, rfl, _, rfl, b, _, dy, _, _, rfl, hb, T.c_Ratio, T.a_Ratio_under, rfl, Or.inl ⟨_, _, rfl, rfl, mul2 (szN zx) (szD zy), _, rfl, b, _, dy, _, _, rfl, hb, T.c_Ratio, T.a_Ratio_over, rfl, _, rfl, a, _, dx, _, _, rfl, ha, T.c_Ratio, T.a_Ratio_under, rfl, Or.inl ⟨_, _, rfl, rfl, mul2 (szN zy) (szD zx), Or.inl ⟨_, _, rfl, rfl, ?_⟩⟩⟩⟩
    have q : Q (.bl (decide (x ≤ y))) H1 := k H1 e1
    rw [decide_eq_decide.mpr (Rat.le_iff x y)] at q
    exact q
theorem G_Ratio___gt__ (T : Tx K mg d) : FnR P w K mg base CX0 5 d.Ratio___gt__ (spCmp d.Ratio fun x y => decide (x > y)) := by
  have G_Ratio_of : FnR P w K mg base CX0 4 d.Ratio_of (spOf d.Ratio) := G_Ratio_of T
  have G_Ratio___init__ : FnR P w K mg base CX0 2 d.Ratio___init__ _ := G_Ratio___init__ T
  obtain ⟨fd, F⟩ := T.F_Ratio___gt__
  refine FnR.imp (FnOk.raw (F.ok sc_Ratio___gt__ (k := 4) (sp := spCmp d.Ratio fun x y => decide (x > y)) (fun vs H Q E h => ?_) (fun cdv A outer s H vs Q E hr h => ?_)) (F.binds fun _ _ _ _ _ _ us hl => match us, hl with | [_, _], _ => rfl) .nil) fun vs H Q E h => by rw [List.append_nil]; exact h
  · obtain ⟨a, v, x, y, rfl, _⟩ := h
    rfl
  · obtain ⟨a, v, x, y, rfl, ⟨dx, ha⟩, hy, zx, zy, k⟩ := h
    -- slots: 0 self, 1 other, 2 against
    refine ⟨_, (pss_cons (ps_set (i := 2) sc_Ratio___gt__.nd rfl (Or.inl rfl) (pe_smeth (pe_glob (v := .ref _) rfl T.m_Ratio rfl) T.s_Ratio_of G_Ratio_of (hr.mono (by decide)) pass0 (pa_cons (pv 1) pa_nil)))
      (pss_one (ps_ret (pe_cmpR uGt (pe_op uMul (pe_fld (pv 0) rfl) (pe_fld (pv 2) rfl)) (pe_op uMul (pe_fld (pv 2) rfl) (pe_fld (pv 0) rfl)) (nomark _))))), ?_⟩
    refine ⟨rfl, _, rfl, ⟨_, y, rfl, hy, fun b H1 e1 ⟨dy, hb⟩ => ?_⟩⟩
    have ha := e1 _ _ ha
    refine ⟨_, rfl, a, _, dx, _, _, rfl, ha, T.c_Ratio, T.a_Ratio_over, rfl, _, rfl, b, _, dy, _, _, rfl, hb, T.c_Ratio, T.a_Ratio_under, rfl, Or.inl ⟨_, _, rfl, rfl, mul2 (szN zx) (szD zy), _, rfl, b, _, dy, _, _, rfl, hb, T.c_Ratio, T.a_Ratio_over, rfl, _, rfl, a, _, dx, _, _, rfl, ha, T.c_Ratio, T.a_Ratio_under, rfl, Or.inl ⟨_, _, rfl, rfl, mul2 (szN zy) (szD zx), Or.inl ⟨_, _, rfl, rfl, ?_⟩⟩⟩⟩
    have q : Q (.bl (decide (x > y))) H1 := k H1 e1
    rw [decide_eq_decide.mpr (Rat.lt_iff y x)] at q
    exact q
theorem G_Ratio___ge__ (T : Tx K mg d) : FnR P w K mg base CX0 5 d.Ratio___ge__ (spCmp d.Ratio fun x y => decide (x ≥ y)) := by
  have G_Ratio_of : FnR P w K mg base CX0 4 d.Ratio_of (spOf d.Ratio) := G_Ratio_of T
  have G_Ratio___init__ : FnR P w K mg base CX0 2 d.Ratio___init__ _ := G_Ratio___init__ T
  obtain ⟨fd, F⟩ := T.F_Ratio___ge__
  refine FnR.imp (FnOk.raw (F.ok sc_Ratio___ge__ (k := 4) (sp := spCmp d.Ratio fun x y => decide (x ≥ y)) (fun vs H Q E h => ?_) (fun cdv A outer s H vs Q E hr h => ?_)) (F.binds fun _ _ _ _ _ _ us hl => match us, hl with | [_, _], _ => rfl) .nil) fun vs H Q E h => by rw [List.append_nil]; exact h
  · obtain ⟨a, v, x, y, rfl, _⟩ := h
    rfl
  · obtain ⟨a, v, x, y, rfl, ⟨dx, ha⟩, hy, zx, zy, k⟩ := h
    -- slots: 0 self, 1 other, 2 against
    refine ⟨_, (pss_cons (ps_set (i := 2) sc_Ratio___ge__.nd rfl (Or.inl rfl) (pe_smeth (pe_glob (v := .ref _) rfl T.m_Ratio rfl) T.s_Ratio_of G_Ratio_of (hr.mono (by decide)) pass0 (pa_cons (pv 1) pa_nil)))
      (pss_one (ps_ret (pe_cmpR uGe (pe_op uMul (pe_fld (pv 0) rfl) (pe_fld (pv 2) rfl)) (pe_op uMul (pe_fld (pv 2) rfl) (pe_fld (pv 0) rfl)) (nomark _))))), ?_⟩
    refine ⟨rfl, _, rfl, ⟨_, y, rfl, hy, fun b H1 e1 ⟨dy, hb⟩ => ?_⟩⟩
    have ha := e1 _ _ ha
    refine ⟨_, rfl, a, _, dx, _, _, rfl, ha, T.c_Ratio, T.a_Ratio_over, rfl, _, rfl, b, _, dy, _, _, rfl, hb, T.c_Ratio, T.a_Ratio_under, rfl, Or.inl ⟨_, _, rfl, rfl, mul2 (szN zx) (szD zy), _, rfl, b, _, dy, _, _, rfl, hb, T.c_Ratio, T.a_Ratio_over, rfl, _, rfl, a, _, dx, _, _, rfl, ha, T.c_Ratio, T.a_Ratio_under, rfl, Or.inl ⟨_, _, rfl, rfl, mul2 (szN zy) (szD zx), Or.inl ⟨_, _, rfl, rfl, ?_⟩⟩⟩⟩
    have q : Q (.bl (decide (x ≥ y))) H1 := k H1 e1
    rw [decide_eq_decide.mpr (Rat.le_iff y x)] at q
    exact q
theorem eq_rat {x y : Rat} : (decide (V.int x.num = V.int y.num) && decide (V.int (x.den : Int) = V.int (y.den : Int))) = decide (x = y) := by
  by_cases h : x = y
  · subst h; simp
  · rw [decide_eq_false h]
    by_cases h1 : x.num = y.num
    · have h2 : ¬ (x.den : Int) = y.den := fun e => h (Rat.ext h1 (by omega))
      simp [h2]
    · simp [h1]
theorem eq_int {x : Rat} {j : Int} : (decide (V.int (x.den : Int) = V.int 1) && decide (V.int x.num = V.int j)) = decide (x = (j : Rat)) := by
  have e := eq_rat (x := x) (y := (j : Rat))
  rw [Rat.num_intCast, Rat.den_intCast, Bool.and_comm] at e
  exact e
theorem G_Ratio___eq__ (T : Tx K mg d) : FnR P w K mg base CX0 2 d.Ratio___eq__ (spCmp d.Ratio fun x y => decide (x = y)) := by
  have G_is_integer : FnR P w K mg base CX0 1 d.is_integer (spIsInt K) := G_is_integer T
  obtain ⟨fd, F⟩ := T.F_Ratio___eq__
  refine FnR.imp (FnOk.raw (F.ok sc_Ratio___eq__ (k := 1) (sp := spCmp d.Ratio fun x y => decide (x = y)) (fun vs H Q E h => ?_) (fun cdv A outer s H vs Q E hr h => ?_)) (F.binds fun _ _ _ _ _ _ us hl => match us, hl with | [_, _], _ => rfl) .nil) fun vs H Q E h => by rw [List.append_nil]; exact h
  · obtain ⟨a, v, x, y, rfl, _⟩ := h
    rfl
  · obtain ⟨a, v, x, y, rfl, ⟨dx, ha⟩, hy, _, _, k⟩ := h
    have q : Q (.bl (decide (x = y))) H := k H (Same.refl H)
    -- slots: 0 self, 1 other
    refine ⟨_, (pss_cons (ps_if (pt_val (pe_callB uIsi (by rfl) T.n_isinstance (by decide +kernel) (pa_cons (pv 1) (pa_cons (pe_glob (v := .ref _) rfl T.m_Ratio rfl) pa_nil)))) (pss_one (ps_ret (pe_and (pe_cmpR (uEq hr.units) (pe_fld (pv 0) rfl) (pe_fld (pv 1) rfl) (nomark _)) (pe_one (pe_cmpR (uEq hr.units) (pe_fld (pv 0) rfl) (pe_fld (pv 1) rfl) (nomark _)))))) pss_nil)
      (pss_one (ps_ret (pe_and (pe_fnR G_is_integer (hr.mono (by decide)) T.k_is_integer T.m_is_integer pass0 (pa_cons (pv 1) pa_nil)) (pe_and (pe_cmpR (uEq hr.units) (pe_fld (pv 0) rfl) pe_int (nomark _)) (pe_one (pe_cmpR (uEq hr.units) (pe_fld (pv 0) rfl) (pv 1) (nomark _)))))))), ?_⟩
    rcases hy with ⟨j, rfl, rfl⟩ | ⟨b, rfl, dy, hb⟩
    · rw [← eq_int] at q
      refine ⟨_, rfl, Or.inl ⟨_, _, _, _, false, rfl, .own _, .base (.int j), T.i_int_is_Ratio, false, rfl, iteF ?_⟩⟩
      refine ⟨_, rfl, ⟨_, _, rfl, isI_int T, true, rfl, iteT ?_⟩⟩
      refine ⟨_, rfl, a, _, dx, _, _, rfl, ha, T.c_Ratio, T.a_Ratio_under, rfl, Or.inl ⟨rfl, _, rfl, if2 (fun h1 => ?_) (fun h1 => ?_)⟩⟩
      · rw [h1, Bool.true_and] at q
        exact ⟨_, rfl, a, _, dx, _, _, rfl, ha, T.c_Ratio, T.a_Ratio_over, rfl, _, rfl, Or.inl ⟨rfl, q⟩⟩
      · rw [h1, Bool.false_and] at q
        exact q
    · rw [← eq_rat] at q
      refine ⟨_, rfl, Or.inl ⟨_, _, _, _, true, rfl, .own _, T.y_Ratio.ty T.c_Ratio hb, T.i_Ratio_is_Ratio, true, rfl, iteT ?_⟩⟩
      refine ⟨_, rfl, a, _, dx, _, _, rfl, ha, T.c_Ratio, T.a_Ratio_over, rfl, _, rfl, b, _, dy, _, _, rfl, hb, T.c_Ratio, T.a_Ratio_over, rfl, Or.inl ⟨rfl, _, rfl, if2 (fun h1 => ?_) (fun h1 => ?_)⟩⟩
      · rw [h1, Bool.true_and] at q
        exact ⟨_, rfl, a, _, dx, _, _, rfl, ha, T.c_Ratio, T.a_Ratio_under, rfl, _, rfl, b, _, dy, _, _, rfl, hb, T.c_Ratio, T.a_Ratio_under, rfl, Or.inl ⟨rfl, q⟩⟩
      · rw [h1, Bool.false_and] at q
        exact q
theorem G_Ratio_floor (T : Tx K mg d) : FnR P w K mg base CX0 1 d.Ratio_floor (spFlo d.Ratio Rat.floor) := by
  obtain ⟨fd, F⟩ := T.F_Ratio_floor
  refine FnR.imp (FnOk.raw (F.ok sc_Ratio_floor (k := 0) (sp := spFlo d.Ratio Rat.floor) (fun vs H Q E h => ?_) (fun cdv A outer s H vs Q E hr h => ?_)) (F.binds fun _ _ _ _ _ _ us hl => match us, hl with | [_], _ => rfl) .nil) fun vs H Q E h => by rw [List.append_nil]; exact h
  · obtain ⟨a, x, rfl, _⟩ := h
    rfl
  · obtain ⟨a, x, rfl, ⟨dx, ha⟩, zx, k⟩ := h
    -- slots: 0 self
    refine ⟨_, (pss_one (ps_ret (pe_op uDiv (pe_fld (pv 0) rfl) (pe_fld (pv 0) rfl)))), ?_⟩
    refine ⟨_, rfl, a, _, dx, _, _, rfl, ha, T.c_Ratio, T.a_Ratio_over, rfl, _, rfl, a, _, dx, _, _, rfl, ha, T.c_Ratio, T.a_Ratio_under, rfl, Or.inl ⟨_, _, rfl, rfl, divZ (dne x) (szD zx) (by decide) (by decide), ?_⟩⟩
    rw [← r_floor] at k
    exact k
theorem G_Ratio_ceiling (T : Tx K mg d) : FnR P w K mg base CX0 1 d.Ratio_ceiling (spFlo d.Ratio Rat.ceil) := by
  obtain ⟨fd, F⟩ := T.F_Ratio_ceiling
  refine FnR.imp (FnOk.raw (F.ok sc_Ratio_ceiling (k := 0) (sp := spFlo d.Ratio Rat.ceil) (fun vs H Q E h => ?_) (fun cdv A outer s H vs Q E hr h => ?_)) (F.binds fun _ _ _ _ _ _ us hl => match us, hl with | [_], _ => rfl) .nil) fun vs H Q E h => by rw [List.append_nil]; exact h
  · obtain ⟨a, x, rfl, _⟩ := h
    rfl
  · obtain ⟨a, x, rfl, ⟨dx, ha⟩, zx, k⟩ := h
    -- slots: 0 self
    refine ⟨_, (pss_one (ps_ret (pe_un uNeg (pe_op uDiv (pe_un uNeg (pe_fld (pv 0) rfl)) (pe_fld (pv 0) rfl))))), ?_⟩
    refine ⟨_, rfl, a, _, dx, _, _, rfl, ha, T.c_Ratio, T.a_Ratio_over, rfl, Or.inl ⟨_, rfl, _, rfl, a, _, dx, _, _, rfl, ha, T.c_Ratio, T.a_Ratio_under, rfl, Or.inl ⟨_, _, rfl, rfl, divZ (dne x) (szD zx) (by decide) (by decide), Or.inl ⟨_, rfl, ?_⟩⟩⟩⟩
    rw [← r_ceil] at k
    exact k
end

end AZ
namespace AZ
open PySem L2
/-! ## own operators by the promises of fractions -/
section
variable {X : Cx} {C f : Addr} {k : Nat} {H : Hp} {Q : VK} {a : Addr} {v : V} {x y : Rat}
theorem own_cmp {op : CmpOp} {g : Rat → Rat → Bool} (M : CmpM X.K C op f) (F : FnR X.prog X.w X.K X.mg X.base CX0 k f (spCmp C g)) (hr : Room k X.A) (ha : IsRat C H a x) (hv : Num C H v y) (zx : Sz 2000 x) (zy : Sz 2000 y)
    (q : ∀ H', Same H H' → Q (.bl (g x y)) H') : rOwnC X op (.ref a) v H Q := by
  obtain ⟨dx, h⟩ := id ha
  exact ⟨a, C, dx, _, f, CX0, k, _, E0, rfl, h, hv.right, M, F, hr, pass0, ⟨a, v, x, y, rfl, ha, hv, zx, zy, q⟩⟩
theorem own_bin {op : Operator} {g : Rat → Rat → Rat} (M : BinM X.K C op f) (F : FnR X.prog X.w X.K X.mg X.base CX0 k f (spBin C g)) (hr : Room k X.A) (ha : IsRat C H a x) (hv : Num C H v y) (zx : Sz 2000 x) (zy : Sz 2000 y)
    (q : ∀ p H', Same H H' → IsRat C H' p (g x y) → Q (.ref p) H') : rOwn X op (.ref a) v H Q := by
  obtain ⟨dx, h⟩ := id ha
  exact ⟨a, C, dx, _, f, CX0, k, _, E0, rfl, h, hv.right, M, F, hr, pass0, ⟨a, v, x, y, rfl, ha, hv, zx, zy, q⟩⟩
theorem num_i {j : Int} : Num C H (.int j) (j : Rat) := Or.inl ⟨j, rfl, rfl⟩
theorem num_r (h : IsRat C H a x) : Num C H (.ref a) x := Or.inr ⟨a, rfl, h⟩
end
theorem sz_i {n : Nat} {j : Int} (h : j.natAbs < 2 ^ n) (h0 : 0 < n) : Sz n (j : Rat) := ⟨by rw [Rat.num_intCast]; exact h, by rw [Rat.den_intCast]; exact Nat.one_lt_two_pow (by omega)⟩
theorem sz_sub {n m : Nat} {x y : Rat} (h : Sz n x) (h' : Sz m y) : Sz (n + m + 1) (x - y) := by
  rw [← r_sub]
  refine sz_di (den0 x y) ?_ ?_
  · have a1 := mul_lt2 h.1 h'.2
    have a2 := mul_lt2 h'.1 h.2
    have a3 : (x.num * (y.den : Int) - y.num * (x.den : Int)).natAbs ≤ x.num.natAbs * y.den + y.num.natAbs * x.den := by
      have b1 : (x.num * (y.den : Int)).natAbs = x.num.natAbs * y.den := by rw [Int.natAbs_mul]; rfl
      have b2 : (y.num * (x.den : Int)).natAbs = y.num.natAbs * x.den := by rw [Int.natAbs_mul]; rfl
      omega
    rw [Nat.add_comm m n] at a2
    rw [Nat.pow_succ]
    omega
  · rw [Int.natAbs_mul]
    exact Nat.lt_of_lt_of_le (mul_lt2 h.2 h'.2) (Nat.pow_le_pow_right (by decide) (by omega))
theorem sz_add {n m : Nat} {x y : Rat} (h : Sz n x) (h' : Sz m y) : Sz (n + m + 1) (x + y) := by
  rw [← r_add]
  refine sz_di (den0 x y) ?_ ?_
  · have a1 := mul_lt2 h.1 h'.2
    have a2 := mul_lt2 h'.1 h.2
    have a3 : (x.num * (y.den : Int) + y.num * (x.den : Int)).natAbs ≤ x.num.natAbs * y.den + y.num.natAbs * x.den := by
      have b1 : (x.num * (y.den : Int)).natAbs = x.num.natAbs * y.den := by rw [Int.natAbs_mul]; rfl
      have b2 : (y.num * (x.den : Int)).natAbs = y.num.natAbs * x.den := by rw [Int.natAbs_mul]; rfl
      omega
    rw [Nat.add_comm m n] at a2
    rw [Nat.pow_succ]
    omega
  · rw [Int.natAbs_mul]
    exact Nat.lt_of_lt_of_le (mul_lt2 h.2 h'.2) (Nat.pow_le_pow_right (by decide) (by omega))
theorem sz_mul {n m : Nat} {x y : Rat} (h : Sz n x) (h' : Sz m y) : Sz (n + m) (x * y) := by
  rw [← r_mul]
  refine sz_di (den0 x y) ?_ ?_
  · rw [Int.natAbs_mul]; exact mul_lt2 h.1 h'.1
  · rw [Int.natAbs_mul]; exact mul_lt2 h.2 h'.2
section
variable {X : Cx} {C f : Addr} {k : Nat} {H : Hp} {Q : VK} {a : Addr} {v : V} {x y : Rat}
/-- != of a fraction, by its == -/
theorem own_ne (M : NeM X.K C f) (F : FnR X.prog X.w X.K X.mg X.base CX0 k f (spCmp C fun x y => decide (x = y))) (hr : Room (k + 1) X.A) (ha : IsRat C H a x) (hv : Num C H v y) (zx : Sz 2000 x) (zy : Sz 2000 y)
    (q : ∀ H', Same H H' → Q (.bl (!decide (x = y))) H') : rOwnN X (.ref a) v H Q := by
  obtain ⟨dx, h⟩ := id ha
  exact ⟨a, C, dx, _, f, CX0, k, _, E0, rfl, h, hv.right, M, F, hr, pass0, ⟨a, v, x, y, rfl, ha, hv, zx, zy, fun H' e => ⟨_, rfl, q H' e⟩⟩⟩
/-- an int compared with a fraction: the fraction's comparison, turned about -/
theorem own_refl {opr : CmpOp} {g : Rat → Rat → Bool} {j : Int} (M : CmpM X.K C opr f) (ki : PySem.W.kitOne X.K (.ref C) (.type "int") = some false) (F : FnR X.prog X.w X.K X.mg X.base CX0 k f (spCmp C g)) (hr : Room k X.A) (ha : IsRat C H a x) (zx : Sz 2000 x) (zj : Sz 2000 (j : Rat))
    (q : ∀ H', Same H H' → Q (.bl (g x (j : Rat))) H') : rReflC X opr (.int j) (.ref a) H Q := by
  obtain ⟨dx, h⟩ := id ha
  exact ⟨j, a, C, dx, _, f, CX0, k, _, E0, rfl, rfl, h, M, ki, F, hr, pass0, ⟨a, _, x, _, rfl, ha, num_i, zx, zj, q⟩⟩
theorem own_rne {j : Int} (M : NeM X.K C f) (ki : PySem.W.kitOne X.K (.ref C) (.type "int") = some false) (F : FnR X.prog X.w X.K X.mg X.base CX0 k f (spCmp C fun x y => decide (x = y))) (hr : Room (k + 1) X.A) (ha : IsRat C H a x) (zx : Sz 2000 x) (zj : Sz 2000 (j : Rat))
    (q : ∀ H', Same H H' → Q (.bl (!decide (x = (j : Rat)))) H') : rReflN X (.int j) (.ref a) H Q := by
  obtain ⟨dx, h⟩ := id ha
  exact ⟨j, a, C, dx, _, f, CX0, k, _, E0, rfl, rfl, h, M, ki, F, hr, pass0, ⟨a, _, x, _, rfl, ha, num_i, zx, zj, fun H' e => ⟨_, rfl, q H' e⟩⟩⟩
end
/-! ## fractions in order, by cross products -/
theorem divDen' {x y : Int} (h : 0 < y) : Rat.divInt x y * (y : Rat) = (x : Rat) := by
  rw [Rat.divInt_eq_div]
  exact Rat.div_mul_cancel (fun e => by have := Rat.intCast_inj.mp (show ((y : Int) : Rat) = ((0 : Int) : Rat) from e); omega)
theorem posI' {y : Int} (h : 0 < y) : (0 : Rat) < (y : Rat) := by rw [← Rat.intCast_zero]; exact Rat.intCast_lt_intCast.mpr h
theorem cross {a b c d : Int} (hb : 0 < b) (hd : 0 < d) : ((c * b - a * d : Int) : Rat) = (b : Rat) * (d : Rat) * (Rat.divInt c d - Rat.divInt a b) := by
  have h1 := divDen' (x := a) hb
  have h2 := divDen' (x := c) hd
  rw [Rat.intCast_sub, Rat.intCast_mul, Rat.intCast_mul]
  grind
theorem lt_dd {a b c d : Int} (hb : 0 < b) (hd : 0 < d) : Rat.divInt a b < Rat.divInt c d ↔ a * d < c * b := by
  have h := cross (a := a) (c := c) hb hd
  have hp : (0 : Rat) < (b : Rat) * (d : Rat) := Rat.mul_pos (posI' hb) (posI' hd)
  constructor
  · intro q
    have z : 0 < (b : Rat) * (d : Rat) * (Rat.divInt c d - Rat.divInt a b) := Rat.mul_pos hp (by grind)
    rw [← h, ← Rat.intCast_zero] at z
    have := Rat.intCast_lt_intCast.mp z
    omega
  · intro q
    have z : ((0 : Int) : Rat) < ((c * b - a * d : Int) : Rat) := Rat.intCast_lt_intCast.mpr (by omega)
    rw [h, Rat.intCast_zero] at z
    refine Rat.not_le.mp fun k => ?_
    have w : 0 ≤ (b : Rat) * (d : Rat) * (Rat.divInt a b - Rat.divInt c d) := Rat.mul_nonneg (Std.le_of_lt hp) (by grind)
    grind
theorem le_dd {a b c d : Int} (hb : 0 < b) (hd : 0 < d) : Rat.divInt a b ≤ Rat.divInt c d ↔ a * d ≤ c * b := by
  constructor
  · intro q
    refine Int.not_lt.mp fun k => ?_
    have := (lt_dd (a := c) (c := a) hd hb).mpr (by omega)
    exact absurd q (Rat.not_le.mpr this)
  · intro q
    refine Rat.not_lt.mp fun k => ?_
    have := (lt_dd (a := c) (c := a) hd hb).mp k
    omega
theorem eq_dd {a b c d : Int} (hb : 0 < b) (hd : 0 < d) : Rat.divInt a b = Rat.divInt c d ↔ a * d = c * b := by
  constructor
  · intro q
    have h1 := (le_dd (a := a) (c := c) hb hd).mp (by rw [q]; exact Std.le_refl _)
    have h2 := (le_dd (a := c) (c := a) hd hb).mp (by rw [q]; exact Std.le_refl _)
    omega
  · intro q
    have h1 := (le_dd (a := a) (c := c) hb hd).mpr (by omega)
    have h2 := (le_dd (a := c) (c := a) hd hb).mpr (by omega)
    exact Std.le_antisymm h1 h2
theorem int_dd (w : Int) : (w : Rat) = Rat.divInt w 1 := (r_int w).symm
theorem fl_dd {a b : Int} (hb : 0 < b) : (Rat.divInt a b).floor * b ≤ a ∧ a < ((Rat.divInt a b).floor + 1) * b := by
  have h1 := Rat.floor_le (Rat.divInt a b)
  have h2 := Rat.lt_floor_add_one (Rat.divInt a b)
  rw [int_dd] at h1
  have g1 := (le_dd (by decide) hb).mp h1
  constructor
  · omega
  · rw [int_dd] at h2
    have g2 := (lt_dd hb (by decide)).mp h2
    omega
theorem ce_dd {a b : Int} (hb : 0 < b) : ((Rat.divInt a b).ceil - 1) * b < a ∧ a ≤ (Rat.divInt a b).ceil * b := by
  have e : (Rat.divInt a b).ceil = -(Rat.divInt (-a) b).floor := by rw [Rat.ceil_eq_neg_floor_neg, Rat.neg_divInt]
  obtain ⟨h1, h2⟩ := fl_dd (a := -a) hb
  rw [e]
  generalize (Rat.divInt (-a) b).floor = f at h1 h2
  constructor
  · have : (-f - 1) * b = -((f + 1) * b) := by grind
    omega
  · have : -f * b = -(f * b) := by grind
    omega
/-! ## texts and truth of fractions -/
theorem eapp (x : Str) : Str.empty ++ x = x := Str.ext' (by show (#[] : Array _) ++ x.cps = x.cps; simp)
theorem slen (x y : Str) : (x ++ y).length = x.length + y.length := by
  show (x.cps ++ y.cps).size = _
  simp [Str.length]
/-- how a fraction is written -/
def ratS (x : Rat) : Str := if (x.den : Int) = 1 then Str.ofString (toString x.num) else Str.ofString (toString x.num) ++ "/" ++ Str.ofString (toString (x.den : Int))
def spStr (C : Addr) : Sp := fun vs H Q _ => ∃ a x, vs = [.ref a] ∧ IsRat C H a x ∧ Sz 1900 x ∧ Q (.str (ratS x)) H
theorem ratS_len {x : Rat} (zx : Sz 1900 x) : (ratS x).length ≤ 3843 := by
  have zn : x.num.natAbs.log2 < 1920 := Nat.lt_of_lt_of_le (PySem.Flt.log2_lt_of (by decide) zx.1) (by decide)
  have zd : (x.den : Int).natAbs.log2 < 1920 := Nat.lt_of_lt_of_le (PySem.Flt.log2_lt_of (by decide) (szD zx)) (by decide)
  have l1 := PyProof.Rows.int_text_len_1921 zn
  have l2 := PyProof.Rows.int_text_len_1921 zd
  unfold ratS
  split
  · exact Nat.le_trans l1 (by decide)
  · rw [slen, slen]
    exact Nat.add_le_add (Nat.add_le_add l1 (Nat.le_refl 1)) l2
def spBool (C : Addr) : Sp := fun vs H Q _ => ∃ a x, vs = [.ref a] ∧ IsRat C H a x ∧ Q (.bl (x.num != 0)) H
section
variable {P : Program} {w : World} {K : PySem.W.Frag} {mg : Str → Option Value} {base : Heap} {d : Ad}
theorem G_Ratio___str__ (T : Tx K mg d) : FnR P w K mg base CX0 2 d.Ratio___str__ (spStr d.Ratio) := by
  obtain ⟨fd, F⟩ := T.F_Ratio___str__
  refine FnR.imp (FnOk.raw (F.ok sc_Ratio___str__ (k := 1) (sp := spStr d.Ratio) (fun vs H Q E h => ?_) (fun cdv A outer s H vs Q E hr h => ?_)) (F.binds fun _ _ _ _ _ _ us hl => match us, hl with | [_], _ => rfl) .nil) fun vs H Q E h => by rw [List.append_nil]; exact h
  · obtain ⟨a, x, rfl, _⟩ := h
    rfl
  · obtain ⟨a, x, rfl, ⟨dx, ha⟩, zx, k⟩ := h
    -- slots: 0 self
    refine ⟨_, (pss_cons (ps_if (pt_cmpR (uEq hr.units) (pe_fld (pv 0) rfl) pe_int (nomark _)) (pss_one (ps_ret (pe_callTy uStr (by rfl) T.n_str (by decide +kernel) (pa_cons (pe_fld (pv 0) rfl) pa_nil)))) pss_nil)
      (pss_one (ps_ret (pe_joined (PJ.cons (pe_fmtU (pe_fld (pv 0) rfl)) (PJ.cons pe_str (PJ.cons (pe_fmtU (pe_fld (pv 0) rfl)) PJ.nil))))))), ?_⟩
    have zn : x.num.natAbs.log2 < 1920 := Nat.lt_of_lt_of_le (PySem.Flt.log2_lt_of (by decide) zx.1) (by decide)
    have zd : (x.den : Int).natAbs.log2 < 1920 := Nat.lt_of_lt_of_le (PySem.Flt.log2_lt_of (by decide) (szD zx)) (by decide)
    refine ⟨_, rfl, a, _, dx, _, _, rfl, ha, T.c_Ratio, T.a_Ratio_under, rfl, Or.inl ⟨rfl, _, rfl, if2 (fun h1 => ?_) (fun h1 => ?_)⟩⟩
    · refine ⟨_, rfl, a, _, dx, _, _, rfl, ha, T.c_Ratio, T.a_Ratio_over, rfl, Or.inl ⟨_, rfl, zn, ?_⟩⟩
      have e : ratS x = Str.ofString (toString x.num) := if_pos (by have := of_decide_eq_true h1; injection this)
      rw [e] at k
      exact k
    · have e : ratS x = Str.ofString (toString x.num) ++ "/" ++ Str.ofString (toString (x.den : Int)) := if_neg (fun n => by have := of_decide_eq_false h1; exact this (by rw [n]))
      have l1 := PyProof.Rows.int_text_len_1921 zn
      have l2 := PyProof.Rows.int_text_len_1921 zd
      have b1 : (Str.empty ++ Str.ofString (toString x.num)).length ≤ 1921 := by rw [slen]; exact Nat.le_trans (Nat.le_of_eq (Nat.zero_add _)) l1
      have b2 : (Str.empty ++ Str.ofString (toString x.num) ++ "/").length ≤ 1922 := by rw [slen]; exact Nat.add_le_add b1 (Nat.le_refl 1)
      have b3 : (Str.empty ++ Str.ofString (toString x.num) ++ "/" ++ Str.ofString (toString (x.den : Int))).length ≤ 3843 := by rw [slen]; exact Nat.add_le_add b2 l2
      have e0 := eapp (Str.ofString (toString x.num))
      refine ⟨_, rfl, a, _, dx, _, _, rfl, ha, T.c_Ratio, T.a_Ratio_over, rfl, Or.inl (Or.inr ⟨_, rfl, zn, _, rfl, Nat.le_trans b1 (by decide), ?_⟩)⟩
      refine ⟨_, rfl, Nat.le_trans b2 (by decide), ?_⟩
      refine ⟨_, rfl, a, _, dx, _, _, rfl, ha, T.c_Ratio, T.a_Ratio_under, rfl, Or.inl (Or.inr ⟨_, rfl, zd, _, rfl, Nat.le_trans b3 (by decide), ?_⟩)⟩
      rw [e] at k
      rw [e0]
      exact k
theorem G_Ratio___bool__ (T : Tx K mg d) : FnR P w K mg base CX0 1 d.Ratio___bool__ (spBool d.Ratio) := by
  obtain ⟨fd, F⟩ := T.F_Ratio___bool__
  refine FnR.imp (FnOk.raw (F.ok sc_Ratio___bool__ (k := 0) (sp := spBool d.Ratio) (fun vs H Q E h => ?_) (fun cdv A outer s H vs Q E hr h => ?_)) (F.binds fun _ _ _ _ _ _ us hl => match us, hl with | [_], _ => rfl) .nil) fun vs H Q E h => by rw [List.append_nil]; exact h
  · obtain ⟨a, x, rfl, _⟩ := h
    rfl
  · obtain ⟨a, x, rfl, ⟨dx, ha⟩, k⟩ := h
    -- slots: 0 self
    refine ⟨_, (pss_one (ps_ret (pe_callTy call_bool1 (by rfl) T.n_bool (by decide +kernel) (pa_cons (pe_fld (pv 0) rfl) pa_nil)))), ?_⟩
    exact ⟨_, rfl, a, _, dx, _, _, rfl, ha, T.c_Ratio, T.a_Ratio_over, rfl, Or.inl ⟨_, rfl, k⟩⟩
end

end AZ
namespace AZ
open PySem L2
/-! ## what is refused -/
section
variable {P : Program} {w : World} {K : PySem.W.Frag} {mg : Str → Option Value} {base : Heap} {d : Ad}
theorem GX_BadRatio___init__ (T : Tx K mg d) : FnG P w K mg base CX0 1 d.BadRatio___init__ (spErrX K d.BadRatio "value") := by
  obtain ⟨fd, F⟩ := T.F_BadRatio___init__
  refine (fnOG (k := 0) F sc_BadRatio___init__ (sp := spErrX K d.BadRatio "value") (fun vs H Q E h => ?_) (fun cdv A outer s H vs Q E ng hr h => ?_)).pos (fun vs H Q E h => by obtain ⟨a, v, e, rfl, _⟩ := h; rfl) (F.binds fun _ _ _ _ _ _ us hl => match us, hl with | [_, _], _ => rfl)
  · obtain ⟨a, v, e, rfl, _⟩ := h
    rfl
  · obtain ⟨a, v, e, rfl, ha, S, n, k⟩ := h
    -- slots: 0 self, 1 value
    refine ⟨_, (pss_cons (ps_expr (pe_sinit T.vi_SnapError rfl T.m_SnapError (pa_cons (pv 0) (pa_cons (pe_joined (PJ.cons pe_str (PJ.cons (pe_fmtA ng hr.units (pv 1)) PJ.nil))) pa_nil))))
      (pss_one (ps_ost (pv 0) (pv 1)))), ?_⟩
    exact err1x_body T.ex_BadRatio T.a_BadRatio_value ha S n rfl rfl (by decide) k
theorem GX_Ratio_of (T : Tx K mg d) : FnG P w K mg base (CXx P w) 4 d.Ratio_of (spOfX K d.Ratio d.BadRatio) := by
  have G_is_integer : FnR P w K mg base CX0 1 d.is_integer (spIsInt K) := G_is_integer T
  have G_Ratio___init__ : FnR P w K mg base CX0 2 d.Ratio___init__ _ := G_Ratio___init__ T
  have GX_BadRatio___init__ := GX_BadRatio___init__ (P := P) (w := w) (base := base) T
  obtain ⟨fd, F⟩ := T.F_Ratio_of
  refine fnX_of (k := 3) F sc_Ratio_of (sp := spOfX K d.Ratio d.BadRatio) (fun vs H Q E h => ?_) (fun cdv A outer s H vs Q E ng hr tk h => ?_) (F.binds fun _ _ _ _ _ _ us hl => match us, hl with | [_], _ => rfl)
  · obtain ⟨v, e, rfl, _⟩ := h
    rfl
  · obtain ⟨v, e, rfl, ⟨⟨S, ty, nr, nf, b1, b2, i1, i2, ib⟩, sh, n⟩, k⟩ := h
    -- slots: 0 value
    refine ⟨_, (pss_cons (ps_if (pt_val (pe_callB uIsi (by rfl) T.n_isinstance (by decide +kernel) (pa_cons (pv 0) (pa_cons (pe_glob (v := .ref _) rfl T.m_Ratio rfl) pa_nil)))) (pss_one (ps_ret (pv 0))) pss_nil)
      (pss_cons (ps_if (pt_not (pt_val (pe_fnR G_is_integer (hr.mono (by decide)) T.k_is_integer T.m_is_integer pass0 (pa_cons (pv 0) pa_nil)))) (pss_one (ps_raise rfl tk (pmk_err T.ex_BadRatio.err GX_BadRatio___init__ ng (hr.mono (by decide)) pass0 rfl T.m_BadRatio (pa_cons (pv 0) pa_nil)))) pss_nil)
      (pss_one (ps_ret (StX.pe_makeR T.mk_Ratio G_Ratio___init__ (hr.mono (by decide)) rfl T.m_Ratio pass0 (pa_cons (pv 0) pa_nil)))))), ?_⟩
    refine ⟨_, rfl, Or.inl ⟨_, _, _, _, false, rfl, .own _, ty, nr, false, rfl, iteF ?_⟩⟩
    refine ⟨_, rfl, ⟨_, _, rfl, ⟨_, b1, b2, ty, i1, i2, ib⟩, false, rfl, iteT ?_⟩⟩
    exact mkX1 (fun Q' q => ⟨_, rfl, q⟩) sh n k
theorem GX_Ratio___lt__ (T : Tx K mg d) : FnG P w K mg base (CXx P w) 5 d.Ratio___lt__ (spCmpX K d.Ratio d.BadRatio) := by
  have GX_Ratio_of := GX_Ratio_of (P := P) (w := w) (base := base) T
  obtain ⟨fd, F⟩ := T.F_Ratio___lt__
  refine fnX_of (k := 4) F sc_Ratio___lt__ (sp := spCmpX K d.Ratio d.BadRatio) (fun vs H Q E h => ?_) (fun cdv A outer s H vs Q E ng hr tk h => ?_) (F.binds fun _ _ _ _ _ _ us hl => match us, hl with | [_, _], _ => rfl)
  · obtain ⟨a, v, e, dx, fs, rfl, _⟩ := h
    rfl
  · obtain ⟨a, v, e, dx, fs, rfl, ha, odd, k⟩ := h
    -- slots: 0 self, 1 other, 2 against
    refine ⟨_, (pss_cons (ps_set (i := 2) sc_Ratio___lt__.nd rfl (Or.inl rfl) (pe_smethG (pe_glob (v := .ref _) rfl T.m_Ratio rfl) T.s_Ratio_of GX_Ratio_of ng (hr.mono (by decide)) (on tk) (pa_cons (pv 1) pa_nil)))
      (pss_one (ps_ret (pe_cmpR uLt (pe_op uMul (pe_fld (pv 0) rfl) (pe_fld (pv 2) rfl)) (pe_op uMul (pe_fld (pv 2) rfl) (pe_fld (pv 0) rfl)) (nomark _))))), ?_⟩
    exact ⟨rfl, _, rfl, v, e, rfl, odd, k⟩
theorem GX_Ratio___le__ (T : Tx K mg d) : FnG P w K mg base (CXx P w) 5 d.Ratio___le__ (spCmpX K d.Ratio d.BadRatio) := by
  have GX_Ratio_of := GX_Ratio_of (P := P) (w := w) (base := base) T
  obtain ⟨fd, F⟩ := T.F_Ratio___le__
  refine fnX_of (k := 4) F sc_Ratio___le__ (sp := spCmpX K d.Ratio d.BadRatio) (fun vs H Q E h => ?_) (fun cdv A outer s H vs Q E ng hr tk h => ?_) (F.binds fun _ _ _ _ _ _ us hl => match us, hl with | [_, _], _ => rfl)
  · obtain ⟨a, v, e, dx, fs, rfl, _⟩ := h
    rfl
  · obtain ⟨a, v, e, dx, fs, rfl, ha, odd, k⟩ := h
    -- slots: 0 self, 1 other, 2 against
    refine ⟨_, (pss_cons (ps_set (i := 2) sc_Ratio___le__.nd rfl (Or.inl rfl) (pe_smethG (pe_glob (v := .ref _) rfl T.m_Ratio rfl) T.s_Ratio_of GX_Ratio_of ng (hr.mono (by decide)) (on tk) (pa_cons (pv 1) pa_nil)))
      (pss_one (ps_ret (pe_cmpR uLe (pe_op uMul (pe_fld (pv 0) rfl) (pe_fld (pv 2) rfl)) (pe_op uMul (pe_fld (pv 2) rfl) (pe_fld (pv 0) rfl)) (nomark _))))), ?_⟩
    exact ⟨rfl, _, rfl, v, e, rfl, odd, k⟩
theorem GX_Ratio___gt__ (T : Tx K mg d) : FnG P w K mg base (CXx P w) 5 d.Ratio___gt__ (spCmpX K d.Ratio d.BadRatio) := by
  have GX_Ratio_of := GX_Ratio_of (P := P) (w := w) (base := base) T
  obtain ⟨fd, F⟩ := T.F_Ratio___gt__
  refine fnX_of (k := 4) F sc_Ratio___gt__ (sp := spCmpX K d.Ratio d.BadRatio) (fun vs H Q E h => ?_) (fun cdv A outer s H vs Q E ng hr tk h => ?_) (F.binds fun _ _ _ _ _ _ us hl => match us, hl with | [_, _], _ => rfl)
  · obtain ⟨a, v, e, dx, fs, rfl, _⟩ := h
    rfl
  · obtain ⟨a, v, e, dx, fs, rfl, ha, odd, k⟩ := h
    -- slots: 0 self, 1 other, 2 against
    refine ⟨_, (pss_cons (ps_set (i := 2) sc_Ratio___gt__.nd rfl (Or.inl rfl) (pe_smethG (pe_glob (v := .ref _) rfl T.m_Ratio rfl) T.s_Ratio_of GX_Ratio_of ng (hr.mono (by decide)) (on tk) (pa_cons (pv 1) pa_nil)))
      (pss_one (ps_ret (pe_cmpR uGt (pe_op uMul (pe_fld (pv 0) rfl) (pe_fld (pv 2) rfl)) (pe_op uMul (pe_fld (pv 2) rfl) (pe_fld (pv 0) rfl)) (nomark _))))), ?_⟩
    exact ⟨rfl, _, rfl, v, e, rfl, odd, k⟩
theorem GX_Ratio___ge__ (T : Tx K mg d) : FnG P w K mg base (CXx P w) 5 d.Ratio___ge__ (spCmpX K d.Ratio d.BadRatio) := by
  have GX_Ratio_of := GX_Ratio_of (P := P) (w := w) (base := base) T
  obtain ⟨fd, F⟩ := T.F_Ratio___ge__
  refine fnX_of (k := 4) F sc_Ratio___ge__ (sp := spCmpX K d.Ratio d.BadRatio) (fun vs H Q E h => ?_) (fun cdv A outer s H vs Q E ng hr tk h => ?_) (F.binds fun _ _ _ _ _ _ us hl => match us, hl with | [_, _], _ => rfl)
  · obtain ⟨a, v, e, dx, fs, rfl, _⟩ := h
    rfl
  · obtain ⟨a, v, e, dx, fs, rfl, ha, odd, k⟩ := h
    -- slots: 0 self, 1 other, 2 against
    refine ⟨_, (pss_cons (ps_set (i := 2) sc_Ratio___ge__.nd rfl (Or.inl rfl) (pe_smethG (pe_glob (v := .ref _) rfl T.m_Ratio rfl) T.s_Ratio_of GX_Ratio_of ng (hr.mono (by decide)) (on tk) (pa_cons (pv 1) pa_nil)))
      (pss_one (ps_ret (pe_cmpR uGe (pe_op uMul (pe_fld (pv 0) rfl) (pe_fld (pv 2) rfl)) (pe_op uMul (pe_fld (pv 2) rfl) (pe_fld (pv 0) rfl)) (nomark _))))), ?_⟩
    exact ⟨rfl, _, rfl, v, e, rfl, odd, k⟩
end

end AZ
namespace AZ
open PySem L2
/-! ## what is no number -/
section
variable {K : PySem.W.Frag} {H H' : Hp}
theorem PenAt.up {p : Addr} {n : Nat} (h : PenAt H p n) (e : Same H H') : PenAt H' p n := by
  obtain ⟨l, ns, s, g, a, b, c, r⟩ := h
  exact ⟨l, ns, s, g, a, e _ _ b, e _ _ c, r⟩
theorem PenAt.ext {p : Addr} {n : Nat} (h : PenAt H p n) (e : LamX.ExtN H H') : PenAt H' p n := by
  obtain ⟨l, ns, s, g, a, b, c, r⟩ := h
  exact ⟨l, ns, s, g, a, e _ _ b (fun _ z => nomatch z), e _ _ c (fun _ z => nomatch z), r⟩
theorem tyX_ext {K : PySem.W.Frag} {v : V} {T : String} (e : LamX.ExtN H H') (h : TyX K H v (.type T)) : TyX K H' v (.type T) := by
  cases h with
  | base b =>
    cases b with
    | non => exact .base .non
    | bl x => exact .base (.bl x)
    | int i => exact .base (.int i)
    | str x => exact .base (.str x)
    | flt x => exact .base (.flt x)
    | lst q => exact .base (.lst (e _ _ q fun _ z => nomatch z))
    | frz q => exact .base (.frz (e _ _ q fun _ z => nomatch z))
    | tup q => exact .base (.tup (e _ _ q fun _ z => nomatch z))
    | dK q => exact .base (.dK (e _ _ q fun _ z => nomatch z))
    | dT q => exact .base (.dT (e _ _ q fun _ z => nomatch z))
  | byt b => exact .byt b
  | set q => exact .set (e _ _ q fun _ z => nomatch z)
  | kList a b => exact .kList a b
  | kTuple a b => exact .kTuple a b
  | kDict a b => exact .kDict a b
  | fTuple q => exact .fTuple (e _ _ q fun _ z => nomatch z)
  | fDict q => exact .fDict (e _ _ q fun _ z => nomatch z)
theorem Odd.ext {C : Addr} {v : V} {x : PyData} (e : LamX.ExtN H H') (h : Odd K C H v x) : Odd K C H' v x :=
  let ⟨T, ty, r⟩ := h.ty
  ⟨⟨T, tyX_ext e ty, r⟩, h.sh.ext e, h.shn⟩
end

end AZ
namespace AZ
open PySem L2
/-! ## comparisons whose outcome is told -/
section
variable {X : Cx} {C f : Addr} {k : Nat} {H : Hp} {Q : VK} {a : Addr} {v : V} {x y : Rat} {r : Bool}
theorem oc {op : CmpOp} {g : Rat → Rat → Bool} (M : CmpM X.K C op f) (F : FnR X.prog X.w X.K X.mg X.base CX0 k f (spCmp C g)) (hr : Room k X.A) (ha : IsRat C H a x) (hv : Num C H v y) (zx : Sz 2000 x) (zy : Sz 2000 y) (e : g x y = r)
    (q : ∀ H', Same H H' → Q (.bl r) H') : rOwnC X op (.ref a) v H Q := own_cmp M F hr ha hv zx zy fun H' s => by rw [e]; exact q H' s
theorem orf {opr : CmpOp} {g : Rat → Rat → Bool} {j : Int} (M : CmpM X.K C opr f) (ki : PySem.W.kitOne X.K (.ref C) (.type "int") = some false) (F : FnR X.prog X.w X.K X.mg X.base CX0 k f (spCmp C g)) (hr : Room k X.A) (ha : IsRat C H a x) (zx : Sz 2000 x) (zj : Sz 2000 (j : Rat)) (e : g x (j : Rat) = r)
    (q : ∀ H', Same H H' → Q (.bl r) H') : rReflC X opr (.int j) (.ref a) H Q := own_refl M ki F hr ha zx zj fun H' s => by rw [e]; exact q H' s
theorem onn (M : NeM X.K C f) (F : FnR X.prog X.w X.K X.mg X.base CX0 k f (spCmp C fun x y => decide (x = y))) (hr : Room (k + 1) X.A) (ha : IsRat C H a x) (hv : Num C H v y) (zx : Sz 2000 x) (zy : Sz 2000 y) (e : (!decide (x = y)) = r)
    (q : ∀ H', Same H H' → Q (.bl r) H') : rOwnN X (.ref a) v H Q := own_ne M F hr ha hv zx zy fun H' s => by rw [e]; exact q H' s
theorem orn {j : Int} (M : NeM X.K C f) (ki : PySem.W.kitOne X.K (.ref C) (.type "int") = some false) (F : FnR X.prog X.w X.K X.mg X.base CX0 k f (spCmp C fun x y => decide (x = y))) (hr : Room (k + 1) X.A) (ha : IsRat C H a x) (zx : Sz 2000 x) (zj : Sz 2000 (j : Rat)) (e : (!decide (x = (j : Rat))) = r)
    (q : ∀ H', Same H H' → Q (.bl r) H') : rReflN X (.int j) (.ref a) H Q := own_rne M ki F hr ha zx zj fun H' s => by rw [e]; exact q H' s
end

end AZ
namespace AZ
open PySem L2
/-! ## lists and tuples of values -/
abbrev sq (b : Bool) (xs : List V) : HO := match b with | true => .tup xs | false => .lst xs
/-- all of them are fractions at their places -/
abbrev Rats (C : Addr) (H : Hp) : List V → List Rat → Prop := Paired (fun y q => ∃ p, y = .ref p ∧ IsRat C H p q)
abbrev Nums (C : Addr) (H : Hp) : List V → List Rat → Prop := Paired (Num C H)
theorem Rats.same {C : Addr} {H H' : Hp} (e : Same H H') : ∀ {xs : List V} {qs : List Rat}, Rats C H xs qs → Rats C H' xs qs
  | _, _, .nil => .nil
  | _, _, .cons ⟨p, x, y⟩ r => .cons ⟨p, x, y.same e⟩ (Rats.same e r)
theorem Nums.same {C : Addr} {H H' : Hp} (e : Same H H') : ∀ {xs : List V} {qs : List Rat}, Nums C H xs qs → Nums C H' xs qs
  | _, _, .nil => .nil
  | _, _, .cons x r => .cons (x.same e) (Nums.same e r)
theorem Rats.up {C p : Addr} {H H' : Hp} (e : Up p H H') : ∀ {xs : List V} {qs : List Rat}, Rats C H xs qs → Rats C H' xs qs
  | _, _, .nil => .nil
  | _, _, .cons ⟨p, x, y⟩ r => .cons ⟨p, x, y.up e⟩ (Rats.up e r)
theorem Nums.up {C p : Addr} {H H' : Hp} (e : Up p H H') : ∀ {xs : List V} {qs : List Rat}, Nums C H xs qs → Nums C H' xs qs
  | _, _, .nil => .nil
  | _, _, .cons x r => .cons (x.up e) (Nums.up e r)
theorem Rats.nums {C : Addr} {H : Hp} : ∀ {xs : List V} {qs : List Rat}, Rats C H xs qs → Nums C H xs qs
  | _, _, .nil => .nil
  | _, _, .cons ⟨_, x, y⟩ r => .cons (Or.inr ⟨_, x, y⟩) (Rats.nums r)
theorem pd_at {α β : Type} {R : α → β → Prop} : ∀ {xs : List α} {ys : List β} {i : Nat} {x : α}, Paired R xs ys → xs[i]? = some x → ∃ y, ys[i]? = some y ∧ R x y
  | _, _, 0, _, .cons h _, e => ⟨_, rfl, by simp at e; subst e; exact h⟩
  | _, _, i + 1, _, .cons _ r, e => by
    obtain ⟨y, e', h⟩ := pd_at (i := i) r (by simpa using e)
    exact ⟨y, by simpa using e', h⟩
theorem pd_len {α β : Type} {R : α → β → Prop} : ∀ {xs : List α} {ys : List β}, Paired R xs ys → xs.length = ys.length
  | _, _, .nil => rfl
  | _, _, .cons _ r => by simp [pd_len r]
theorem take_at {α : Type} {xs : List α} {i : Nat} {x : α} (h : xs[i]? = some x) : xs.take (i + 1) = xs.take i ++ [x] := by
  rw [List.take_add_one, h]; rfl
theorem same_at {H H' : Hp} {D : Addr} {o : HO} (h : Same H H') (hD : H D = none) : Same H (upd H' D o) := fun b x e => by
  rw [upd_ne (fun z => by rw [z, hD] at e; cases e)]
  exact h b x e
theorem Rats.app {C : Addr} {H : Hp} {xs : List V} {qs : List Rat} {p : Addr} {q : Rat} (h : Rats C H xs qs) (r : IsRat C H p q) : Rats C H (xs ++ [.ref p]) (qs ++ [q]) := by
  induction h with
  | nil => exact .cons ⟨p, rfl, r⟩ .nil
  | cons a _ ih => exact .cons a ih
/-- a comprehension over a list or a tuple -/
theorem lc_seq {K : PySem.W.Frag} {a : Addr} {b : Bool} {xs : List V} {tl : TE} {g : TG} {tt : TT} {te : TE} {vs : List Nat} {σ : L2.St} {H : Hp} {Q : VK} (Pv : Addr → Nat → Hp → Prop)
    (he : ∀ R : VK, R (.ref a) H → tl σ H R) (hq : H a = some (sq b xs)) (h0 : ∀ D, H D = none → Pv D 0 (upd H D (.lst []))) (hl : ∀ D i H', i ≤ xs.length → Pv D i H' → H' a = some (sq b xs))
    (hs : ∀ D i x H', xs[i]? = some x → Pv D i H' → g x (wipe σ vs) H' fun σ2 H2 => wipe σ2 vs = wipe σ vs ∧ tt σ2 H2 fun b H3 =>
      if b = true then te σ2 H3 fun y H4 => ∃ acc, H4 D = some (.lst acc) ∧ acc.length < sizeLine ∧ Pv D (i + 1) (upd H4 D (.lst (acc ++ [y]))) else Pv D (i + 1) H3)
    (hd : ∀ D H', Pv D xs.length H' → Q (.ref D) H') : tLc (fun σ H R => iList K tl σ H R ∨ iTup K tl σ H R) g tt te vs σ H Q := by
  cases b with
  | false => exact Or.inl (he _ ⟨a, rfl, ⟨xs, SqL.of hq⟩, fun D hD => lc_list (xs := xs) (Pv D) (h0 D hD) (fun i H' h p => SqL.of (hl D i H' h p)) (hs D) (hd D)⟩)
  | true => exact Or.inr (he _ ⟨a, rfl, ⟨xs, SqT.of hq⟩, fun D hD => lc_tup (xs := xs) (Pv D) (h0 D hD) (fun i H' h p => SqT.of (hl D i H' h p)) (hs D) (hd D)⟩)
theorem while_to {c : TT} {tb : TS} {D : Ends} {σ : L2.St} {H : Hp} (Pv : L2.St → Hp → Prop) (μ : L2.St → Hp → Nat) (h0 : Pv σ H)
    (hs : ∀ σ H, Pv σ H → c σ H fun b H1 => if b = true then ∃ N : L2.St → Hp → Prop, (∀ σ' H', N σ' H' → ∃ m', m' < μ σ H ∧ m' = μ σ' H' ∧ Pv σ' H') ∧ tb { D with nx := N, ct := N, bk := D.nx } σ H1 else D.nx σ H1) : tWhile c tb D σ H :=
  ⟨fun m σ H => m = μ σ H ∧ Pv σ H, ⟨_, rfl, h0⟩, by rintro m σ H ⟨rfl, p⟩; exact hs σ H p⟩
theorem st_eq {u : TS} {D : Ends} {σ σ' : L2.St} {H : Hp} (e : σ = σ') (h : u D σ' H) : u D σ H := e ▸ h
theorem cutV_from (xs : List V) (k : Nat) : cutV xs (some (k : Int)) none = xs.drop k := by
  unfold cutV
  rw [HT.sIx_nat, HT.sIx_none]
  rcases Nat.le_total k xs.length with h | h
  · rw [Nat.min_eq_left h]
    exact List.take_of_length_le (by rw [List.length_drop]; exact Nat.le_refl _)
  · rw [Nat.min_eq_right h, Nat.sub_self, List.take_zero, List.drop_eq_nil_of_le h]
theorem cutV_upto (xs : List V) (k : Nat) : cutV xs none (some (k : Int)) = xs.take k := by
  unfold cutV
  rw [HT.sIx_nat, HT.sIx_none, Nat.sub_zero, List.drop_zero]
  rcases Nat.le_total k xs.length with h | h
  · rw [Nat.min_eq_left h]
  · rw [Nat.min_eq_right h, List.take_length, List.take_of_length_le h]
theorem in_test {te : TE} {σ : L2.St} {H : Hp} {Q : Bool → Hp → Prop} (h : te σ H fun x H1 => ∃ b, x = .bl b ∧ Q b H1) : tTest te σ H Q := h
theorem in_op {r : R2} {ta tb : TE} {σ : L2.St} {H : Hp} {Q : VK} (h : ta σ H fun x H1 => tb σ H1 fun y H2 => r x y H2 Q) : tOp r ta tb σ H Q := h
theorem in_cb1 {r : List V → Hp → VK → Prop} {te : TE} {σ : L2.St} {H : Hp} {Q : VK} (h : te σ H fun x H1 => r [x] H1 Q) : tCB r (tCons te tNil) σ H Q := h
theorem in_asg {te : TE} {i : Nat} {u : TS} {D : Ends} {σ : L2.St} {H : Hp} (h : te σ H fun x H1 => u D (σ.set i (some x)) H1) : tSeq (tAsg te (gName i)) u D σ H := h
theorem pd_rev {α β : Type} {R : α → β → Prop} {xs : List α} {ys : List β} (h : Paired R xs ys) : Paired R xs.reverse ys.reverse := by
  induction h with
  | nil => exact .nil
  | cons a _ ih => rw [List.reverse_cons, List.reverse_cons]; exact paired_append ih (.cons a .nil)
theorem pd_take {α β : Type} {R : α → β → Prop} {xs : List α} {ys : List β} (n : Nat) (h : Paired R xs ys) : Paired R (xs.take n) (ys.take n) := by
  induction h generalizing n with
  | nil => simp; exact .nil
  | cons a _ ih =>
    cases n with
    | zero => exact .nil
    | succ n => exact .cons a (ih n)
theorem pd_drop {α β : Type} {R : α → β → Prop} {xs : List α} {ys : List β} (n : Nat) (h : Paired R xs ys) : Paired R (xs.drop n) (ys.drop n) := by
  induction h generalizing n with
  | nil => simp; exact .nil
  | cons a r ih =>
    cases n with
    | zero => exact .cons a r
    | succ n => exact ih n
theorem ix_sq {K : PySem.W.Frag} {H : Hp} {a : Addr} {b : Bool} {xs : List V} {n : Nat} {x : V} {Q : VK} (h : H a = some (sq b xs)) (hi : xs[n]? = some x) (q : Q x H) : rIx K (.ref a) (.int (n : Int)) H Q := by
  cases b with
  | false => exact Or.inl ⟨a, xs, _, _, rfl, rfl, SqL.of h, atI_nat hi, q⟩
  | true => exact Or.inr (Or.inl ⟨a, xs, _, _, rfl, rfl, SqT.of h, atI_nat hi, q⟩)
theorem sq_or {K : PySem.W.Frag} {H : Hp} {a : Addr} {b : Bool} {xs : List V} (h : H a = some (sq b xs)) : SqL K H a xs ∨ SqT K H a xs := by
  cases b with
  | false => exact Or.inl (SqL.of h)
  | true => exact Or.inr (SqT.of h)
theorem for_seq {K : PySem.W.Frag} {a : Addr} {b : Bool} {xs : List V} {tl : TE} {g : TG} {tb : TS} {D : Ends} {σ : L2.St} {H : Hp} (Pv : Nat → L2.St → Hp → Prop) (he : ∀ R : VK, R (.ref a) H → tl σ H R) (hq : H a = some (sq b xs))
    (h0 : Pv 0 σ H) (hl : ∀ i σ H, i ≤ xs.length → Pv i σ H → H a = some (sq b xs)) (hs : ∀ i x σ H, xs[i]? = some x → Pv i σ H → g x σ H fun σ2 H2 => tb { D with nx := Pv (i + 1), ct := Pv (i + 1), bk := D.nx } σ2 H2)
    (hd : ∀ σ H, Pv xs.length σ H → D.nx σ H) : tFor (fun σ H R => iList K tl σ H R ∨ iTup K tl σ H R) g tb D σ H := by
  cases b with
  | false => exact Or.inl (he _ ⟨a, rfl, ⟨xs, SqL.of hq⟩, for_list (xs := xs) Pv h0 (fun i σ H h p => SqL.of (hl i σ H h p)) hs hd⟩)
  | true => exact Or.inr (he _ ⟨a, rfl, ⟨xs, SqT.of hq⟩, for_tup (xs := xs) Pv h0 (fun i σ H h p => SqT.of (hl i σ H h p)) hs hd⟩)
theorem if_join {tc : TT} {tb u : TS} {D : Ends} {σ : L2.St} {H : Hp} (I : L2.St → Hp → Prop) (h : ∀ N : L2.St → Hp → Prop, (∀ σ' H', I σ' H' → N σ' H') → tc σ H (fun b H1 => if b = true then tb { D with nx := N } σ H1 else N σ H1)) (k : ∀ σ' H', I σ' H' → u D σ' H') : tSeq (tIfS tc tb tNext) u D σ H := h (u D) k
theorem sz_mono {n m : Nat} {x : Rat} (h : Sz n x) (e : n ≤ m) : Sz m x := ⟨Nat.lt_of_lt_of_le h.1 (Nat.pow_le_pow_right (by decide) e), Nat.lt_of_lt_of_le h.2 (Nat.pow_le_pow_right (by decide) e)⟩

end AZ
namespace AZ
open PySem L2
/-! ## the greatest number of which all are whole multiples -/
theorem r_divInt_eq (a b : Int) : Rat.divInt a b = (a : Rat) / (b : Rat) := Rat.divInt_eq_div a b
/-- the whole combinations of some numbers -/
inductive Spn (p : Rat → Prop) : Rat → Prop
  | zero : Spn p 0
  | mem {x} : p x → Spn p x
  | add {x y} : Spn p x → Spn p y → Spn p (x + y)
  | smul {x} (k : Int) : Spn p x → Spn p ((k : Rat) * x)
theorem Spn.mono {p q : Rat → Prop} (h : ∀ x, p x → Spn q x) {x : Rat} (s : Spn p x) : Spn q x := by
  induction s with
  | zero => exact .zero
  | mem m => exact h _ m
  | add _ _ a b => exact .add a b
  | smul k _ a => exact .smul k a
/-- the greatest number of which all are whole multiples -/
structure IsG (p : Rat → Prop) (g : Rat) : Prop where
  pos : 0 ≤ g
  span : Spn p g
  dvd : ∀ x, p x → ∃ k : Int, x = (k : Rat) * g
theorem Spn.dvd {p : Rat → Prop} {g : Rat} (h : ∀ x, p x → ∃ k : Int, x = (k : Rat) * g) {x : Rat} (s : Spn p x) : ∃ k : Int, x = (k : Rat) * g := by
  induction s with
  | zero => exact ⟨0, by rw [Rat.intCast_zero]; exact (Rat.zero_mul g).symm⟩
  | mem m => exact h _ m
  | add _ _ a b =>
    obtain ⟨k, rfl⟩ := a
    obtain ⟨j, rfl⟩ := b
    exact ⟨k + j, by rw [Rat.intCast_add, Rat.add_mul]⟩
  | smul k _ a =>
    obtain ⟨j, rfl⟩ := a
    exact ⟨k * j, by rw [Rat.intCast_mul, Rat.mul_assoc]⟩
theorem IsG.uniq {p q : Rat → Prop} {g h : Rat} (a : IsG p g) (b : IsG q h) (e1 : ∀ x, p x → Spn q x) (e2 : ∀ x, q x → Spn p x) : g = h := by
  obtain ⟨k, hk⟩ := (a.span.mono e1).dvd b.dvd
  obtain ⟨j, hj⟩ := (b.span.mono e2).dvd a.dvd
  by_cases z : h = 0
  · rw [hk, z, Rat.mul_zero]
  by_cases z2 : g = 0
  · exact absurd (by rw [hj, z2, Rat.mul_zero]) z
  -- both are above 0
  have ph : 0 < h := by have := b.pos; grind
  have pg : 0 < g := by have := a.pos; grind
  have k1 : 0 < k := by
    refine Int.not_le.mp fun n => ?_
    have : (k : Rat) ≤ 0 := by rw [← Rat.intCast_zero]; exact Rat.intCast_le_intCast.mpr n
    have w : 0 ≤ (-(k : Rat)) * h := Rat.mul_nonneg (by grind) (by grind)
    grind
  have j1 : 0 < j := by
    refine Int.not_le.mp fun n => ?_
    have : (j : Rat) ≤ 0 := by rw [← Rat.intCast_zero]; exact Rat.intCast_le_intCast.mpr n
    have w : 0 ≤ (-(j : Rat)) * g := Rat.mul_nonneg (by grind) (by grind)
    grind
  have le1 : h ≤ g := by
    have : (1 : Rat) ≤ (k : Rat) := Rat.intCast_le_intCast (a := 1).mpr (by omega)
    have w : 0 ≤ ((k : Rat) - 1) * h := Rat.mul_nonneg (by grind) (by grind)
    grind
  have le2 : g ≤ h := by
    have : (1 : Rat) ≤ (j : Rat) := Rat.intCast_le_intCast (a := 1).mpr (by omega)
    have w : 0 ≤ ((j : Rat) - 1) * g := Rat.mul_nonneg (by grind) (by grind)
    grind
  exact Std.le_antisymm le2 le1
/-- one step: a number more -/
def gcdQ (s n : Rat) : Rat := Rat.divInt (Int.gcd (s.num * (n.den : Int)) (n.num * (s.den : Int)) : Int) ((s.den : Int) * (n.den : Int))
theorem bez_nat (m n : Nat) : ∃ u v : Int, ((Nat.gcd m n : Nat) : Int) = m * u + n * v := by
  induction m, n using Nat.gcd.induction with
  | H0 n => exact ⟨0, 1, by simp⟩
  | H1 m n hm ih =>
    obtain ⟨u, v, h⟩ := ih
    rw [Nat.gcd_rec]
    have e : ((n % m : Nat) : Int) = n - m * ((n / m : Nat) : Int) := by
      have := Nat.div_add_mod n m
      have : ((m * (n / m) + n % m : Nat) : Int) = n := by rw [this]
      rw [Int.natCast_add, Int.natCast_mul] at this
      omega
    rw [e] at h
    exact ⟨v - ((n / m : Nat) : Int) * u, u, by rw [h]; grind⟩
theorem bez (a b : Int) : ∃ u v : Int, (Int.gcd a b : Int) = a * u + b * v := by
  obtain ⟨u, v, h⟩ := bez_nat a.natAbs b.natAbs
  have sg : ∀ c : Int, ∃ e : Int, (c.natAbs : Int) = c * e := fun c => by
    rcases Int.natAbs_eq c with h | h
    · exact ⟨1, by omega⟩
    · exact ⟨-1, by omega⟩
  obtain ⟨e, he⟩ := sg a
  obtain ⟨f, hf⟩ := sg b
  rw [he, hf] at h
  exact ⟨e * u, f * v, by show ((Nat.gcd a.natAbs b.natAbs : Nat) : Int) = _; rw [h]; grind⟩
theorem den_ne (s : Rat) : (s.den : Rat) ≠ 0 := fun h => by
  have := s.den_pos
  have e : ((s.den : Int) : Rat) = ((0 : Int) : Rat) := h
  have := Rat.intCast_inj.mp e
  omega
theorem num_eq (s : Rat) : (s.num : Rat) = s * ((s.den : Int) : Rat) := by
  have h := Rat.num_divInt_den s
  rw [Rat.divInt_eq_div] at h
  have h2 := Rat.div_mul_cancel (a := (s.num : Rat)) (den_ne s)
  rw [show ((s.num : Rat) / (s.den : Rat)) = s from h] at h2
  exact h2.symm
theorem gcdQ_eq (s n : Rat) : gcdQ s n * (((s.den : Int) : Rat) * ((n.den : Int) : Rat)) = ((Int.gcd (s.num * (n.den : Int)) (n.num * (s.den : Int)) : Int) : Rat) := by
  unfold gcdQ
  rw [Rat.divInt_eq_div, ← Rat.intCast_mul]
  refine Rat.div_mul_cancel fun e => ?_
  have e : (((s.den : Int) * (n.den : Int) : Int) : Rat) = ((0 : Int) : Rat) := e
  have := Rat.intCast_inj.mp e
  have a := s.den_pos
  have b := n.den_pos
  have : 0 < (s.den : Int) * (n.den : Int) := Int.mul_pos (by omega) (by omega)
  omega
theorem gcdQ_step {p : Rat → Prop} {s n : Rat} (h : IsG p s) : IsG (fun x => p x ∨ x = n) (gcdQ s n) := by
  have ds := den_ne s
  have dn := den_ne n
  have e := gcdQ_eq s n
  have es := num_eq s
  have en := num_eq n
  have dd : (((s.den : Int) : Rat) * ((n.den : Int) : Rat)) ≠ 0 := fun z => by
    rcases Rat.mul_eq_zero.mp z with z | z
    · exact ds z
    · exact dn z
  have hs : ∃ k : Int, s = (k : Rat) * gcdQ s n := by
    obtain ⟨k, hk⟩ := Int.gcd_dvd_left (s.num * (n.den : Int)) (n.num * (s.den : Int))
    refine ⟨k, ?_⟩
    have hk' : ((s.num * (n.den : Int) : Int) : Rat) = ((Int.gcd (s.num * (n.den : Int)) (n.num * (s.den : Int)) : Int) : Rat) * (k : Rat) := by rw [← Rat.intCast_mul, ← hk]
    rw [Rat.intCast_mul, es, ← e] at hk'
    have : (s - (k : Rat) * gcdQ s n) * (((s.den : Int) : Rat) * ((n.den : Int) : Rat)) = 0 := by grind
    rcases Rat.mul_eq_zero.mp this with z | z
    · grind
    · exact absurd z dd
  have hn : ∃ k : Int, n = (k : Rat) * gcdQ s n := by
    obtain ⟨k, hk⟩ := Int.gcd_dvd_right (s.num * (n.den : Int)) (n.num * (s.den : Int))
    refine ⟨k, ?_⟩
    have hk' : ((n.num * (s.den : Int) : Int) : Rat) = ((Int.gcd (s.num * (n.den : Int)) (n.num * (s.den : Int)) : Int) : Rat) * (k : Rat) := by rw [← Rat.intCast_mul, ← hk]
    rw [Rat.intCast_mul, en, ← e] at hk'
    have : (n - (k : Rat) * gcdQ s n) * (((s.den : Int) : Rat) * ((n.den : Int) : Rat)) = 0 := by grind
    rcases Rat.mul_eq_zero.mp this with z | z
    · grind
    · exact absurd z dd
  refine ⟨?_, ?_, ?_⟩
  · refine Rat.not_lt.mp fun z => ?_
    have p1 : (0 : Rat) < ((s.den : Int) : Rat) := by rw [← Rat.intCast_zero]; exact Rat.intCast_lt_intCast.mpr (by have := s.den_pos; omega)
    have p2 : (0 : Rat) < ((n.den : Int) : Rat) := by rw [← Rat.intCast_zero]; exact Rat.intCast_lt_intCast.mpr (by have := n.den_pos; omega)
    have p3 := Rat.mul_pos p1 p2
    have p4 : (0 : Rat) < (-gcdQ s n) * (((s.den : Int) : Rat) * ((n.den : Int) : Rat)) := Rat.mul_pos (by grind) p3
    have p5 : (0 : Rat) ≤ ((Int.gcd (s.num * (n.den : Int)) (n.num * (s.den : Int)) : Int) : Rat) := by rw [← Rat.intCast_zero]; exact Rat.intCast_le_intCast.mpr (by omega)
    grind
  · obtain ⟨u, v, huv⟩ : ∃ u v : Int, (Int.gcd (s.num * (n.den : Int)) (n.num * (s.den : Int)) : Int) = s.num * (n.den : Int) * u + n.num * (s.den : Int) * v := by
      exact bez _ _
    have ee : gcdQ s n = (u : Rat) * s + (v : Rat) * n := by
      have h2 : ((Int.gcd (s.num * (n.den : Int)) (n.num * (s.den : Int)) : Int) : Rat) = s * ((s.den : Int) : Rat) * ((n.den : Int) : Rat) * (u : Rat) + n * ((n.den : Int) : Rat) * ((s.den : Int) : Rat) * (v : Rat) := by
        rw [huv, Rat.intCast_add, Rat.intCast_mul, Rat.intCast_mul, Rat.intCast_mul, Rat.intCast_mul, es, en]
      rw [← e] at h2
      have : (gcdQ s n - ((u : Rat) * s + (v : Rat) * n)) * (((s.den : Int) : Rat) * ((n.den : Int) : Rat)) = 0 := by grind
      rcases Rat.mul_eq_zero.mp this with z | z
      · grind
      · exact absurd z dd
    rw [ee]
    exact .add (.smul u (h.span.mono fun x m => .mem (Or.inl m))) (.smul v (.mem (Or.inr rfl)))
  · intro x hx
    rcases hx with hx | rfl
    · obtain ⟨k, rfl⟩ := h.dvd x hx
      obtain ⟨j, hj⟩ := hs
      refine ⟨k * j, ?_⟩
      rw [Rat.intCast_mul, Rat.mul_assoc, ← hj]
    · exact hn
theorem isG_nil : IsG (fun _ => False) 0 := ⟨by grind, .zero, fun _ h => h.elim⟩
def gcds (qs : List Rat) : Rat := qs.foldl gcdQ 0
theorem IsG.congr {p q : Rat → Prop} {g : Rat} (h : IsG p g) (e : ∀ x, p x ↔ q x) : IsG q g := by
  rw [show q = p from funext fun x => propext (e x).symm]
  exact h
theorem isG_fold : ∀ (qs : List Rat) (p : Rat → Prop) (s : Rat), IsG p s → IsG (fun x => p x ∨ x ∈ qs) (qs.foldl gcdQ s)
  | [], p, s, h => h.congr fun x => by simp
  | q :: qs, p, s, h => (isG_fold qs _ _ (gcdQ_step (n := q) h)).congr fun x => by simp [or_assoc]
theorem isG_gcds (qs : List Rat) : IsG (· ∈ qs) (gcds qs) := (isG_fold qs _ 0 isG_nil).congr fun x => by simp
theorem gcds_uniq {ps qs : List Rat} (h1 : ∀ x ∈ ps, Spn (· ∈ qs) x) (h2 : ∀ x ∈ qs, Spn (· ∈ ps) x) : gcds ps = gcds qs := (isG_gcds ps).uniq (isG_gcds qs) h1 h2
theorem gcds_rev (qs : List Rat) : gcds qs.reverse = gcds qs := gcds_uniq (fun x h => .mem (by simpa using h)) fun x h => .mem (by simpa using h)
theorem gcds_two (ps qs : List Rat) : gcds [gcds ps, gcds qs] = gcds (ps ++ qs) := by
  refine gcds_uniq (fun x h => ?_) (fun x h => ?_)
  · simp only [List.mem_cons, List.not_mem_nil, or_false] at h
    rcases h with rfl | rfl
    · exact (isG_gcds ps).span.mono fun y m => .mem (by simp [show y ∈ ps from m])
    · exact (isG_gcds qs).span.mono fun y m => .mem (by simp [show y ∈ qs from m])
  · rcases List.mem_append.mp h with h | h
    · obtain ⟨k, rfl⟩ := (isG_gcds ps).dvd x h
      exact .smul k (.mem (by simp))
    · obtain ⟨k, rfl⟩ := (isG_gcds qs).dvd x h
      exact .smul k (.mem (by simp))
theorem gcd_lt {a b : Int} {n : Nat} (h1 : a.natAbs < 2 ^ n) (h2 : b.natAbs < 2 ^ n) : (Int.gcd a b : Int).natAbs < 2 ^ n := by
  show (Nat.gcd a.natAbs b.natAbs) < 2 ^ n
  by_cases z : a.natAbs = 0
  · rw [z, Nat.gcd_zero_left]; exact h2
  · exact Nat.lt_of_le_of_lt (Nat.gcd_le_left _ (by omega)) h1
theorem sz_gcdQ {n m : Nat} {s q : Rat} (h : Sz n s) (h' : Sz m q) : Sz (n + m) (gcdQ s q) := by
  unfold gcdQ
  refine sz_di ?_ (gcd_lt ?_ ?_) ?_
  · have a := s.den_pos
    have b := q.den_pos
    have : 0 < (s.den : Int) * (q.den : Int) := Int.mul_pos (by omega) (by omega)
    omega
  · rw [Int.natAbs_mul]; exact mul_lt2 h.1 h'.2
  · rw [Int.natAbs_mul, Nat.add_comm]; exact mul_lt2 h'.1 h.2
  · rw [Int.natAbs_mul]; exact mul_lt2 h.2 h'.2
theorem sz_fold {m : Nat} : ∀ (qs : List Rat) (n : Nat) (s : Rat), Sz n s → (∀ q ∈ qs, Sz m q) → Sz (n + qs.length * m) (qs.foldl gcdQ s)
  | [], n, s, h, _ => by simpa using h
  | q :: qs, n, s, h, hq => by
    have := sz_fold qs (n + m) (gcdQ s q) (sz_gcdQ h (hq q (by simp))) fun x hx => hq x (by simp [hx])
    rw [show n + (q :: qs).length * m = n + m + qs.length * m from by rw [List.length_cons, Nat.add_mul]; omega]
    exact this
theorem sz_gcds {m : Nat} {qs : List Rat} (h : ∀ q ∈ qs, Sz m q) : Sz (1 + qs.length * m) (gcds qs) := sz_fold qs 1 0 ⟨by decide +kernel, by decide +kernel⟩ h
theorem gcds_take {qs : List Rat} {i : Nat} {q : Rat} (h : qs[i]? = some q) : gcds (qs.take (i + 1)) = gcdQ (gcds (qs.take i)) q := by
  rw [take_at h]
  unfold gcds
  rw [List.foldl_append]
  rfl

end AZ
namespace AZ
open PySem L2
/-! ## ways that meet again: values of expressions, of tests, of branches -/
theorem via {te : TE} {σ : L2.St} {H : Hp} {Q : VK} (P : V → Hp → Prop) (h : ∀ W : VK, (∀ v H', P v H' → W v H') → te σ H W) (k : ∀ v H', P v H' → Q v H') : te σ H Q := h Q k
theorem viaT {tt : TT} {σ : L2.St} {H : Hp} {Q : Bool → Hp → Prop} (c : Bool) (h : ∀ W : Bool → Hp → Prop, (∀ H', Same H H' → W c H') → tt σ H W) (k : ∀ H', Same H H' → Q c H') : tt σ H Q := h Q k
theorem if_two {tc : TT} {tb te u : TS} {D : Ends} {σ : L2.St} {H : Hp} (I : L2.St → Hp → Prop) (h : ∀ N : L2.St → Hp → Prop, (∀ σ' H', I σ' H' → N σ' H') → tc σ H (fun b H1 => if b = true then tb { D with nx := N } σ H1 else te { D with nx := N } σ H1)) (k : ∀ σ' H', I σ' H' → u D σ' H') : tSeq (tIfS tc tb te) u D σ H := h (u D) k
theorem iteF' {c : Bool} {A B : Prop} (hc : c = false) (h : B) : if c = true then A else B := by rw [hc]; exact iteF h
theorem if_via {tc : TT} {tb te u : TS} {D : Ends} {σ : L2.St} {H : Hp} (c : Bool) (h : ∀ W : Bool → Hp → Prop, (∀ H', Same H H' → W c H') → tc σ H W) (k : ∀ H', Same H H' → if c = true then tb { D with nx := u D } σ H' else te { D with nx := u D } σ H') : tSeq (tIfS tc tb te) u D σ H := h _ k
theorem orv {t1 t2 : TE} {σ : L2.St} {H : Hp} {W : VK} (b1 : Bool) (h1 : ∀ Q : VK, (∀ H', Same H H' → Q (.bl b1) H') → t1 σ H Q) (h2 : ∀ H', Same H H' → b1 = false → t2 σ H' W) (h3 : ∀ H', Same H H' → b1 = true → W (.bl true) H') : tOrV t1 t2 σ H W :=
  h1 _ fun H' s => ⟨b1, rfl, by
    cases b1
    · exact iteF (h2 _ s rfl)
    · exact iteT (h3 _ s rfl)⟩
theorem viaL {tc : TT} {tb te u : TS} {D : Ends} {σ : L2.St} {H : Hp} {c : Bool} (h : ∀ W : Bool → Hp → Prop, (∀ H', W c H') → tc σ H W) (k : ∀ H', if c = true then tb { D with nx := u D } σ H' else te { D with nx := u D } σ H') : tSeq (tIfS tc tb te) u D σ H := h _ k

end AZ
namespace AZ
open PySem L2
/-! ## lists of numbers, where nothing is refused -/
def Good' (C : Addr) (H : Hp) (v : V) (qs : List Rat) : Prop := ∃ a b xs, v = .ref a ∧ H a = some (sq b xs) ∧ Nums C H xs qs ∧ xs.length ≤ 1000
def spAll (C : Addr) : Sp := fun vs H Q _ => ∃ v qs, vs = [v] ∧ Good' C H v qs ∧ ∀ l ys H', Same H H' → H l = none → H' l = some (.lst ys) → Rats C H' ys qs → Q (.ref l) H'
/-- the greatest, the least one of some numbers -/
def endOf (g : Bool) : Rat → List Rat → Rat
  | q, [] => q
  | q, x :: r => endOf g (if (if g = true then decide (x > q) else decide (x < q)) = true then x else q) r
theorem endOf_snoc {g : Bool} {x : Rat} : ∀ {q : Rat} {r : List Rat}, endOf g q (r ++ [x]) = (if (if g = true then decide (x > endOf g q r) else decide (x < endOf g q r)) = true then x else endOf g q r)
  | _, [] => rfl
  | q, y :: r => by
    show endOf g _ (r ++ [x]) = _
    rw [endOf_snoc]
    rfl
theorem endOf_sz {g : Bool} {n : Nat} : ∀ {q : Rat} {r : List Rat}, Sz n q → (∀ x ∈ r, Sz n x) → Sz n (endOf g q r)
  | _, [], h, _ => h
  | q, x :: r, h, hr => by
    refine endOf_sz (r := r) ?_ fun y hy => hr y (by simp [hy])
    generalize (if g = true then decide (x > q) else decide (x < q)) = c
    cases c
    · exact h
    · exact hr x (by simp)
def spEnd (C : Addr) (g : Bool) : Sp := fun vs H Q _ => ∃ v q qs, vs = [v] ∧ Good' C H v (q :: qs) ∧ (∀ x ∈ q :: qs, Sz 2000 x) ∧ ∀ p H', Same H H' → IsRat C H' p (endOf g q qs) → Q (.ref p) H'
def spBound (C : Addr) : Sp := fun vs H Q _ => ∃ v g q qs, vs = [v, .bl g] ∧ Good' C H v (q :: qs) ∧ (∀ x ∈ q :: qs, Sz 2000 x) ∧ ∀ p H', Same H H' → IsRat C H' p (endOf g q qs) → Q (.ref p) H'
section
variable {P : Program} {w : World} {K : PySem.W.Frag} {mg : Str → Option Value} {base : Heap} {d : Ad}
theorem kit_lst (T : Tx K mg d) : PySem.W.kitAny K (.type "list") [.type "list", .type "tuple"] = some true := by
  have h1 := T.i_list_is_list
  simp [PySem.W.kitAny, h1]
theorem kit_tup (T : Tx K mg d) : PySem.W.kitAny K (.type "tuple") [.type "list", .type "tuple"] = some true := by
  have h1 := T.i_tuple_is_list
  have h2 := T.i_tuple_is_tuple
  simp [PySem.W.kitAny, h1, h2]
theorem sq_ty (T : Tx K mg d) {H : Hp} {a : Addr} {b : Bool} {xs : List V} (h : H a = some (sq b xs)) : ∃ t, TyX K H (.ref a) (.type t) ∧ PySem.W.kitAny K (.type t) [.type "list", .type "tuple"] = some true := by
  cases b with
  | false => exact ⟨_, .base (.lst h), kit_lst T⟩
  | true => exact ⟨_, .base (.tup h), kit_tup T⟩
theorem G_all_numbers (T : Tx K mg d) : FnR P w K mg base CX0 5 d.all_numbers (spAll d.Ratio) := by
  have G_Ratio_of : FnR P w K mg base CX0 4 d.Ratio_of (spOf d.Ratio) := G_Ratio_of T
  obtain ⟨fd, F⟩ := T.F_all_numbers
  refine FnR.imp (FnOk.raw (F.ok sc_all_numbers (k := 4) (sp := spAll d.Ratio) (fun vs H Q E h => ?_) (fun cdv A outer s H vs Q E hr h => ?_)) (F.binds fun _ _ _ _ _ _ us hl => match us, hl with | [_], _ => rfl) .nil) fun vs H Q E h => by rw [List.append_nil]; exact h
  · obtain ⟨v, qs, rfl, _⟩ := h
    rfl
  · obtain ⟨v, qs, rfl, ⟨a, b, xs, rfl, ha, hn, hlen⟩, k⟩ := h
    -- slots: 0 values, 1 value
    refine ⟨_, (pss_cons (ps_if (pt_not (pt_val (pe_callB uIsi (by rfl) T.n_isinstance (by decide +kernel) (pa_cons (pv 0) (pa_cons (pe_tup (pa_cons (pe_bltn (v := .ty "list") (by rfl) T.n_list (by decide +kernel) rfl) (pa_cons (pe_bltn (v := .ty "tuple") (by rfl) T.n_tuple (by decide +kernel) rfl) pa_nil))) pa_nil))))) pss_never pss_nil)
      (pss_one (ps_ret (pe_lc (own := [("value", 1)]) (g := gName 1) (by rfl) sc_all_numbers.nd (pi_seq (pv 0)) (blkOk_by (own := [("value", 1)]) (N := ["values", "value"]) (sc := defScope s_all_numbers) (by decide +kernel)) (fun _ _ _ _ _ => pg_name (i := 1) sc_all_numbers.nd rfl (Or.inl rfl)) (fun _ _ _ _ _ => pts_nil) (fun _ _ _ _ _ => (pe_smeth (pe_glob (v := .ref _) rfl T.m_Ratio rfl) T.s_Ratio_of G_Ratio_of (hr.mono (by decide)) pass0 (pa_cons (pv 1) pa_nil))))))), ?_⟩
    have clss : Paired ClsV [V.ty "list", .ty "tuple"] [Value.type "list", .type "tuple"] := .cons (.ty _) (.cons (.ty _) .nil)
    obtain ⟨t, ty, kt⟩ := sq_ty T ha
    refine ⟨_, rfl, (by show 2 ≤ sizeLine; decide), fun tp htp => Or.inr ⟨_, tp, _, _, _, true, rfl, upd_same, clss, tyX_ext (ExtN.same (sameNew htp)) ty, kt, true, rfl, iteF ?_⟩⟩
    have e1 : Same H _ := sameNew (o := HO.tup [V.ty "list", .ty "tuple"]) htp
    generalize upd H tp (HO.tup [V.ty "list", .ty "tuple"]) = H1 at e1 ⊢
    try dsimp only [tNext, gName]
    have hn1 := hn.same e1
    refine lc_seq (b := b) (xs := xs) (fun D i H' => Same H1 H' ∧ H1 D = none ∧ ∃ zs, H' D = some (.lst zs) ∧ Rats d.Ratio H' zs (qs.take i) ∧ zs.length = i) (fun R q => ⟨_, rfl, q⟩) (e1 _ _ ha) (fun D hD => ⟨sameNew hD, hD, [], upd_same, .nil, rfl⟩)
      (fun D i H' _ h => h.1 _ _ (e1 _ _ ha)) (fun D i x H' hx h => ?_) (fun D H' h => ?_)
    · obtain ⟨e2, hD, zs, hz, hR, hi⟩ := h
      have hlt : i < xs.length := (List.getElem?_eq_some_iff.mp hx).1
      obtain ⟨q, hq, nx⟩ := pd_at hn1 hx
      refine ⟨rfl, rfl, ⟨_, rfl, ⟨x, q, rfl, nx.same e2, fun p H4 e4 hp => ?_⟩⟩⟩
      have up4 : Up D H4 (upd H4 D (.lst (zs ++ [.ref p]))) := Up.put (e4 _ _ hz)
      exact ⟨zs, e4 _ _ hz, by rw [hi]; exact Nat.lt_of_lt_of_le (Nat.lt_of_lt_of_le hlt hlen) (by decide), same_at (e2.trans e4) hD, hD, _, upd_same, by rw [take_at hq]; exact Rats.app (Rats.up up4 (hR.same e4)) (hp.up up4), by simp [hi]⟩
    · obtain ⟨e2, hD, zs, hz, hR, _⟩ := h
      refine k D zs H' (e1.trans e2) (e1.free hD) hz ?_
      rw [pd_len hn, List.take_length] at hR
      exact hR
theorem G_bound_of (T : Tx K mg d) : FnR P w K mg base CX0 6 d.bound_of (spBound d.Ratio) := by
  have G_all_numbers := G_all_numbers (P := P) (w := w) (base := base) T
  have G_gt : FnR P w K mg base CX0 5 d.Ratio___gt__ (spCmp d.Ratio fun x y => decide (x > y)) := G_Ratio___gt__ T
  have G_lt : FnR P w K mg base CX0 5 d.Ratio___lt__ (spCmp d.Ratio fun x y => decide (x < y)) := G_Ratio___lt__ T
  obtain ⟨fd, F⟩ := T.F_bound_of
  refine FnR.imp (FnOk.raw (F.ok sc_bound_of (k := 5) (sp := spBound d.Ratio) (fun vs H Q E h => ?_) (fun cdv A outer s H vs Q E hr h => ?_)) (F.binds fun _ _ _ _ _ _ us hl => match us, hl with | [_, _], _ => rfl) .nil) fun vs H Q E h => by rw [List.append_nil]; exact h
  · obtain ⟨v, g, q, qs, rfl, _⟩ := h
    rfl
  · obtain ⟨v, g, q0, qs, rfl, hg, hsz, k⟩ := h
    -- slots: 0 values, 1 is_greatest, 2 numbers, 3 bound, 4 number
    refine ⟨_, (pss_cons (ps_set (i := 2) sc_bound_of.nd rfl (Or.inl rfl) (pe_fnR G_all_numbers (hr.mono (by decide)) T.k_all_numbers T.m_all_numbers pass0 (pa_cons (pv 0) pa_nil)))
      (pss_cons (ps_if (pt_not (pt_truth (pv 2) (by intro _; rfl))) pss_never pss_nil)
      (pss_cons (ps_set (i := 3) sc_bound_of.nd rfl (Or.inl rfl) (pe_ix ix_seq (pv 2) pe_int (fun _ _ => rfl)))
      (pss_cons (ps_for PassesOwn.never rfl (pi_list (pe_slice sl_list (pv 2) (po_some pe_int) po_none)) (pg_name (i := 4) sc_bound_of.nd rfl (Or.inl rfl)) (pss_one (ps_if (pt_ifE (pt_val (pv 1)) (pt_cmpR uGt (pv 4) (pv 3) (nomark _)) (pt_cmpR uLt (pv 4) (pv 3) (nomark _))) (pss_one (ps_set (i := 3) sc_bound_of.nd rfl (Or.inl rfl) (pv 4))) pss_nil)))
      (pss_one (ps_ret (pv 3))))))), ?_⟩
    refine ⟨_, rfl, ⟨v, q0 :: qs, rfl, hg, fun l ys H1 e1 _ hl hR => ?_⟩⟩
    try dsimp only [tNext, gName]
    obtain ⟨y0, ys, rfl⟩ : ∃ y0 r, ys = y0 :: r := by
      cases hR with
      | cons _ _ => exact ⟨_, _, rfl⟩
    obtain ⟨p0, rfl, r0⟩ := (show ∃ p, y0 = V.ref p ∧ IsRat d.Ratio H1 p q0 from by cases hR with | cons h _ => exact h)
    replace hR : Rats d.Ratio H1 ys qs := by cases hR with | cons _ h => exact h
    refine ⟨_, rfl, true, Or.inl ⟨_, SqL.of hl, rfl⟩, iteF ?_⟩
    try dsimp only [tNext, gName]
    refine ⟨_, rfl, Or.inl ⟨l, _, 0, _, rfl, rfl, SqL.of hl, at_of (j := 0) rfl rfl, ?_⟩⟩
    try dsimp only [tNext, gName]
    refine ⟨_, rfl, _, rfl, l, _, rfl, SqL.of hl, fun c hc => ⟨c, rfl, ⟨_, SqL.of upd_same⟩, ?_⟩⟩
    have e2 := sameNew (o := HO.lst (cutV (V.ref p0 :: ys) (some 1) none)) hc
    have hc2 : upd H1 c (HO.lst (cutV (V.ref p0 :: ys) (some 1) none)) c = some (.lst ys) := by rw [upd_same]; exact congrArg (fun z => some (HO.lst z)) (cutV_from (V.ref p0 :: ys) 1)
    generalize upd H1 c (HO.lst (cutV (V.ref p0 :: ys) (some 1) none)) = H2 at e2 hc2 ⊢
    refine for_list (xs := ys) (fun i σ' H' => ∃ pb z4, σ' = [some v, some (.bl g), some (.ref l), some (.ref pb), z4] ∧ Same H2 H' ∧ IsRat d.Ratio H' pb (endOf g q0 (qs.take i))) ⟨p0, none, rfl, Same.refl _, r0.same e2⟩
      (fun i σ' H' _ h => by obtain ⟨_, _, _, e3, _⟩ := h; exact SqL.of (e3 _ _ hc2)) (fun i x σ' H' hx h => ?_) (fun σ' H' h => ?_)
    · obtain ⟨pb, z4, rfl, e3, rb⟩ := h
      obtain ⟨q, hq, pn, rfl, rn⟩ := pd_at (hR.same (e2.trans e3)) hx
      have zq : Sz 2000 q := hsz q (by simp [List.mem_of_getElem? hq])
      have zb : Sz 2000 (endOf g q0 (qs.take i)) := endOf_sz (hsz q0 (by simp)) fun x h => hsz x (by simp [List.mem_of_mem_take h])
      have mo := endOf_snoc (g := g) (x := q) (q := q0) (r := qs.take i)
      rw [← take_at hq] at mo
      generalize endOf g q0 (qs.take i) = qb at rb zb mo
      dsimp only [gName]
      cases g with
      | true =>
        refine ⟨_, rfl, true, rfl, iteT ⟨_, rfl, _, rfl, Or.inr (oc T.q_Ratio_gt G_gt (hr.mono (by decide)) rn (num_r rb) zq zb rfl fun H4 e4 => ⟨_, rfl, ite2 (fun hb => ?_) (fun hb => ?_)⟩)⟩⟩
        · rw [if_pos rfl, if_pos hb] at mo
          exact ⟨_, rfl, pn, _, rfl, e3.trans e4, by rw [mo]; exact rn.same e4⟩
        · rw [if_pos rfl, if_neg hb] at mo
          exact ⟨pb, _, rfl, e3.trans e4, by rw [mo]; exact rb.same e4⟩
      | false =>
        refine ⟨_, rfl, false, rfl, iteF ⟨_, rfl, _, rfl, Or.inr (oc T.q_Ratio_lt G_lt (hr.mono (by decide)) rn (num_r rb) zq zb rfl fun H4 e4 => ⟨_, rfl, ite2 (fun hb => ?_) (fun hb => ?_)⟩)⟩⟩
        · rw [if_neg Bool.false_ne_true, if_pos hb] at mo
          exact ⟨_, rfl, pn, _, rfl, e3.trans e4, by rw [mo]; exact rn.same e4⟩
        · rw [if_neg Bool.false_ne_true, if_neg hb] at mo
          exact ⟨pb, _, rfl, e3.trans e4, by rw [mo]; exact rb.same e4⟩
    · obtain ⟨pb, z4, rfl, e3, rb⟩ := h
      rw [pd_len hR, List.take_length] at rb
      exact ⟨_, rfl, k pb H' ((e1.trans e2).trans e3) rb⟩
theorem G_Ratio_highest (T : Tx K mg d) : FnR P w K mg base CX0 7 d.Ratio_highest (spEnd d.Ratio true) := by
  have G_bound_of := G_bound_of (P := P) (w := w) (base := base) T
  obtain ⟨fd, F⟩ := T.F_Ratio_highest
  refine FnR.imp (FnOk.raw (F.ok sc_Ratio_highest (k := 6) (sp := spEnd d.Ratio true) (fun vs H Q E h => ?_) (fun cdv A outer s H vs Q E hr h => ?_)) (F.binds fun _ _ _ _ _ _ us hl => match us, hl with | [_], _ => rfl) .nil) fun vs H Q E h => by rw [List.append_nil]; exact h
  · obtain ⟨v, q, qs, rfl, _⟩ := h
    rfl
  · obtain ⟨v, q, qs, rfl, hg, hz, k⟩ := h
    -- slots: 0 values
    refine ⟨_, (pss_one (ps_ret (pe_fnR G_bound_of (hr.mono (by decide)) T.k_bound_of T.m_bound_of pass0 (pa_cons (pv 0) (pa_cons pe_bl pa_nil))))), ?_⟩
    exact ⟨_, rfl, v, true, q, qs, rfl, hg, hz, k⟩
theorem G_Ratio_lowest (T : Tx K mg d) : FnR P w K mg base CX0 7 d.Ratio_lowest (spEnd d.Ratio false) := by
  have G_bound_of := G_bound_of (P := P) (w := w) (base := base) T
  obtain ⟨fd, F⟩ := T.F_Ratio_lowest
  refine FnR.imp (FnOk.raw (F.ok sc_Ratio_lowest (k := 6) (sp := spEnd d.Ratio false) (fun vs H Q E h => ?_) (fun cdv A outer s H vs Q E hr h => ?_)) (F.binds fun _ _ _ _ _ _ us hl => match us, hl with | [_], _ => rfl) .nil) fun vs H Q E h => by rw [List.append_nil]; exact h
  · obtain ⟨v, q, qs, rfl, _⟩ := h
    rfl
  · obtain ⟨v, q, qs, rfl, hg, hz, k⟩ := h
    -- slots: 0 values
    refine ⟨_, (pss_one (ps_ret (pe_fnR G_bound_of (hr.mono (by decide)) T.k_bound_of T.m_bound_of pass0 (pa_cons (pv 0) (pa_cons pe_bl pa_nil))))), ?_⟩
    exact ⟨_, rfl, v, false, q, qs, rfl, hg, hz, k⟩
end

end AZ
namespace AZ
open PySem L2
/-! ## zooms: places and marks -/
abbrev Mk := Rat × Bool × Bool
/-- a mark as it is kept, and as it is handed -/
def MkAt (C : Addr) (H : Hp) (v : V) (m : Mk) : Prop := ∃ t r, v = .ref t ∧ H t = some (.tup [.ref r, .bl m.2.1, .bl m.2.2]) ∧ IsRat C H r m.1
def MkIn (C : Addr) (H : Hp) (v : V) (m : Mk) : Prop := ∃ t x, v = .ref t ∧ H t = some (.tup [x, .bl m.2.1, .bl m.2.2]) ∧ Num C H x m.1
theorem MkAt.same {C : Addr} {H H' : Hp} {v : V} {m : Mk} (h : MkAt C H v m) (e : Same H H') : MkAt C H' v m := let ⟨t, r, a, b, c⟩ := h; ⟨t, r, a, e _ _ b, c.same e⟩
theorem MkIn.same {C : Addr} {H H' : Hp} {v : V} {m : Mk} (h : MkIn C H v m) (e : Same H H') : MkIn C H' v m := let ⟨t, r, a, b, c⟩ := h; ⟨t, r, a, e _ _ b, c.same e⟩
theorem MkAt.up {C p : Addr} {H H' : Hp} {v : V} {m : Mk} (h : MkAt C H v m) (e : Up p H H') : MkAt C H' v m := let ⟨t, r, a, b, c⟩ := h; ⟨t, r, a, e.tup b, c.up e⟩
theorem MkAt.in {C : Addr} {H : Hp} {v : V} {m : Mk} (h : MkAt C H v m) : MkIn C H v m := let ⟨t, r, a, b, c⟩ := h; ⟨t, _, a, b, num_r c⟩
abbrev Mks (C : Addr) (H : Hp) : List V → List Mk → Prop := Paired (MkAt C H)
abbrev MksIn (C : Addr) (H : Hp) : List V → List Mk → Prop := Paired (MkIn C H)
theorem pd_imp {α β : Type} {R S : α → β → Prop} (f : ∀ {a b}, R a b → S a b) : ∀ {xs : List α} {ys : List β}, Paired R xs ys → Paired S xs ys
  | _, _, .nil => .nil
  | _, _, .cons a r => .cons (f a) (pd_imp f r)
theorem Mks.same {C : Addr} {H H' : Hp} {xs : List V} {ms : List Mk} (h : Mks C H xs ms) (e : Same H H') : Mks C H' xs ms := pd_imp (fun z => z.same e) h
theorem MksIn.same {C : Addr} {H H' : Hp} {xs : List V} {ms : List Mk} (h : MksIn C H xs ms) (e : Same H H') : MksIn C H' xs ms := pd_imp (fun z => z.same e) h
def spNumB (K : PySem.W.Frag) (C : Addr) : Sp := fun vs H Q _ => ∃ x, vs = [x] ∧ ((∃ q, Num C H x q ∧ Q (.bl true) H) ∨ ∃ e, Odd K C H x e ∧ Q (.bl false) H)
/-- a test of a number against 0 -/
def spTest0 (C : Addr) (f : Rat → Bool) : Sp := fun vs H Q _ => ∃ x q, vs = [x] ∧ Num C H x q ∧ Sz 2000 q ∧ ∀ H', Same H H' → Q (.bl (f q)) H'
def spTestX (K : PySem.W.Frag) (C : Addr) : Sp := fun vs H Q _ => ∃ x e, vs = [x] ∧ Odd K C H x e ∧ Q (.bl false) H
section
variable {P : Program} {w : World} {K : PySem.W.Frag} {mg : Str → Option Value} {base : Heap} {d : Ad}
theorem G_is_number (T : Tx K mg d) : FnR P w K mg base CX0 2 d.is_number (spNumB K d.Ratio) := by
  have G_is_integer : FnR P w K mg base CX0 1 d.is_integer (spIsInt K) := G_is_integer T
  obtain ⟨fd, F⟩ := T.F_is_number
  refine FnR.imp (FnOk.raw (F.ok sc_is_number (k := 1) (sp := spNumB K d.Ratio) (fun vs H Q E h => ?_) (fun cdv A outer s H vs Q E hr h => ?_)) (F.binds fun _ _ _ _ _ _ us hl => match us, hl with | [_], _ => rfl) .nil) fun vs H Q E h => by rw [List.append_nil]; exact h
  · obtain ⟨x, rfl, _⟩ := h
    rfl
  · obtain ⟨v, rfl, h⟩ := h
    -- slots: 0 value
    refine ⟨_, (pss_one (ps_ret (pe_or (pe_fnR G_is_integer (hr.mono (by decide)) T.k_is_integer T.m_is_integer pass0 (pa_cons (pv 0) pa_nil)) (pe_one (pe_callB uIsi (by rfl) T.n_isinstance (by decide +kernel) (pa_cons (pv 0) (pa_cons (pe_glob (v := .ref _) rfl T.m_Ratio rfl) pa_nil))))))), ?_⟩
    rcases h with ⟨q, hv, k⟩ | ⟨e, od, k⟩
    · rcases hv with ⟨i, rfl, rfl⟩ | ⟨a, rfl, dx, ha⟩
      · exact ⟨_, rfl, ⟨_, _, rfl, isI_int T, true, rfl, iteT k⟩⟩
      · exact ⟨_, rfl, ⟨_, _, rfl, isI_rat T ⟨dx, ha⟩, false, rfl, iteF ⟨_, rfl, Or.inl ⟨_, _, _, _, true, rfl, .own _, T.y_Ratio.ty T.c_Ratio ha, T.i_Ratio_is_Ratio, k⟩⟩⟩⟩
    · obtain ⟨S, ty, nr, nf, b1, b2, i1, i2, ib⟩ := od.ty
      exact ⟨_, rfl, ⟨_, _, rfl, ⟨_, b1, b2, ty, i1, i2, ib⟩, false, rfl, iteF ⟨_, rfl, Or.inl ⟨_, _, _, _, false, rfl, .own _, ty, nr, k⟩⟩⟩⟩
theorem sz0 {n : Nat} : Sz n ((0 : Int) : Rat) ∨ n = 0 := by
  cases n with
  | zero => exact Or.inr rfl
  | succ n => exact Or.inl (sz_i (Nat.two_pow_pos _) (Nat.succ_pos _))
theorem z2000 : Sz 2000 ((0 : Int) : Rat) := ⟨by decide +kernel, by decide +kernel⟩
theorem o2000 : Sz 2000 ((1 : Int) : Rat) := ⟨by decide +kernel, by decide +kernel⟩
theorem G_is_zoom (T : Tx K mg d) : FnR P w K mg base CX0 6 d.is_zoom (fun vs H Q E => spTest0 d.Ratio (fun q => decide (q > 0)) vs H Q E ∨ spTestX K d.Ratio vs H Q E) := by
  have G_is_number : FnR P w K mg base CX0 2 d.is_number _ := G_is_number T
  have G_gt : FnR P w K mg base CX0 5 d.Ratio___gt__ (spCmp d.Ratio fun x y => decide (x > y)) := G_Ratio___gt__ T
  obtain ⟨fd, F⟩ := T.F_is_zoom
  refine FnR.imp (FnOk.raw (F.ok sc_is_zoom (k := 5) (sp := (fun vs H Q E => spTest0 d.Ratio (fun q => decide (q > 0)) vs H Q E ∨ spTestX K d.Ratio vs H Q E)) (fun vs H Q E h => ?_) (fun cdv A outer s H vs Q E hr h => ?_)) (F.binds fun _ _ _ _ _ _ us hl => match us, hl with | [_], _ => rfl) .nil) fun vs H Q E h => by rw [List.append_nil]; exact h
  · rcases h with ⟨x, q, rfl, _⟩ | ⟨x, e, rfl, _⟩ <;> rfl
  · -- slots: 0 value
    refine ⟨_, (pss_one (ps_ret (pe_and (pe_fnR G_is_number (hr.mono (by decide)) T.k_is_number T.m_is_number pass0 (pa_cons (pv 0) pa_nil)) (pe_one (pe_cmpR uGt (pv 0) pe_int (nomark _)))))), ?_⟩
    rcases h with ⟨x, q, rfl, hv, zq, k⟩ | ⟨x, e, rfl, od, k⟩
    · refine ⟨_, rfl, ⟨x, rfl, Or.inl ⟨q, hv, true, rfl, iteT ?_⟩⟩⟩
      rcases hv with ⟨i, rfl, rfl⟩ | ⟨a, rfl, ha⟩
      · have e : decide (0 < i) = decide ((i : Rat) > 0) := decide_eq_decide.mpr ⟨fun h => Rat.intCast_lt_intCast (a := 0).mpr h, fun h => Rat.intCast_lt_intCast (a := 0).mp h⟩
        exact ⟨_, rfl, Or.inl ⟨_, _, rfl, rfl, by first | (show Q (.bl (decide (0 < i))) H; rw [e]; exact k H (Same.refl _)) | (show Q (.bl (decide (0 ≤ i))) H; rw [e]; exact k H (Same.refl _))⟩⟩
      · exact ⟨_, rfl, Or.inr (oc T.q_Ratio_gt G_gt (hr.mono (by decide)) ha num_i zq z2000 rfl k)⟩
    · exact ⟨_, rfl, ⟨x, rfl, Or.inr ⟨e, od, false, rfl, iteF k⟩⟩⟩
theorem G_is_place (T : Tx K mg d) : FnR P w K mg base CX0 6 d.is_place (fun vs H Q E => spTest0 d.Ratio (fun q => decide (q ≥ 0)) vs H Q E ∨ spTestX K d.Ratio vs H Q E) := by
  have G_is_number : FnR P w K mg base CX0 2 d.is_number _ := G_is_number T
  have G_ge : FnR P w K mg base CX0 5 d.Ratio___ge__ (spCmp d.Ratio fun x y => decide (x ≥ y)) := G_Ratio___ge__ T
  obtain ⟨fd, F⟩ := T.F_is_place
  refine FnR.imp (FnOk.raw (F.ok sc_is_place (k := 5) (sp := (fun vs H Q E => spTest0 d.Ratio (fun q => decide (q ≥ 0)) vs H Q E ∨ spTestX K d.Ratio vs H Q E)) (fun vs H Q E h => ?_) (fun cdv A outer s H vs Q E hr h => ?_)) (F.binds fun _ _ _ _ _ _ us hl => match us, hl with | [_], _ => rfl) .nil) fun vs H Q E h => by rw [List.append_nil]; exact h
  · rcases h with ⟨x, q, rfl, _⟩ | ⟨x, e, rfl, _⟩ <;> rfl
  · -- slots: 0 value
    refine ⟨_, (pss_one (ps_ret (pe_and (pe_fnR G_is_number (hr.mono (by decide)) T.k_is_number T.m_is_number pass0 (pa_cons (pv 0) pa_nil)) (pe_one (pe_cmpR uGe (pv 0) pe_int (nomark _)))))), ?_⟩
    rcases h with ⟨x, q, rfl, hv, zq, k⟩ | ⟨x, e, rfl, od, k⟩
    · refine ⟨_, rfl, ⟨x, rfl, Or.inl ⟨q, hv, true, rfl, iteT ?_⟩⟩⟩
      rcases hv with ⟨i, rfl, rfl⟩ | ⟨a, rfl, ha⟩
      · have e : decide (0 ≤ i) = decide ((i : Rat) ≥ 0) := decide_eq_decide.mpr ⟨fun h => Rat.intCast_le_intCast (a := 0).mpr h, fun h => Rat.intCast_le_intCast (a := 0).mp h⟩
        exact ⟨_, rfl, Or.inl ⟨_, _, rfl, rfl, by first | (show Q (.bl (decide (0 < i))) H; rw [e]; exact k H (Same.refl _)) | (show Q (.bl (decide (0 ≤ i))) H; rw [e]; exact k H (Same.refl _))⟩⟩
      · exact ⟨_, rfl, Or.inr (oc T.q_Ratio_ge G_ge (hr.mono (by decide)) ha num_i zq z2000 rfl k)⟩
    · exact ⟨_, rfl, ⟨x, rfl, Or.inr ⟨e, od, false, rfl, iteF k⟩⟩⟩
end

end AZ
namespace AZ
open PySem L2
/-! ## how many marks there are up to a zoom -/
def Asc (ms : List Mk) : Prop := ms.Pairwise fun a b => a.1 < b.1
/-- how many marks there are up to q -/
def upto (ms : List Mk) (q : Rat) : Nat := (ms.takeWhile fun m => decide (m.1 ≤ q)).length
theorem upto_le (ms : List Mk) (q : Rat) : upto ms q ≤ ms.length := by
  induction ms with
  | nil => exact Nat.le_refl _
  | cons m r ih =>
    unfold upto at ih ⊢
    rw [List.takeWhile_cons]
    split
    · simp only [List.length_cons]; omega
    · simp
theorem upto_lt {ms : List Mk} {q : Rat} : ∀ {i : Nat} {m : Mk}, ms[i]? = some m → i < upto ms q → m.1 ≤ q := by
  induction ms with
  | nil => intro i m h; simp at h
  | cons a r ih =>
    intro i m h hi
    unfold upto at hi ih
    rw [List.takeWhile_cons] at hi
    by_cases ha : a.1 ≤ q
    · rw [if_pos (by simpa using ha)] at hi
      cases i with
      | zero => simp at h; subst h; exact ha
      | succ i => exact ih (i := i) (by simpa using h) (by simpa using hi)
    · rw [if_neg (by simpa using ha)] at hi
      simp at hi
theorem upto_ge {ms : List Mk} (asc : Asc ms) {q : Rat} : ∀ {i : Nat} {m : Mk}, ms[i]? = some m → upto ms q ≤ i → q < m.1 := by
  induction ms with
  | nil => intro i m h; simp at h
  | cons a r ih =>
    intro i m h hi
    have asc' := List.pairwise_cons.mp asc
    unfold upto at hi ih
    rw [List.takeWhile_cons] at hi
    by_cases ha : a.1 ≤ q
    · rw [if_pos (by simpa using ha)] at hi
      cases i with
      | zero => simp at hi
      | succ i => exact ih asc'.2 (i := i) (by simpa using h) (by simpa using hi)
    · cases i with
      | zero => simp at h; subst h; grind
      | succ i =>
        have := asc'.1 m (List.mem_of_getElem? (by simpa using h))
        grind
theorem upto_all {ms : List Mk} {q : Rat} (h : ∀ m ∈ ms, m.1 ≤ q) : upto ms q = ms.length := by
  induction ms with
  | nil => rfl
  | cons a r ih =>
    unfold upto at ih ⊢
    rw [List.takeWhile_cons, if_pos (by simpa using h a (by simp))]
    simp only [List.length_cons]
    rw [ih fun m hm => h m (by simp [hm])]
def spUpto (C : Addr) : Sp := fun vs H Q _ => ∃ a b xs ms z q, vs = [.ref a, z] ∧ H a = some (sq b xs) ∧ Mks C H xs ms ∧ Asc ms ∧ xs.length ≤ 1000 ∧ (∀ m ∈ ms, Sz 2000 m.1) ∧ Num C H z q ∧ Sz 2000 q ∧ ∀ H', Same H H' → Q (.int (upto ms q)) H'
def behindOf (ms : List Mk) (f : Bool) : Bool := match ms.getLast? with | some m => m.2.2 | none => f
def spAhead (C : Addr) : Sp := fun vs H Q _ => ∃ (a : Addr) (b : Bool) (xs : List V) (ms : List Mk) (n : Nat) (f : Bool), vs = [.ref a, .int n, .bl f] ∧ H a = some (sq b xs) ∧ Mks C H xs ms ∧ n ≤ ms.length ∧ Q (.bl (behindOf (ms.take n) f)) H
/-- the marks at which something changes -/
def changes : List Mk → Bool → List Mk
  | [], _ => []
  | m :: r, f => if m.2.1 != f || m.2.2 != f then m :: changes r m.2.2 else changes r m.2.2
def spChanging (C : Addr) : Sp := fun vs H Q _ => ∃ a b xs ms f, vs = [.ref a, .bl f] ∧ H a = some (sq b xs) ∧ Mks C H xs ms ∧ xs.length ≤ 1000 ∧ ∀ l ys H', Same H H' → H l = none → H' l = some (.lst ys) → Mks C H' ys (changes ms f) → Q (.ref l) H'
section
variable {P : Program} {w : World} {K : PySem.W.Frag} {mg : Str → Option Value} {base : Heap} {d : Ad}
theorem G_many_upto (T : Tx K mg d) : FnR P w K mg base CX0 6 d.many_upto (spUpto d.Ratio) := by
  have G_le : FnR P w K mg base CX0 5 d.Ratio___le__ (spCmp d.Ratio fun x y => decide (x ≤ y)) := G_Ratio___le__ T
  obtain ⟨fd, F⟩ := T.F_many_upto
  refine FnR.imp (FnOk.raw (F.ok sc_many_upto (k := 5) (sp := spUpto d.Ratio) (fun vs H Q E h => ?_) (fun cdv A outer s H vs Q E hr h => ?_)) (F.binds fun _ _ _ _ _ _ us hl => match us, hl with | [_, _], _ => rfl) .nil) fun vs H Q E h => by rw [List.append_nil]; exact h
  · obtain ⟨a, b, xs, ms, z, q, rfl, _⟩ := h
    rfl
  · obtain ⟨a, b, xs, ms, z, q, rfl, ha, hm, asc, hlen, hz, hq, zq, k⟩ := h
    -- slots: 0 marks, 1 zoom, 2 low, 3 high, 4 middle
    refine ⟨_, (pss_cons (ps_par (i := 2) (j := 3) (by rfl) sc_many_upto.nd rfl rfl (by decide) rfl rfl (pa_cons pe_int (pa_cons (pe_callB call_len_seq (by rfl) T.n_len (by decide +kernel) (pa_cons (pv 0) pa_nil)) pa_nil)) (by rfl))
      (pss_cons (ps_while PassesOwn.never (pt_cmpR uLt (pv 2) (pv 3) (nomark _)) (pss_cons (ps_set (i := 4) sc_many_upto.nd rfl (Or.inl rfl) (pe_op uDiv (pe_op uAdd (pv 2) (pv 3)) pe_int))
      (pss_one (ps_if (pt_cmpR uLe (pe_ix ix_seq (pe_ix ix_seq (pv 0) (pv 4) (fun _ _ => rfl)) pe_int (fun _ _ => rfl)) (pv 1) (nomark _)) (pss_one (ps_set (i := 2) sc_many_upto.nd rfl (Or.inl rfl) (pe_op uAdd (pv 4) pe_int))) (pss_one (ps_set (i := 3) sc_many_upto.nd rfl (Or.inl rfl) (pv 4)))))))
      (pss_one (ps_ret (pv 2))))), ?_⟩
    refine ⟨_, rfl, a, xs, rfl, sq_or ha, _, _, rfl, ?_⟩
    have lm := pd_len hm
    have ul := upto_le ms q
    try dsimp only [tNext, gName]
    refine st_eq (σ' := [some (.ref a), some z, some (.int ((0 : Nat) : Int)), some (.int (xs.length : Int)), none]) rfl ?_
    refine while_to (fun σ' H' => ∃ (lo hi : Nat) (z4 : Option V), σ' = [some (.ref a), some z, some (.int (lo : Int)), some (.int (hi : Int)), z4] ∧ Same H H' ∧ lo ≤ upto ms q ∧ upto ms q ≤ hi ∧ hi ≤ xs.length)
      (fun σ' _ => match σ'[2]?, σ'[3]? with | some (some (V.int x)), some (some (V.int y)) => (y - x).toNat | _, _ => 0) ⟨0, xs.length, none, rfl, Same.refl _, Nat.zero_le _, by omega, Nat.le_refl _⟩ (fun σ' H' h => ?_)
    obtain ⟨lo, hi, z4, rfl, e1, h1, h2, h3⟩ := h
    refine ⟨_, rfl, _, rfl, Or.inl ⟨_, _, rfl, rfl, _, rfl, ite2 (fun hb => ?_) (fun hb => ?_)⟩⟩
    · have hlt : lo < hi := by have := of_decide_eq_true hb; omega
      have hk : (((lo : Int) + (hi : Int)).fdiv 2) = (((lo + hi) / 2 : Nat) : Int) := by
        rw [Int.fdiv_eq_ediv_of_nonneg _ (by decide)]
        omega
      generalize hmid : (lo + hi) / 2 = mid at hk
      have m1 : lo ≤ mid := by omega
      have m2 : mid < hi := by omega
      have ix : mid < xs.length := by omega
      refine ⟨fun σ' H' => ∃ (lo' hi' : Nat) (z4 : Option V), σ' = [some (.ref a), some z, some (.int (lo' : Int)), some (.int (hi' : Int)), z4] ∧ Same H H' ∧ lo' ≤ upto ms q ∧ upto ms q ≤ hi' ∧ hi' ≤ xs.length ∧ hi' - lo' < hi - lo,
        fun σ' H' ⟨lo', hi', z4', e, s, a1, a2, a3, a4⟩ => ⟨_, by subst e; show ((hi' : Int) - (lo' : Int)).toNat < ((hi : Int) - (lo : Int)).toNat; omega, rfl, lo', hi', z4', e, s, a1, a2, a3⟩, ?_⟩
      refine ⟨_, rfl, _, rfl, Or.inl ⟨_, _, rfl, rfl, Or.inl ⟨_, _, rfl, rfl, small_div (by decide) (by decide), ?_⟩⟩⟩
      dsimp only
      rw [hk]
      try dsimp only [tNext, gName]
      refine st_eq (σ' := [some (.ref a), some z, some (.int (lo : Int)), some (.int (hi : Int)), some (.int (mid : Int))]) rfl ?_
      have hx : xs[mid]? = some (xs[mid]'ix) := List.getElem?_eq_getElem ix
      obtain ⟨m, hmm, t, r, ev, ht, hrm⟩ := pd_at (hm.same e1) hx
      rw [ev] at hx
      refine ⟨_, rfl, _, rfl, ix_sq (e1 _ _ ha) hx (Or.inr (Or.inl ⟨t, _, _, _, rfl, rfl, SqT.of ht, at_of (j := 0) rfl rfl, ?_⟩))⟩
      refine ⟨_, rfl, Or.inr (oc T.q_Ratio_le G_le (hr.mono (by decide)) hrm (hq.same e1) (hz m (List.mem_of_getElem? hmm)) zq rfl fun H2 e2 => ⟨_, rfl, ite2 (fun hc => ?_) (fun hc => ?_)⟩)⟩
      · have le : m.1 ≤ q := of_decide_eq_true hc
        have up : mid < upto ms q := by
          refine Nat.lt_of_not_le fun n => ?_
          have := upto_ge asc hmm n
          grind
        refine ⟨_, rfl, Or.inl ⟨_, _, rfl, rfl, ?_⟩⟩
        exact ⟨mid + 1, hi, _, rfl, e1.trans e2, up, h2, h3, by omega⟩
      · have nle : ¬ m.1 ≤ q := of_decide_eq_false ((Bool.not_eq_true _).mp hc)
        have up : upto ms q ≤ mid := Nat.le_of_not_lt fun n => nle (upto_lt hmm n)
        exact ⟨_, rfl, lo, mid, _, rfl, e1.trans e2, h1, up, by omega, by omega⟩
    · have : lo = upto ms q := by
        have := of_decide_eq_false ((Bool.not_eq_true _).mp hb)
        omega
      subst this
      exact ⟨_, rfl, k _ e1⟩
theorem G_state_ahead (T : Tx K mg d) : FnR P w K mg base CX0 1 d.state_ahead (spAhead d.Ratio) := by
  obtain ⟨fd, F⟩ := T.F_state_ahead
  refine FnR.imp (FnOk.raw (F.ok sc_state_ahead (k := 0) (sp := spAhead d.Ratio) (fun vs H Q E h => ?_) (fun cdv A outer s H vs Q E hr h => ?_)) (F.binds fun _ _ _ _ _ _ us hl => match us, hl with | [_, _, _], _ => rfl) .nil) fun vs H Q E h => by rw [List.append_nil]; exact h
  · obtain ⟨a, b, xs, ms, n, f, rfl, _⟩ := h
    rfl
  · obtain ⟨a, b, xs, ms, n, f, rfl, ha, hm, hn, k⟩ := h
    -- slots: 0 marks, 1 at, 2 is_first
    refine ⟨_, (pss_one (ps_ret (pe_ifExp (pt_cmpR uGt (pv 1) pe_int (nomark _)) (pe_ix ix_seq (pe_ix ix_seq (pv 0) (pe_op uSub (pv 1) pe_int) (fun _ _ => rfl)) pe_int (fun _ _ => rfl)) (pv 2)))), ?_⟩
    refine ⟨_, rfl, Or.inl ⟨_, _, rfl, rfl, _, rfl, ite2 (fun hb => ?_) (fun hb => ?_)⟩⟩
    · obtain ⟨m, rfl⟩ : ∃ m, n = m + 1 := ⟨n - 1, by have := of_decide_eq_true hb; omega⟩
      have hx : ms[m]? = some (ms[m]'(by omega)) := List.getElem?_eq_getElem (by omega)
      have hv : xs[m]? = some (xs[m]'(by have := pd_len hm; omega)) := List.getElem?_eq_getElem (by have := pd_len hm; omega)
      obtain ⟨m', hm', t, r, ev, ht, _⟩ := pd_at hm hv
      rw [ev] at hv
      rw [take_at hm'] at k
      have k' : Q (.bl m'.2.2) H := by simpa [behindOf] using k
      have e : (((m + 1 : Nat) : Int) - 1) = (m : Int) := by omega
      refine ⟨_, rfl, _, rfl, Or.inl ⟨_, _, rfl, rfl, ?_⟩⟩
      dsimp only
      rw [e]
      exact ix_sq ha hv (Or.inr (Or.inl ⟨t, _, 2, _, rfl, rfl, SqT.of ht, at_of (j := 2) rfl rfl, k'⟩))
    · have : n = 0 := by have := of_decide_eq_false ((Bool.not_eq_true _).mp hb); omega
      subst this
      exact ⟨_, rfl, k⟩
theorem G_changing (T : Tx K mg d) : FnR P w K mg base CX0 1 d.changing (spChanging d.Ratio) := by
  obtain ⟨fd, F⟩ := T.F_changing
  refine FnR.imp (FnOk.raw (F.ok sc_changing (k := 0) (sp := spChanging d.Ratio) (fun vs H Q E h => ?_) (fun cdv A outer s H vs Q E hr h => ?_)) (F.binds fun _ _ _ _ _ _ us hl => match us, hl with | [_, _], _ => rfl) .nil) fun vs H Q E h => by rw [List.append_nil]; exact h
  · obtain ⟨a, b, xs, ms, f, rfl, _⟩ := h
    rfl
  · obtain ⟨a, b, xs, ms, f, rfl, ha, hm, hlen, k⟩ := h
    -- slots: 0 marks, 1 is_first, 2 kept, 3 is_in, 4 zoom, 5 is_at, 6 is_behind
    refine ⟨_, (pss_cons (ps_set (i := 2) sc_changing.nd rfl (Or.inl rfl) (pe_lst pa_nil))
      (pss_cons (ps_set (i := 3) sc_changing.nd rfl (Or.inl rfl) (pv 1))
      (pss_cons (ps_for PassesOwn.never rfl (pi_seq (pv 0)) (pg_tup (by rfl) (pgs_cons (pg_name (i := 4) sc_changing.nd rfl (Or.inl rfl)) (pgs_cons (pg_name (i := 5) sc_changing.nd rfl (Or.inl rfl)) (pgs_cons (pg_name (i := 6) sc_changing.nd rfl (Or.inl rfl)) pgs_nil)))) (pss_cons (ps_if (PW.pt (pw_or (pt_cmpR (uNe hr.units) (pv 5) (pv 3) (nomark _)) (pw_or1 (pt_cmpR (uNe hr.units) (pv 6) (pv 3) (nomark _))))) (pss_one (ps_expr (pe_bm PySem.F.plainAttrs_list PySem.F.slot_list_append PySem.F.type_list_append mt_append (pv 2) (pa_cons (pe_tup (pa_cons (pv 4) (pa_cons (pv 5) (pa_cons (pv 6) pa_nil)))) pa_nil)))) pss_nil)
      (pss_one (ps_set (i := 3) sc_changing.nd rfl (Or.inl rfl) (pv 6)))))
      (pss_one (ps_ret (pv 2)))))), ?_⟩
    refine ⟨(by show 0 ≤ sizeLine; decide), fun l hl => ?_⟩
    try dsimp only [tNext, gName]
    refine ⟨_, rfl, ?_⟩
    try dsimp only [tNext, gName]
    refine st_eq (σ' := [some (.ref a), some (.bl f), some (.ref l), some (.bl f), none, none, none]) rfl ?_
    have e0 := sameNew (o := HO.lst []) hl
    refine for_seq (b := b) (xs := xs) (fun i σ' H' => ∃ (g : Bool) (z4 z5 z6 : Option V) (ys : List V) (done : List Mk), σ' = [some (.ref a), some (.bl f), some (.ref l), some (.bl g), z4, z5, z6] ∧ Same H H' ∧ H' l = some (.lst ys) ∧ Mks d.Ratio H' ys done ∧ ys.length ≤ i ∧ changes ms f = done ++ changes (ms.drop i) g)
      (fun R q => ⟨_, rfl, q⟩) (e0 _ _ ha) ⟨f, none, none, none, [], [], rfl, e0, upd_same, .nil, Nat.le_refl _, rfl⟩ (fun i σ' H' _ h => by obtain ⟨_, _, _, _, _, _, _, e1, _⟩ := h; exact e1 _ _ ha) (fun i x σ' H' hx h => ?_) (fun σ' H' h => ?_)
    · obtain ⟨g, z4, z5, z6, ys, done, rfl, e1, hy, hd, hi, hc⟩ := h
      obtain ⟨m, hmm, t, r, rfl, ht, hrm⟩ := pd_at (hm.same e1) hx
      have hdr : ms.drop i = m :: ms.drop (i + 1) := by
        obtain ⟨hlt, rfl⟩ := List.getElem?_eq_some_iff.mp hmm
        exact List.drop_eq_getElem_cons hlt
      rw [hdr] at hc
      have hl5 : xs.length ≤ 1000 := hlen
      have ilt : i < xs.length := (List.getElem?_eq_some_iff.mp hx).1
      refine ⟨t, _, rfl, SqT.of ht, rfl, _, _, rfl, _, _, rfl, _, _, rfl, rfl, ?_⟩
      try dsimp only [tNext, gName]
      refine st_eq (σ' := [some (.ref a), some (.bl f), some (.ref l), some (.bl g), some (.ref r), some (.bl m.2.1), some (.bl m.2.2)]) rfl ?_
      -- kept or not, the next state is the one behind the mark
      have skip : (m.2.1 != g || m.2.2 != g) = false → changes ms f = done ++ changes (ms.drop (i + 1)) m.2.2 := fun z => by
        rw [hc, changes, if_neg (by rw [z]; decide)]
      have keep : (m.2.1 != g || m.2.2 != g) = true → changes ms f = (done ++ [m]) ++ changes (ms.drop (i + 1)) m.2.2 := fun z => by
        rw [hc, changes, if_pos z, List.append_assoc]
        rfl
      have dn : ∀ x y : Bool, (!decide (V.bl x = V.bl y)) = (x != y) := fun x y => by cases x <;> cases y <;> rfl
      refine if_join (I := fun σ' H2 => ∃ (ys : List V) (done : List Mk), σ' = [some (.ref a), some (.bl f), some (.ref l), some (.bl g), some (.ref r), some (.bl m.2.1), some (.bl m.2.2)] ∧ Same H H2 ∧ H2 l = some (.lst ys) ∧ Mks d.Ratio H2 ys done ∧ ys.length ≤ i + 1 ∧ changes ms f = done ++ changes (ms.drop (i + 1)) m.2.2) (fun N kN => ?_) (fun σ' H2 h => ?_)
      · have put : (m.2.1 != g || m.2.2 != g) = true → ∀ tt : Addr, H' tt = none → N [some (.ref a), some (.bl f), some (.ref l), some (.bl g), some (.ref r), some (.bl m.2.1), some (.bl m.2.2)] (upd (upd H' tt (.tup [.ref r, .bl m.2.1, .bl m.2.2])) l (.lst (ys ++ [.ref tt]))) := fun z tt htt => by
          have s1 := sameNew (o := HO.tup [.ref r, .bl m.2.1, .bl m.2.2]) htt
          have hy1 := s1 _ _ hy
          have up1 : Up l (upd H' tt (.tup [.ref r, .bl m.2.1, .bl m.2.2])) (upd (upd H' tt (.tup [.ref r, .bl m.2.1, .bl m.2.2])) l (.lst (ys ++ [.ref tt]))) := Up.put hy1
          refine kN _ _ ⟨ys ++ [.ref tt], done ++ [m], rfl, same_at (e1.trans s1) hl, upd_same, paired_append (pd_imp (fun q => MkAt.up q up1) (Mks.same hd s1)) (.cons ⟨tt, r, rfl, up1.tup upd_same, (hrm.same s1).up up1⟩ .nil), by simp; omega, keep z⟩
        refine ⟨_, rfl, _, rfl, Or.inl ⟨rfl, _, rfl, ?_⟩⟩
        rw [dn]
        cases hb : (m.2.1 != g) with
        | true =>
          refine iteT ⟨_, rfl, .inl ⟨rfl, _, SqL.of hy⟩, _, rfl, _, rfl, _, rfl, (by show 3 ≤ sizeLine; decide), fun tt htt => ⟨l, ys, _, rfl, rfl, sameNew htt _ _ hy, Nat.lt_of_lt_of_le (show ys.length < 1001 by omega) (by decide), put (by rw [hb]; rfl) tt htt⟩⟩
        | false =>
          refine iteF ⟨_, rfl, _, rfl, Or.inl ⟨rfl, _, rfl, ?_⟩⟩
          rw [dn]
          cases hb2 : (m.2.2 != g) with
          | true => exact ⟨_, rfl, .inl ⟨rfl, _, SqL.of hy⟩, _, rfl, _, rfl, _, rfl, (by show 3 ≤ sizeLine; decide), fun tt htt => ⟨l, ys, _, rfl, rfl, sameNew htt _ _ hy, Nat.lt_of_lt_of_le (show ys.length < 1001 by omega) (by decide), put (by rw [hb, hb2]; rfl) tt htt⟩⟩
          | false => exact kN _ _ ⟨ys, done, rfl, e1, hy, hd, by omega, skip (by rw [hb, hb2]; rfl)⟩
      · obtain ⟨ys, done, rfl, e2, hy2, hd2, hi2, hc2⟩ := h
        exact ⟨_, rfl, m.2.2, _, _, _, ys, done, rfl, e2, hy2, hd2, hi2, hc2⟩
    · obtain ⟨g, z4, z5, z6, ys, done, rfl, e1, hy, hd, _, hc⟩ := h
      rw [pd_len hm, List.drop_length] at hc
      rw [show changes [] g = [] from rfl, List.append_nil] at hc
      exact ⟨_, rfl, k l ys H' e1 hl hy (by rw [hc]; exact hd)⟩
end

end AZ
namespace AZ
open PySem L2
/-! ## marks checked, and the normal form where nothing comes round -/
section
variable {X : Cx} {C f f' : Addr} {k k' : Nat} {H : Hp} {Q : VK} {x y : V} {p q : Rat}
/-- two numbers compared, each an int or a fraction -/
theorem num_cmp {op opr : CmpOp} {g gr : Rat → Rat → Bool} {fi : Int → Int → Bool} (M : CmpM X.K C op f) (M' : CmpM X.K C opr f') (ki : PySem.W.kitOne X.K (.ref C) (.type "int") = some false)
    (F : FnR X.prog X.w X.K X.mg X.base CX0 k f (spCmp C g)) (F' : FnR X.prog X.w X.K X.mg X.base CX0 k' f' (spCmp C gr)) (hr : Room k X.A) (hr' : Room k' X.A) (hx : Num C H x p) (hy : Num C H y q) (zp : Sz 2000 p) (zq : Sz 2000 q)
    (ei : ∀ i j : Int, fi i j = g (i : Rat) (j : Rat)) (er : ∀ a b : Rat, gr b a = g a b) (kk : ∀ H', Same H H' → Q (.bl (g p q)) H') : orR (rI0 fun i j => .bl (fi i j)) (orR (rOwnC X op) (rReflC X opr)) x y H Q := by
  rcases hx with ⟨i, rfl, rfl⟩ | ⟨a, rfl, ha⟩
  · rcases hy with ⟨j, rfl, rfl⟩ | ⟨b, rfl, hb⟩
    · exact Or.inl ⟨i, j, rfl, rfl, by show Q (.bl (fi i j)) H; rw [ei]; exact kk H (Same.refl _)⟩
    · exact Or.inr (Or.inr (own_refl M' ki F' hr' hb zq zp fun H' s => by rw [er]; exact kk H' s))
  · exact Or.inr (Or.inl (own_cmp M F hr ha hy zp zq kk))
end
def spIsMark (C : Addr) : Sp := fun vs H Q _ => ∃ v m, vs = [v] ∧ MkIn C H v m ∧ Sz 2000 m.1 ∧ ∀ H', Same H H' → Q (.bl (decide (m.1 > 0))) H'
def spChecked (C : Addr) : Sp := fun vs H Q _ => ∃ a xs ms z q, vs = [.ref a, z] ∧ H a = some (.tup xs) ∧ MksIn C H xs ms ∧ Asc ms ∧ xs.length ≤ 1000 ∧ (∀ m ∈ ms, Sz 2000 m.1 ∧ 0 < m.1 ∧ m.1 ≤ q) ∧ Num C H z q ∧ Sz 2000 q ∧
  ∀ l ys H', Same H H' → H l = none → H' l = some (.lst ys) → Mks C H' ys ms → Q (.ref l) H'
/-- no marks in the turn: the turn is 1 -/
def spTurn0 (C : Addr) : Sp := fun vs H Q _ => ∃ x y a b, vs = [x, y, .ref a] ∧ H a = some (sq b []) ∧ ∀ p H', Same H H' → IsRat C H' p 1 → Q (.ref p) H'
/-- the place of the last mark, 0 without one -/
def lastOf (ms : List Mk) : Rat := match ms.getLast? with | some m => m.1 | none => 0
/-- all marks lie in the beginning -/
def spBegin0 (C : Addr) : Sp := fun vs H Q _ => ∃ (pb pt a : Addr) (b : Bool) (xs : List V) (ms : List Mk) (f : Bool) (q : Rat), vs = [.ref pb, .ref pt, .ref a, .bl f] ∧ IsRat C H pb q ∧ IsRat C H pt 1 ∧ H a = some (sq b xs) ∧ Mks C H xs ms ∧ Asc ms ∧ xs.length ≤ 1000 ∧
  (∀ m ∈ ms, Sz 900 m.1 ∧ 0 < m.1 ∧ m.1 ≤ q) ∧ Sz 900 q ∧ ∀ p H', Same H H' → IsRat C H' p (lastOf ms) → Q (.ref p) H'
def spForm0 (C : Addr) : Sp := fun vs H Q _ => ∃ (pb pt a : Addr) (b : Bool) (xs : List V) (ms : List Mk) (f : Bool) (q : Rat), vs = [.ref pb, .ref pt, .ref a, .bl f] ∧ IsRat C H pb q ∧ IsRat C H pt 1 ∧ H a = some (sq b xs) ∧ Mks C H xs ms ∧ Asc ms ∧ xs.length ≤ 1000 ∧
  (∀ m ∈ ms, Sz 900 m.1 ∧ 0 < m.1 ∧ m.1 ≤ q) ∧ Sz 900 q ∧ ∀ t rb rt rm zs H', Same H H' → H' t = some (.tup [.ref rb, .ref rt, .ref rm]) → IsRat C H' rb (lastOf (changes ms f)) → IsRat C H' rt 1 → H' rm = some (.tup zs) → Mks C H' zs (changes ms f) → Q (.ref t) H'
theorem changes_sub : ∀ {ms : List Mk} {f : Bool} {m : Mk}, m ∈ changes ms f → m ∈ ms
  | a :: r, f, m, h => by
    unfold changes at h
    split at h
    · rcases List.mem_cons.mp h with rfl | h
      · exact List.mem_cons_self
      · exact List.mem_cons_of_mem _ (changes_sub h)
    · exact List.mem_cons_of_mem _ (changes_sub h)
theorem changes_asc : ∀ {ms : List Mk} {f : Bool}, Asc ms → Asc (changes ms f)
  | [], _, _ => List.Pairwise.nil
  | a :: r, f, h => by
    have h' := List.pairwise_cons.mp h
    unfold changes
    split
    · exact List.pairwise_cons.mpr ⟨fun x hx => h'.1 x (changes_sub hx), changes_asc h'.2⟩
    · exact changes_asc h'.2
theorem changes_len : ∀ {ms : List Mk} {f : Bool}, (changes ms f).length ≤ ms.length
  | [], _ => Nat.le_refl _
  | a :: r, f => by
    unfold changes
    split
    · simp only [List.length_cons]; exact Nat.succ_le_succ changes_len
    · simp only [List.length_cons]; exact Nat.le_succ_of_le changes_len
theorem last_at {ms : List Mk} {n : Nat} (h : ms.length = n + 1) : ∃ m, ms[n]? = some m ∧ lastOf ms = m.1 := by
  have e : ms.getLast? = ms[n]? := by
    rw [List.getLast?_eq_getElem?]
    congr 1
    omega
  refine ⟨ms[n]'(by omega), List.getElem?_eq_getElem (by omega), ?_⟩
  unfold lastOf
  rw [e, List.getElem?_eq_getElem (show n < ms.length by omega)]
theorem last_lt {ms : List Mk} (asc : Asc ms) {i : Nat} {m : Mk} (h : ms[i]? = some m) (h0 : 0 < m.1) : lastOf (ms.take i) < m.1 := by
  have hlt := (List.getElem?_eq_some_iff.mp h).1
  cases i with
  | zero => exact h0
  | succ i =>
    obtain ⟨l, hl, e⟩ := last_at (ms := ms.take (i + 1)) (n := i) (by rw [List.length_take]; omega)
    rw [e]
    rw [List.getElem?_take_of_lt (by omega)] at hl
    have := List.pairwise_iff_getElem.mp asc i (i + 1) (by omega) hlt (by omega)
    rw [List.getElem?_eq_getElem (show i < ms.length by omega)] at hl
    rw [List.getElem?_eq_getElem hlt] at h
    injection hl with hl
    injection h with h
    rw [hl, h] at this
    exact this
theorem last_le {ms : List Mk} (asc : Asc ms) : ∀ m ∈ ms, m.1 ≤ lastOf ms := by
  intro m hm
  obtain ⟨i, hi⟩ := List.getElem?_of_mem hm
  have hlt := (List.getElem?_eq_some_iff.mp hi).1
  obtain ⟨n, hn⟩ : ∃ n, ms.length = n + 1 := ⟨ms.length - 1, by omega⟩
  obtain ⟨l, hl, e⟩ := last_at hn
  rw [e]
  rcases Nat.lt_or_eq_of_le (show i ≤ n by omega) with h | rfl
  · have := List.pairwise_iff_getElem.mp asc i n hlt (by omega) h
    rw [List.getElem?_eq_getElem hlt] at hi
    rw [List.getElem?_eq_getElem (show n < ms.length by omega)] at hl
    injection hi with hi
    injection hl with hl
    rw [hi, hl] at this
    exact Std.le_of_lt this
  · rw [hi] at hl
    injection hl with hl
    rw [hl]
    exact Std.le_refl _
theorem last_sz {n : Nat} {ms : List Mk} (h : ∀ m ∈ ms, Sz n m.1) (h0 : 0 < n) : Sz n (lastOf ms) := by
  unfold lastOf
  split
  · rename_i m e
    exact h m (List.mem_of_getLast? e)
  · exact sz_i (j := 0) (Nat.two_pow_pos _) h0
section
variable {P : Program} {w : World} {K : PySem.W.Frag} {mg : Str → Option Value} {base : Heap} {d : Ad}
theorem G_is_mark (T : Tx K mg d) : FnR P w K mg base CX0 7 d.is_mark (spIsMark d.Ratio) := by
  have G_is_zoom := G_is_zoom (P := P) (w := w) (base := base) T
  obtain ⟨fd, F⟩ := T.F_is_mark
  refine FnR.imp (FnOk.raw (F.ok sc_is_mark (k := 6) (sp := spIsMark d.Ratio) (fun vs H Q E h => ?_) (fun cdv A outer s H vs Q E hr h => ?_)) (F.binds fun _ _ _ _ _ _ us hl => match us, hl with | [_], _ => rfl) .nil) fun vs H Q E h => by rw [List.append_nil]; exact h
  · obtain ⟨v, m, rfl, _⟩ := h
    rfl
  · obtain ⟨v, m, rfl, ⟨t, x, rfl, ht, hx⟩, hz, k⟩ := h
    -- slots: 0 value
    refine ⟨_, (pss_cons (ps_if (PW.pt (pw_or (pt_not (pt_val (pe_callB uIsi (by rfl) T.n_isinstance (by decide +kernel) (pa_cons (pv 0) (pa_cons (pe_bltn (v := .ty "tuple") (by rfl) T.n_tuple (by decide +kernel) rfl) pa_nil))))) (pw_or1 (pt_cmpR (uNe hr.units) (pe_callB call_len_seq (by rfl) T.n_len (by decide +kernel) (pa_cons (pv 0) pa_nil)) pe_int (nomark _))))) (pss_one (ps_ret pe_bl)) pss_nil)
      (pss_one (ps_ret (pe_and (pe_fnR G_is_zoom (hr.mono (by decide)) T.k_is_zoom T.m_is_zoom pass0 (pa_cons (pe_ix ix_seq (pv 0) pe_int (fun _ _ => rfl)) pa_nil)) (pe_and (pe_callB uIsi (by rfl) T.n_isinstance (by decide +kernel) (pa_cons (pe_ix ix_seq (pv 0) pe_int (fun _ _ => rfl)) (pa_cons (pe_bltn (v := .ty "bool") (by rfl) T.n_bool (by decide +kernel) rfl) pa_nil))) (pe_one (pe_callB uIsi (by rfl) T.n_isinstance (by decide +kernel) (pa_cons (pe_ix ix_seq (pv 0) pe_int (fun _ _ => rfl)) (pa_cons (pe_bltn (v := .ty "bool") (by rfl) T.n_bool (by decide +kernel) rfl) pa_nil))))))))), ?_⟩
    refine ⟨_, rfl, Or.inl ⟨_, _, _, _, true, rfl, .ty _, .base (.tup ht), T.i_tuple_is_tuple, true, rfl, iteF ?_⟩⟩
    refine ⟨_, rfl, t, _, rfl, Or.inr (SqT.of ht), Or.inl ⟨rfl, _, rfl, ifF (by simp) ?_⟩⟩
    try dsimp only [tNext, gName]
    refine ⟨_, rfl, Or.inr (Or.inl ⟨t, _, 0, _, rfl, rfl, SqT.of ht, at_of (j := 0) rfl rfl, Or.inl ⟨x, m.1, rfl, hx, hz, fun H1 e1 => ⟨_, rfl, ?_⟩⟩⟩)⟩
    refine ite2 (fun hb => ?_) (fun hb => ?_)
    · have hb' : decide (m.1 > 0) = true := hb
      refine ⟨_, rfl, Or.inr (Or.inl ⟨t, _, 1, _, rfl, rfl, SqT.of (e1 _ _ ht), at_of (j := 1) rfl rfl, Or.inl ⟨_, _, _, _, true, rfl, .ty _, .base (.bl _), T.i_bool_is_bool, true, rfl, iteT ?_⟩⟩)⟩
      refine ⟨_, rfl, Or.inr (Or.inl ⟨t, _, 2, _, rfl, rfl, SqT.of (e1 _ _ ht), at_of (j := 2) rfl rfl, Or.inl ⟨_, _, _, _, true, rfl, .ty _, .base (.bl _), T.i_bool_is_bool, ?_⟩⟩)⟩
      rw [hb'] at k
      exact k H1 e1
    · have hb' : decide (m.1 > 0) = false := (Bool.not_eq_true _).mp hb
      rw [hb'] at k
      exact k H1 e1
theorem G_checked_marks (T : Tx K mg d) : FnR P w K mg base CX0 8 d.checked_marks (spChecked d.Ratio) := by
  have G_is_mark := G_is_mark (P := P) (w := w) (base := base) T
  have G_Ratio_of : FnR P w K mg base CX0 4 d.Ratio_of (spOf d.Ratio) := G_Ratio_of T
  have G_Ratio___init__ : FnR P w K mg base CX0 2 d.Ratio___init__ _ := G_Ratio___init__ T
  have G_le : FnR P w K mg base CX0 5 d.Ratio___le__ (spCmp d.Ratio fun x y => decide (x ≤ y)) := G_Ratio___le__ T
  have G_ge : FnR P w K mg base CX0 5 d.Ratio___ge__ (spCmp d.Ratio fun x y => decide (x ≥ y)) := G_Ratio___ge__ T
  have G_gt : FnR P w K mg base CX0 5 d.Ratio___gt__ (spCmp d.Ratio fun x y => decide (x > y)) := G_Ratio___gt__ T
  have G_lt : FnR P w K mg base CX0 5 d.Ratio___lt__ (spCmp d.Ratio fun x y => decide (x < y)) := G_Ratio___lt__ T
  obtain ⟨fd, F⟩ := T.F_checked_marks
  refine FnR.imp (FnOk.raw (F.ok sc_checked_marks (k := 7) (sp := spChecked d.Ratio) (fun vs H Q E h => ?_) (fun cdv A outer s H vs Q E hr h => ?_)) (F.binds fun _ _ _ _ _ _ us hl => match us, hl with | [_, _], _ => rfl) .nil) fun vs H Q E h => by rw [List.append_nil]; exact h
  · obtain ⟨a, xs, ms, z, q, rfl, _⟩ := h
    rfl
  · obtain ⟨a, xs, ms, z, q, rfl, ha, hm, asc, hlen, hz, hq, zq, k⟩ := h
    -- slots: 0 marks, 1 end, 2 last, 3 mark, 4 zoom, 5 is_at, 6 is_behind
    refine ⟨_, (pss_cons (ps_if (pt_not (pt_val (pe_callB uIsi (by rfl) T.n_isinstance (by decide +kernel) (pa_cons (pv 0) (pa_cons (pe_bltn (v := .ty "tuple") (by rfl) T.n_tuple (by decide +kernel) rfl) pa_nil))))) pss_never pss_nil)
      (pss_cons (ps_set (i := 2) sc_checked_marks.nd rfl (Or.inl rfl) (StX.pe_makeR T.mk_Ratio G_Ratio___init__ (hr.mono (by decide)) rfl T.m_Ratio pass0 (pa_cons pe_int pa_nil)))
      (pss_cons (ps_for PassesOwn.never rfl (pi_seq (pv 0)) (pg_name (i := 3) sc_checked_marks.nd rfl (Or.inl rfl)) (pss_cons (ps_if (PW.pt (pw_or (pt_not (pt_val (pe_fnR G_is_mark (hr.mono (by decide)) T.k_is_mark T.m_is_mark pass0 (pa_cons (pv 3) pa_nil)))) (pw_or (pt_cmpR uLeR (pe_ix ix_seq (pv 3) pe_int (fun _ _ => rfl)) (pv 2) (nomark _)) (pw_or1 (pt_cmpR uGtR (pe_ix ix_seq (pv 3) pe_int (fun _ _ => rfl)) (pv 1) (nomark _)))))) pss_never pss_nil)
      (pss_one (ps_set (i := 2) sc_checked_marks.nd rfl (Or.inl rfl) (pe_ix ix_seq (pv 3) pe_int (fun _ _ => rfl))))))
      (pss_one (ps_ret (pe_lc (own := [("zoom", 4), ("is_at", 5), ("is_behind", 6)]) (g := gTup K 3 (gCons (gName 4) (gCons (gName 5) (gCons (gName 6) gNil)))) (by rfl) sc_checked_marks.nd (pi_seq (pv 0)) (blkOk_by (own := [("zoom", 4), ("is_at", 5), ("is_behind", 6)]) (N := ["marks", "end", "last", "mark", "zoom", "is_at", "is_behind"]) (sc := defScope s_checked_marks) (by decide +kernel)) (fun _ _ _ _ _ => pg_tup (by rfl) (pgs_cons (pg_name (i := 4) sc_checked_marks.nd rfl (Or.inl rfl)) (pgs_cons (pg_name (i := 5) sc_checked_marks.nd rfl (Or.inl rfl)) (pgs_cons (pg_name (i := 6) sc_checked_marks.nd rfl (Or.inl rfl)) pgs_nil)))) (fun _ _ _ _ _ => pts_nil) (fun _ _ _ _ _ => (pe_tup (pa_cons (pe_smeth (pe_glob (v := .ref _) rfl T.m_Ratio rfl) T.s_Ratio_of G_Ratio_of (hr.mono (by decide)) pass0 (pa_cons (pv 4) pa_nil)) (pa_cons (pv 5) (pa_cons (pv 6) pa_nil))))))))))), ?_⟩
    refine ⟨_, rfl, Or.inl ⟨_, _, _, _, true, rfl, .ty _, .base (.tup ha), T.i_tuple_is_tuple, true, rfl, iteF ?_⟩⟩
    try dsimp only [tNext, gName]
    refine fun x dx nx nd nn => Or.inr (made' nx nd (by decide) (by decide) fun H1 e1 r1 => ⟨rfl, ?_⟩)
    have r1 : IsRat d.Ratio H1 x (lastOf (ms.take 0)) := by
      have e : Rat.divInt 0 1 = lastOf (ms.take 0) := by rw [List.take_zero]; decide +kernel
      rw [e] at r1
      exact r1
    clear nx nd nn
    try dsimp only [tNext, gName]
    refine for_seq (b := true) (xs := xs) (fun i σ' H' => ∃ (lv : V) (z3 z4 z5 z6 : Option V), σ' = [some (.ref a), some z, some lv, z3, z4, z5, z6] ∧ Same H1 H' ∧ Num d.Ratio H' lv (lastOf (ms.take i))) (fun R q => ⟨_, rfl, q⟩) (e1 _ _ ha) ⟨.ref x, none, none, none, none, rfl, Same.refl _, num_r r1⟩
      (fun i σ' H' _ h => by obtain ⟨_, _, _, _, _, _, e2, _⟩ := h; exact e2 _ _ (e1 _ _ ha)) (fun i y σ' H' hy h => ?_) (fun σ' H' h => ?_)
    · obtain ⟨lv, z3, z4, z5, z6, rfl, e2, hl⟩ := h
      have e12 := e1.trans e2
      obtain ⟨m, hmm, hin⟩ := pd_at (hm.same e12) hy
      obtain ⟨zm, m0, mq⟩ := hz m (List.mem_of_getElem? hmm)
      have zl : Sz 2000 (lastOf (ms.take i)) := last_sz (fun y h => (hz y (List.mem_of_mem_take h)).1) (by decide)
      have lt := last_lt asc hmm m0
      have tk : lastOf (ms.take (i + 1)) = m.1 := by
        obtain ⟨l, hl, e⟩ := last_at (ms := ms.take (i + 1)) (n := i) (by rw [List.length_take]; have := (List.getElem?_eq_some_iff.mp hmm).1; omega)
        rw [List.getElem?_take_of_lt (by omega), hmm] at hl
        injection hl with hl
        rw [e, hl]
      obtain ⟨t, v, rfl, ht, hv⟩ := id hin
      try dsimp only [tNext, gName]
      refine ⟨_, rfl, ⟨.ref t, m, rfl, hin, zm, fun H2 e3 => ⟨_, rfl, ?_⟩⟩⟩
      have b0 : decide (m.1 > 0) = true := decide_eq_true m0
      refine ifF (by rw [b0]; rfl) ?_
      have ht := e3 _ _ ht
      refine ⟨_, rfl, Or.inr (Or.inl ⟨t, _, 0, _, rfl, rfl, SqT.of ht, at_of (j := 0) rfl rfl, ?_⟩)⟩
      refine ⟨_, rfl, num_cmp (g := fun x y => decide (x ≤ y)) (gr := fun x y => decide (x ≥ y)) T.q_Ratio_le T.q_Ratio_ge T.i_Ratio_is_int G_le G_ge (hr.mono (by decide)) (hr.mono (by decide)) (hv.same e3) (hl.same e3) zm zl (fun i j => decide_eq_decide.mpr Rat.intCast_le_intCast.symm) (fun _ _ => rfl) fun H3 e4 => ⟨_, rfl, ifF (decide_eq_false (Rat.not_le.mpr lt)) ?_⟩⟩
      have ht := e4 _ _ ht
      refine ⟨_, rfl, Or.inr (Or.inl ⟨t, _, 0, _, rfl, rfl, SqT.of ht, at_of (j := 0) rfl rfl, ?_⟩)⟩
      have e14 := (e12.trans e3).trans e4
      refine ⟨_, rfl, num_cmp (g := fun x y => decide (x > y)) (gr := fun x y => decide (x < y)) T.q_Ratio_gt T.q_Ratio_lt T.i_Ratio_is_int G_gt G_lt (hr.mono (by decide)) (hr.mono (by decide)) ((hv.same e3).same e4) (hq.same e14) zm zq (fun i j => decide_eq_decide.mpr Rat.intCast_lt_intCast.symm) (fun _ _ => rfl) fun H4 e5 => ⟨_, rfl, ifF (decide_eq_false (Rat.not_lt.mpr mq)) ?_⟩⟩
      refine ⟨_, rfl, Or.inr (Or.inl ⟨t, _, 0, _, rfl, rfl, SqT.of (e5 _ _ ht), at_of (j := 0) rfl rfl, ?_⟩)⟩
      exact ⟨v, _, z4, z5, z6, rfl, ((e2.trans e3).trans e4).trans e5, by rw [tk]; exact ((hv.same e3).same e4).same e5⟩
    · obtain ⟨lv, z3, z4, z5, z6, rfl, e2, _⟩ := h
      have e12 := e1.trans e2
      have hm2 := hm.same e12
      refine lc_seq (b := true) (xs := xs) (fun D i H2 => Same H' H2 ∧ H' D = none ∧ ∃ zs, H2 D = some (.lst zs) ∧ Mks d.Ratio H2 zs (ms.take i) ∧ zs.length = i) (fun R q => ⟨_, rfl, q⟩) (e12 _ _ ha) (fun D hD => ⟨sameNew hD, hD, [], upd_same, .nil, rfl⟩)
        (fun D i H2 _ h => h.1 _ _ (e12 _ _ ha)) (fun D i x H2 hx h => ?_) (fun D H2 h => ?_)
      · obtain ⟨e3, hD, zs, hzs, hR, hi⟩ := h
        have hlt : i < xs.length := (List.getElem?_eq_some_iff.mp hx).1
        obtain ⟨m, hmm, t, v, rfl, ht, hv⟩ := pd_at (hm2.same e3) hx
        refine ⟨t, _, rfl, SqT.of ht, rfl, _, _, rfl, _, _, rfl, _, _, rfl, rfl, rfl, ?_⟩
        refine ⟨rfl, _, rfl, ⟨v, m.1, rfl, hv, fun p H4 e4 hp => ⟨_, rfl, _, rfl, (by show 3 ≤ sizeLine; decide), fun tt htt => ?_⟩⟩⟩
        have s5 := sameNew (o := HO.tup [.ref p, .bl m.2.1, .bl m.2.2]) htt
        have hz5 := s5 _ _ (e4 _ _ hzs)
        have up5 : Up D (upd H4 tt (.tup [.ref p, .bl m.2.1, .bl m.2.2])) (upd (upd H4 tt (.tup [.ref p, .bl m.2.1, .bl m.2.2])) D (.lst (zs ++ [.ref tt]))) := Up.put hz5
        refine ⟨zs, hz5, by rw [hi]; exact Nat.lt_of_lt_of_le (Nat.lt_of_lt_of_le hlt hlen) (by decide), same_at ((e3.trans e4).trans s5) hD, hD, _, upd_same, ?_, by simp [hi]⟩
        rw [take_at hmm]
        exact paired_append (pd_imp (fun q => MkAt.up q up5) (Mks.same (Mks.same hR e4) s5)) (.cons ⟨tt, p, rfl, up5.tup upd_same, (hp.same s5).up up5⟩ .nil)
      · obtain ⟨e3, hD, zs, hzs, hR, _⟩ := h
        refine k D zs H2 (e12.trans e3) (e12.free hD) hzs ?_
        rw [pd_len hm, List.take_length] at hR
        exact hR
end

end AZ
namespace AZ
open PySem L2
/-! ## the normal form where nothing comes round -/
section
variable {P : Program} {w : World} {K : PySem.W.Frag} {mg : Str → Option Value} {base : Heap} {d : Ad}
theorem G_least_turn (T : Tx K mg d) : FnR P w K mg base CX0 4 d.least_turn (spTurn0 d.Ratio) := by
  have G_Ratio___init__ : FnR P w K mg base CX0 2 d.Ratio___init__ _ := G_Ratio___init__ T
  obtain ⟨fd, F⟩ := T.F_least_turn
  refine FnR.imp (FnOk.raw (F.ok sc_least_turn (k := 3) (sp := spTurn0 d.Ratio) (fun vs H Q E h => ?_) (fun cdv A outer s H vs Q E hr h => ?_)) (F.binds fun _ _ _ _ _ _ us hl => match us, hl with | [_, _, _], _ => rfl) .nil) fun vs H Q E h => by rw [List.append_nil]; exact h
  · obtain ⟨x, y, a, b, rfl, _⟩ := h
    rfl
  · obtain ⟨x, y, a, b, rfl, ha, k⟩ := h
    -- slots: 0 begin, 1 turn, 2 marks, 3 steps, 4 ahead, 5 zoom, 6 is_at, 7 is_behind, 8 many
    refine ⟨_, (pss_cons (ps_if (pt_not (pt_truth (pv 2) (by intro _; rfl))) (pss_one (ps_ret (StX.pe_makeR T.mk_Ratio G_Ratio___init__ (hr.mono (by decide)) rfl T.m_Ratio pass0 (pa_cons pe_int pa_nil)))) pss_nil)
      pss_never), ?_⟩
    refine ⟨_, rfl, false, ?_, iteT ?_⟩
    · cases b with
      | false => exact Or.inl ⟨[], SqL.of ha, rfl⟩
      | true => exact Or.inr (Or.inl ⟨[], SqT.of ha, rfl⟩)
    · refine fun x dx nx nd nn => Or.inr (made' nx nd (by decide) (by decide) fun H1 e1 r1 => ⟨rfl, ?_⟩)
      rw [show Rat.divInt 1 1 = 1 from by decide +kernel] at r1
      exact k x H1 e1 r1
theorem G_least_begin (T : Tx K mg d) : FnR P w K mg base CX0 8 d.least_begin (spBegin0 d.Ratio) := by
  have G_many_upto := G_many_upto (P := P) (w := w) (base := base) T
  have G_state_ahead := G_state_ahead (P := P) (w := w) (base := base) T
  have G_Ratio_highest := G_Ratio_highest (P := P) (w := w) (base := base) T
  have G_Ratio___init__ : FnR P w K mg base CX0 2 d.Ratio___init__ _ := G_Ratio___init__ T
  have G_add : FnR P w K mg base CX0 5 d.Ratio___add__ (spBin d.Ratio (· + ·)) := G_Ratio___add__ T
  have G_sub : FnR P w K mg base CX0 5 d.Ratio___sub__ (spBin d.Ratio (· - ·)) := G_Ratio___sub__ T
  have G_eq : FnR P w K mg base CX0 2 d.Ratio___eq__ (spCmp d.Ratio fun x y => decide (x = y)) := G_Ratio___eq__ T
  obtain ⟨fd, F⟩ := T.F_least_begin
  refine FnR.imp (FnOk.raw (F.ok sc_least_begin (k := 7) (sp := spBegin0 d.Ratio) (fun vs H Q E h => ?_) (fun cdv A outer s H vs Q E hr h => ?_)) (F.binds fun _ _ _ _ _ _ us hl => match us, hl with | [_, _, _, _], _ => rfl) .nil) fun vs H Q E h => by rw [List.append_nil]; exact h
  · obtain ⟨pb, pt, a, b, xs, ms, f, q, rfl, _⟩ := h
    rfl
  · obtain ⟨pb, pt, a, b, xs, ms, f, q, rfl, hb, ht, ha, hm, asc, hlen, hz, zq, k⟩ := h
    -- slots: 0 begin, 1 turn, 2 marks, 3 is_first, 4 early, 5 late, 6 low, 7 high, 8 is_alike
    refine ⟨_, (pss_cons (ps_set (i := 4) sc_least_begin.nd rfl (Or.inl rfl) (pe_op uSub (pe_fnR G_many_upto (hr.mono (by decide)) T.k_many_upto T.m_many_upto pass0 (pa_cons (pv 2) (pa_cons (pv 0) pa_nil))) pe_int))
      (pss_cons (ps_set (i := 5) sc_least_begin.nd rfl (Or.inl rfl) (pe_op uSub (pe_fnR G_many_upto (hr.mono (by decide)) T.k_many_upto T.m_many_upto pass0 (pa_cons (pv 2) (pa_cons (pe_op uAdd (pv 0) (pv 1)) pa_nil))) pe_int))
      (pss_one (ps_while PassesOwn.never (pt_val pe_bl) (pss_cons (ps_set (i := 6) sc_least_begin.nd rfl (Or.inl rfl) (pe_ifExp (pt_cmpR uGe (pv 4) pe_int (nomark _)) (pe_ix ix_seq (pe_ix ix_seq (pv 2) (pv 4) (fun _ _ => rfl)) pe_int (fun _ _ => rfl)) (StX.pe_makeR T.mk_Ratio G_Ratio___init__ (hr.mono (by decide)) rfl T.m_Ratio pass0 (pa_cons pe_int pa_nil))))
      (pss_cons (ps_set (i := 7) sc_least_begin.nd rfl (Or.inl rfl) (pe_ifExp (pt_cmpR uGe (pv 5) pe_int (nomark _)) (pe_smeth (pe_glob (v := .ref _) rfl T.m_Ratio rfl) T.s_Ratio_highest G_Ratio_highest (hr.mono (by decide)) pass0 (pa_cons (pe_lst (pa_cons (pe_op uSub (pe_ix ix_seq (pe_ix ix_seq (pv 2) (pv 5) (fun _ _ => rfl)) pe_int (fun _ _ => rfl)) (pv 1)) (pa_cons pe_int pa_nil))) pa_nil)) (StX.pe_makeR T.mk_Ratio G_Ratio___init__ (hr.mono (by decide)) rfl T.m_Ratio pass0 (pa_cons pe_int pa_nil))))
      (pss_cons (ps_if (PW.pt (pw_and (pt_cmpR (uEq hr.units) (pv 6) pe_int (nomark _)) (pw_and1 (pt_cmpR (uEq hr.units) (pv 7) pe_int (nomark _))))) (pss_one (ps_ret (StX.pe_makeR T.mk_Ratio G_Ratio___init__ (hr.mono (by decide)) rfl T.m_Ratio pass0 (pa_cons pe_int pa_nil)))) pss_nil)
      (pss_cons (ps_if (pt_cmpR (op_ownN) (pv 6) (pv 7) (nomark _)) (pss_one (ps_ret (pe_smeth (pe_glob (v := .ref _) rfl T.m_Ratio rfl) T.s_Ratio_highest G_Ratio_highest (hr.mono (by decide)) pass0 (pa_cons (pe_lst (pa_cons (pv 6) (pa_cons (pv 7) pa_nil))) pa_nil)))) pss_nil)
      pss_never)))))))), ?_⟩
    have zm : ∀ m ∈ ms, Sz 2000 m.1 := fun m h => sz_mono (hz m h).1 (by decide)
    have up1 : upto ms q = ms.length := upto_all fun m h => (hz m h).2.2
    have up2 : upto ms (q + 1) = ms.length := upto_all fun m h => by have := (hz m h).2.2; grind
    have zq1 : Sz 2000 (q + 1) := sz_mono (sz_add (m := 1) zq ⟨by decide +kernel, by decide +kernel⟩) (by decide)
    refine ⟨_, rfl, _, rfl, ⟨a, b, xs, ms, _, q, rfl, ha, hm, asc, hlen, zm, num_r hb, sz_mono zq (by decide), fun H1 e1 => ?_⟩⟩
    rw [up1]
    refine Or.inl ⟨_, _, rfl, rfl, ?_⟩
    try dsimp only [tNext, gName]
    refine ⟨_, rfl, _, rfl, _, rfl, Or.inr (Or.inl (own_bin T.b_Ratio_add G_add (hr.mono (by decide)) (hb.same e1) (num_r (ht.same e1)) (sz_mono zq (by decide)) ⟨by decide +kernel, by decide +kernel⟩ fun p2 H2 e2 r2 => ?_))⟩
    refine ⟨a, b, xs, ms, _, q + 1, rfl, e2 _ _ (e1 _ _ ha), (hm.same e1).same e2, asc, hlen, zm, num_r r2, zq1, fun H3 e3 => ?_⟩
    rw [up2]
    refine Or.inl ⟨_, _, rfl, rfl, ?_⟩
    have e13 := (e1.trans e2).trans e3
    have ha := e13 _ _ ha
    have hm := hm.same e13
    have ht := ht.same e13
    clear e1 e2 e3 r2 hb
    try dsimp only [tNext, gName]
    refine st_eq (σ' := [some (.ref pb), some (.ref pt), some (.ref a), some (.bl f), some (.int ((ms.length : Int) - 1)), some (.int ((ms.length : Int) - 1)), none, none, none]) rfl ?_
    refine while_to (fun σ' H' => σ' = [some (.ref pb), some (.ref pt), some (.ref a), some (.bl f), some (.int ((ms.length : Int) - 1)), some (.int ((ms.length : Int) - 1)), none, none, none] ∧ H' = H3) (fun _ _ => 0) ⟨rfl, rfl⟩ (fun σ' H' h => ?_)
    obtain ⟨rfl, eH⟩ := h
    subst eH
    refine ⟨true, rfl, iteT ⟨fun _ _ => False, fun _ _ h => h.elim, ?_⟩⟩
    cases hn : ms.length with
    | zero =>
      have hms : ms = [] := List.length_eq_zero_iff.mp hn
      have l0 : lastOf ms = 0 := by rw [hms]; rfl
      refine ⟨_, rfl, Or.inl ⟨_, _, rfl, rfl, _, rfl, ifF (by decide) ?_⟩⟩
      refine fun x dx nx nd nn => Or.inr (made' nx nd (by decide) (by decide) fun H4 e4 r4 => ⟨rfl, ?_⟩)
      try dsimp only [tNext, gName]
      refine ⟨_, rfl, Or.inl ⟨_, _, rfl, rfl, _, rfl, ifF (by decide) ?_⟩⟩
      refine fun y dy ny nd' nn' => Or.inr (made' ny nd' (by decide) (by decide) fun H5 e5 r5 => ⟨rfl, ?_⟩)
      have r4 := r4.same e5
      try dsimp only [tNext, gName]
      have z0 : Sz 2000 (Rat.divInt 0 1) := ⟨by decide +kernel, by decide +kernel⟩
      refine ⟨_, rfl, Or.inr (Or.inl (oc (r := true) T.q_Ratio_eq G_eq (hr.mono (by decide)) r4 num_i z0 z2000 (by decide +kernel) fun H6 e6 => ⟨_, rfl, iteT ?_⟩))⟩
      refine ⟨_, rfl, Or.inr (Or.inl (oc (r := true) T.q_Ratio_eq G_eq (hr.mono (by decide)) (r5.same e6) num_i z0 z2000 (by decide +kernel) fun H7 e7 => ⟨_, rfl, iteT ?_⟩))⟩
      refine fun v dv nv nd6 nn6 => Or.inr (made' nv nd6 (by decide) (by decide) fun H8 e8 r8 => ⟨rfl, ?_⟩)
      refine k v H8 ((((e13.trans e4).trans e5).trans (e6.trans e7)).trans e8) ?_
      rw [l0, show (0 : Rat) = Rat.divInt 0 1 from by decide +kernel]
      exact r8
    | succ n =>
      obtain ⟨m, hmn, el⟩ := last_at hn
      obtain ⟨zm9, m0, mq⟩ := hz m (List.mem_of_getElem? hmn)
      have hv : xs[n]? = some (xs[n]'(by have := pd_len hm; omega)) := List.getElem?_eq_getElem (by have := pd_len hm; omega)
      obtain ⟨m', hm', t, r, ev, htt, hrr⟩ := pd_at hm hv
      rw [hmn] at hm'
      injection hm' with hm'
      subst hm'
      rw [ev] at hv
      have en : ((n + 1 : Nat) : Int) - 1 = (n : Int) := by omega
      rw [en]
      have nn0 : decide ((0 : Int) ≤ (n : Int)) = true := decide_eq_true (by omega)
      refine ⟨_, rfl, Or.inl ⟨_, _, rfl, rfl, _, rfl, ifT nn0 ?_⟩⟩
      refine ⟨_, rfl, _, rfl, ix_sq ha hv (Or.inr (Or.inl ⟨t, _, 0, _, rfl, rfl, SqT.of htt, at_of (j := 0) rfl rfl, ?_⟩))⟩
      try dsimp only [tNext, gName]
      refine ⟨_, rfl, Or.inl ⟨_, _, rfl, rfl, _, rfl, ifT nn0 ?_⟩⟩
      have z1 : Sz 1 (1 : Rat) := ⟨by decide +kernel, by decide +kernel⟩
      have zs1 : Sz 2000 (m.1 - 1) := sz_mono (sz_sub zm9 z1) (by decide)
      refine ⟨rfl, _, rfl, _, rfl, ix_sq ha hv (Or.inr (Or.inl ⟨t, _, 0, _, rfl, rfl, SqT.of htt, at_of (j := 0) rfl rfl, ?_⟩))⟩
      refine ⟨_, rfl, Or.inr (own_bin T.b_Ratio_sub G_sub (hr.mono (by decide)) hrr (num_r ht) (sz_mono zm9 (by decide)) (sz_mono z1 (by decide)) fun p4 H4 e4 r4 => ⟨(by show 2 ≤ sizeLine; decide), fun L hL => ?_⟩)⟩
      refine ⟨.ref L, m.1 - 1, [((0 : Int) : Rat)], rfl, ⟨L, false, [.ref p4, .int 0], rfl, upd_same, .cons (num_r (r4.same (sameNew hL))) (.cons num_i .nil), (by show 2 ≤ 1000; decide)⟩, fun x hx => ?_, fun ph H5 e5 rh => ?_⟩
      · simp only [List.mem_cons, List.not_mem_nil, or_false] at hx
        rcases hx with rfl | rfl
        · exact zs1
        · exact z2000
      have hhi : endOf true (m.1 - 1) [((0 : Int) : Rat)] < m.1 := by
        show (if (if true = true then decide (((0 : Int) : Rat) > m.1 - 1) else decide (((0 : Int) : Rat) < m.1 - 1)) = true then ((0 : Int) : Rat) else m.1 - 1) < m.1
        rw [if_pos rfl]
        split
        · exact m0
        · grind
      have zhi : Sz 2000 (endOf true (m.1 - 1) [((0 : Int) : Rat)]) := endOf_sz zs1 fun x hx => by rw [List.mem_singleton.mp hx]; exact z2000
      generalize endOf true (m.1 - 1) [((0 : Int) : Rat)] = hi at rh hhi zhi
      have e45 := (e4.trans (sameNew (o := HO.lst [.ref p4, .int 0]) hL)).trans e5
      have hrr := hrr.same e45
      have zm2 : Sz 2000 m.1 := sz_mono zm9 (by decide)
      try dsimp only [tNext, gName]
      refine st_eq (σ' := [some (.ref pb), some (.ref pt), some (.ref a), some (.bl f), some (.int (n : Int)), some (.int (n : Int)), some (.ref r), some (.ref ph), none]) rfl ?_
      refine ⟨_, rfl, Or.inr (Or.inl (oc (r := false) T.q_Ratio_eq G_eq (hr.mono (by decide)) hrr num_i zm2 z2000 (decide_eq_false fun z => by rw [z] at m0; exact absurd m0 (by decide +kernel)) fun H6 e6 => ⟨_, rfl, iteF ?_⟩))⟩
      refine iteF ?_
      try dsimp only [tNext, gName]
      refine ⟨_, rfl, _, rfl, onn (r := true) T.z_Ratio G_eq (hr.mono (by decide)) (hrr.same e6) (num_r (rh.same e6)) zm2 zhi (by rw [decide_eq_false fun z => by rw [← z] at hhi; exact absurd hhi (by grind)]; rfl) fun H7 e7 => ⟨_, rfl, iteT ?_⟩⟩
      refine ⟨rfl, _, rfl, _, rfl, (by show 2 ≤ sizeLine; decide), fun M hM => ?_⟩
      have e67 := (e6.trans e7).trans (sameNew (o := HO.lst [.ref r, .ref ph]) hM)
      refine ⟨.ref M, m.1, [hi], rfl, ⟨M, false, [.ref r, .ref ph], rfl, upd_same, .cons (num_r (hrr.same e67)) (.cons (num_r (rh.same e67)) .nil), (by show 2 ≤ 1000; decide)⟩, fun x hx => ?_, fun pk H8 e8 rk => ?_⟩
      · simp only [List.mem_cons, List.not_mem_nil, or_false] at hx
        rcases hx with rfl | rfl
        · exact zm2
        · exact zhi
      refine k pk H8 (((e13.trans e45).trans e67).trans e8) ?_
      have : endOf true m.1 [hi] = lastOf ms := by
        rw [el]
        show (if (if true = true then decide (hi > m.1) else decide (hi < m.1)) = true then hi else m.1) = m.1
        rw [if_pos rfl, if_neg]
        intro z
        have := of_decide_eq_true z
        grind
      rw [← this]
      exact rk
theorem G_normal_form (T : Tx K mg d) : FnR P w K mg base CX0 9 d.normal_form (spForm0 d.Ratio) := by
  have G_changing := G_changing (P := P) (w := w) (base := base) T
  have G_many_upto := G_many_upto (P := P) (w := w) (base := base) T
  have G_least_turn := G_least_turn (P := P) (w := w) (base := base) T
  have G_least_begin := G_least_begin (P := P) (w := w) (base := base) T
  have G_add : FnR P w K mg base CX0 5 d.Ratio___add__ (spBin d.Ratio (· + ·)) := G_Ratio___add__ T
  obtain ⟨fd, F⟩ := T.F_normal_form
  refine FnR.imp (FnOk.raw (F.ok sc_normal_form (k := 8) (sp := spForm0 d.Ratio) (fun vs H Q E h => ?_) (fun cdv A outer s H vs Q E hr h => ?_)) (F.binds fun _ _ _ _ _ _ us hl => match us, hl with | [_, _, _, _], _ => rfl) .nil) fun vs H Q E h => by rw [List.append_nil]; exact h
  · obtain ⟨pb, pt, a, b, xs, ms, f, q, rfl, _⟩ := h
    rfl
  · obtain ⟨pb, pt, a, b, xs, ms, f, q, rfl, hb, ht, ha, hm, asc, hlen, hz, zq, k⟩ := h
    -- slots: 0 begin, 1 turn, 2 marks, 3 is_first, 4 kept, 5 new_turn, 6 new_begin
    refine ⟨_, (pss_cons (ps_set (i := 4) sc_normal_form.nd rfl (Or.inl rfl) (pe_fnR G_changing (hr.mono (by decide)) T.k_changing T.m_changing pass0 (pa_cons (pv 2) (pa_cons (pv 3) pa_nil))))
      (pss_cons (ps_set (i := 5) sc_normal_form.nd rfl (Or.inl rfl) (pe_fnR G_least_turn (hr.mono (by decide)) T.k_least_turn T.m_least_turn pass0 (pa_cons (pv 0) (pa_cons (pv 1) (pa_cons (pe_slice sl_list (pv 4) (po_some (pe_fnR G_many_upto (hr.mono (by decide)) T.k_many_upto T.m_many_upto pass0 (pa_cons (pv 4) (pa_cons (pv 0) pa_nil)))) po_none) pa_nil)))))
      (pss_cons (ps_set (i := 6) sc_normal_form.nd rfl (Or.inl rfl) (pe_fnR G_least_begin (hr.mono (by decide)) T.k_least_begin T.m_least_begin pass0 (pa_cons (pv 0) (pa_cons (pv 5) (pa_cons (pv 4) (pa_cons (pv 3) pa_nil))))))
      (pss_one (ps_ret (pe_tup (pa_cons (pv 6) (pa_cons (pv 5) (pa_cons (pe_callTy call_tuple_of (by rfl) T.n_tuple (by decide +kernel) (pa_cons (pe_slice sl_list (pv 4) po_none (po_some (pe_fnR G_many_upto (hr.mono (by decide)) T.k_many_upto T.m_many_upto pass0 (pa_cons (pv 4) (pa_cons (pe_op uAdd (pv 6) (pv 5)) pa_nil))))) pa_nil)) pa_nil))))))))), ?_⟩
    have cz : ∀ m ∈ changes ms f, Sz 900 m.1 ∧ 0 < m.1 ∧ m.1 ≤ q := fun m h => hz m (changes_sub h)
    have ca : Asc (changes ms f) := changes_asc asc
    have cl : (changes ms f).length ≤ 1000 := Nat.le_trans changes_len (by rw [← pd_len hm]; exact hlen)
    refine ⟨_, rfl, _, rfl, ⟨a, b, xs, ms, f, rfl, ha, hm, hlen, fun l ys H1 e1 _ hl hy => ?_⟩⟩
    have cm : ∀ m ∈ changes ms f, Sz 2000 m.1 := fun m h => sz_mono (cz m h).1 (by decide)
    have yl : ys.length ≤ 1000 := by rw [pd_len hy]; exact cl
    try dsimp only [tNext, gName]
    refine ⟨_, rfl, _, rfl, _, rfl, _, rfl, _, rfl, ⟨l, false, ys, changes ms f, _, q, rfl, hl, hy, ca, yl, cm, num_r (hb.same e1), sz_mono zq (by decide), fun H2 e2 => ?_⟩⟩
    rw [upto_all fun m h => (cz m h).2.2]
    refine ⟨_, rfl, l, ys, rfl, SqL.of (e2 _ _ hl), fun c hc => ?_⟩
    have hcL : upd H2 c (.lst (cutV ys (some ((changes ms f).length : Int)) none)) c = some (.lst []) := by
      rw [upd_same, cutV_from, ← pd_len hy, List.drop_length]
    have e3 := sameNew (o := HO.lst (cutV ys (some ((changes ms f).length : Int)) none)) hc
    generalize upd H2 c (HO.lst (cutV ys (some ((changes ms f).length : Int)) none)) = H3 at hcL e3 ⊢
    refine ⟨_, _, c, false, rfl, hcL, fun qt H4 e4 rt => ?_⟩
    have e14 := ((e1.trans e2).trans e3).trans e4
    have e24 := (e2.trans e3).trans e4
    try dsimp only [tNext, gName]
    refine ⟨_, rfl, _, rfl, _, rfl, _, rfl, ⟨pb, qt, l, false, ys, changes ms f, f, q, rfl, hb.same e14, rt, e24 _ _ hl, hy.same e24, ca, yl, cz, zq, fun qb H5 e5 rb => ?_⟩⟩
    have hl5 := e5 _ _ (e24 _ _ hl)
    have hy5 := (hy.same e24).same e5
    have rt5 := rt.same e5
    have zl : Sz 900 (lastOf (changes ms f)) := last_sz (fun m h => (cz m h).1) (by decide)
    have z1 : Sz 1 (1 : Rat) := ⟨by decide +kernel, by decide +kernel⟩
    try dsimp only [tNext, gName]
    refine st_eq (σ' := [some (.ref pb), some (.ref pt), some (.ref a), some (.bl f), some (.ref l), some (.ref qt), some (.ref qb)]) rfl ?_
    refine ⟨_, rfl, _, rfl, _, rfl, _, rfl, _, rfl, _, rfl, Or.inr (Or.inl (own_bin T.b_Ratio_add G_add (hr.mono (by decide)) rb (num_r rt5) (sz_mono zl (by decide)) (sz_mono z1 (by decide)) fun p6 H6 e6 r6 => ?_))⟩
    refine ⟨l, false, ys, changes ms f, _, _, rfl, e6 _ _ hl5, hy5.same e6, ca, yl, cm, num_r r6, sz_mono (sz_add zl z1) (by decide), fun H7 e7 => ?_⟩
    rw [upto_all fun m h => by have := last_le ca m h; grind]
    have hl7 := e7 _ _ (e6 _ _ hl5)
    refine ⟨_, rfl, l, ys, rfl, SqL.of hl7, fun c2 hc2 => ⟨c2, _, rfl, Or.inl ⟨SqL.of upd_same, fun t1 ht1 => ⟨(by show 3 ≤ sizeLine; decide), fun t2 ht2 => ?_⟩⟩⟩⟩
    have ey : cutV ys none (some ((changes ms f).length : Int)) = ys := by rw [cutV_upto, ← pd_len hy, List.take_length]
    rw [ey] at ht1 ht2 ⊢
    have s1 := sameNew (o := HO.lst ys) hc2
    have s2 := sameNew (o := HO.tup ys) ht1
    have s3 := sameNew (o := HO.tup [.ref qb, .ref qt, .ref t1]) ht2
    have e57 := e6.trans e7
    have e59 := ((e57.trans s1).trans s2).trans s3
    refine k t2 qb qt t1 ys _ ((e14.trans e5).trans e59) upd_same (rb.same e59) (rt5.same e59) (s3 _ _ upd_same) (hy5.same e59)
end

end AZ
namespace AZ
open PySem L2
/-! ## sets of zooms that do not come round -/
abbrev zF (rb rt rm : Addr) (f : Bool) (n : Nat) : List (Str × V) := [("begin", .ref rb), ("turn", .ref rt), ("marks", .ref rm), ("is_first", .bl f), ("once", .int (n : Int))]
def IsZ (C D : Addr) (H : Hp) (a : Addr) (q : Rat) (ms : List Mk) (f : Bool) : Prop := ∃ dx rb rt rm zs, H a = some (.ins D dx (zF rb rt rm f ms.length)) ∧ IsRat C H rb q ∧ IsRat C H rt 1 ∧ H rm = some (.tup zs) ∧ Mks C H zs ms
theorem IsZ.same {C D a : Addr} {H H' : Hp} {q : Rat} {ms : List Mk} {f : Bool} (h : IsZ C D H a q ms f) (e : Same H H') : IsZ C D H' a q ms f :=
  let ⟨dx, rb, rt, rm, zs, h1, h2, h3, h4, h5⟩ := h
  ⟨dx, rb, rt, rm, zs, e _ _ h1, h2.same e, h3.same e, e _ _ h4, h5.same e⟩
/-- marks of a beginning that ends at q -/
structure ZOk (q : Rat) (ms : List Mk) : Prop where
  asc : Asc ms
  len : ms.length ≤ 1000
  mark : ∀ m ∈ ms, Sz 900 m.1 ∧ 0 < m.1 ∧ m.1 ≤ q
  sz : Sz 900 q
  pos : 0 ≤ q
theorem ZOk.form {q : Rat} {ms : List Mk} (h : ZOk q ms) (f : Bool) : ZOk (lastOf (changes ms f)) (changes ms f) := by
  have cz : ∀ m ∈ changes ms f, Sz 900 m.1 ∧ 0 < m.1 ∧ m.1 ≤ q := fun m x => h.mark m (changes_sub x)
  refine ⟨changes_asc h.asc, Nat.le_trans changes_len h.len, fun m x => ⟨(cz m x).1, (cz m x).2.1, last_le (changes_asc h.asc) m x⟩, last_sz (fun m x => (cz m x).1) (by decide), ?_⟩
  unfold lastOf
  split
  · rename_i m e
    exact Std.le_of_lt (cz m (List.mem_of_getLast? e)).2.1
  · exact Std.le_refl _
/-- the begin and the turn 1, as they are handed -/
def BT (C : Addr) (H : Hp) (vb vt : V) (q : Rat) : Prop := (∃ i : Int, vb = .int i ∧ q = (i : Rat) ∧ vt = .int 1) ∨ ∃ a, vb = .ref a ∧ IsRat C H a q ∧ Num C H vt 1
theorem BT.same {C : Addr} {H H' : Hp} {vb vt : V} {q : Rat} (h : BT C H vb vt q) (e : Same H H') : BT C H' vb vt q := h.elim Or.inl fun ⟨a, x, y, z⟩ => Or.inr ⟨a, x, y.same e, z.same e⟩
theorem BT.b {C : Addr} {H : Hp} {vb vt : V} {q : Rat} (h : BT C H vb vt q) : Num C H vb q := by
  rcases h with ⟨i, rfl, rfl, _⟩ | ⟨a, rfl, ha, _⟩
  · exact num_i
  · exact num_r ha
theorem BT.t {C : Addr} {H : Hp} {vb vt : V} {q : Rat} (h : BT C H vb vt q) : Num C H vt 1 := by
  rcases h with ⟨i, rfl, rfl, rfl⟩ | ⟨a, rfl, ha, ht⟩
  · exact Or.inl ⟨1, rfl, by decide +kernel⟩
  · exact ht
def spZInit (C D : Addr) : Sp := fun vs H Q _ => ∃ (p dx : Addr) (vb vt : V) (t : Addr) (f : Bool) (q : Rat) (ms : List Mk) (xs : List V), vs = [.ref p, vb, vt, .ref t, .bl f] ∧ H p = some (.ins D dx []) ∧ BT C H vb vt q ∧ H t = some (.tup xs) ∧ MksIn C H xs ms ∧ ZOk q ms ∧
  ∀ H', (∀ x o, H x = some o → x ≠ p → H' x = some o) → IsZ C D H' p (lastOf (changes ms f)) (changes ms f) f → Q .non H'
/-- what stands elsewhere than at a bare instance stays -/
def Kp (D dx : Addr) (H H' : Hp) : Prop := ∀ b o, H b = some o → o ≠ .ins D dx [] → H' b = some o
theorem Kp.put {D dx p : Addr} {H H' : Hp} {fs : List (Str × V)} (k : Kp D dx H H') (hp : H p = some (.ins D dx [])) : Kp D dx H (upd H' p (.ins D dx fs)) := fun b o e n => by
  rw [upd_ne fun z => n (by rw [z, hp] at e; injection e with e; exact e.symm)]
  exact k b o e n
theorem Kp.same {D dx : Addr} {H H' H2 : Hp} (k : Kp D dx H H') (e : Same H' H2) : Kp D dx H H2 := fun b o x n => e _ _ (k b o x n)
theorem Kp.rat {D dx C a : Addr} {H H' : Hp} {q : Rat} (k : Kp D dx H H') (h : IsRat C H a q) : IsRat C H' a q := let ⟨dy, x⟩ := h; ⟨dy, k _ _ x nofun⟩
theorem Kp.mks {D dx C : Addr} {H H' : Hp} {xs : List V} {ms : List Mk} (k : Kp D dx H H') (h : Mks C H xs ms) : Mks C H' xs ms := pd_imp (fun ⟨t, r, a, b, c⟩ => ⟨t, r, a, k _ _ b nofun, k.rat c⟩) h
theorem st_eq' {u : TS} {D : Ends} {σ : L2.St} {H H' : Hp} (e : H = H') (h : u D σ H') : u D σ H := e ▸ h
theorem behind_all {ms : List Mk} {f : Bool} : behindOf (ms.take ms.length) f = behindOf ms f := by rw [List.take_length]
section
variable {P : Program} {w : World} {K : PySem.W.Frag} {mg : Str → Option Value} {base : Heap} {d : Ad}
theorem one_r : (1 : Rat) = ((1 : Int) : Rat) := by decide +kernel
theorem G_Zooms___init__ (T : Tx K mg d) : FnR P w K mg base CX0 10 d.Zooms___init__ (spZInit d.Ratio d.Zooms) := by
  have G_is_place := G_is_place (P := P) (w := w) (base := base) T
  have G_is_zoom := G_is_zoom (P := P) (w := w) (base := base) T
  have G_checked_marks := G_checked_marks (P := P) (w := w) (base := base) T
  have G_many_upto := G_many_upto (P := P) (w := w) (base := base) T
  have G_state_ahead := G_state_ahead (P := P) (w := w) (base := base) T
  have G_normal_form := G_normal_form (P := P) (w := w) (base := base) T
  have G_Ratio_of : FnR P w K mg base CX0 4 d.Ratio_of (spOf d.Ratio) := G_Ratio_of T
  have G_add : FnR P w K mg base CX0 5 d.Ratio___add__ (spBin d.Ratio (· + ·)) := G_Ratio___add__ T
  obtain ⟨fd, F⟩ := T.F_Zooms___init__
  refine FnR.imp (FnOk.raw (F.ok sc_Zooms___init__ (k := 9) (sp := spZInit d.Ratio d.Zooms) (fun vs H Q E h => ?_) (fun cdv A outer s H vs Q E hr h => ?_)) (F.binds fun _ _ _ _ _ _ us hl => match us, hl with | [_, _, _, _, _], _ => rfl) .nil) fun vs H Q E h => by rw [List.append_nil]; exact h
  · obtain ⟨p, dx, vb, vt, t, f, q, ms, xs, rfl, _⟩ := h
    rfl
  · obtain ⟨p, dx, vb, vt, t, f, q, ms, xs, rfl, hp, hbt, ht, hm, ok, k⟩ := h
    -- slots: 0 self, 1 begin, 2 turn, 3 marks, 4 is_first, 5 rows, 6 told, 7 form
    refine ⟨_, (pss_cons (ps_if (pt_not (pt_val (pe_fnR G_is_place (hr.mono (by decide)) T.k_is_place T.m_is_place pass0 (pa_cons (pv 1) pa_nil)))) pss_never pss_nil)
      (pss_cons (ps_if (pt_not (pt_val (pe_fnR G_is_zoom (hr.mono (by decide)) T.k_is_zoom T.m_is_zoom pass0 (pa_cons (pv 2) pa_nil)))) pss_never pss_nil)
      (pss_cons (ps_set (i := 5) sc_Zooms___init__.nd rfl (Or.inl rfl) (pe_fnR G_checked_marks (hr.mono (by decide)) T.k_checked_marks T.m_checked_marks pass0 (pa_cons (pv 3) (pa_cons (pe_op uAdd (pv 1) (pv 2)) pa_nil))))
      (pss_cons (ps_if (pt_not (pt_val (pe_callB uIsi (by rfl) T.n_isinstance (by decide +kernel) (pa_cons (pv 4) (pa_cons (pe_bltn (v := .ty "bool") (by rfl) T.n_bool (by decide +kernel) rfl) pa_nil))))) pss_never pss_nil)
      (pss_cons (ps_set (i := 6) sc_Zooms___init__.nd rfl (Or.inl rfl) (pe_fnR G_many_upto (hr.mono (by decide)) T.k_many_upto T.m_many_upto pass0 (pa_cons (pv 5) (pa_cons (pv 1) pa_nil))))
      (pss_cons (ps_if (pt_cmpR (uNe hr.units) (pe_fnR G_state_ahead (hr.mono (by decide)) T.k_state_ahead T.m_state_ahead pass0 (pa_cons (pv 5) (pa_cons (pv 6) (pa_cons (pv 4) pa_nil)))) (pe_fnR G_state_ahead (hr.mono (by decide)) T.k_state_ahead T.m_state_ahead pass0 (pa_cons (pv 5) (pa_cons (pe_callB call_len_seq (by rfl) T.n_len (by decide +kernel) (pa_cons (pv 5) pa_nil)) (pa_cons (pv 4) pa_nil)))) (nomark _)) pss_never pss_nil)
      (pss_cons (ps_set (i := 7) sc_Zooms___init__.nd rfl (Or.inl rfl) (pe_fnR G_normal_form (hr.mono (by decide)) T.k_normal_form T.m_normal_form pass0 (pa_cons (pe_smeth (pe_glob (v := .ref _) rfl T.m_Ratio rfl) T.s_Ratio_of G_Ratio_of (hr.mono (by decide)) pass0 (pa_cons (pv 1) pa_nil)) (pa_cons (pe_smeth (pe_glob (v := .ref _) rfl T.m_Ratio rfl) T.s_Ratio_of G_Ratio_of (hr.mono (by decide)) pass0 (pa_cons (pv 2) pa_nil)) (pa_cons (pv 5) (pa_cons (pv 4) pa_nil))))))
      (pss_cons (ps_fld (pv 0) (pe_ix ix_seq (pv 7) pe_int (fun _ _ => rfl)) rfl)
      (pss_cons (ps_fld (pv 0) (pe_ix ix_seq (pv 7) pe_int (fun _ _ => rfl)) rfl)
      (pss_cons (ps_fld (pv 0) (pe_ix ix_seq (pv 7) pe_int (fun _ _ => rfl)) rfl)
      (pss_cons (ps_fld (pv 0) (pv 4) rfl)
      (pss_one (ps_fld (pv 0) (pe_fnR G_many_upto (hr.mono (by decide)) T.k_many_upto T.m_many_upto pass0 (pa_cons (pe_fld (pv 0) rfl) (pa_cons (pe_fld (pv 0) rfl) pa_nil))) rfl))))))))))))), ?_⟩
    have zq2 : Sz 2000 q := sz_mono ok.sz (by decide)
    have z12 : Sz 2000 (1 : Rat) := ⟨by decide +kernel, by decide +kernel⟩
    have q0 : decide (q ≥ 0) = true := decide_eq_true ok.pos
    refine ⟨_, rfl, Or.inl ⟨vb, q, rfl, hbt.b, zq2, fun H1 e1 => ⟨_, rfl, ifF (congrArg not q0) ?_⟩⟩⟩
    try dsimp only [tNext, gName]
    refine ⟨_, rfl, Or.inl ⟨vt, 1, rfl, (hbt.same e1).t, z12, fun H2 e2 => ⟨_, rfl, ifF (by decide +kernel) ?_⟩⟩⟩
    have e12 := e1.trans e2
    have hbt2 := hbt.same e12
    try dsimp only [tNext, gName]
    -- the sum of the begin and the turn
    have zs : Sz 2000 (q + 1) := sz_mono (sz_add (m := 1) ok.sz ⟨by decide +kernel, by decide +kernel⟩) (by decide)
    have sum : ∀ W : VK, (∀ v H3, Same H2 H3 → Num d.Ratio H3 v (q + 1) → W v H3) → orR (rI0 fun i j => V.int (i + j)) (orR (rOwn (cxOf CX0 P w K mg base ["self", "begin", "turn", "marks", "is_first", "rows", "told", "form"] "Zooms.__init__" (defScope s_Zooms___init__) d.Zooms___init__ cdv A outer s H E).nox .Add) (orR rCat (rCatT K))) vb vt H2 W := fun W hW => by
      rcases hbt2 with ⟨i, rfl, rfl, rfl⟩ | ⟨b, rfl, hb, hv⟩
      · refine Or.inl ⟨i, 1, rfl, rfl, hW _ H2 (Same.refl _) (Or.inl ⟨_, rfl, ?_⟩)⟩
        rw [Rat.intCast_add]
        rfl
      · exact Or.inr (Or.inl (own_bin T.b_Ratio_add G_add (hr.mono (by decide)) hb hv zq2 z12 fun pp H3 e3 r3 => hW _ H3 e3 (num_r r3)))
    refine ⟨_, rfl, _, rfl, _, rfl, sum _ fun v H3 e3 hv => ?_⟩
    have e3' := e12.trans e3
    have xl : xs.length ≤ 1000 := by rw [pd_len hm]; exact ok.len
    refine ⟨t, xs, ms, v, q + 1, rfl, e3' _ _ ht, hm.same e3', ok.asc, xl, fun m h => ⟨sz_mono (ok.mark m h).1 (by decide), (ok.mark m h).2.1, by have := (ok.mark m h).2.2; grind⟩, hv, zs, fun l ys H4 e4 _ hl hy => ?_⟩
    have e4' := e3'.trans e4
    have yl : ys.length = ms.length := pd_len hy
    have ylk : ys.length ≤ 1000 := by rw [yl]; exact ok.len
    try dsimp only [tNext, gName]
    refine ⟨_, rfl, Or.inl ⟨_, _, _, _, true, rfl, .ty _, .base (.bl _), T.i_bool_is_bool, true, rfl, iteF ?_⟩⟩
    try dsimp only [tNext, gName]
    refine ⟨_, rfl, _, rfl, ⟨l, false, ys, ms, vb, q, rfl, hl, hy, ok.asc, ylk, fun m h => sz_mono (ok.mark m h).1 (by decide), (hbt.same e4').b, zq2, fun H5 e5 => ?_⟩⟩
    rw [upto_all fun m h => (ok.mark m h).2.2]
    have e5' := e4'.trans e5
    have hl5 := e5 _ _ hl
    have hy5 := hy.same e5
    try dsimp only [tNext, gName]
    refine st_eq (σ' := [some (.ref p), some vb, some vt, some (.ref t), some (.bl f), some (.ref l), some (.int (ms.length : Int)), none]) rfl ?_
    refine ⟨_, rfl, _, rfl, _, rfl, ⟨l, false, ys, ms, ms.length, f, rfl, hl5, hy5, Nat.le_refl _, ?_⟩⟩
    refine ⟨_, rfl, _, rfl, l, ys, rfl, sq_or (b := false) hl5, _, rfl, ⟨l, false, ys, ms, ys.length, f, rfl, hl5, hy5, by omega, Or.inl ⟨rfl, _, rfl, ifF ?_ ?_⟩⟩⟩
    · rw [yl]; simp
    try dsimp only [tNext, gName]
    refine ⟨rfl, _, rfl, ⟨vb, q, rfl, (hbt.same e5').b, fun pb H6 e6 r6 => ⟨rfl, _, rfl, ⟨vt, 1, rfl, ((hbt.same e5').same e6).t, fun pt H7 e7 r7 => ?_⟩⟩⟩⟩
    have e67 := e6.trans e7
    refine ⟨_, rfl, _, rfl, ⟨pb, pt, l, false, ys, ms, f, q, rfl, r6.same e7, r7, e67 _ _ hl5, hy5.same e67, ok.asc, ylk, ok.mark, ok.sz, fun tt rb rt rm zz H8 e8 htt hrb hrt hrm hzz => ?_⟩⟩
    have e9 := (e5'.trans e67).trans e8
    have hp8 := e9 _ _ hp
    try dsimp only [tNext, gName]
    refine st_eq (σ' := [some (.ref p), some vb, some vt, some (.ref t), some (.bl f), some (.ref l), some (.int (ms.length : Int)), some (.ref tt)]) rfl ?_
    have K0 : Kp d.Zooms dx H8 H8 := fun b o e _ => e
    refine ⟨_, rfl, Or.inr (Or.inl ⟨tt, _, 0, _, rfl, rfl, SqT.of htt, at_of (j := 0) rfl rfl, _, rfl, p, _, dx, _, rfl, hp8, T.c_Zooms, T.a_Zooms_begin, (by show 0 < 1000; decide), ?_⟩)⟩
    have fin : ∀ (G : Hp) (fs : List (Str × V)), Kp d.Zooms dx H8 G → Kp d.Zooms dx H8 (upd G p (.ins d.Zooms dx fs)) := fun G fs k => k.put hp8
    have K1 := fin _ [("begin", .ref rb)] K0
    have hp1 : upd H8 p (.ins d.Zooms dx [("begin", .ref rb)]) p = some (.ins d.Zooms dx [("begin", .ref rb)]) := upd_same
    have o1 : ∀ b o, H8 b = some o → b ≠ p → upd H8 p (.ins d.Zooms dx [("begin", .ref rb)]) b = some o := fun b o e n => by rw [upd_ne n]; exact e
    generalize hG1 : upd H8 p (.ins d.Zooms dx [("begin", .ref rb)]) = G1 at K1 hp1 o1
    refine st_eq' (H' := G1) hG1 ?_
    refine ⟨_, rfl, Or.inr (Or.inl ⟨tt, _, 1, _, rfl, rfl, SqT.of (K1 _ _ htt nofun), at_of (j := 1) rfl rfl, _, rfl, p, _, dx, _, rfl, hp1, T.c_Zooms, T.a_Zooms_turn, (by show 1 < 1000; decide), ?_⟩)⟩
    have K2 := fin _ [("begin", .ref rb), ("turn", .ref rt)] K1
    have hp2 : upd G1 p (.ins d.Zooms dx [("begin", .ref rb), ("turn", .ref rt)]) p = some (.ins d.Zooms dx [("begin", .ref rb), ("turn", .ref rt)]) := upd_same
    have o2 : ∀ b o, H8 b = some o → b ≠ p → upd G1 p (.ins d.Zooms dx [("begin", .ref rb), ("turn", .ref rt)]) b = some o := fun b o e n => by rw [upd_ne n]; exact o1 b o e n
    generalize hG2 : upd G1 p (.ins d.Zooms dx [("begin", .ref rb), ("turn", .ref rt)]) = G2 at K2 hp2 o2
    refine st_eq' (H' := G2) hG2 ?_
    refine ⟨_, rfl, Or.inr (Or.inl ⟨tt, _, 2, _, rfl, rfl, SqT.of (K2 _ _ htt nofun), at_of (j := 2) rfl rfl, _, rfl, p, _, dx, _, rfl, hp2, T.c_Zooms, T.a_Zooms_marks, (by show 2 < 1000; decide), ?_⟩)⟩
    have K3 := fin _ [("begin", .ref rb), ("turn", .ref rt), ("marks", .ref rm)] K2
    have hp3 : upd G2 p (.ins d.Zooms dx [("begin", .ref rb), ("turn", .ref rt), ("marks", .ref rm)]) p = some (.ins d.Zooms dx [("begin", .ref rb), ("turn", .ref rt), ("marks", .ref rm)]) := upd_same
    have o3 : ∀ b o, H8 b = some o → b ≠ p → upd G2 p (.ins d.Zooms dx [("begin", .ref rb), ("turn", .ref rt), ("marks", .ref rm)]) b = some o := fun b o e n => by rw [upd_ne n]; exact o2 b o e n
    generalize hG3 : upd G2 p (.ins d.Zooms dx [("begin", .ref rb), ("turn", .ref rt), ("marks", .ref rm)]) = G3 at K3 hp3 o3
    refine st_eq' (H' := G3) hG3 ?_
    refine ⟨_, rfl, _, rfl, p, _, dx, _, rfl, hp3, T.c_Zooms, T.a_Zooms_is_first, (by show 3 < 1000; decide), ?_⟩
    have K4 := fin _ [("begin", .ref rb), ("turn", .ref rt), ("marks", .ref rm), ("is_first", .bl f)] K3
    have hp4 : upd G3 p (.ins d.Zooms dx [("begin", .ref rb), ("turn", .ref rt), ("marks", .ref rm), ("is_first", .bl f)]) p = some (.ins d.Zooms dx [("begin", .ref rb), ("turn", .ref rt), ("marks", .ref rm), ("is_first", .bl f)]) := upd_same
    have o4 : ∀ b o, H8 b = some o → b ≠ p → upd G3 p (.ins d.Zooms dx [("begin", .ref rb), ("turn", .ref rt), ("marks", .ref rm), ("is_first", .bl f)]) b = some o := fun b o e n => by rw [upd_ne n]; exact o3 b o e n
    generalize hG4 : upd G3 p (.ins d.Zooms dx [("begin", .ref rb), ("turn", .ref rt), ("marks", .ref rm), ("is_first", .bl f)]) = G4 at K4 hp4 o4
    refine st_eq' (H' := G4) hG4 ?_
    have okF := ok.form f
    refine ⟨_, rfl, p, _, dx, _, _, rfl, hp4, T.c_Zooms, T.a_Zooms_marks, rfl, _, rfl, p, _, dx, _, _, rfl, hp4, T.c_Zooms, T.a_Zooms_begin, rfl, ⟨rm, true, zz, changes ms f, _, _, rfl, K4 _ _ hrm nofun, K4.mks hzz, okF.asc, by rw [pd_len hzz]; exact okF.len, fun m h => sz_mono (okF.mark m h).1 (by decide), num_r (K4.rat hrb), sz_mono okF.sz (by decide), fun G5 e5g => ?_⟩⟩
    rw [upto_all fun m h => (okF.mark m h).2.2]
    refine ⟨_, rfl, p, _, dx, _, rfl, e5g _ _ hp4, T.c_Zooms, T.a_Zooms_once, (by show 4 < 1000; decide), ?_⟩
    have K5 := fin _ (zF rb rt rm f (changes ms f).length) (K4.same e5g)
    refine k _ (fun x o e n => ?_) ⟨dx, rb, rt, rm, zz, upd_same, K5.rat hrb, K5.rat hrt, K5 _ _ hrm nofun, K5.mks hzz⟩
    rw [upd_ne n]
    exact e5g _ _ (o4 x o (e9 _ _ e) n)
end

end AZ
namespace AZ
open PySem L2
/-! ## sets between and beyond -/
def spZNew (C D : Addr) (q : Rat) (ms : List Mk) (f : Bool) : Sp := fun vs H Q _ => vs = [] ∧ ∀ p H', Same H H' → IsZ C D H' p q ms f → Q (.ref p) H'
theorem sameN {H : Hp} {p : Addr} {o : HO} (h : H p = none) : Same H (upd H p o) := fun b o' e => by
  rw [upd_ne fun z => by rw [z, h] at e; cases e]
  exact e
theorem zmake {C D x dx t : Addr} {H : Hp} {vb vt : V} {f : Bool} {q : Rat} {ms : List Mk} {xs : List V} {W : VK} {E : XK} (nx : H x = none) (nd : H dx = none) (hbt : BT C H vb vt q) (ht : H t = some (.tup xs)) (hm : MksIn C H xs ms) (ok : ZOk q ms)
    (k : ∀ H', Same H H' → IsZ C D H' x (lastOf (changes ms f)) (changes ms f) f → W .non H') : spZInit C D [.ref x, vb, vt, .ref t, .bl f] (upd (upd H dx (.own x)) x (.ins D dx [])) W E := by
  have e : Same H (upd (upd H dx (.own x)) x (.ins D dx [])) := Same.made nx nd fun b o z _ => z
  exact ⟨x, dx, vb, vt, t, f, q, ms, xs, rfl, upd_same, hbt.same e, e _ _ ht, hm.same e, ok, fun H' kp z => k H' (Same.made nx nd kp) z⟩
theorem zok0 : ZOk 0 [] := ⟨List.Pairwise.nil, by decide, nofun, ⟨by decide +kernel, by decide +kernel⟩, by decide +kernel⟩
theorem bt_i {C : Addr} {H : Hp} (i : Int) : BT C H (.int i) (.int 1) (i : Rat) := Or.inl ⟨i, rfl, rfl, rfl⟩
section
variable {P : Program} {w : World} {K : PySem.W.Frag} {mg : Str → Option Value} {base : Heap} {d : Ad}
theorem G_Zooms_everything (T : Tx K mg d) : FnR P w K mg base CX0 12 d.Zooms_everything (spZNew d.Ratio d.Zooms 0 [] true) := by
  have G_Zooms___init__ := G_Zooms___init__ (P := P) (w := w) (base := base) T
  obtain ⟨fd, F⟩ := T.F_Zooms_everything
  refine FnR.imp (FnOk.raw (F.ok sc_Zooms_everything (k := 11) (sp := spZNew d.Ratio d.Zooms 0 [] true) (fun vs H Q E h => ?_) (fun cdv A outer s H vs Q E hr h => ?_)) (F.binds fun _ _ _ _ _ _ us hl => match us, hl with | [], _ => rfl) .nil) fun vs H Q E h => by rw [List.append_nil]; exact h
  · obtain ⟨rfl, _⟩ := h
    rfl
  · obtain ⟨rfl, k⟩ := h
    -- slots: 
    refine ⟨_, (pss_one (ps_ret (StX.pe_makeR T.mk_Zooms G_Zooms___init__ (hr.mono (by decide)) rfl T.m_Zooms pass0 (pa_cons pe_int (pa_cons pe_int (pa_cons (pe_tup pa_nil) (pa_cons pe_bl pa_nil))))))), ?_⟩
    refine ⟨by decide, fun p hp x dx nx nd hn => ?_⟩
    exact zmake nx nd (bt_i 0) upd_same .nil zok0 fun H' e z => ⟨rfl, k x H' ((sameN hp).trans e) z⟩
theorem G_Zooms_nothing (T : Tx K mg d) : FnR P w K mg base CX0 12 d.Zooms_nothing (spZNew d.Ratio d.Zooms 0 [] false) := by
  have G_Zooms___init__ := G_Zooms___init__ (P := P) (w := w) (base := base) T
  obtain ⟨fd, F⟩ := T.F_Zooms_nothing
  refine FnR.imp (FnOk.raw (F.ok sc_Zooms_nothing (k := 11) (sp := spZNew d.Ratio d.Zooms 0 [] false) (fun vs H Q E h => ?_) (fun cdv A outer s H vs Q E hr h => ?_)) (F.binds fun _ _ _ _ _ _ us hl => match us, hl with | [], _ => rfl) .nil) fun vs H Q E h => by rw [List.append_nil]; exact h
  · obtain ⟨rfl, _⟩ := h
    rfl
  · obtain ⟨rfl, k⟩ := h
    -- slots: 
    refine ⟨_, (pss_one (ps_ret (StX.pe_makeR T.mk_Zooms G_Zooms___init__ (hr.mono (by decide)) rfl T.m_Zooms pass0 (pa_cons pe_int (pa_cons pe_int (pa_cons (pe_tup pa_nil) (pa_cons pe_bl pa_nil))))))), ?_⟩
    refine ⟨by decide, fun p hp x dx nx nd hn => ?_⟩
    exact zmake nx nd (bt_i 0) upd_same .nil zok0 fun H' e z => ⟨rfl, k x H' ((sameN hp).trans e) z⟩
end
def RaiZ (CB : Addr) (part : Str) (H : Hp) (E : XK) : Prop := ∀ H' dx, Same H H' → H' dx = none → E (.ref CB) (some dx) (upd H' dx (.xd [("part", .str part)]))
def NotPl (K : PySem.W.Frag) (C : Addr) (H : Hp) (v : V) : Prop := (∃ e, Odd K C H v e) ∨ ∃ q, Num C H v q ∧ Sz 2000 q ∧ ¬ (q ≥ 0)
def NotBo (K : PySem.W.Frag) (H : Hp) (v : V) : Prop := ∃ T, TyX K H v (.type T) ∧ PySem.W.kitOne K (.type T) (.type "bool") = some false
/-- the marks of what is beyond q -/
def bey (q : Rat) (c : Bool) : List Mk := if q > 0 then [(q, c, true)] else []
def spBey (K : PySem.W.Frag) (C D CB : Addr) : Sp := fun vs H Q E => ∃ v b, vs = [v, b] ∧ ((NotPl K C H v ∧ RaiZ CB "low" H E) ∨ ∃ q, Num C H v q ∧ Sz 900 q ∧ q ≥ 0 ∧ ((NotBo K H b ∧ RaiZ CB "is_low" H E) ∨
  ∃ c, b = .bl c ∧ ∀ p H', Same H H' → IsZ C D H' p q (bey q c) (decide (q = 0)) → Q (.ref p) H'))
theorem spBey_len {K : PySem.W.Frag} {C D CB : Addr} : ∀ vs H Q E, spBey K C D CB vs H Q E → vs.length = 2 := fun vs H Q E h => by obtain ⟨v, b, rfl, _⟩ := h; rfl
section
variable {P : Program} {w : World} {K : PySem.W.Frag} {mg : Str → Option Value} {base : Heap} {d : Ad}
theorem GX_BadZooms___init__ (T : Tx K mg d) : FnG P w K mg base CX0 1 d.BadZooms___init__ (spErrX K d.BadZooms "part") := by
  obtain ⟨fd, F⟩ := T.F_BadZooms___init__
  refine (fnOG (k := 0) F sc_BadZooms___init__ (sp := spErrX K d.BadZooms "part") (fun vs H Q E h => ?_) (fun cdv A outer s H vs Q E ng hr h => ?_)).pos (fun vs H Q E h => by obtain ⟨a, v, e, rfl, _⟩ := h; rfl) (F.binds fun _ _ _ _ _ _ us hl => match us, hl with | [_, _], _ => rfl)
  · obtain ⟨a, v, e, rfl, _⟩ := h
    rfl
  · obtain ⟨a, v, e, rfl, ha, S, n, k⟩ := h
    -- slots: 0 self, 1 part
    refine ⟨_, (pss_cons (ps_expr (pe_sinit T.vi_SnapError rfl T.m_SnapError (pa_cons (pv 0) (pa_cons (pe_joined (PJ.cons pe_str (PJ.cons (pe_fmtA ng hr.units (pv 1)) PJ.nil))) pa_nil))))
      (pss_one (ps_ost (pv 0) (pv 1)))), ?_⟩
    exact err1x_body T.ex_BadZooms T.a_BadZooms_part ha S n rfl rfl (by decide) k
theorem gt0 {X : Cx} (T : Tx X.K mg d) (G : FnR X.prog X.w X.K X.mg X.base CX0 5 d.Ratio___gt__ (spCmp d.Ratio fun x y => decide (x > y))) (hr : Room 5 X.A) {v : V} {q : Rat} {H : Hp} {W : VK} (hv : Num d.Ratio H v q) (zq : Sz 2000 q)
    (k : ∀ H', Same H H' → W (.bl (decide (q > 0))) H') : orR (rI0 fun i j => V.bl (decide (j < i))) (rOwnC X .Gt) v (.int 0) H W := by
  rcases hv with ⟨i, rfl, rfl⟩ | ⟨a, rfl, ha⟩
  · have e : decide (0 < i) = decide ((i : Rat) > 0) := decide_eq_decide.mpr ⟨fun h => Rat.intCast_lt_intCast (a := 0).mpr h, fun h => Rat.intCast_lt_intCast (a := 0).mp h⟩
    refine Or.inl ⟨_, _, rfl, rfl, ?_⟩
    show W (.bl (decide (0 < i))) H
    rw [e]
    exact k H (Same.refl _)
  · exact Or.inr (oc T.q_Ratio_gt G hr ha num_i zq z2000 rfl k)
theorem eq0 {X : Cx} {D : R2} (T : Tx X.K mg d) (G : FnR X.prog X.w X.K X.mg X.base CX0 2 d.Ratio___eq__ (spCmp d.Ratio fun x y => decide (x = y))) (hr : Room 2 X.A) {v : V} {q : Rat} {H : Hp} {W : VK} (hv : Num d.Ratio H v q) (zq : Sz 2000 q)
    (k : ∀ H', Same H H' → W (.bl (decide (q = 0))) H') : orR rEq (orR (rOwnC X .Eq) D) v (.int 0) H W := by
  rcases hv with ⟨i, rfl, rfl⟩ | ⟨a, rfl, ha⟩
  · have e : decide (V.int i = V.int 0) = decide ((i : Rat) = 0) := decide_eq_decide.mpr ⟨fun h => by injection h with h; rw [h]; rfl, fun h => by rw [show i = 0 from Rat.intCast_inj.mp h]⟩
    refine Or.inl ⟨rfl, ?_⟩
    rw [e]
    exact k H (Same.refl _)
  · exact Or.inr (Or.inl (oc T.q_Ratio_eq G hr ha num_i zq z2000 rfl k))
theorem not_place {H : Hp} {v : V} {Q : VK} {E : XK} (h : NotPl K d.Ratio H v) (k : ∀ H', Same H H' → Q (.bl false) H') : spTest0 d.Ratio (fun q => decide (q ≥ 0)) [v] H Q E ∨ spTestX K d.Ratio [v] H Q E := by
  rcases h with ⟨e, od⟩ | ⟨q, hv, zq, nq⟩
  · exact Or.inr ⟨v, e, rfl, od, k H (Same.refl _)⟩
  · refine Or.inl ⟨v, q, rfl, hv, zq, fun H' e => ?_⟩
    show Q (.bl (decide (q ≥ 0))) H'
    rw [decide_eq_false nq]
    exact k H' e
theorem bt_n {C : Addr} {H : Hp} {v : V} {q : Rat} (h : Num C H v q) : BT C H v (.int 1) q := by
  rcases h with ⟨i, rfl, rfl⟩ | ⟨a, rfl, ha⟩
  · exact bt_i i
  · exact Or.inr ⟨a, rfl, ha, Or.inl ⟨1, rfl, by decide +kernel⟩⟩
theorem zok1 {q : Rat} (c : Bool) (z : Sz 900 q) (h : q ≥ 0) : ZOk q (bey q c) := by
  unfold bey
  split
  · rename_i p
    exact ⟨List.pairwise_singleton _ _, (by show 1 ≤ 1000; decide), fun m x => by rw [List.mem_singleton.mp x]; exact ⟨z, p, Std.le_refl _⟩, z, h⟩
  · exact ⟨List.Pairwise.nil, by decide, nofun, z, h⟩
theorem bey_form {q : Rat} (c : Bool) (h : q ≥ 0) : changes (bey q c) (decide (q = 0)) = bey q c ∧ lastOf (bey q c) = q := by
  by_cases p : q > 0
  · have n : decide (q = 0) = false := decide_eq_false (by grind)
    rw [n]
    unfold bey
    rw [if_pos p]
    refine ⟨?_, rfl⟩
    unfold changes
    rw [if_pos (by cases c <;> rfl)]
    rfl
  · unfold bey
    rw [if_neg p]
    exact ⟨rfl, by show (0 : Rat) = q; grind⟩
theorem GO_Zooms_beyond (T : Tx K mg d) : ∃ fd, FunD K "beyond" "Zooms.beyond" (defArgs s_Zooms_beyond) (defBody s_Zooms_beyond) (defScope s_Zooms_beyond) [.bl true] [] d.Zooms_beyond fd ∧ FnOG P w K mg base (CXx P w) 13 d.Zooms_beyond fd ["low", "is_low"] (spBey K d.Ratio d.Zooms d.BadZooms) := by
  have G_Zooms___init__ := G_Zooms___init__ (P := P) (w := w) (base := base) T
  have G_is_place := G_is_place (P := P) (w := w) (base := base) T
  have GX_BadZooms___init__ := GX_BadZooms___init__ (P := P) (w := w) (base := base) T
  have G_gt : FnR P w K mg base CX0 5 d.Ratio___gt__ (spCmp d.Ratio fun x y => decide (x > y)) := G_Ratio___gt__ T
  have G_eq : FnR P w K mg base CX0 2 d.Ratio___eq__ (spCmp d.Ratio fun x y => decide (x = y)) := G_Ratio___eq__ T
  obtain ⟨fd, F⟩ := T.D_Zooms_beyond
  refine ⟨fd, F, fnXD (k := 12) F sc_Zooms_beyond spBey_len (fun cdv A outer s H vs Q E ng hr tk h => ?_)⟩
  · -- slots: 0 low, 1 is_low
    refine ⟨_, (pss_cons (ps_if (pt_not (pt_val (pe_fnR G_is_place (hr.mono (by decide)) T.k_is_place T.m_is_place pass0 (pa_cons (pv 0) pa_nil)))) (pss_one (ps_raise rfl tk (pmk_err T.ex_BadZooms.err GX_BadZooms___init__ ng (hr.mono (by decide)) pass0 rfl T.m_BadZooms (pa_cons pe_str pa_nil)))) pss_nil)
      (pss_cons (ps_if (pt_not (pt_val (pe_callB uIsi (by rfl) T.n_isinstance (by decide +kernel) (pa_cons (pv 1) (pa_cons (pe_bltn (v := .ty "bool") (by rfl) T.n_bool (by decide +kernel) rfl) pa_nil))))) (pss_one (ps_raise rfl tk (pmk_err T.ex_BadZooms.err GX_BadZooms___init__ ng (hr.mono (by decide)) pass0 rfl T.m_BadZooms (pa_cons pe_str pa_nil)))) pss_nil)
      (pss_one (ps_ret (StX.pe_makeR T.mk_Zooms G_Zooms___init__ (hr.mono (by decide)) rfl T.m_Zooms pass0 (pa_cons (pv 0) (pa_cons pe_int (pa_cons (pe_ifExp (pt_cmpR uGt (pv 0) pe_int (nomark _)) (pe_tup (pa_cons (pe_tup (pa_cons (pv 0) (pa_cons (pv 1) (pa_cons pe_bl pa_nil)))) pa_nil)) (pe_tup pa_nil)) (pa_cons (pe_cmpR (uEq hr.units) (pv 0) pe_int (nomark _)) pa_nil))))))))), ?_⟩
    obtain ⟨v, b, rfl, h⟩ := h
    rcases h with ⟨np, rz⟩ | ⟨q, hv, zq, q0, h⟩
    · refine ⟨_, rfl, not_place np fun H1 e1 => ⟨_, rfl, ifT rfl (mkX1 (e := .str "low") (fun Q' q => q) (.dp (.str _) rfl) ⟨by decide +kernel, by decide +kernel, by decide +kernel⟩ fun dx hd => rz _ dx e1 hd)⟩⟩
    · have zq2 : Sz 2000 q := sz_mono zq (by decide)
      refine ⟨_, rfl, Or.inl ⟨v, q, rfl, hv, zq2, fun H1 e1 => ⟨_, rfl, ifF (congrArg not (decide_eq_true q0)) ?_⟩⟩⟩
      try dsimp only [tNext, gName]
      rcases h with ⟨⟨S, ty, nb⟩, rz⟩ | ⟨c, rfl, k⟩
      · exact ⟨_, rfl, Or.inl ⟨_, _, _, _, false, rfl, .ty _, tyX_ext (ExtN.same e1) ty, nb, _, rfl, ifT rfl (mkX1 (e := .str "is_low") (fun Q' q => q) (.dp (.str _) rfl) ⟨by decide +kernel, by decide +kernel, by decide +kernel⟩ fun dx hd => rz _ dx e1 hd)⟩⟩
      · refine ⟨_, rfl, Or.inl ⟨_, _, _, _, true, rfl, .ty _, .base (.bl _), T.i_bool_is_bool, _, rfl, ifF rfl ?_⟩⟩
        try dsimp only [tNext, gName]
        obtain ⟨cf, cl⟩ := bey_form c q0
        refine ⟨_, rfl, _, rfl, gt0 T G_gt (hr.mono (by decide)) (hv.same e1) zq2 fun H2 e2 => ⟨_, rfl, ?_⟩⟩
        have e12 := e1.trans e2
        refine ite2 (fun hb => ?_) (fun hb => ?_)
        · have qp : q > 0 := of_decide_eq_true hb
          refine ⟨_, rfl, _, rfl, ⟨(by show 3 ≤ sizeLine; decide), fun t1 h1 => ⟨(by show 1 ≤ sizeLine; decide), fun t2 h2 => ?_⟩⟩⟩
          refine ⟨_, rfl, eq0 T G_eq (hr.mono (by decide)) (((hv.same e12).same (sameN h1)).same (sameN h2)) zq2 fun H3 e3 => ?_⟩
          intro x dx nx nd hn
          have e4 := (sameN (o := .tup [v, .bl c, .bl true]) h1).trans ((sameN h2).trans e3)
          refine zmake (ms := bey q c) nx nd (bt_n (hv.same (e12.trans e4))) (e3 _ _ upd_same) ?_ (zok1 c zq q0) fun H4 e5 z => ⟨rfl, ?_⟩
          · unfold bey
            rw [if_pos qp]
            exact .cons ⟨t1, v, rfl, e3 _ _ (sameN h2 _ _ upd_same), hv.same (e12.trans e4)⟩ .nil
          · rw [cf, cl] at z
            exact k _ _ ((e12.trans e4).trans e5) z
        · have qn : ¬ (q > 0) := fun p => hb (decide_eq_true p)
          refine ⟨by decide, fun t2 h2 => ?_⟩
          refine ⟨_, rfl, eq0 T G_eq (hr.mono (by decide)) ((hv.same e12).same (sameN h2)) zq2 fun H3 e3 => ?_⟩
          intro x dx nx nd hn
          have e4 := (sameN h2).trans e3
          refine zmake (ms := bey q c) nx nd (bt_n (hv.same (e12.trans e4))) (e3 _ _ upd_same) ?_ (zok1 c zq q0) fun H4 e5 z => ⟨rfl, ?_⟩
          · unfold bey
            rw [if_neg qn]
            exact .nil
          · rw [cf, cl] at z
            exact k _ _ ((e12.trans e4).trans e5) z
end

end AZ
namespace AZ
open PySem L2
/-! ## sets between -/
/-- the marks of what is between l and h -/
def btw (l h : Rat) (c e : Bool) : List Mk := if l = h then [(h, true, false)] else bey l c ++ [(h, e, false)]
def btwF (l h : Rat) : Bool := if l = h then false else decide (¬ (l > 0))
/-- what is refused -/
def btwO (l h : Rat) (c e : Bool) : Bool := decide (l > h) || decide (l = h) && !(c && e && decide (l > 0))
/-- numbers that are compared with each other -/
def Two (C : Addr) (H : Hp) (v w : V) (x y : Rat) : Prop := (∃ i j : Int, v = .int i ∧ w = .int j ∧ x = (i : Rat) ∧ y = (j : Rat)) ∨ ∃ a, v = .ref a ∧ IsRat C H a x ∧ Num C H w y
theorem Two.same {C : Addr} {H H' : Hp} {v w : V} {x y : Rat} (h : Two C H v w x y) (e : Same H H') : Two C H' v w x y := h.elim Or.inl fun ⟨a, p, q, r⟩ => Or.inr ⟨a, p, q.same e, r.same e⟩
theorem two0 {C : Addr} {H : Hp} {v : V} {x : Rat} (h : Num C H v x) : Two C H v (.int 0) x 0 := by
  rcases h with ⟨i, rfl, rfl⟩ | ⟨a, rfl, ha⟩
  · exact Or.inl ⟨i, 0, rfl, rfl, rfl, rfl⟩
  · exact Or.inr ⟨a, rfl, ha, num_i⟩
def spBtw (K : PySem.W.Frag) (C D CB : Addr) : Sp := fun vs H Q E => ∃ v w a b, vs = [v, w, a, b] ∧ ((NotPl K C H v ∧ RaiZ CB "low" H E) ∨ ∃ l, Num C H v l ∧ Sz 900 l ∧ l ≥ 0 ∧ ((NotPl K C H w ∧ RaiZ CB "high" H E) ∨ ∃ h, Num C H w h ∧ Sz 900 h ∧ h ≥ 0 ∧
  ((NotBo K H a ∧ RaiZ CB "is_low" H E) ∨ ∃ c, a = .bl c ∧ ((NotBo K H b ∧ RaiZ CB "is_high" H E) ∨ ∃ e, b = .bl e ∧ Two C H v w l h ∧ ((btwO l h c e = true ∧ RaiZ CB "order" H E) ∨
    btwO l h c e = false ∧ ∀ p H', Same H H' → IsZ C D H' p h (btw l h c e) (btwF l h) → Q (.ref p) H')))))
theorem spBtw_len {K : PySem.W.Frag} {C D CB : Addr} : ∀ vs H Q E, spBtw K C D CB vs H Q E → vs.length = 4 := fun vs H Q E h => by obtain ⟨v, w, a, b, rfl, _⟩ := h; rfl
theorem btw_lt {l h : Rat} {c e : Bool} (o : btwO l h c e = false) (n : l ≠ h) : l < h := by
  unfold btwO at o
  have x : ¬ (l > h) := of_decide_eq_false (Bool.or_eq_false_iff.mp o).1
  grind
theorem zok2 {l h : Rat} {c e : Bool} (z : Sz 900 l) (z2 : Sz 900 h) (l0 : l ≥ 0) (h0 : h ≥ 0) (o : btwO l h c e = false) : ZOk h (btw l h c e) := by
  unfold btw
  split
  · rename_i q
    have hp : h > 0 := by
      unfold btwO at o
      have x := (Bool.or_eq_false_iff.mp o).2
      rw [decide_eq_true q, Bool.true_and] at x
      simp at x
      grind
    exact ⟨List.pairwise_singleton _ _, (by show 1 ≤ 1000; decide), fun m x => by rw [List.mem_singleton.mp x]; exact ⟨z2, hp, Std.le_refl _⟩, z2, h0⟩
  · rename_i q
    have lt := btw_lt o q
    have hp : h > 0 := by grind
    unfold bey
    split
    · rename_i p
      exact ⟨List.pairwise_pair.mpr lt, (by show 2 ≤ 1000; decide), fun m x => by
        rcases List.mem_cons.mp x with rfl | x
        · exact ⟨z, p, Std.le_of_lt lt⟩
        rcases List.mem_singleton.mp x with rfl
        · exact ⟨z2, hp, Std.le_refl _⟩, z2, h0⟩
    · exact ⟨List.pairwise_singleton _ _, (by show 1 ≤ 1000; decide), fun m x => by rw [List.mem_singleton.mp x]; exact ⟨z2, hp, Std.le_refl _⟩, z2, h0⟩
theorem btw_form {l h : Rat} (c e : Bool) : changes (btw l h c e) (btwF l h) = btw l h c e ∧ lastOf (btw l h c e) = h := by
  unfold btw btwF
  split
  · exact ⟨rfl, rfl⟩
  · unfold bey
    by_cases p : l > 0
    · rw [if_pos p, decide_eq_false (fun n => n p)]
      exact ⟨by cases c <;> cases e <;> rfl, rfl⟩
    · rw [if_neg p, decide_eq_true p]
      exact ⟨by cases e <;> rfl, rfl⟩
section
variable {P : Program} {w : World} {K : PySem.W.Frag} {mg : Str → Option Value} {base : Heap} {d : Ad}
theorem gt2 {X : Cx} {R : R2} (T : Tx X.K mg d) (G : FnR X.prog X.w X.K X.mg X.base CX0 5 d.Ratio___gt__ (spCmp d.Ratio fun x y => decide (x > y))) (hr : Room 5 X.A) {v u : V} {x y : Rat} {H : Hp} {W : VK} (two : Two d.Ratio H v u x y) (zx : Sz 2000 x) (zy : Sz 2000 y)
    (k : ∀ H', Same H H' → W (.bl (decide (x > y))) H') : orR (rI0 fun i j => V.bl (decide (j < i))) (orR (rOwnC X .Gt) R) v u H W := by
  rcases two with ⟨i, j, rfl, rfl, rfl, rfl⟩ | ⟨a, rfl, ha, hu⟩
  · have e : decide (j < i) = decide ((i : Rat) > (j : Rat)) := decide_eq_decide.mpr Rat.intCast_lt_intCast.symm
    refine Or.inl ⟨_, _, rfl, rfl, ?_⟩
    show W (.bl (decide (j < i))) H
    rw [e]
    exact k H (Same.refl _)
  · exact Or.inr (Or.inl (oc T.q_Ratio_gt G hr ha hu zx zy rfl k))
theorem eq2 {X : Cx} {D : R2} (T : Tx X.K mg d) (G : FnR X.prog X.w X.K X.mg X.base CX0 2 d.Ratio___eq__ (spCmp d.Ratio fun x y => decide (x = y))) (hr : Room 2 X.A) {v u : V} {x y : Rat} {H : Hp} {W : VK} (two : Two d.Ratio H v u x y) (zx : Sz 2000 x) (zy : Sz 2000 y)
    (k : ∀ H', Same H H' → W (.bl (decide (x = y))) H') : orR rEq (orR (rOwnC X .Eq) D) v u H W := by
  rcases two with ⟨i, j, rfl, rfl, rfl, rfl⟩ | ⟨a, rfl, ha, hu⟩
  · have e : decide (V.int i = V.int j) = decide ((i : Rat) = (j : Rat)) := decide_eq_decide.mpr ⟨fun h => by injection h with h; rw [h], fun h => by rw [show i = j from Rat.intCast_inj.mp h]⟩
    refine Or.inl ⟨rfl, ?_⟩
    rw [e]
    exact k H (Same.refl _)
  · exact Or.inr (Or.inl (oc T.q_Ratio_eq G hr ha hu zx zy rfl k))
theorem btw_cond {σ : L2.St} {H : Hp} {R : Bool → Hp → Prop} {g1 q1 g0 : R2} {v u : V} {l h : Rat} {c e : Bool} (h0 : σ[0]? = some (some v)) (h1 : σ[1]? = some (some u)) (h2 : σ[2]? = some (some (.bl c))) (h3 : σ[3]? = some (some (.bl e)))
    (G : ∀ H1 (W : VK), Same H H1 → (∀ H', Same H1 H' → W (.bl (decide (l > h))) H') → g1 v u H1 W) (Q : ∀ H1 (W : VK), Same H H1 → (∀ H', Same H1 H' → W (.bl (decide (l = h))) H') → q1 v u H1 W)
    (Z : ∀ H1 (W : VK), Same H H1 → (∀ H', Same H1 H' → W (.bl (decide (l > 0))) H') → g0 v (.int 0) H1 W) (k : ∀ H', Same H H' → R (btwO l h c e) H') :
    tOr (tTest (tOp g1 (tVar 0) (tVar 1))) (tAnd (tTest (tOp q1 (tVar 0) (tVar 1))) (tNot (tAnd (tB (tVar 2)) (tAnd (tB (tVar 3)) (tTest (tOp g0 (tVar 0) (tC (.int 0)))))))) σ H R := by
  unfold btwO at k
  refine ⟨_, h0, _, h1, G _ _ (Same.refl _) fun H1 s1 => ⟨_, rfl, ite2 (fun hb => ?_) (fun hb => ?_)⟩⟩
  · rw [hb, Bool.true_or] at k
    exact k H1 s1
  rw [(Bool.not_eq_true _).mp hb, Bool.false_or] at k
  refine ⟨_, h0, _, h1, Q _ _ s1 fun H2 s2 => ⟨_, rfl, ite2 (fun hb => ?_) (fun hb => ?_)⟩⟩
  · rw [hb, Bool.true_and] at k
    have s12 := s1.trans s2
    cases c
    · exact ⟨_, h2, false, rfl, iteF (k _ s12)⟩
    refine ⟨_, h2, true, rfl, iteT ?_⟩
    cases e
    · exact ⟨_, h3, false, rfl, iteF (k _ s12)⟩
    refine ⟨_, h3, true, rfl, iteT ?_⟩
    exact ⟨_, h0, Z _ _ s12 fun H3 s3 => ⟨_, rfl, k _ (s12.trans s3)⟩⟩
  · rw [(Bool.not_eq_true _).mp hb, Bool.false_and] at k
    exact k _ (s1.trans s2)
theorem GO_Zooms_between (T : Tx K mg d) : ∃ fd, FunD K "between" "Zooms.between" (defArgs s_Zooms_between) (defBody s_Zooms_between) (defScope s_Zooms_between) [.bl true, .bl true] [] d.Zooms_between fd ∧ FnOG P w K mg base (CXx P w) 13 d.Zooms_between fd ["low", "high", "is_low", "is_high"] (spBtw K d.Ratio d.Zooms d.BadZooms) := by
  have G_Zooms___init__ := G_Zooms___init__ (P := P) (w := w) (base := base) T
  have G_is_place := G_is_place (P := P) (w := w) (base := base) T
  have GX_BadZooms___init__ := GX_BadZooms___init__ (P := P) (w := w) (base := base) T
  have G_gt : FnR P w K mg base CX0 5 d.Ratio___gt__ (spCmp d.Ratio fun x y => decide (x > y)) := G_Ratio___gt__ T
  have G_lt : FnR P w K mg base CX0 5 d.Ratio___lt__ (spCmp d.Ratio fun x y => decide (x < y)) := G_Ratio___lt__ T
  have G_eq : FnR P w K mg base CX0 2 d.Ratio___eq__ (spCmp d.Ratio fun x y => decide (x = y)) := G_Ratio___eq__ T
  obtain ⟨fd, F⟩ := T.D_Zooms_between
  refine ⟨fd, F, fnXD (k := 12) F sc_Zooms_between spBtw_len (fun cdv A outer s H vs Q E ng hr tk h => ?_)⟩
  · -- slots: 0 low, 1 high, 2 is_low, 3 is_high, 4 begins
    refine ⟨_, (pss_cons (ps_if (pt_not (pt_val (pe_fnR G_is_place (hr.mono (by decide)) T.k_is_place T.m_is_place pass0 (pa_cons (pv 0) pa_nil)))) (pss_one (ps_raise rfl tk (pmk_err T.ex_BadZooms.err GX_BadZooms___init__ ng (hr.mono (by decide)) pass0 rfl T.m_BadZooms (pa_cons pe_str pa_nil)))) pss_nil)
      (pss_cons (ps_if (pt_not (pt_val (pe_fnR G_is_place (hr.mono (by decide)) T.k_is_place T.m_is_place pass0 (pa_cons (pv 1) pa_nil)))) (pss_one (ps_raise rfl tk (pmk_err T.ex_BadZooms.err GX_BadZooms___init__ ng (hr.mono (by decide)) pass0 rfl T.m_BadZooms (pa_cons pe_str pa_nil)))) pss_nil)
      (pss_cons (ps_if (pt_not (pt_val (pe_callB uIsi (by rfl) T.n_isinstance (by decide +kernel) (pa_cons (pv 2) (pa_cons (pe_bltn (v := .ty "bool") (by rfl) T.n_bool (by decide +kernel) rfl) pa_nil))))) (pss_one (ps_raise rfl tk (pmk_err T.ex_BadZooms.err GX_BadZooms___init__ ng (hr.mono (by decide)) pass0 rfl T.m_BadZooms (pa_cons pe_str pa_nil)))) pss_nil)
      (pss_cons (ps_if (pt_not (pt_val (pe_callB uIsi (by rfl) T.n_isinstance (by decide +kernel) (pa_cons (pv 3) (pa_cons (pe_bltn (v := .ty "bool") (by rfl) T.n_bool (by decide +kernel) rfl) pa_nil))))) (pss_one (ps_raise rfl tk (pmk_err T.ex_BadZooms.err GX_BadZooms___init__ ng (hr.mono (by decide)) pass0 rfl T.m_BadZooms (pa_cons pe_str pa_nil)))) pss_nil)
      (pss_cons (ps_if (PW.pt (pw_or (pt_cmpR uGtR (pv 0) (pv 1) (nomark _)) (pw_or1 (PW.pt (pw_and (pt_cmpR (uEq hr.units) (pv 0) (pv 1) (nomark _)) (pw_and1 (pt_not (PW.pt (pw_and (pt_val (pv 2)) (pw_and (pt_val (pv 3)) (pw_and1 (pt_cmpR uGtR (pv 0) pe_int (nomark _))))))))))))) (pss_one (ps_raise rfl tk (pmk_err T.ex_BadZooms.err GX_BadZooms___init__ ng (hr.mono (by decide)) pass0 rfl T.m_BadZooms (pa_cons pe_str pa_nil)))) pss_nil)
      (pss_cons (ps_if (pt_cmpR (uEq hr.units) (pv 0) (pv 1) (nomark _)) (pss_one (ps_ret (StX.pe_makeR T.mk_Zooms G_Zooms___init__ (hr.mono (by decide)) rfl T.m_Zooms pass0 (pa_cons (pv 1) (pa_cons pe_int (pa_cons (pe_tup (pa_cons (pe_tup (pa_cons (pv 1) (pa_cons pe_bl (pa_cons pe_bl pa_nil)))) pa_nil)) (pa_cons pe_bl pa_nil))))))) pss_nil)
      (pss_cons (ps_set (i := 4) sc_Zooms_between.nd rfl (Or.inl rfl) (pe_ifExp (pt_cmpR uGtR (pv 0) pe_int (nomark _)) (pe_tup (pa_cons (pe_tup (pa_cons (pv 0) (pa_cons (pv 2) (pa_cons pe_bl pa_nil)))) pa_nil)) (pe_tup pa_nil)))
      (pss_one (ps_ret (StX.pe_makeR T.mk_Zooms G_Zooms___init__ (hr.mono (by decide)) rfl T.m_Zooms pass0 (pa_cons (pv 1) (pa_cons pe_int (pa_cons (pe_tup (StX.pa_star (pv 4) (pa_cons (pe_tup (pa_cons (pv 1) (pa_cons (pv 3) (pa_cons pe_bl pa_nil)))) pa_nil))) (pa_cons (pe_notT (pv 4)) pa_nil)))))))))))))), ?_⟩
    obtain ⟨v, u, a, b, rfl, h⟩ := h
    rcases h with ⟨np, rz⟩ | ⟨l, hv, zl, l0, h⟩
    · refine ⟨_, rfl, not_place np fun H1 e1 => ⟨_, rfl, ifT rfl (mkX1 (e := .str "low") (fun Q' q => q) (.dp (.str _) rfl) ⟨by decide +kernel, by decide +kernel, by decide +kernel⟩ fun dx hd => rz _ dx e1 hd)⟩⟩
    have zl2 : Sz 2000 l := sz_mono zl (by decide)
    refine ⟨_, rfl, Or.inl ⟨v, l, rfl, hv, zl2, fun H1 e1 => ⟨_, rfl, ifF (congrArg not (decide_eq_true l0)) ?_⟩⟩⟩
    try dsimp only [tNext, gName]
    rcases h with ⟨np, rz⟩ | ⟨h, hu, zh, h0, hh⟩
    · have np1 : NotPl K d.Ratio H1 u := np.imp (fun ⟨e, o⟩ => ⟨e, o.ext (ExtN.same e1)⟩) fun ⟨q, a, b, c⟩ => ⟨q, a.same e1, b, c⟩
      refine ⟨_, rfl, not_place np1 fun H2 e2 => ⟨_, rfl, ifT rfl (mkX1 (e := .str "high") (fun Q' q => q) (.dp (.str _) rfl) ⟨by decide +kernel, by decide +kernel, by decide +kernel⟩ fun dx hd => rz _ dx (e1.trans e2) hd)⟩⟩
    have zh2 : Sz 2000 h := sz_mono zh (by decide)
    refine ⟨_, rfl, Or.inl ⟨u, h, rfl, hu.same e1, zh2, fun H2 e2 => ⟨_, rfl, ifF (congrArg not (decide_eq_true h0)) ?_⟩⟩⟩
    have e12 := e1.trans e2
    try dsimp only [tNext, gName]
    rcases hh with ⟨⟨S, ty, nb⟩, rz⟩ | ⟨c, rfl, hh⟩
    · exact ⟨_, rfl, Or.inl ⟨_, _, _, _, false, rfl, .ty _, tyX_ext (ExtN.same e12) ty, nb, _, rfl, ifT rfl (mkX1 (e := .str "is_low") (fun Q' q => q) (.dp (.str _) rfl) ⟨by decide +kernel, by decide +kernel, by decide +kernel⟩ fun dx hd => rz _ dx e12 hd)⟩⟩
    refine ⟨_, rfl, Or.inl ⟨_, _, _, _, true, rfl, .ty _, .base (.bl _), T.i_bool_is_bool, _, rfl, ifF rfl ?_⟩⟩
    try dsimp only [tNext, gName]
    rcases hh with ⟨⟨S, ty, nb⟩, rz⟩ | ⟨e, rfl, two, hh⟩
    · exact ⟨_, rfl, Or.inl ⟨_, _, _, _, false, rfl, .ty _, tyX_ext (ExtN.same e12) ty, nb, _, rfl, ifT rfl (mkX1 (e := .str "is_high") (fun Q' q => q) (.dp (.str _) rfl) ⟨by decide +kernel, by decide +kernel, by decide +kernel⟩ fun dx hd => rz _ dx e12 hd)⟩⟩
    refine ⟨_, rfl, Or.inl ⟨_, _, _, _, true, rfl, .ty _, .base (.bl _), T.i_bool_is_bool, _, rfl, ifF rfl ?_⟩⟩
    try dsimp only [tNext, gName]
    have two2 := two.same e12
    have hv2 := hv.same e12
    have zz2 : Sz 2000 (0 : Rat) := z2000
    refine btw_cond (l := l) (h := h) (c := c) (e := e) rfl rfl rfl rfl (fun H3 W e3 k => gt2 T G_gt (hr.mono (by decide)) (two2.same e3) zl2 zh2 k) (fun H3 W e3 k => eq2 T G_eq (hr.mono (by decide)) (two2.same e3) zl2 zh2 k) (fun H3 W e3 k => gt2 T G_gt (hr.mono (by decide)) (two0 (hv2.same e3)) zl2 zz2 k) fun H3 e3 => ?_
    have e13 := e12.trans e3
    rcases hh with ⟨o, rz⟩ | ⟨o, k⟩
    · exact ifT o (mkX1 (e := .str "order") (fun Q' q => q) (.dp (.str _) rfl) ⟨by decide +kernel, by decide +kernel, by decide +kernel⟩ fun dx hd => rz _ dx e13 hd)
    refine ifF o ?_
    try dsimp only [tNext, gName]
    obtain ⟨cf, cl⟩ := btw_form (l := l) (h := h) c e
    have zk := zok2 zl zh l0 h0 o
    refine ⟨_, rfl, _, rfl, eq2 T G_eq (hr.mono (by decide)) (two.same e13) zl2 zh2 fun H4 e4 => ⟨_, rfl, ?_⟩⟩
    have e14 := e13.trans e4
    refine ite2 (fun hb => ?_) (fun hb => ?_)
    · have q : l = h := of_decide_eq_true hb
      refine ⟨_, rfl, _, rfl, (by show 3 ≤ sizeLine; decide), fun t1 h1 => ⟨(by show 1 ≤ sizeLine; decide), fun t2 h2 => ?_⟩⟩
      intro x dx nx nd hn
      have e5 := (sameN (o := .tup [u, .bl true, .bl false]) h1).trans (sameN (o := .tup [.ref t1]) h2)
      have e15 := e14.trans e5
      refine zmake (ms := btw l h c e) nx nd (bt_n (hu.same e15)) upd_same ?_ zk fun H6 e6 z => ⟨rfl, ?_⟩
      · unfold btw
        rw [if_pos q]
        exact .cons ⟨t1, u, rfl, sameN h2 _ _ upd_same, hu.same e15⟩ .nil
      · have ff : btwF l h = false := by unfold btwF; rw [if_pos q]
        rw [ff] at cf k
        rw [cf, cl] at z
        exact k _ _ (e15.trans e6) z
    have q : l ≠ h := fun q => hb (decide_eq_true q)
    try dsimp only [tNext, gName]
    refine ⟨_, rfl, gt2 T G_gt (hr.mono (by decide)) (two0 (hv.same e14)) zl2 zz2 fun H5 e5 => ⟨_, rfl, ?_⟩⟩
    have e15 := e14.trans e5
    have mm : btw l h c e = bey l c ++ [(h, e, false)] := by unfold btw; rw [if_neg q]
    have ff : btwF l h = decide (¬ (l > 0)) := by unfold btwF; rw [if_neg q]
    refine ite2 (fun hp => ?_) (fun hp => ?_)
    · have lp : l > 0 := of_decide_eq_true hp
      refine ⟨_, rfl, _, rfl, (by show 3 ≤ sizeLine; decide), fun t1 h1 => ⟨(by show 1 ≤ sizeLine; decide), fun t2 h2 => ?_⟩⟩
      have e6 := (sameN (o := .tup [v, .bl c, .bl true]) h1).trans (sameN (o := .tup [.ref t1]) h2)
      have at1 := sameN (o := .tup [.ref t1]) h2 _ _ (upd_same (H := H5) (a := t1) (o := .tup [v, .bl c, .bl true]))
      have at2 : upd (upd H5 t1 (.tup [v, .bl c, .bl true])) t2 (.tup [.ref t1]) t2 = some (.tup [.ref t1]) := upd_same
      generalize upd (upd H5 t1 (.tup [v, .bl c, .bl true])) t2 (.tup [.ref t1]) = H6 at e6 at1 at2
      have e16 := e15.trans e6
      try dsimp only [tNext, gName]
      refine st_eq (σ' := [some v, some u, some (.bl c), some (.bl e), some (.ref t2)]) rfl ?_
      refine ⟨_, rfl, _, rfl, _, _, rfl, Or.inl (SqT.of at2), _, rfl, _, rfl, (by show 3 ≤ sizeLine; decide), fun t3 h3 => ⟨(by show 2 ≤ sizeLine; decide), fun t4 h4 => ?_⟩⟩
      have e7 := (sameN (o := .tup [u, .bl e, .bl false]) h3).trans (sameN (o := .tup ([.ref t1] ++ [.ref t3])) h4)
      have at3 := sameN (o := .tup ([.ref t1] ++ [.ref t3])) h4 _ _ (upd_same (H := H6) (a := t3) (o := .tup [u, .bl e, .bl false]))
      have at4 : upd (upd H6 t3 (.tup [u, .bl e, .bl false])) t4 (.tup ([.ref t1] ++ [.ref t3])) t4 = some (.tup ([.ref t1] ++ [.ref t3])) := upd_same
      generalize upd (upd H6 t3 (.tup [u, .bl e, .bl false])) t4 (.tup ([.ref t1] ++ [.ref t3])) = H7 at e7 at3 at4
      have e17 := e16.trans e7
      have fb : btwF l h = false := ff.trans (decide_eq_false fun n => n lp)
      refine ⟨_, rfl, true, Or.inr (Or.inl ⟨_, SqT.of (e7 _ _ at2), rfl⟩), ?_⟩
      intro x dx nx nd hn
      refine zmake (f := false) (ms := btw l h c e) nx nd (bt_n (hu.same e17)) at4 ?_ zk fun H8 e8 z => ⟨rfl, ?_⟩
      · rw [mm]
        unfold bey
        rw [if_pos lp]
        exact .cons ⟨t1, v, rfl, e7 _ _ at1, hv.same e17⟩ (.cons ⟨t3, u, rfl, at3, hu.same e17⟩ .nil)
      · rw [fb] at cf k
        rw [cf, cl] at z
        exact k _ _ (e17.trans e8) z
    · have ln : ¬ (l > 0) := fun p => hp (decide_eq_true p)
      refine ⟨by decide, fun t2 h2 => ?_⟩
      have e6 := sameN (o := .tup []) h2
      have at2 : upd H5 t2 (.tup []) t2 = some (.tup []) := upd_same
      generalize upd H5 t2 (.tup []) = H6 at e6 at2
      have e16 := e15.trans e6
      try dsimp only [tNext, gName]
      refine st_eq (σ' := [some v, some u, some (.bl c), some (.bl e), some (.ref t2)]) rfl ?_
      refine ⟨_, rfl, _, rfl, _, _, rfl, Or.inl (SqT.of at2), _, rfl, _, rfl, (by show 3 ≤ sizeLine; decide), fun t3 h3 => ⟨(by show 1 ≤ sizeLine; decide), fun t4 h4 => ?_⟩⟩
      have e7 := (sameN (o := .tup [u, .bl e, .bl false]) h3).trans (sameN (o := .tup ([] ++ [.ref t3])) h4)
      have at3 := sameN (o := .tup ([] ++ [.ref t3])) h4 _ _ (upd_same (H := H6) (a := t3) (o := .tup [u, .bl e, .bl false]))
      have at4 : upd (upd H6 t3 (.tup [u, .bl e, .bl false])) t4 (.tup ([] ++ [.ref t3])) t4 = some (.tup ([] ++ [.ref t3])) := upd_same
      generalize upd (upd H6 t3 (.tup [u, .bl e, .bl false])) t4 (.tup ([] ++ [.ref t3])) = H7 at e7 at3 at4
      have e17 := e16.trans e7
      have fb : btwF l h = true := ff.trans (decide_eq_true ln)
      refine ⟨_, rfl, false, Or.inr (Or.inl ⟨_, SqT.of (e7 _ _ at2), rfl⟩), ?_⟩
      intro x dx nx nd hn
      refine zmake (f := true) (ms := btw l h c e) nx nd (bt_n (hu.same e17)) at4 ?_ zk fun H8 e8 z => ⟨rfl, ?_⟩
      · rw [mm]
        unfold bey
        rw [if_neg ln]
        exact .cons ⟨t3, u, rfl, at3, hu.same e17⟩ .nil
      · rw [fb] at cf k
        rw [cf, cl] at z
        exact k _ _ (e17.trans e8) z
end

end AZ
namespace AZ
open PySem L2
/-! ## between and beyond, as they are called -/
section
variable {P : Program} {w : World} {K : PySem.W.Frag} {mg : Str → Option Value} {base : Heap} {d : Ad}
theorem nil_of {ds : List Value} (h : Vals [] ds) : ds = [] := by cases h; rfl
theorem GX_Zooms_between (T : Tx K mg d) : FnG P w K mg base (CXx P w) 13 d.Zooms_between (spBtw K d.Ratio d.Zooms d.BadZooms) := by
  obtain ⟨fd, F, G⟩ := GO_Zooms_between (P := P) (w := w) (base := base) T
  obtain ⟨ds, vd, b⟩ := F.binds1 (ps := ["low", "high", "is_low", "is_high"]) 4 2 (by simp) rfl (fun T kV doc pm an cdv ct us its h1 h2 => match us, h1, its, h2 with | [_, _, _, _], _, [_, _], _ => ⟨_, rfl, rfl⟩)
  obtain rfl := nil_of vd
  exact G.pos spBtw_len b
theorem GX2_Zooms_between (T : Tx K mg d) : FnG P w K mg base (CXx P w) 13 d.Zooms_between (fun vs H Q E => spBtw K d.Ratio d.Zooms d.BadZooms (vs ++ [.bl true, .bl true]) H Q E) := by
  obtain ⟨fd, F, G⟩ := GO_Zooms_between (P := P) (w := w) (base := base) T
  obtain ⟨ds, vd, b⟩ := F.binds1 (ps := ["low", "high", "is_low", "is_high"]) 2 0 (by simp) rfl (fun T kV doc pm an cdv ct us its h1 h2 => match us, h1, its, h2 with | [_, _], _, [_, _], _ => ⟨_, rfl, rfl⟩)
  exact G.posD spBtw_len b vd
theorem GK_Zooms_between (T : Tx K mg d) : FnGk P w K mg base (CXx P w) 13 d.Zooms_between ["is_high", "is_low", "high", "low"] g04 (spBtw K d.Ratio d.Zooms d.BadZooms) := by
  obtain ⟨fd, F, G⟩ := GO_Zooms_between (P := P) (w := w) (base := base) T
  refine G.key (n := 0) (g := g04) spBtw_len (kbnD F (by simp) (fun T kV doc pm an cdv ct us ws its h1 h2 h3 => match us, h1, ws, h2, its, h3 with | [], _, [_, _, _, _], _, [_, _], _ => ⟨_, rfl, rfl⟩) vals_g04) fun vs zs h => ?_
  match vs, zs, h with
  | [], [_, _, _, _], _ => exact ⟨rfl, rfl⟩
  | [], [], h => cases h
  | [], [_], h => cases h
  | [], [_, _], h => cases h
  | [], [_, _, _], h => cases h
  | [], _ :: _ :: _ :: _ :: _ :: _, h => cases h
  | _ :: _, _, h => cases h
theorem GX_Zooms_beyond (T : Tx K mg d) : FnG P w K mg base (CXx P w) 13 d.Zooms_beyond (spBey K d.Ratio d.Zooms d.BadZooms) := by
  obtain ⟨fd, F, G⟩ := GO_Zooms_beyond (P := P) (w := w) (base := base) T
  obtain ⟨ds, vd, b⟩ := F.binds1 (ps := ["low", "is_low"]) 2 1 (by simp) rfl (fun T kV doc pm an cdv ct us its h1 h2 => match us, h1, its, h2 with | [_, _], _, [_], _ => ⟨_, rfl, rfl⟩)
  obtain rfl := nil_of vd
  exact G.pos spBey_len b
theorem GX1_Zooms_beyond (T : Tx K mg d) : FnG P w K mg base (CXx P w) 13 d.Zooms_beyond (fun vs H Q E => spBey K d.Ratio d.Zooms d.BadZooms (vs ++ [.bl true]) H Q E) := by
  obtain ⟨fd, F, G⟩ := GO_Zooms_beyond (P := P) (w := w) (base := base) T
  obtain ⟨ds, vd, b⟩ := F.binds1 (ps := ["low", "is_low"]) 1 0 (by simp) rfl (fun T kV doc pm an cdv ct us its h1 h2 => match us, h1, its, h2 with | [_], _, [_], _ => ⟨_, rfl, rfl⟩)
  exact G.posD spBey_len b vd
theorem GK_Zooms_beyond (T : Tx K mg d) : FnGk P w K mg base (CXx P w) 13 d.Zooms_beyond ["is_low", "low"] g02 (spBey K d.Ratio d.Zooms d.BadZooms) := by
  obtain ⟨fd, F, G⟩ := GO_Zooms_beyond (P := P) (w := w) (base := base) T
  refine G.key (n := 0) (g := g02) spBey_len (kbnD F (by simp) (fun T kV doc pm an cdv ct us ws its h1 h2 h3 => match us, h1, ws, h2, its, h3 with | [], _, [_, _], _, [_], _ => ⟨_, rfl, rfl⟩) vals_g02) fun vs zs h => ?_
  match vs, zs, h with
  | [], [_, _], _ => exact ⟨rfl, rfl⟩
  | [], [], h => cases h
  | [], [_], h => cases h
  | [], _ :: _ :: _ :: _, h => cases h
  | _ :: _, _, h => cases h
end

end AZ
namespace AZ
open PySem L2
/-! ## what sets answer -/
def spMark (C D : Addr) : Sp := fun vs H Q _ => ∃ (a : Addr) (n : Nat) (q : Rat) (ms : List Mk) (f : Bool), vs = [.ref a, .int n] ∧ IsZ C D H a q ms f ∧ ms.length ≤ 1000 ∧ ((∃ m, ms[n]? = some m ∧ ∀ v, MkAt C H v m → Q v H) ∨ (ms.length ≤ n ∧ Q .non H))
def spBehind (C D : Addr) : Sp := fun vs H Q _ => ∃ (a : Addr) (n : Nat) (q : Rat) (ms : List Mk) (f : Bool), vs = [.ref a, .int n] ∧ IsZ C D H a q ms f ∧ ms.length ≤ 1000 ∧ n ≤ ms.length ∧ Q (.bl (behindOf (ms.take n) f)) H
def spZBool (C D : Addr) : Sp := fun vs H Q _ => ∃ (a : Addr) (q : Rat) (ms : List Mk) (f : Bool), vs = [.ref a] ∧ IsZ C D H a q ms f ∧ Q (.bl (f || !ms.isEmpty)) H
section
variable {P : Program} {w : World} {K : PySem.W.Frag} {mg : Str → Option Value} {base : Heap} {d : Ad}
theorem G_Zooms_mark (T : Tx K mg d) : FnR P w K mg base CX0 1 d.Zooms_mark (spMark d.Ratio d.Zooms) := by
  obtain ⟨fd, F⟩ := T.F_Zooms_mark
  refine FnR.imp (FnOk.raw (F.ok sc_Zooms_mark (k := 0) (sp := spMark d.Ratio d.Zooms) (fun vs H Q E h => ?_) (fun cdv A outer s H vs Q E hr h => ?_)) (F.binds fun _ _ _ _ _ _ us hl => match us, hl with | [_, _], _ => rfl) .nil) fun vs H Q E h => by rw [List.append_nil]; exact h
  · obtain ⟨a, n, q, ms, f, rfl, _⟩ := h
    rfl
  · obtain ⟨a, n, q, ms, f, rfl, ⟨dx, rb, rt, rm, zs, ha, hb, ht, hm, hz⟩, hl, h⟩ := h
    -- slots: 0 self, 1 index, 2 round_marks, 3 turns, 4 zoom, 5 is_at, 6 is_behind
    refine ⟨_, (pss_cons (ps_if (pt_cmpR uLt (pv 1) (pe_callB call_len_seq (by rfl) T.n_len (by decide +kernel) (pa_cons (pe_fld (pv 0) rfl) pa_nil)) (nomark _)) (pss_one (ps_ret (pe_ix ix_seq (pe_fld (pv 0) rfl) (pv 1) (fun _ _ => rfl)))) pss_nil)
      (pss_cons (ps_set (i := 2) sc_Zooms_mark.nd rfl (Or.inl rfl) (pe_op uSub (pe_callB call_len_seq (by rfl) T.n_len (by decide +kernel) (pa_cons (pe_fld (pv 0) rfl) pa_nil)) (pe_fld (pv 0) rfl)))
      (pss_cons (ps_if (pt_cmpR (uEq hr.units) (pv 2) pe_int (nomark _)) (pss_one (ps_ret pe_non)) pss_nil)
      pss_never))), ?_⟩
    have zl := pd_len hz
    refine ⟨_, rfl, _, rfl, a, _, dx, _, _, rfl, ha, T.c_Zooms, T.a_Zooms_marks, rfl, rm, zs, rfl, Or.inr (SqT.of hm), Or.inl ⟨_, _, rfl, rfl, _, rfl, ?_⟩⟩
    rcases h with ⟨m, hn, k⟩ | ⟨hn, k⟩
    · have il : n < zs.length := by
        have := (List.getElem?_eq_some_iff.mp hn).1
        omega
      obtain ⟨m', h1, h2⟩ := pd_at hz (List.getElem?_eq_getElem il)
      rw [hn] at h1
      injection h1 with h1
      subst h1
      refine ifT (decide_eq_true (by omega)) ?_
      exact ⟨_, rfl, a, _, dx, _, _, rfl, ha, T.c_Zooms, T.a_Zooms_marks, rfl, _, rfl, Or.inr (Or.inl ⟨rm, zs, n, _, rfl, rfl, SqT.of hm, at_of (j := n) rfl (List.getElem?_eq_getElem il), k _ h2⟩)⟩
    · refine ifF (decide_eq_false (by omega)) ?_
      try dsimp only [tNext, gName]
      refine ⟨_, rfl, a, _, dx, _, _, rfl, ha, T.c_Zooms, T.a_Zooms_marks, rfl, rm, zs, rfl, Or.inr (SqT.of hm), _, rfl, a, _, dx, _, _, rfl, ha, T.c_Zooms, T.a_Zooms_once, rfl, Or.inl ⟨_, _, rfl, rfl, ?_⟩⟩
      have e0 : ((zs.length : Int) - (ms.length : Int)) = 0 := by omega
      dsimp only [gName]
      rw [e0]
      refine st_eq (σ' := [some (.ref a), some (.int n), some (.int 0), none, none, none, none]) rfl ?_
      exact ⟨_, rfl, Or.inl ⟨rfl, _, rfl, ifT rfl k⟩⟩
theorem G_Zooms_state_behind (T : Tx K mg d) : FnR P w K mg base CX0 2 d.Zooms_state_behind (spBehind d.Ratio d.Zooms) := by
  have G_Zooms_mark := G_Zooms_mark (P := P) (w := w) (base := base) T
  obtain ⟨fd, F⟩ := T.F_Zooms_state_behind
  refine FnR.imp (FnOk.raw (F.ok sc_Zooms_state_behind (k := 1) (sp := spBehind d.Ratio d.Zooms) (fun vs H Q E h => ?_) (fun cdv A outer s H vs Q E hr h => ?_)) (F.binds fun _ _ _ _ _ _ us hl => match us, hl with | [_, _], _ => rfl) .nil) fun vs H Q E h => by rw [List.append_nil]; exact h
  · obtain ⟨a, n, q, ms, f, rfl, _⟩ := h
    rfl
  · obtain ⟨a, n, q, ms, f, rfl, hz, hl, hn, k⟩ := h
    -- slots: 0 self, 1 many
    refine ⟨_, (pss_one (ps_ret (pe_ifExp (pt_cmpR uGt (pv 1) pe_int (nomark _)) (pe_ix ix_seq (pe_mR (pv 0) T.c_Zooms T.h_Zooms_mark G_Zooms_mark (hr.mono (by decide)) pass0 (pa_cons (pe_op uSub (pv 1) pe_int) pa_nil)) pe_int (fun _ _ => rfl)) (pe_fld (pv 0) rfl)))), ?_⟩
    refine ⟨_, rfl, Or.inl ⟨_, _, rfl, rfl, _, rfl, ?_⟩⟩
    have hz0 := hz
    obtain ⟨dx, rb, rt, rm, zs, ha, hb, ht, hm, hm2⟩ := hz
    refine ite2 (fun hp => ?_) (fun hp => ?_)
    · have np : 0 < n := by
        have := of_decide_eq_true hp
        omega
      refine ⟨_, rfl, a, dx, _, rfl, ha, rfl, _, rfl, Or.inl ⟨_, _, rfl, rfl, ?_⟩⟩
      have e1 : (n : Int) - 1 = ((n - 1 : Nat) : Int) := by omega
      have il : n - 1 < ms.length := by omega
      dsimp only
      rw [e1]
      refine ⟨a, n - 1, q, ms, f, rfl, hz0, hl, Or.inl ⟨_, List.getElem?_eq_getElem il, fun v hv => ?_⟩⟩
      obtain ⟨t, r, rfl, h1, h2⟩ := hv
      refine Or.inr (Or.inl ⟨t, _, 2, _, rfl, rfl, SqT.of h1, at_of (j := 2) rfl rfl, ?_⟩)
      have e2 : behindOf (ms.take n) f = ms[n - 1].2.2 := by
        unfold behindOf
        have e3 : (ms.take n).getLast? = some ms[n - 1] := by
          rw [List.getLast?_eq_getElem?, List.length_take, Nat.min_eq_left hn, List.getElem?_take, if_pos (by omega), List.getElem?_eq_getElem il]
        rw [e3]
      rw [e2] at k
      exact k
    · have n0 : n = 0 := by
        have : ¬ ((0 : Int) < n) := fun p => hp (decide_eq_true p)
        omega
      subst n0
      exact ⟨_, rfl, a, _, dx, _, _, rfl, ha, T.c_Zooms, T.a_Zooms_is_first, rfl, k⟩
theorem G_Zooms___bool__ (T : Tx K mg d) : FnR P w K mg base CX0 1 d.Zooms___bool__ (spZBool d.Ratio d.Zooms) := by
  obtain ⟨fd, F⟩ := T.F_Zooms___bool__
  refine FnR.imp (FnOk.raw (F.ok sc_Zooms___bool__ (k := 0) (sp := spZBool d.Ratio d.Zooms) (fun vs H Q E h => ?_) (fun cdv A outer s H vs Q E hr h => ?_)) (F.binds fun _ _ _ _ _ _ us hl => match us, hl with | [_], _ => rfl) .nil) fun vs H Q E h => by rw [List.append_nil]; exact h
  · obtain ⟨a, q, ms, f, rfl, _⟩ := h
    rfl
  · obtain ⟨a, q, ms, f, rfl, ⟨dx, rb, rt, rm, zs, ha, hb, ht, hm, hz⟩, k⟩ := h
    -- slots: 0 self
    refine ⟨_, (pss_one (ps_ret (pe_or (pe_callTy uBoolT (by rfl) T.n_bool (by decide +kernel) (pa_cons (pe_fld (pv 0) rfl) pa_nil)) (pe_one (pe_callTy uBoolT (by rfl) T.n_bool (by decide +kernel) (pa_cons (pe_fld (pv 0) rfl) pa_nil)))))), ?_⟩
    refine ⟨_, rfl, a, _, dx, _, _, rfl, ha, T.c_Zooms, T.a_Zooms_is_first, rfl, Or.inl (Or.inr ⟨f, rfl, f, rfl, ?_⟩)⟩
    have e : (!zs.isEmpty) = !ms.isEmpty := by cases hz <;> rfl
    cases f
    · rw [Bool.false_or, ← e] at k
      exact iteF ⟨_, rfl, a, _, dx, _, _, rfl, ha, T.c_Zooms, T.a_Zooms_marks, rfl, Or.inr ⟨rm, zs, rfl, SqT.of hm, k⟩⟩
    · rw [Bool.true_or] at k
      exact iteT k
end

end AZ
namespace AZ
open PySem L2
/-! ## differences and quotients of numbers -/
theorem q_div {x y : Rat} (hy : y ≠ 0) : Rat.divInt (x.num * (y.den : Int)) ((x.den : Int) * y.num) = x / y := by
  have dx := den_ne x
  have dy := den_ne y
  have ny : (y.num : Rat) ≠ 0 := fun z => hy (by
    have := num_eq y
    rw [z] at this
    rcases Rat.mul_eq_zero.mp this.symm with h | h
    · exact h
    · exact absurd h dy)
  rw [Rat.divInt_eq_div, Rat.intCast_mul, Rat.intCast_mul, num_eq x, num_eq y]
  have e : x * ((x.den : Int) : Rat) * ((y.den : Int) : Rat) / (((x.den : Int) : Rat) * (y * ((y.den : Int) : Rat))) * (((x.den : Int) : Rat) * (y * ((y.den : Int) : Rat))) = x * ((x.den : Int) : Rat) * ((y.den : Int) : Rat) := Rat.div_mul_cancel fun z => by
    rcases Rat.mul_eq_zero.mp z with z | z
    · exact dx z
    · rcases Rat.mul_eq_zero.mp z with z | z
      · exact hy z
      · exact dy z
  have e2 : x / y * y = x := Rat.div_mul_cancel hy
  generalize x * ((x.den : Int) : Rat) * ((y.den : Int) : Rat) / (((x.den : Int) : Rat) * (y * ((y.den : Int) : Rat))) = a at e ⊢
  generalize x / y = b at e2 ⊢
  have h : (a - b) * (((x.den : Int) : Rat) * (y * ((y.den : Int) : Rat))) = 0 := by
    have e3 : b * (((x.den : Int) : Rat) * (y * ((y.den : Int) : Rat))) = x * ((x.den : Int) : Rat) * ((y.den : Int) : Rat) := by
      rw [← e2]; grind
    grind
  rcases Rat.mul_eq_zero.mp h with z | z
  · grind
  · rcases Rat.mul_eq_zero.mp z with z | z
    · exact absurd z dx
    · rcases Rat.mul_eq_zero.mp z with z | z
      · exact absurd z hy
      · exact absurd z dy
def spRSub (C : Addr) : Sp := fun vs H Q _ => ∃ (a : Addr) (j : Int) (x : Rat), vs = [.ref a, .int j] ∧ IsRat C H a x ∧ Sz 2000 x ∧ j.natAbs < 2 ^ 2000 ∧ ∀ p H', Same H H' → IsRat C H' p ((j : Rat) - x) → Q (.ref p) H'
def spDivd (C : Addr) : Sp := fun vs H Q _ => ∃ a v x y, vs = [.ref a, v] ∧ IsRat C H a x ∧ Num C H v y ∧ y ≠ 0 ∧ Sz 2000 x ∧ Sz 2000 y ∧ ∀ p H', Same H H' → IsRat C H' p (x / y) → Q (.ref p) H'
section
variable {P : Program} {w : World} {K : PySem.W.Frag} {mg : Str → Option Value} {base : Heap} {d : Ad}
theorem G_Ratio_divided (T : Tx K mg d) : FnR P w K mg base CX0 5 d.Ratio_divided (spDivd d.Ratio) := by
  have G_Ratio_of : FnR P w K mg base CX0 4 d.Ratio_of (spOf d.Ratio) := G_Ratio_of T
  have G_Ratio___init__ : FnR P w K mg base CX0 2 d.Ratio___init__ _ := G_Ratio___init__ T
  obtain ⟨fd, F⟩ := T.F_Ratio_divided
  refine FnR.imp (FnOk.raw (F.ok sc_Ratio_divided (k := 4) (sp := spDivd d.Ratio) (fun vs H Q E h => ?_) (fun cdv A outer s H vs Q E hr h => ?_)) (F.binds fun _ _ _ _ _ _ us hl => match us, hl with | [_, _], _ => rfl) .nil) fun vs H Q E h => by rw [List.append_nil]; exact h
  · obtain ⟨a, v, x, y, rfl, _⟩ := h
    rfl
  · obtain ⟨a, v, x, y, rfl, ⟨dx, ha⟩, hy, y0, zx, zy, k⟩ := h
    -- slots: 0 self, 1 other, 2 divisor
    refine ⟨_, (pss_cons (ps_set (i := 2) sc_Ratio_divided.nd rfl (Or.inl rfl) (pe_smeth (pe_glob (v := .ref _) rfl T.m_Ratio rfl) T.s_Ratio_of G_Ratio_of (hr.mono (by decide)) pass0 (pa_cons (pv 1) pa_nil)))
      (pss_cons (ps_if (pt_cmpR (uEq hr.units) (pe_fld (pv 2) rfl) pe_int (nomark _)) pss_never pss_nil)
      (pss_one (ps_ret (StX.pe_makeR T.mk_Ratio G_Ratio___init__ (hr.mono (by decide)) rfl T.m_Ratio pass0 (pa_cons (pe_op uMul (pe_fld (pv 0) rfl) (pe_fld (pv 2) rfl)) (pa_cons (pe_op uMul (pe_fld (pv 0) rfl) (pe_fld (pv 2) rfl)) pa_nil))))))), ?_⟩
    refine ⟨rfl, _, rfl, ⟨_, y, rfl, hy, fun b H1 e1 ⟨dy, hb⟩ => ?_⟩⟩
    have ha := e1 _ _ ha
    have yn : y.num ≠ 0 := fun z => y0 (by
      have := num_eq y
      rw [z] at this
      rcases Rat.mul_eq_zero.mp this.symm with h | h
      · exact h
      · exact absurd h (den_ne y))
    refine ⟨_, rfl, b, _, dy, _, _, rfl, hb, T.c_Ratio, T.a_Ratio_over, rfl, Or.inl ⟨rfl, _, rfl, ifF (by simp [dec_int, yn]) ?_⟩⟩
    refine ⟨_, rfl, a, _, dx, _, _, rfl, ha, T.c_Ratio, T.a_Ratio_over, rfl, _, rfl, b, _, dy, _, _, rfl, hb, T.c_Ratio, T.a_Ratio_under, rfl, Or.inl ⟨_, _, rfl, rfl, mul2 (szN zx) (szD zy), ?_⟩⟩
    refine ⟨_, rfl, a, _, dx, _, _, rfl, ha, T.c_Ratio, T.a_Ratio_under, rfl, _, rfl, b, _, dy, _, _, rfl, hb, T.c_Ratio, T.a_Ratio_over, rfl, Or.inl ⟨_, _, rfl, rfl, mul2 (szD zx) (szN zy), fun p dp np nd ne => Or.inl (made np nd (Int.mul_ne_zero (dne x) yn) ?_ fun H2 e2 r => k p H2 (e1.trans e2) ?_)⟩⟩
    · rw [Int.natAbs_mul]
      exact Nat.lt_of_lt_of_le (mul_lt2 (szD zx) (szN zy)) (Nat.pow_le_pow_right (by decide) (by decide))
    · rw [q_div y0] at r
      exact r
theorem G_Ratio___rsub__ (T : Tx K mg d) : FnR P w K mg base CX0 6 d.Ratio___rsub__ (spRSub d.Ratio) := by
  have G_Ratio_of : FnR P w K mg base CX0 4 d.Ratio_of (spOf d.Ratio) := G_Ratio_of T
  have G_sub : FnR P w K mg base CX0 5 d.Ratio___sub__ (spBin d.Ratio (· - ·)) := G_Ratio___sub__ T
  obtain ⟨fd, F⟩ := T.F_Ratio___rsub__
  refine FnR.imp (FnOk.raw (F.ok sc_Ratio___rsub__ (k := 5) (sp := spRSub d.Ratio) (fun vs H Q E h => ?_) (fun cdv A outer s H vs Q E hr h => ?_)) (F.binds fun _ _ _ _ _ _ us hl => match us, hl with | [_, _], _ => rfl) .nil) fun vs H Q E h => by rw [List.append_nil]; exact h
  · obtain ⟨a, j, x, rfl, _⟩ := h
    rfl
  · obtain ⟨a, j, x, rfl, ha, zx, zj, k⟩ := h
    -- slots: 0 self, 1 other
    refine ⟨_, (pss_one (ps_ret (pe_op uSub (pe_smeth (pe_glob (v := .ref _) rfl T.m_Ratio rfl) T.s_Ratio_of G_Ratio_of (hr.mono (by decide)) pass0 (pa_cons (pv 1) pa_nil)) (pv 0)))), ?_⟩
    refine ⟨rfl, _, rfl, ⟨_, (j : Rat), rfl, Or.inl ⟨j, rfl, rfl⟩, fun b H1 e1 hb => ?_⟩⟩
    exact ⟨_, rfl, Or.inr (own_bin T.b_Ratio_sub G_sub (hr.mono (by decide)) hb (num_r (ha.same e1)) (sz_i zj (by decide)) zx fun p H2 e2 hp => k p H2 (e1.trans e2) hp)⟩
end

end AZ
namespace AZ
open PySem L2
/-! ## what is in a set -/
-- facts to come: T.in_Zooms T.F_Zooms___contains__ T.F_Zooms___eq__ T.F_Zooms___invert__ T.F_Zooms_joined T.F_Zooms___sub__ T.F_common_multiple T.F_joined_truth T.F_marks_joined T.F__law_number T.F__law_heard T.F__law_beside T.F__law_between_right T.F__law_beyond_right T.F__law_refused_right T.F_law T.u_Zooms_invert T.q_Zooms_eq T.z_Zooms T.b_Zooms_sub T.bo_Zooms T.h_Zooms_marks_upto T.h_Zooms_mark T.h_Zooms_state_behind T.h_Zooms_joined T.h_Ratio_divided T.h_Ratio_ceiling T.F_Ratio_common T.s_Ratio_common T.s_Ratio_highest T.s_Ratio_lowest T.s_Ratio_of T.s_Zooms_between T.s_Zooms_beyond T.s_Zooms_everything T.s_Zooms_nothing T.m_Zooms T.m_Ratio T.k_is_zoom T.m_is_zoom T.k_marks_joined T.m_marks_joined T.k_joined_truth T.m_joined_truth T.k_common_multiple T.m_common_multiple T.n_isinstance T.n_bool T.n_range T.n_len T.n_tuple T.i_Zooms_is_Zooms T.y_Zooms T.c_Zooms T.cv_Zooms_MOST_MARKS T.a_Zooms_once T.a_Zooms_marks T.a_Zooms_begin T.a_Zooms_turn T.a_Zooms_is_first T.v_Ratio_sub T.bo_Ratio T.m_law T.m_SnapError T.ex_BadZooms T.sx_SnapError T.gx_all T.m__law_number T.k__law_number T.m__law_heard T.k__law_heard T.m__law_beside T.k__law_beside T.m__law_between_right T.k__law_between_right T.m__law_beyond_right T.k__law_beyond_right T.m__law_refused_right T.k__law_refused_right T.m__law_pen T.k__law_pen T.m__law_draw T.k__law_draw T.m__law_pick T.k__law_pick T.z_Ratio T.q_Ratio_lt T.q_Ratio_gt T.q_Ratio_eq T.w_Zooms_bool
def spMUp (C D : Addr) : Sp := fun vs H Q _ => ∃ (a : Addr) (z : V) (q : Rat) (ms : List Mk) (f : Bool) (x : Rat), vs = [.ref a, z] ∧ IsZ C D H a q ms f ∧ ZOk q ms ∧ Num C H z x ∧ Sz 950 x ∧ ∀ H', Same H H' → Q (.int (upto ms x)) H'
theorem int_sz {n : Nat} {x : Rat} {t : Int} (z : Sz n x) (t0 : 0 ≤ t) (h : (t : Rat) ≤ x) : t.natAbs < 2 ^ n := by
  have dp := Rat.den_pos x
  have hx := num_eq x
  have hd : (0 : Rat) ≤ ((x.den : Int) : Rat) := Rat.intCast_nonneg.mpr (by omega)
  have h2 : (t : Rat) * ((x.den : Int) : Rat) ≤ (x.num : Rat) := by
    rw [hx]
    exact Rat.mul_le_mul_of_nonneg_right h hd
  rw [← Rat.intCast_mul] at h2
  have h3 := Rat.intCast_le_intCast.mp h2
  have h4 : t ≤ t * (x.den : Int) := by
    have := Int.mul_le_mul_of_nonneg_left (show (1 : Int) ≤ x.den by omega) t0
    omega
  have := z.1
  omega
theorem upto_past {q x : Rat} {ms : List Mk} (ok : ZOk q ms) (h : q ≤ x) : upto ms x = ms.length := upto_all fun m hm => by have := (ok.mark m hm).2.2; grind
section
variable {P : Program} {w : World} {K : PySem.W.Frag} {mg : Str → Option Value} {base : Heap} {d : Ad}
theorem num_sub {X : Cx} (T : Tx X.K mg d) (G : FnR X.prog X.w X.K X.mg X.base CX0 5 d.Ratio___sub__ (spBin d.Ratio (· - ·))) (G' : FnR X.prog X.w X.K X.mg X.base CX0 6 d.Ratio___rsub__ (spRSub d.Ratio)) (hr : Room 6 X.A) {v : V} {b : Addr} {x y : Rat} {H : Hp} {W : VK} (hv : Num d.Ratio H v x) (hb : IsRat d.Ratio H b y) (zx : Sz 2000 x) (zy : Sz 2000 y)
    (k : ∀ p H', Same H H' → IsRat d.Ratio H' p (x - y) → W (.ref p) H') : orR (rI0 fun i j => V.int (i - j)) (orR (rOwn X .Sub) (rRefl X "sub")) v (.ref b) H W := by
  rcases hv with ⟨i, rfl, rfl⟩ | ⟨a, rfl, ha⟩
  · obtain ⟨dx, h⟩ := id hb
    have zi : i.natAbs < 2 ^ 2000 := by have := zx.1; rw [Rat.num_intCast] at this; exact this
    exact Or.inr (Or.inr ⟨i, b, d.Ratio, dx, _, _, _, CX0, 6, _, E0, rfl, rfl, h, T.v_Ratio_sub, G', hr, pass0, ⟨b, i, y, rfl, hb, zy, zi, k⟩⟩)
  · exact Or.inr (Or.inl (own_bin T.b_Ratio_sub G (hr.mono (by decide)) ha (num_r hb) zx zy k))
theorem G_Zooms_marks_upto (T : Tx K mg d) : FnR P w K mg base CX0 8 d.Zooms_marks_upto (spMUp d.Ratio d.Zooms) := by
  have G_many_upto := G_many_upto (P := P) (w := w) (base := base) T
  have G_Ratio_of : FnR P w K mg base CX0 4 d.Ratio_of (spOf d.Ratio) := G_Ratio_of T
  have G_Ratio_divided := G_Ratio_divided (P := P) (w := w) (base := base) T
  have G_Ratio_ceiling : FnR P w K mg base CX0 1 d.Ratio_ceiling (spFlo d.Ratio Rat.ceil) := G_Ratio_ceiling T
  have G_add : FnR P w K mg base CX0 5 d.Ratio___add__ (spBin d.Ratio (· + ·)) := G_Ratio___add__ T
  have G_sub : FnR P w K mg base CX0 5 d.Ratio___sub__ (spBin d.Ratio (· - ·)) := G_Ratio___sub__ T
  have G_mul : FnR P w K mg base CX0 5 d.Ratio___mul__ (spBin d.Ratio (· * ·)) := G_Ratio___mul__ T
  have G_rsub := G_Ratio___rsub__ (P := P) (w := w) (base := base) T
  have G_le : FnR P w K mg base CX0 5 d.Ratio___le__ (spCmp d.Ratio fun x y => decide (x ≤ y)) := G_Ratio___le__ T
  have G_ge : FnR P w K mg base CX0 5 d.Ratio___ge__ (spCmp d.Ratio fun x y => decide (x ≥ y)) := G_Ratio___ge__ T
  obtain ⟨fd, F⟩ := T.F_Zooms_marks_upto
  refine FnR.imp (FnOk.raw (F.ok sc_Zooms_marks_upto (k := 7) (sp := spMUp d.Ratio d.Zooms) (fun vs H Q E h => ?_) (fun cdv A outer s H vs Q E hr h => ?_)) (F.binds fun _ _ _ _ _ _ us hl => match us, hl with | [_, _], _ => rfl) .nil) fun vs H Q E h => by rw [List.append_nil]; exact h
  · obtain ⟨a, z, q, ms, f, x, rfl, _⟩ := h
    rfl
  · obtain ⟨a, z, q, ms, f, x, rfl, hz, ok, hx, zx, k⟩ := h
    -- slots: 0 self, 1 zoom, 2 turns
    refine ⟨_, (pss_cons (ps_if (pt_cmpR uLeR (pv 1) (pe_op uAdd (pe_fld (pv 0) rfl) (pe_fld (pv 0) rfl)) (nomark _)) (pss_one (ps_ret (pe_fnR G_many_upto (hr.mono (by decide)) T.k_many_upto T.m_many_upto pass0 (pa_cons (pe_fld (pv 0) rfl) (pa_cons (pv 1) pa_nil))))) pss_nil)
      (pss_cons (ps_set (i := 2) sc_Zooms_marks_upto.nd rfl (Or.inl rfl) (pe_op uSubR (pe_mR0 (pe_mR (pe_op uSubR (pe_smeth (pe_glob (v := .ref _) rfl T.m_Ratio rfl) T.s_Ratio_of G_Ratio_of (hr.mono (by decide)) pass0 (pa_cons (pv 1) pa_nil)) (pe_fld (pv 0) rfl)) T.c_Ratio T.h_Ratio_divided G_Ratio_divided (hr.mono (by decide)) pass0 (pa_cons (pe_fld (pv 0) rfl) pa_nil)) T.c_Ratio T.h_Ratio_ceiling G_Ratio_ceiling (hr.mono (by decide)) pass0) pe_int))
      (pss_one (ps_ret (pe_op uAdd (pe_fnR G_many_upto (hr.mono (by decide)) T.k_many_upto T.m_many_upto pass0 (pa_cons (pe_fld (pv 0) rfl) (pa_cons (pe_op uSubR (pv 1) (pe_op uMul (pe_fld (pv 0) rfl) (pv 2))) pa_nil))) (pe_op uMul (pv 2) (pe_op uSubR (pe_callB call_len_seq (by rfl) T.n_len (by decide +kernel) (pa_cons (pe_fld (pv 0) rfl) pa_nil)) (pe_fld (pv 0) rfl)))))))), ?_⟩
    have hz0 := hz
    obtain ⟨dx, rb, rt, rm, zs, ha, hb, ht, hm, hms⟩ := hz
    have zq2 : Sz 2000 q := sz_mono ok.sz (by decide)
    have zx2 : Sz 2000 x := sz_mono zx (by decide)
    have z12 : Sz 2000 (1 : Rat) := ⟨by decide +kernel, by decide +kernel⟩
    have zs1 : Sz 2000 (q + 1) := sz_mono (sz_add (m := 1) ok.sz ⟨by decide +kernel, by decide +kernel⟩) (by decide)
    refine ⟨_, rfl, _, rfl, a, _, dx, _, _, rfl, ha, T.c_Zooms, T.a_Zooms_begin, rfl, _, rfl, a, _, dx, _, _, rfl, ha, T.c_Zooms, T.a_Zooms_turn, rfl, Or.inr (Or.inl (own_bin T.b_Ratio_add G_add (hr.mono (by decide)) hb (num_r ht) zq2 z12 fun s H1 e1 hs => ?_))⟩
    refine num_cmp (g := fun x y => decide (x ≤ y)) (gr := fun x y => decide (x ≥ y)) T.q_Ratio_le T.q_Ratio_ge T.i_Ratio_is_int G_le G_ge (hr.mono (by decide)) (hr.mono (by decide)) (hx.same e1) (num_r hs) zx2 zs1 (fun i j => decide_eq_decide.mpr Rat.intCast_le_intCast.symm) (fun _ _ => rfl) fun H2 e2 => ⟨_, rfl, ite2 (fun hc => ?_) (fun hc => ?_)⟩
    all_goals have e12 := e1.trans e2
    all_goals have hx2 := hx.same e12
    · refine ⟨_, rfl, a, _, dx, _, _, rfl, (e12 _ _ ha), T.c_Zooms, T.a_Zooms_marks, rfl, _, rfl, ⟨rm, true, zs, ms, z, x, rfl, e12 _ _ hm, hms.same e12, ok.asc, by rw [pd_len hms]; exact ok.len, fun m h => sz_mono (ok.mark m h).1 (by decide), hx2, zx2, fun H3 e3 => k _ (e12.trans e3)⟩⟩
    · have hlt : q + 1 < x := by
        have := of_decide_eq_false ((Bool.not_eq_true _).mp hc)
        grind
      have hz2 := hz0.same e12
      try dsimp only [tNext, gName]
      refine ⟨rfl, _, rfl, ⟨z, x, rfl, hx2, fun p H3 e3 hp => ?_⟩⟩
      have e13 := e12.trans e3
      refine ⟨_, rfl, a, _, dx, _, _, rfl, (e13 _ _ ha), T.c_Zooms, T.a_Zooms_begin, rfl, ?_⟩
      refine Or.inr (Or.inl (own_bin T.b_Ratio_sub G_sub (hr.mono (by decide)) hp (num_r (hb.same e13)) zx2 zq2 fun p2 H4 e4 hp2 => ?_))
      have e14 := e13.trans e4
      have zd : Sz 1851 (x - q) := sz_sub zx ok.sz
      obtain ⟨d2, hd2⟩ := id hp2
      refine ⟨p2, d2, _, rfl, hd2, rfl, _, rfl, a, _, dx, _, _, rfl, (e14 _ _ ha), T.c_Zooms, T.a_Zooms_turn, rfl, ⟨p2, _, _, 1, rfl, hp2, num_r (ht.same e14), by decide +kernel, sz_mono zd (by decide), z12, fun p3 H5 e5 hp3 => ?_⟩⟩
      have e15 := e14.trans e5
      have dv : (x - q) / 1 = x - q := by grind
      rw [dv] at hp3
      obtain ⟨d3, hd3⟩ := id hp3
      refine ⟨p3, d3, _, rfl, hd3, rfl, ⟨p3, _, rfl, hp3, sz_mono zd (by decide), Or.inl ⟨_, _, rfl, rfl, ?_⟩⟩⟩
      have c1 : ((x - q).ceil : Rat) < x - q + 1 := Rat.ceil_lt
      have c2 : x - q ≤ ((x - q).ceil : Rat) := Rat.le_ceil
      generalize htt : (x - q).ceil - 1 = t
      have ht1 : (((x - q).ceil : Int) : Rat) = (t : Rat) + 1 := by
        have : (x - q).ceil = t + 1 := by omega
        rw [this, Rat.intCast_add]
        rfl
      rw [ht1] at c1 c2
      have tpos : 0 ≤ t := by
        have h1 : (((-1 : Int)) : Rat) < (t : Rat) := by
          have : (((-1 : Int)) : Rat) = -1 := by decide +kernel
          grind
        have := Rat.intCast_lt_intCast.mp h1
        omega
      have q0 := ok.pos
      have tx : (t : Rat) ≤ x := by grind
      have tz : t.natAbs < 2 ^ 950 := int_sz zx tpos tx
      have tz9 : Sz 950 (t : Rat) := sz_i tz (by decide)
      have e1t : (1 : Rat) * (t : Rat) = (t : Rat) := by grind
      try dsimp only [tNext, gName]
      refine st_eq (σ' := [some (.ref a), some z, some (.int t)]) (by rw [← htt]; rfl) ?_
      refine ⟨_, rfl, a, _, dx, _, _, rfl, (e15 _ _ ha), T.c_Zooms, T.a_Zooms_marks, rfl, _, rfl, _, rfl, a, _, dx, _, _, rfl, (e15 _ _ ha), T.c_Zooms, T.a_Zooms_turn, rfl, _, rfl, Or.inr (own_bin T.b_Ratio_mul G_mul (hr.mono (by decide)) (ht.same e15) num_i z12 (sz_mono tz9 (by decide)) fun p4 H6 e6 hp4 => ?_)⟩
      rw [e1t] at hp4
      have e16 := e15.trans e6
      refine num_sub T G_sub G_rsub (hr.mono (by decide)) (hx.same e16) hp4 zx2 (sz_mono tz9 (by decide)) fun p5 H7 e7 hp5 => ?_
      have e17 := e16.trans e7
      refine ⟨rm, true, zs, ms, _, x - (t : Rat), rfl, e17 _ _ hm, hms.same e17, ok.asc, by rw [pd_len hms]; exact ok.len, fun m h => sz_mono (ok.mark m h).1 (by decide), num_r hp5, sz_mono (sz_sub zx tz9) (by decide), fun H8 e8 => ?_⟩
      have e18 := e17.trans e8
      rw [upto_past ok (show q ≤ x - (t : Rat) by grind)]
      rw [upto_past ok (show q ≤ x by grind)] at k
      refine ⟨_, rfl, _, rfl, a, _, dx, _, _, rfl, (e18 _ _ ha), T.c_Zooms, T.a_Zooms_marks, rfl, rm, zs, rfl, Or.inr (SqT.of (e18 _ _ hm)), _, rfl, a, _, dx, _, _, rfl, (e18 _ _ ha), T.c_Zooms, T.a_Zooms_once, rfl, Or.inl ⟨_, _, rfl, rfl, Or.inl ⟨_, _, rfl, rfl, ?_, Or.inl ⟨_, _, rfl, rfl, ?_⟩⟩⟩⟩
      · exact mulR (by rw [pd_len hms]; omega)
      · have e0 : (ms.length : Int) + t * ((zs.length : Int) - (ms.length : Int)) = (ms.length : Int) := by rw [pd_len hms]; simp
        dsimp only
        rw [e0]
        exact k _ e18
end

end AZ
namespace AZ
open PySem L2
/-! ## in, ==, ~ -/
section
variable {X : Cx} {C D f : Addr} {k : Nat} {H : Hp} {Q : VK} {a : Addr} {v : V} {x y : Rat}
/-- one number, twice -/
def SameNum (C : Addr) : Addr → V → Hp → Prop := fun a v H => ∃ q, IsRat C H a q ∧ Num C H v q ∧ Sz 2000 q
theorem same_ext {C : Addr} : ∀ (a : Addr) (b : V) (H H' : Hp), Ext H H' → SameNum C a b H → SameNum C a b H' := fun _ _ _ _ e ⟨q, h1, h2, z⟩ => ⟨q, h1.same e, h2.same e, z⟩
theorem eq_same (F : FnR X.prog X.w X.K X.mg X.base CX0 k f (spCmp C fun x y => decide (x = y))) : FnR X.prog X.w X.K X.mg X.base CX0 k f (spEqV (SameNum C)) :=
  F.imp fun vs H Q E ⟨a, y, e, ⟨q, h1, h2, z⟩, k⟩ => ⟨a, y, q, q, e, h1, h2, z, z, fun H' s => by simpa using k H' s⟩
abbrev DNum (C : Addr) : Eqv := fun x y H => DFlat x y H ∨ DOwn C (SameNum C) x y H
theorem mon_num {C : Addr} : Mon (DNum C) := Mon.or mon_flat (mon_own same_ext)
theorem eqG_num (M : CmpM X.K C .Eq f) (F : FnR X.prog X.w X.K X.mg X.base CX0 k f (spCmp C fun x y => decide (x = y))) : EqG X k (DNum C) :=
  (eqG_flat.mono (Nat.zero_le k)).or (eqG_own (eq_same F) M pass0)
theorem dn_b {C : Addr} {b : Bool} {H : Hp} : DNum C (.bl b) (.bl b) H := Or.inl ⟨rfl, rfl, by cases b <;> rfl⟩
theorem dn_r {C a : Addr} {v : V} {q : Rat} {H : Hp} (h : IsRat C H a q) (h2 : Num C H v q) (z : Sz 2000 q) : DNum C (.ref a) v H := by
  obtain ⟨dx, e⟩ := id h
  exact Or.inr ⟨a, dx, _, rfl, e, h2.right, q, h, h2, z⟩
/-- == of tuples of marks, and all that uEq knows -/
theorem uEqM (M : CmpM X.K C .Eq f) (F : FnR X.prog X.w X.K X.mg X.base CX0 k f (spCmp C fun x y => decide (x = y))) (hr : Room (k + 2) X.A) (hu : X.A.units + 64 < cLine) :
    OpR X (compareOp .Eq) (orR rEq (orR (rOwnC X .Eq) (orR (rEqG (DTup X.K (DTup X.K (DNum C)))) (rEqD X.K)))) :=
  op_or2 op_eq (op_or2 (op_ownC _) (op_or2 (op_eqG (rcG_tup (mon_tup mon_num) (eqG_tup mon_num (eqG_num M F))) hr) (op_eqD hu)))
end
theorem prs_mks {K : PySem.W.Frag} {C : Addr} {H : Hp} {xs ys : List V} {ms : List Mk} (h : Mks C H xs ms) (h' : Mks C H ys ms) (z : ∀ m ∈ ms, Sz 2000 m.1) : Prs (DTup K (DNum C)) xs ys H := by
  induction h generalizing ys with
  | nil =>
    cases h'
    exact Prs.nil
  | cons a r ih =>
    cases h' with
    | cons b r' =>
      refine Prs.cons ?_ (ih r' fun m hm => z m (List.mem_cons_of_mem _ hm))
      obtain ⟨t, r1, rfl, h1, h2⟩ := a
      obtain ⟨t', r2, rfl, h3, h4⟩ := b
      exact ⟨t, t', _, _, rfl, rfl, SqT.of h1, SqT.of h3, Prs.cons (dn_r h2 (num_r h4) (z _ (by simp))) (Prs.cons dn_b (Prs.cons dn_b Prs.nil))⟩
def hasZ (ms : List Mk) (f : Bool) (x : Rat) : Bool := match (ms.take (upto ms x)).getLast? with | some m => if m.1 = x then m.2.1 else m.2.2 | none => f
def spHas (C D : Addr) : Sp := fun vs H Q _ => ∃ (a : Addr) (v : V) (q : Rat) (ms : List Mk) (f : Bool) (x : Rat), vs = [.ref a, v] ∧ IsZ C D H a q ms f ∧ ZOk q ms ∧ Num C H v x ∧ Sz 900 x ∧ x > 0 ∧ ∀ H', Same H H' → Q (.bl (hasZ ms f x)) H'
def spZEq (C D : Addr) : Sp := fun vs H Q _ => ∃ (a b : Addr) (q : Rat) (ms : List Mk) (f : Bool) (q' : Rat) (ms' : List Mk) (f' : Bool), vs = [.ref a, .ref b] ∧ IsZ C D H a q ms f ∧ IsZ C D H b q' ms' f' ∧ ZOk q ms ∧
  ((f ≠ f' ∧ Q (.bl false) H) ∨ (q' = q ∧ ms' = ms ∧ f' = f ∧ ∀ H', Same H H' → Q (.bl true) H'))
def flipM (m : Mk) : Mk := (m.1, !m.2.1, !m.2.2)
theorem changes_flip : ∀ {ms : List Mk} {f : Bool}, changes (ms.map flipM) (!f) = (changes ms f).map flipM
  | [], _ => rfl
  | m :: r, f => by
    rw [List.map_cons]
    unfold changes
    have e1 : ((flipM m).2.1 != !f || (flipM m).2.2 != !f) = (m.2.1 != f || m.2.2 != f) := by
      show ((!m.2.1) != !f || (!m.2.2) != !f) = _
      cases m.2.1 <;> cases m.2.2 <;> cases f <;> rfl
    rw [e1]
    have ih : changes (r.map flipM) (flipM m).2.2 = (changes r m.2.2).map flipM := changes_flip (f := m.2.2)
    split
    · rw [ih]; rfl
    · exact ih
theorem lastOf_flip {ms : List Mk} : lastOf (ms.map flipM) = lastOf ms := by
  unfold lastOf
  rw [List.getLast?_map]
  cases ms.getLast? <;> rfl
theorem asc_flip {ms : List Mk} (h : Asc ms) : Asc (ms.map flipM) := List.Pairwise.map flipM (fun _ _ h => h) h
theorem ZOk.flip {q : Rat} {ms : List Mk} (h : ZOk q ms) : ZOk q (ms.map flipM) :=
  ⟨asc_flip h.asc, by rw [List.length_map]; exact h.len, fun m hm => by obtain ⟨x, hx, rfl⟩ := List.mem_map.mp hm; exact h.mark x hx, h.sz, h.pos⟩
def spZInv (C D : Addr) : Sp := fun vs H Q _ => ∃ (a : Addr) (q : Rat) (ms : List Mk) (f : Bool), vs = [.ref a] ∧ IsZ C D H a q ms f ∧ ZOk q ms ∧ changes ms f = ms ∧ lastOf ms = q ∧ ∀ p H', Same H H' → IsZ C D H' p q (ms.map flipM) (!f) → Q (.ref p) H'
section
variable {P : Program} {w : World} {K : PySem.W.Frag} {mg : Str → Option Value} {base : Heap} {d : Ad}
theorem G_Zooms___contains__ (T : Tx K mg d) : FnR P w K mg base CX0 9 d.Zooms___contains__ (spHas d.Ratio d.Zooms) := by
  have G_is_zoom := G_is_zoom (P := P) (w := w) (base := base) T
  have G_Zooms_marks_upto := G_Zooms_marks_upto (P := P) (w := w) (base := base) T
  have G_Zooms_mark := G_Zooms_mark (P := P) (w := w) (base := base) T
  have G_Zooms_state_behind := G_Zooms_state_behind (P := P) (w := w) (base := base) T
  have G_eq : FnR P w K mg base CX0 2 d.Ratio___eq__ (spCmp d.Ratio fun x y => decide (x = y)) := G_Ratio___eq__ T
  obtain ⟨fd, F⟩ := T.F_Zooms___contains__
  refine FnR.imp (FnOk.raw (F.ok sc_Zooms___contains__ (k := 8) (sp := spHas d.Ratio d.Zooms) (fun vs H Q E h => ?_) (fun cdv A outer s H vs Q E hr h => ?_)) (F.binds fun _ _ _ _ _ _ us hl => match us, hl with | [_, _], _ => rfl) .nil) fun vs H Q E h => by rw [List.append_nil]; exact h
  · obtain ⟨a, v, q, ms, f, x, rfl, _⟩ := h
    rfl
  · obtain ⟨a, v, q, ms, f, x, rfl, hz, ok, hx, zx, x0, k⟩ := h
    -- slots: 0 self, 1 x, 2 many
    refine ⟨_, (pss_cons (ps_if (pt_not (pt_val (pe_fnR G_is_zoom (hr.mono (by decide)) T.k_is_zoom T.m_is_zoom pass0 (pa_cons (pv 1) pa_nil)))) (pss_one (ps_ret pe_bl)) pss_nil)
      (pss_cons (ps_set (i := 2) sc_Zooms___contains__.nd rfl (Or.inl rfl) (pe_mR (pv 0) T.c_Zooms T.h_Zooms_marks_upto G_Zooms_marks_upto (hr.mono (by decide)) pass0 (pa_cons (pv 1) pa_nil)))
      (pss_cons (ps_if (PW.pt (pw_and (pt_cmpR uGt (pv 2) pe_int (nomark _)) (pw_and1 (pt_cmpR (uEq hr.units) (pe_ix ix_seq (pe_mR (pv 0) T.c_Zooms T.h_Zooms_mark G_Zooms_mark (hr.mono (by decide)) pass0 (pa_cons (pe_op uSub (pv 2) pe_int) pa_nil)) pe_int (fun _ _ => rfl)) (pv 1) (nomark _))))) (pss_one (ps_ret (pe_ix ix_seq (pe_mR (pv 0) T.c_Zooms T.h_Zooms_mark G_Zooms_mark (hr.mono (by decide)) pass0 (pa_cons (pe_op uSub (pv 2) pe_int) pa_nil)) pe_int (fun _ _ => rfl)))) pss_nil)
      (pss_one (ps_ret (pe_mR (pv 0) T.c_Zooms T.h_Zooms_state_behind G_Zooms_state_behind (hr.mono (by decide)) pass0 (pa_cons (pv 2) pa_nil))))))), ?_⟩
    have zx2 : Sz 2000 x := sz_mono zx (by decide)
    refine ⟨_, rfl, Or.inl ⟨v, x, rfl, hx, zx2, fun H1 e1 => ⟨_, rfl, ifF (congrArg not (decide_eq_true x0)) ?_⟩⟩⟩
    have hz1 := hz.same e1
    try dsimp only [tNext, gName]
    refine ⟨_, rfl, a, _, _, rfl, hz1.choose_spec.choose_spec.choose_spec.choose_spec.choose_spec.1, rfl, _, rfl, ⟨a, v, q, ms, f, x, rfl, hz1, ok, hx.same e1, sz_mono zx (by decide), fun H2 e2 => ?_⟩⟩
    have e12 := e1.trans e2
    have hz2 := hz.same e12
    obtain ⟨dx, rb, rt, rm, zs, ha, hb, ht, hm, hms⟩ := id hz2
    have ul := upto_le ms x
    unfold hasZ at k
    generalize hn : upto ms x = n at k ul
    try dsimp only [tNext, gName]
    refine st_eq (σ' := [some (.ref a), some v, some (.int (n : Int))]) (by rw [← hn]; rfl) ?_
    refine ⟨_, rfl, Or.inl ⟨_, _, rfl, rfl, _, rfl, ite2 (fun hp => ?_) (fun hp => ?_)⟩⟩
    · have np : 0 < n := by
        have := of_decide_eq_true hp
        omega
      have e1n : (n : Int) - 1 = ((n - 1 : Nat) : Int) := by omega
      have il : n - 1 < ms.length := by omega
      have last : (ms.take n).getLast? = some ms[n - 1] := by
        rw [List.getLast?_eq_getElem?, List.length_take, Nat.min_eq_left ul, List.getElem?_take, if_pos (by omega), List.getElem?_eq_getElem il]
      rw [last] at k; dsimp only at k
      have zm : Sz 2000 ms[n - 1].1 := sz_mono (ok.mark _ (List.getElem_mem il)).1 (by decide)
      refine ⟨_, rfl, a, dx, _, rfl, ha, rfl, _, rfl, Or.inl ⟨_, _, rfl, rfl, ?_⟩⟩
      dsimp only
      rw [e1n]
      refine ⟨a, n - 1, q, ms, f, rfl, hz2, ok.len, Or.inl ⟨_, List.getElem?_eq_getElem il, fun u hu => ?_⟩⟩
      obtain ⟨t, r, rfl, h1, h2⟩ := id hu
      refine Or.inr (Or.inl ⟨t, _, 0, _, rfl, rfl, SqT.of h1, at_of (j := 0) rfl rfl, ?_⟩)
      refine ⟨_, rfl, Or.inr (Or.inl (oc T.q_Ratio_eq G_eq (hr.mono (by decide)) h2 (hx.same e12) zm zx2 rfl fun H3 e3 => ⟨_, rfl, ?_⟩))⟩
      have hz3 := hz2.same e3
      refine ite2 (fun hq => ?_) (fun hq => ?_)
      · have eq : ms[n - 1].1 = x := of_decide_eq_true hq
        rw [if_pos eq] at k
        refine ⟨_, rfl, a, dx, _, rfl, e3 _ _ ha, rfl, _, rfl, Or.inl ⟨_, _, rfl, rfl, ?_⟩⟩
        dsimp only
        rw [e1n]
        refine ⟨a, n - 1, q, ms, f, rfl, hz3, ok.len, Or.inl ⟨_, List.getElem?_eq_getElem il, fun u hu => ?_⟩⟩
        obtain ⟨t, r, rfl, h1, h2⟩ := id hu
        exact Or.inr (Or.inl ⟨t, _, 1, _, rfl, rfl, SqT.of h1, at_of (j := 1) rfl rfl, k _ (e12.trans e3)⟩)
      · have neq : ¬ ms[n - 1].1 = x := of_decide_eq_false ((Bool.not_eq_true _).mp hq)
        rw [if_neg neq] at k
        refine ⟨_, rfl, a, dx, _, rfl, e3 _ _ ha, rfl, _, rfl, ⟨a, n, q, ms, f, rfl, hz3, ok.len, ul, ?_⟩⟩
        unfold behindOf
        rw [last]
        exact k _ (e12.trans e3)
    · have n0 : n = 0 := by
        have : ¬ ((0 : Int) < n) := fun p => hp (decide_eq_true p)
        omega
      subst n0
      refine ⟨_, rfl, a, dx, _, rfl, ha, rfl, _, rfl, ⟨a, 0, q, ms, f, rfl, hz2, ok.len, ul, ?_⟩⟩
      exact k _ e12
theorem G_Zooms___eq__ (T : Tx K mg d) : FnR P w K mg base CX0 5 d.Zooms___eq__ (spZEq d.Ratio d.Zooms) := by
  have G_eq : FnR P w K mg base CX0 2 d.Ratio___eq__ (spCmp d.Ratio fun x y => decide (x = y)) := G_Ratio___eq__ T
  obtain ⟨fd, F⟩ := T.F_Zooms___eq__
  refine FnR.imp (FnOk.raw (F.ok sc_Zooms___eq__ (k := 4) (sp := spZEq d.Ratio d.Zooms) (fun vs H Q E h => ?_) (fun cdv A outer s H vs Q E hr h => ?_)) (F.binds fun _ _ _ _ _ _ us hl => match us, hl with | [_, _], _ => rfl) .nil) fun vs H Q E h => by rw [List.append_nil]; exact h
  · obtain ⟨a, b, q, ms, f, q', ms', f', rfl, _⟩ := h
    rfl
  · obtain ⟨a, b, q, ms, f, q', ms', f', rfl, hz, hz', ok, h⟩ := h
    -- slots: 0 self, 1 other
    refine ⟨_, (pss_cons (ps_if (PW.pt (pw_or (pt_not (pt_val (pe_callB uIsi (by rfl) T.n_isinstance (by decide +kernel) (pa_cons (pv 1) (pa_cons (pe_glob (v := .ref _) rfl T.m_Zooms rfl) pa_nil))))) (pw_or1 (pt_cmpR (uNe hr.units) (pe_fld (pv 0) rfl) (pe_fld (pv 1) rfl) (nomark _))))) (pss_one (ps_ret pe_bl)) pss_nil)
      (pss_one (ps_ret (pe_and (pe_cmpR (uEqM T.q_Ratio_eq G_eq (hr.mono (by decide)) hr.units) (pe_fld (pv 0) rfl) (pe_fld (pv 1) rfl) (nomark _)) (pe_and (pe_cmpR (uEqM T.q_Ratio_eq G_eq (hr.mono (by decide)) hr.units) (pe_fld (pv 0) rfl) (pe_fld (pv 1) rfl) (nomark _)) (pe_one (pe_cmpR (uEqM T.q_Ratio_eq G_eq (hr.mono (by decide)) hr.units) (pe_fld (pv 0) rfl) (pe_fld (pv 1) rfl) (nomark _)))))))), ?_⟩
    obtain ⟨dx, rb, rt, rm, zs, ha, hb, ht, hm, hms⟩ := id hz
    obtain ⟨dy, rb', rt', rm', zs', ha', hb', ht', hm', hms'⟩ := id hz'
    refine ⟨_, rfl, Or.inl ⟨_, _, _, _, true, rfl, .own _, T.y_Zooms.ty T.c_Zooms ha', T.i_Zooms_is_Zooms, true, rfl, iteF ?_⟩⟩
    refine ⟨_, rfl, a, _, dx, _, _, rfl, ha, T.c_Zooms, T.a_Zooms_is_first, rfl, _, rfl, b, _, dy, _, _, rfl, ha', T.c_Zooms, T.a_Zooms_is_first, rfl, Or.inl ⟨rfl, _, rfl, ?_⟩⟩
    have dn : (!decide (V.bl f = V.bl f')) = (f != f') := by cases f <;> cases f' <;> rfl
    rw [dn]
    rcases h with ⟨ne, k⟩ | ⟨rfl, rfl, rfl, k⟩
    · exact ifT (by cases f <;> cases f' <;> first | rfl | exact absurd rfl ne) k
    refine ifF (by cases f' <;> rfl) ?_
    try dsimp only [tNext, gName]
    have zq2 : Sz 2000 q' := sz_mono ok.sz (by decide)
    have z12 : Sz 2000 (1 : Rat) := ⟨by decide +kernel, by decide +kernel⟩
    refine ⟨_, rfl, a, _, dx, _, _, rfl, ha, T.c_Zooms, T.a_Zooms_begin, rfl, _, rfl, b, _, dy, _, _, rfl, ha', T.c_Zooms, T.a_Zooms_begin, rfl, Or.inr (Or.inl (oc T.q_Ratio_eq G_eq (hr.mono (by decide)) hb (num_r hb') zq2 zq2 (decide_eq_true rfl) fun H1 e1 => ⟨_, rfl, iteT ?_⟩))⟩
    refine ⟨_, rfl, a, _, dx, _, _, rfl, (e1 _ _ ha), T.c_Zooms, T.a_Zooms_turn, rfl, _, rfl, b, _, dy, _, _, rfl, (e1 _ _ ha'), T.c_Zooms, T.a_Zooms_turn, rfl, Or.inr (Or.inl (oc T.q_Ratio_eq G_eq (hr.mono (by decide)) (ht.same e1) (num_r (ht'.same e1)) z12 z12 (decide_eq_true rfl) fun H2 e2 => ⟨_, rfl, iteT ?_⟩))⟩
    have e12 := e1.trans e2
    refine ⟨_, rfl, a, _, dx, _, _, rfl, (e12 _ _ ha), T.c_Zooms, T.a_Zooms_marks, rfl, _, rfl, b, _, dy, _, _, rfl, (e12 _ _ ha'), T.c_Zooms, T.a_Zooms_marks, rfl, Or.inr (Or.inr (Or.inl ⟨⟨rm, rm', zs, zs', rfl, rfl, SqT.of (e12 _ _ hm), SqT.of (e12 _ _ hm'), prs_mks (hms.same e12) (hms'.same e12) fun m h => sz_mono (ok.mark m h).1 (by decide)⟩, fun H3 e3 => k _ (e12.trans e3)⟩))⟩
theorem G_Zooms___invert__ (T : Tx K mg d) : FnR P w K mg base CX0 12 d.Zooms___invert__ (spZInv d.Ratio d.Zooms) := by
  have G_Zooms___init__ := G_Zooms___init__ (P := P) (w := w) (base := base) T
  obtain ⟨fd, F⟩ := T.F_Zooms___invert__
  refine FnR.imp (FnOk.raw (F.ok sc_Zooms___invert__ (k := 11) (sp := spZInv d.Ratio d.Zooms) (fun vs H Q E h => ?_) (fun cdv A outer s H vs Q E hr h => ?_)) (F.binds fun _ _ _ _ _ _ us hl => match us, hl with | [_], _ => rfl) .nil) fun vs H Q E h => by rw [List.append_nil]; exact h
  · obtain ⟨a, q, ms, f, rfl, _⟩ := h
    rfl
  · obtain ⟨a, q, ms, f, rfl, hz, ok, cf, cl, k⟩ := h
    -- slots: 0 self, 1 marks, 2 zoom, 3 is_at, 4 is_behind
    refine ⟨_, (pss_cons (ps_setLc (own := [("zoom", 2), ("is_at", 3), ("is_behind", 4)]) (g := gTup K 3 (gCons (gName 2) (gCons (gName 3) (gCons (gName 4) gNil)))) (i := 1) (by rfl) sc_Zooms___invert__.nd rfl rfl (sw_true rfl rfl rfl rfl) (pi_seq (pe_fld (pv 0) rfl)) (blkOk_by (own := [("zoom", 2), ("is_at", 3), ("is_behind", 4)]) (N := ["self", "marks", "zoom", "is_at", "is_behind"]) (sc := defScope s_Zooms___invert__) (by decide +kernel)) (fun _ _ _ _ _ => pg_tup (by rfl) (pgs_cons (pg_name (i := 2) sc_Zooms___invert__.nd rfl (Or.inl rfl)) (pgs_cons (pg_name (i := 3) sc_Zooms___invert__.nd rfl (Or.inl rfl)) (pgs_cons (pg_name (i := 4) sc_Zooms___invert__.nd rfl (Or.inl rfl)) pgs_nil)))) (fun _ _ _ _ _ => pts_nil) (fun _ _ _ _ _ => (pe_tup (pa_cons (pv 2) (pa_cons (pe_not (pv 3)) (pa_cons (pe_not (pv 4)) pa_nil))))))
      (pss_one (ps_ret (StX.pe_makeR T.mk_Zooms G_Zooms___init__ (hr.mono (by decide)) rfl T.m_Zooms pass0 (pa_cons (pe_fld (pv 0) rfl) (pa_cons (pe_fld (pv 0) rfl) (pa_cons (pe_callTy call_tuple_of (by rfl) T.n_tuple (by decide +kernel) (pa_cons (pv 1) pa_nil)) (pa_cons (pe_not (pe_fld (pv 0) rfl)) pa_nil)))))))), ?_⟩
    obtain ⟨dx, rb, rt, rm, zs, ha, hb, ht, hm, hms⟩ := id hz
    refine in_asg ?_
    refine lc_seq (b := true) (xs := zs) (fun D i H2 => Same H H2 ∧ H D = none ∧ ∃ ys, H2 D = some (.lst ys) ∧ Mks d.Ratio H2 ys ((ms.map flipM).take i) ∧ ys.length = i) (fun R q => ⟨_, rfl, a, _, dx, _, _, rfl, ha, T.c_Zooms, T.a_Zooms_marks, rfl, q⟩) hm (fun D hD => ⟨sameNew hD, hD, [], upd_same, .nil, rfl⟩)
      (fun D i H2 _ h => h.1 _ _ hm) (fun D i x H2 hx h => ?_) (fun D H2 h => ?_)
    · obtain ⟨e3, hD, ys, hys, hR, hi⟩ := h
      have hlt : i < zs.length := (List.getElem?_eq_some_iff.mp hx).1
      obtain ⟨m, hmm, t, v, rfl, htt, hv⟩ := pd_at (hms.same e3) hx
      refine ⟨t, _, rfl, SqT.of htt, rfl, _, _, rfl, _, _, rfl, _, _, rfl, rfl, rfl, ?_⟩
      refine ⟨_, rfl, _, rfl, _, rfl, _, rfl, _, rfl, (by show 3 ≤ sizeLine; decide), fun tt h5 => ?_⟩
      have s5 := sameNew (o := HO.tup [.ref v, .bl (!m.2.1), .bl (!m.2.2)]) h5
      have hz5 := s5 _ _ hys
      have up5 : Up D (upd H2 tt (.tup [.ref v, .bl (!m.2.1), .bl (!m.2.2)])) (upd (upd H2 tt (.tup [.ref v, .bl (!m.2.1), .bl (!m.2.2)])) D (.lst (ys ++ [.ref tt]))) := Up.put hz5
      have ll := ok.len
      refine ⟨ys, hz5, by rw [hi]; exact Nat.lt_of_lt_of_le (Nat.lt_of_lt_of_le hlt (by rw [pd_len hms]; exact ll)) (by decide), same_at (e3.trans s5) hD, hD, _, upd_same, ?_, by simp [hi]⟩
      have fm : (ms.map flipM)[i]? = some (flipM m) := by rw [List.getElem?_map, hmm]; rfl
      rw [take_at fm]
      exact paired_append (pd_imp (fun q => MkAt.up q up5) (Mks.same hR s5)) (.cons ⟨tt, v, rfl, up5.tup upd_same, (hv.same s5).up up5⟩ .nil)
    · obtain ⟨e3, hD, ys, hys, hR, _⟩ := h
      rw [show zs.length = (ms.map flipM).length from by rw [List.length_map]; exact pd_len hms, List.take_length] at hR
      have z12 : Sz 2000 (1 : Rat) := ⟨by decide +kernel, by decide +kernel⟩
      refine ⟨_, rfl, a, _, dx, _, _, rfl, (e3 _ _ ha), T.c_Zooms, T.a_Zooms_begin, rfl, _, rfl, a, _, dx, _, _, rfl, (e3 _ _ ha), T.c_Zooms, T.a_Zooms_turn, rfl, _, rfl, D, ys, rfl, Or.inl ⟨SqL.of hys, fun l hl => ?_⟩⟩
      have s4 := sameNew (o := HO.tup ys) hl
      refine ⟨_, rfl, a, _, dx, _, _, rfl, (s4 _ _ (e3 _ _ ha)), T.c_Zooms, T.a_Zooms_is_first, rfl, f, rfl, ?_⟩
      intro x dx2 nx nd hn
      have e4 := e3.trans s4
      refine zmake (f := !f) (ms := ms.map flipM) nx nd (Or.inr ⟨rb, rfl, hb.same e4, num_r (ht.same e4)⟩) upd_same (pd_imp MkAt.in (Mks.same hR s4)) ok.flip fun H8 e8 z => ⟨rfl, ?_⟩
      rw [changes_flip, cf, lastOf_flip, cl] at z
      exact k _ _ (e4.trans e8) z
end

end AZ
namespace AZ
open PySem L2
/-! ## common numbers, joined marks -/
def spCom (C : Addr) : Sp := fun vs H Q _ => ∃ v qs m, vs = [v] ∧ Good' C H v qs ∧ (∀ q ∈ qs, Sz m q) ∧ 1 + (qs.length + 1) * m ≤ 2000 ∧ ∀ p H', Same H H' → IsRat C H' p (gcds qs) → Q (.ref p) H'
def spCM1 (C : Addr) : Sp := fun vs H Q _ => ∃ a b, vs = [.ref a, .ref b] ∧ IsRat C H a 1 ∧ IsRat C H b 1 ∧ ∀ p H', Same H H' → IsRat C H' p 1 → Q (.ref p) H'
def jt (s : Str) (a b : Bool) : Bool := if s = "|" then a || b else if s = "&" then a && b else if s = "-" then a && !b else a != b
def spJT : Sp := fun vs H Q _ => ∃ (a b : Bool) (s : Str), vs = [.bl a, .bl b, .str s] ∧ Q (.bl (jt s a b)) H
/-- two rows of marks as one -/
def mjoin (g : Bool → Bool → Bool) : List Mk → List Mk → Bool → Bool → List Mk
  | [], [], _, _ => []
  | m :: r, [], _, b => (m.1, g m.2.1 b, g m.2.2 b) :: mjoin g r [] m.2.2 b
  | [], n :: s, a, _ => (n.1, g a n.2.1, g a n.2.2) :: mjoin g [] s a n.2.2
  | m :: r, n :: s, a, b => if m.1 = n.1 then (m.1, g m.2.1 n.2.1, g m.2.2 n.2.2) :: mjoin g r s m.2.2 n.2.2 else if m.1 < n.1 then (m.1, g m.2.1 b, g m.2.2 b) :: mjoin g r (n :: s) m.2.2 b else (n.1, g a n.2.1, g a n.2.2) :: mjoin g (m :: r) s a n.2.2
termination_by r s => r.length + s.length
theorem mjoin_mem {g : Bool → Bool → Bool} : ∀ {r s : List Mk} {a b : Bool} {m : Mk}, m ∈ mjoin g r s a b → (∃ n ∈ r, n.1 = m.1) ∨ ∃ n ∈ s, n.1 = m.1 := by
  intro r s a b
  induction r, s, a, b using mjoin.induct with
  | case1 => intro m h; rw [mjoin] at h; cases h
  | case2 m r a b ih =>
    intro x h; rw [mjoin] at h
    rcases List.mem_cons.mp h with rfl | h
    · exact Or.inl ⟨m, List.mem_cons_self, rfl⟩
    · exact (ih h).imp (fun ⟨n, h1, h2⟩ => ⟨n, List.mem_cons_of_mem _ h1, h2⟩) id
  | case3 m r a b ih =>
    intro x h; rw [mjoin] at h
    rcases List.mem_cons.mp h with rfl | h
    · exact Or.inr ⟨m, List.mem_cons_self, rfl⟩
    · exact (ih h).imp id fun ⟨n, h1, h2⟩ => ⟨n, List.mem_cons_of_mem _ h1, h2⟩
  | case4 m r n s a b e ih =>
    intro x h; rw [mjoin, if_pos e] at h
    rcases List.mem_cons.mp h with rfl | h
    · exact Or.inl ⟨m, List.mem_cons_self, rfl⟩
    · exact (ih h).imp (fun ⟨n, h1, h2⟩ => ⟨n, List.mem_cons_of_mem _ h1, h2⟩) fun ⟨n, h1, h2⟩ => ⟨n, List.mem_cons_of_mem _ h1, h2⟩
  | case5 m r n s a b e l ih =>
    intro x h; rw [mjoin, if_neg e, if_pos l] at h
    rcases List.mem_cons.mp h with rfl | h
    · exact Or.inl ⟨m, List.mem_cons_self, rfl⟩
    · exact (ih h).imp (fun ⟨n, h1, h2⟩ => ⟨n, List.mem_cons_of_mem _ h1, h2⟩) id
  | case6 m r n s a b e l ih =>
    intro x h; rw [mjoin, if_neg e, if_neg l] at h
    rcases List.mem_cons.mp h with rfl | h
    · exact Or.inr ⟨n, List.mem_cons_self, rfl⟩
    · exact (ih h).imp id fun ⟨n, h1, h2⟩ => ⟨n, List.mem_cons_of_mem _ h1, h2⟩
theorem mjoin_asc {g : Bool → Bool → Bool} : ∀ {r s : List Mk} {a b : Bool}, Asc r → Asc s → Asc (mjoin g r s a b) := by
  intro r s a b
  induction r, s, a, b using mjoin.induct with
  | case1 => intro _ _; rw [mjoin]; exact List.Pairwise.nil
  | case2 m r a b ih =>
    intro h h'; rw [mjoin]
    have k := List.pairwise_cons.mp h
    refine List.pairwise_cons.mpr ⟨fun x hx => ?_, ih k.2 h'⟩
    rcases mjoin_mem hx with ⟨n, h1, h2⟩ | ⟨n, h1, h2⟩
    · have := k.1 n h1; show m.1 < x.1; rw [← h2]; exact this
    · cases h1
  | case3 m r a b ih =>
    intro h h'; rw [mjoin]
    have k := List.pairwise_cons.mp h'
    refine List.pairwise_cons.mpr ⟨fun x hx => ?_, ih h k.2⟩
    rcases mjoin_mem hx with ⟨n, h1, h2⟩ | ⟨n, h1, h2⟩
    · cases h1
    · have := k.1 n h1; show m.1 < x.1; rw [← h2]; exact this
  | case4 m r n s a b e ih =>
    intro h h'; rw [mjoin, if_pos e]
    have k := List.pairwise_cons.mp h
    have k' := List.pairwise_cons.mp h'
    refine List.pairwise_cons.mpr ⟨fun x hx => ?_, ih k.2 k'.2⟩
    rcases mjoin_mem hx with ⟨y, h1, h2⟩ | ⟨y, h1, h2⟩
    · have := k.1 y h1; show m.1 < x.1; rw [← h2]; exact this
    · have := k'.1 y h1; show m.1 < x.1; rw [← h2, e]; exact this
  | case5 m r n s a b e l ih =>
    intro h h'; rw [mjoin, if_neg e, if_pos l]
    have k := List.pairwise_cons.mp h
    have k' := List.pairwise_cons.mp h'
    refine List.pairwise_cons.mpr ⟨fun x hx => ?_, ih k.2 h'⟩
    rcases mjoin_mem hx with ⟨y, h1, h2⟩ | ⟨y, h1, h2⟩
    · have := k.1 y h1; show m.1 < x.1; rw [← h2]; exact this
    · show m.1 < x.1
      rw [← h2]
      rcases List.mem_cons.mp h1 with rfl | h1
      · exact l
      · have := k'.1 y h1
        grind
  | case6 m r n s a b e l ih =>
    intro h h'; rw [mjoin, if_neg e, if_neg l]
    have k := List.pairwise_cons.mp h
    have k' := List.pairwise_cons.mp h'
    have l' : n.1 < m.1 := by grind
    refine List.pairwise_cons.mpr ⟨fun x hx => ?_, ih h k'.2⟩
    rcases mjoin_mem hx with ⟨y, h1, h2⟩ | ⟨y, h1, h2⟩
    · show n.1 < x.1
      rw [← h2]
      rcases List.mem_cons.mp h1 with rfl | h1
      · exact l'
      · have := k.1 y h1
        grind
    · have := k'.1 y h1; show n.1 < x.1; rw [← h2]; exact this
theorem mjoin_len {g : Bool → Bool → Bool} : ∀ {r s : List Mk} {a b : Bool}, (mjoin g r s a b).length ≤ r.length + s.length := by
  intro r s a b
  induction r, s, a, b using mjoin.induct with
  | case1 => rw [mjoin]; exact Nat.zero_le _
  | case2 m r a b ih => rw [mjoin]; simp only [List.length_cons] at ih ⊢; omega
  | case3 m r a b ih => rw [mjoin]; simp only [List.length_cons] at ih ⊢; omega
  | case4 m r n s a b e ih => rw [mjoin, if_pos e]; simp only [List.length_cons] at ih ⊢; omega
  | case5 m r n s a b e l ih => rw [mjoin, if_neg e, if_pos l]; simp only [List.length_cons] at ih ⊢; omega
  | case6 m r n s a b e l ih => rw [mjoin, if_neg e, if_neg l]; simp only [List.length_cons] at ih ⊢; omega
theorem mk_at {C : Addr} {H : Hp} {xs : List V} {ms : List Mk} {i : Nat} (h : Mks C H xs ms) (hi : i < xs.length) : ∃ m t r, ms[i]? = some m ∧ xs[i]? = some (V.ref t) ∧ H t = some (.tup [.ref r, .bl m.2.1, .bl m.2.2]) ∧ IsRat C H r m.1 := by
  have hx : xs[i]? = some xs[i] := List.getElem?_eq_getElem hi
  obtain ⟨m, h1, t, r, e, h2, h3⟩ := pd_at h hx
  exact ⟨m, t, r, h1, by rw [hx, e], h2, h3⟩
/-- what an expression tells, whatever is wanted of it -/
def spMJ (C : Addr) : Sp := fun vs H Q _ => ∃ (a b : Addr) (c e : Bool) (xs ys : List V) (ms ns : List Mk) (f h : Bool) (s : Str), vs = [.ref a, .ref b, .bl f, .bl h, .str s] ∧ H a = some (sq c xs) ∧ H b = some (sq e ys) ∧ Mks C H xs ms ∧ Mks C H ys ns ∧ xs.length + ys.length ≤ 1000 ∧
  (∀ m ∈ ms, Sz 2000 m.1) ∧ (∀ m ∈ ns, Sz 2000 m.1) ∧ ∀ l zs H', Same H H' → H l = none → H' l = some (.lst zs) → Mks C H' zs (mjoin (jt s) ms ns f h) → Q (.ref l) H'
section
variable {P : Program} {w : World} {K : PySem.W.Frag} {mg : Str → Option Value} {base : Heap} {d : Ad}
theorem G_Ratio_common (T : Tx K mg d) : FnR P w K mg base CX0 6 d.Ratio_common (spCom d.Ratio) := by
  have G_all_numbers := G_all_numbers (P := P) (w := w) (base := base) T
  have G_Ratio___init__ : FnR P w K mg base CX0 2 d.Ratio___init__ _ := G_Ratio___init__ T
  obtain ⟨fd, F⟩ := T.F_Ratio_common
  refine FnR.imp (FnOk.raw (F.ok sc_Ratio_common (k := 5) (sp := spCom d.Ratio) (fun vs H Q E h => ?_) (fun cdv A outer s H vs Q E hr h => ?_)) (F.binds fun _ _ _ _ _ _ us hl => match us, hl with | [_], _ => rfl) .nil) fun vs H Q E h => by rw [List.append_nil]; exact h
  · obtain ⟨v, qs, m, rfl, _⟩ := h
    rfl
  · obtain ⟨v, qs, m, rfl, hg, hz, hm, k⟩ := h
    -- slots: 0 values, 1 shared, 2 number, 3 over
    refine ⟨_, (pss_cons (ps_set (i := 1) sc_Ratio_common.nd rfl (Or.inl rfl) (StX.pe_makeR T.mk_Ratio G_Ratio___init__ (hr.mono (by decide)) rfl T.m_Ratio pass0 (pa_cons pe_int pa_nil)))
      (pss_cons (ps_for PassesOwn.never rfl (pi_list (pe_fnR G_all_numbers (hr.mono (by decide)) T.k_all_numbers T.m_all_numbers pass0 (pa_cons (pv 0) pa_nil))) (pg_name (i := 2) sc_Ratio_common.nd rfl (Or.inl rfl)) (pss_cons (ps_set (i := 3) sc_Ratio_common.nd rfl (Or.inl rfl) (pe_callBfun cr_gcd rfl T.m_gcd (pa_cons (pe_op uMul (pe_fld (pv 1) rfl) (pe_fld (pv 2) rfl)) (pa_cons (pe_op uMul (pe_fld (pv 2) rfl) (pe_fld (pv 1) rfl)) pa_nil))))
      (pss_one (ps_set (i := 1) sc_Ratio_common.nd rfl (Or.inl rfl) (StX.pe_makeR T.mk_Ratio G_Ratio___init__ (hr.mono (by decide)) rfl T.m_Ratio pass0 (pa_cons (pv 3) (pa_cons (pe_op uMul (pe_fld (pv 1) rfl) (pe_fld (pv 2) rfl)) pa_nil)))))))
      (pss_one (ps_ret (pv 1))))), ?_⟩
    refine fun x dx nx nd nn => Or.inr (made' nx nd (by decide) (by decide) fun Ha ea ra => ⟨rfl, ?_⟩)
    have z0 : Rat.divInt 0 1 = gcds [] := by decide +kernel
    rw [z0] at ra
    clear nx nd nn
    try dsimp only [tNext, gName]
    obtain ⟨a0, b0, xs0, rfl, ha0, hn0, hl0⟩ := hg
    refine ⟨_, rfl, ⟨_, qs, rfl, ⟨a0, b0, xs0, rfl, ea _ _ ha0, hn0.same ea, hl0⟩, fun l ys H1 e1 _ hl hR => ⟨l, rfl, ⟨_, SqL.of hl⟩, ?_⟩⟩⟩
    refine for_list (xs := ys) (fun i σ' H' => ∃ px z2 z3, σ' = [some (.ref a0), some (.ref px), z2, z3] ∧ Same H1 H' ∧ IsRat d.Ratio H' px (gcds (qs.take i))) ⟨x, none, none, rfl, Same.refl _, ra.same e1⟩
      (fun i σ' H' _ h => by obtain ⟨_, _, _, _, e3, _⟩ := h; exact SqL.of (e3 _ _ hl)) (fun i y σ' H' hy h => ?_) (fun σ' H' h => ?_)
    · obtain ⟨px, z2, z3, rfl, e3, rs⟩ := h
      obtain ⟨q, hq, pn, rfl, rn⟩ := pd_at (hR.same e3) hy
      have il : i < qs.length := (List.getElem?_eq_some_iff.mp hq).1
      have bd : 1 + i * m + m ≤ 2000 := by
        have : i * m ≤ qs.length * m := Nat.mul_le_mul_right m (by omega)
        rw [Nat.add_mul] at hm
        omega
      have zs : Sz 2000 (gcds (qs.take i)) := by
        have h1 := sz_gcds (m := m) (qs := qs.take i) fun y hy => hz y (List.mem_of_mem_take hy)
        rw [List.length_take, Nat.min_eq_left (by omega)] at h1
        exact sz_mono h1 (by omega)
      have zq : Sz 2000 q := sz_mono (hz q (List.mem_of_getElem? hq)) (by omega)
      have gt := gcds_take hq
      generalize gcds (qs.take i) = s at rs zs gt
      obtain ⟨dx, hs⟩ := rs
      obtain ⟨dn, hn⟩ := rn
      dsimp only [gName]
      refine ⟨_, rfl, px, _, dx, _, _, rfl, hs, T.c_Ratio, T.a_Ratio_over, rfl, _, rfl, pn, _, dn, _, _, rfl, hn, T.c_Ratio, T.a_Ratio_under, rfl, Or.inl ⟨_, _, rfl, rfl, mul2 (szN zs) (szD zq), _, rfl, pn, _, dn, _, _, rfl, hn, T.c_Ratio, T.a_Ratio_over, rfl, _, rfl, px, _, dx, _, _, rfl, hs, T.c_Ratio, T.a_Ratio_under, rfl, Or.inl ⟨_, _, rfl, rfl, mul2 (szN zq) (szD zs), ⟨_, _, rfl, ?_⟩⟩⟩⟩
      refine ⟨_, rfl, _, rfl, px, _, dx, _, _, rfl, hs, T.c_Ratio, T.a_Ratio_under, rfl, _, rfl, pn, _, dn, _, _, rfl, hn, T.c_Ratio, T.a_Ratio_under, rfl, Or.inl ⟨_, _, rfl, rfl, mul2 (szD zs) (szD zq), fun p dp np nd ne => Or.inl (made' np nd (den0 s q) (den2 zs zq) fun H4 e4 r4 => ⟨rfl, ?_⟩)⟩⟩
      exact ⟨p, _, _, rfl, e3.trans e4, by rw [gt]; exact r4⟩
    · obtain ⟨px, z2, z3, rfl, e3, rs⟩ := h
      rw [pd_len hR, List.take_length] at rs
      exact ⟨_, rfl, k px H' ((ea.trans e1).trans e3) rs⟩
theorem G_common_multiple (T : Tx K mg d) : FnR P w K mg base CX0 7 d.common_multiple (spCM1 d.Ratio) := by
  have G_Ratio_common := G_Ratio_common (P := P) (w := w) (base := base) T
  have G_Ratio_divided := G_Ratio_divided (P := P) (w := w) (base := base) T
  have G_mul : FnR P w K mg base CX0 5 d.Ratio___mul__ (spBin d.Ratio (· * ·)) := G_Ratio___mul__ T
  obtain ⟨fd, F⟩ := T.F_common_multiple
  refine FnR.imp (FnOk.raw (F.ok sc_common_multiple (k := 6) (sp := spCM1 d.Ratio) (fun vs H Q E h => ?_) (fun cdv A outer s H vs Q E hr h => ?_)) (F.binds fun _ _ _ _ _ _ us hl => match us, hl with | [_, _], _ => rfl) .nil) fun vs H Q E h => by rw [List.append_nil]; exact h
  · obtain ⟨a, b, rfl, _⟩ := h
    rfl
  · obtain ⟨a, b, rfl, ha, hb, k⟩ := h
    -- slots: 0 one, 1 other
    refine ⟨_, (pss_one (ps_ret (pe_op uMul (pv 0) (pe_mR (pv 1) T.c_Ratio T.h_Ratio_divided G_Ratio_divided (hr.mono (by decide)) pass0 (pa_cons (pe_smeth (pe_glob (v := .ref _) rfl T.m_Ratio rfl) T.s_Ratio_common G_Ratio_common (hr.mono (by decide)) pass0 (pa_cons (pe_lst (pa_cons (pv 0) (pa_cons (pv 1) pa_nil))) pa_nil)) pa_nil))))), ?_⟩
    have z1 : Sz 1 (1 : Rat) := ⟨by decide +kernel, by decide +kernel⟩
    have z12 : Sz 2000 (1 : Rat) := ⟨by decide +kernel, by decide +kernel⟩
    obtain ⟨db, hb2⟩ := id hb
    refine ⟨_, rfl, _, rfl, b, db, _, rfl, hb2, rfl, rfl, _, rfl, _, rfl, (by show 2 ≤ sizeLine; decide), fun l hl => ?_⟩
    have s1 := sameNew (o := HO.lst [.ref a, .ref b]) hl
    refine ⟨_, [1, 1], 1, rfl, ⟨l, false, _, rfl, upd_same, .cons (num_r (ha.same s1)) (.cons (num_r (hb.same s1)) .nil), (by show 2 ≤ 1000; decide)⟩, fun q hq => ?_, by decide, fun p H1 e1 hp => ?_⟩
    · simp only [List.mem_cons, List.not_mem_nil, or_false, or_self] at hq
      rw [hq]; exact z1
    rw [show gcds [1, 1] = 1 from by decide +kernel] at hp
    have e2 := s1.trans e1
    refine ⟨b, _, 1, 1, rfl, hb.same e2, num_r hp, by decide +kernel, z12, z12, fun p2 H2 e3 hp2 => ?_⟩
    rw [show (1 : Rat) / 1 = 1 from by decide +kernel] at hp2
    have e4 := e2.trans e3
    refine Or.inr (own_bin T.b_Ratio_mul G_mul (hr.mono (by decide)) (ha.same e4) (num_r hp2) z12 z12 fun p3 H3 e5 hp3 => ?_)
    rw [show (1 : Rat) * 1 = 1 from by decide +kernel] at hp3
    exact k _ _ (e4.trans e5) hp3
theorem G_joined_truth (T : Tx K mg d) : FnR P w K mg base CX0 1 d.joined_truth spJT := by
  obtain ⟨fd, F⟩ := T.F_joined_truth
  refine FnR.imp (FnOk.raw (F.ok sc_joined_truth (k := 0) (sp := spJT) (fun vs H Q E h => ?_) (fun cdv A outer s H vs Q E hr h => ?_)) (F.binds fun _ _ _ _ _ _ us hl => match us, hl with | [_, _, _], _ => rfl) .nil) fun vs H Q E h => by rw [List.append_nil]; exact h
  · obtain ⟨a, b, s, rfl, _⟩ := h
    rfl
  · obtain ⟨a, b, s, rfl, k⟩ := h
    -- slots: 0 one, 1 other, 2 sign
    refine ⟨_, (pss_cons (ps_if (pt_cmpR (uEq hr.units) (pv 2) pe_str (nomark _)) (pss_one (ps_ret (pe_or (pv 0) (pe_one (pv 1))))) pss_nil)
      (pss_cons (ps_if (pt_cmpR (uEq hr.units) (pv 2) pe_str (nomark _)) (pss_one (ps_ret (pe_and (pv 0) (pe_one (pv 1))))) pss_nil)
      (pss_cons (ps_if (pt_cmpR (uEq hr.units) (pv 2) pe_str (nomark _)) (pss_one (ps_ret (pe_and (pv 0) (pe_one (pe_not (pv 1)))))) pss_nil)
      (pss_one (ps_ret (pe_cmpR (uNe hr.units) (pv 0) (pv 1) (nomark _))))))), ?_⟩
    have dq : ∀ t : Str, decide (V.str s = V.str t) = decide (s = t) := fun t => decide_eq_decide.mpr ⟨fun h => by injection h, fun h => by rw [h]⟩
    unfold jt at k
    refine ⟨_, rfl, Or.inl ⟨rfl, _, rfl, ite2 (fun hb => ?_) (fun hb => ?_)⟩⟩
    · rw [dq] at hb
      rw [if_pos (of_decide_eq_true hb)] at k
      cases a
      · exact ⟨_, rfl, false, rfl, iteF ⟨_, rfl, k⟩⟩
      · exact ⟨_, rfl, true, rfl, iteT k⟩
    rw [dq] at hb
    rw [if_neg (fun h => hb (decide_eq_true h))] at k
    try dsimp only [tNext, gName]
    refine ⟨_, rfl, Or.inl ⟨rfl, _, rfl, ite2 (fun hb => ?_) (fun hb => ?_)⟩⟩
    · rw [dq] at hb
      rw [if_pos (of_decide_eq_true hb)] at k
      cases a
      · exact ⟨_, rfl, false, rfl, iteF k⟩
      · exact ⟨_, rfl, true, rfl, iteT ⟨_, rfl, k⟩⟩
    rw [dq] at hb
    rw [if_neg (fun h => hb (decide_eq_true h))] at k
    try dsimp only [tNext, gName]
    refine ⟨_, rfl, Or.inl ⟨rfl, _, rfl, ite2 (fun hb => ?_) (fun hb => ?_)⟩⟩
    · rw [dq] at hb
      rw [if_pos (of_decide_eq_true hb)] at k
      cases a
      · exact ⟨_, rfl, false, rfl, iteF k⟩
      · exact ⟨_, rfl, true, rfl, iteT ⟨_, rfl, b, rfl, k⟩⟩
    rw [dq] at hb
    rw [if_neg (fun h => hb (decide_eq_true h))] at k
    try dsimp only [tNext, gName]
    refine ⟨_, rfl, _, rfl, Or.inl ⟨rfl, ?_⟩⟩
    have dn : (!decide (V.bl a = V.bl b)) = (a != b) := by cases a <;> cases b <;> rfl
    rw [dn]
    exact k
theorem G_marks_joined (T : Tx K mg d) : FnR P w K mg base CX0 6 d.marks_joined (spMJ d.Ratio) := by
  have G_joined_truth := G_joined_truth (P := P) (w := w) (base := base) T
  have G_le : FnR P w K mg base CX0 5 d.Ratio___le__ (spCmp d.Ratio fun x y => decide (x ≤ y)) := G_Ratio___le__ T
  have G_eq : FnR P w K mg base CX0 2 d.Ratio___eq__ (spCmp d.Ratio fun x y => decide (x = y)) := G_Ratio___eq__ T
  obtain ⟨fd, F⟩ := T.F_marks_joined
  refine FnR.imp (FnOk.raw (F.ok sc_marks_joined (k := 5) (sp := spMJ d.Ratio) (fun vs H Q E h => ?_) (fun cdv A outer s H vs Q E hr h => ?_)) (F.binds fun _ _ _ _ _ _ us hl => match us, hl with | [_, _, _, _, _], _ => rfl) .nil) fun vs H Q E h => by rw [List.append_nil]; exact h
  · obtain ⟨a, b, c, e, xs, ys, ms, ns, f, h, s, rfl, _⟩ := h
    rfl
  · obtain ⟨a, b, c, e, xs, ys, ms, ns, f, h, s, rfl, ha, hb, hx, hy, hlen, zm, zn, k⟩ := h
    -- slots: 0 rows, 1 others, 2 is_first, 3 is_other_first, 4 sign, 5 joined, 6 is_one, 7 is_other, 8 at, 9 beside, 10 is_row, 11 zoom, 12 is_one_at, 13 is_other_at
    refine ⟨_, (pss_cons (ps_set (i := 5) sc_marks_joined.nd rfl (Or.inl rfl) (pe_lst pa_nil))
      (pss_cons (ps_par (i := 6) (j := 7) (by rfl) sc_marks_joined.nd rfl rfl (by decide) rfl rfl (pa_cons (pv 2) (pa_cons (pv 3) pa_nil)) (by rfl))
      (pss_cons (ps_asg (pe_tup (pa_cons pe_int (pa_cons pe_int pa_nil))) (pg_tup (by rfl) (pgs_cons (pg_name (i := 8) sc_marks_joined.nd rfl (Or.inl rfl)) (pgs_cons (pg_name (i := 9) sc_marks_joined.nd rfl (Or.inl rfl)) pgs_nil))))
      (pss_cons (ps_while PassesOwn.never (PW.pt (pw_or (pt_cmpR uLt (pv 8) (pe_callB call_len_seq (by rfl) T.n_len (by decide +kernel) (pa_cons (pv 0) pa_nil)) (nomark _)) (pw_or1 (pt_cmpR uLt (pv 9) (pe_callB call_len_seq (by rfl) T.n_len (by decide +kernel) (pa_cons (pv 1) pa_nil)) (nomark _))))) (pss_cons (ps_set (i := 10) sc_marks_joined.nd rfl (Or.inl rfl) (pe_or (pe_cmpR (uEq hr.units) (pv 9) (pe_callB call_len_seq (by rfl) T.n_len (by decide +kernel) (pa_cons (pv 1) pa_nil)) (nomark _)) (pe_one (pe_and (pe_cmpR uLt (pv 8) (pe_callB call_len_seq (by rfl) T.n_len (by decide +kernel) (pa_cons (pv 0) pa_nil)) (nomark _)) (pe_one (pe_cmpR uLe (pe_ix ix_seq (pe_ix ix_seq (pv 0) (pv 8) (fun _ _ => rfl)) pe_int (fun _ _ => rfl)) (pe_ix ix_seq (pe_ix ix_seq (pv 1) (pv 9) (fun _ _ => rfl)) pe_int (fun _ _ => rfl)) (nomark _)))))))
      (pss_cons (ps_set (i := 11) sc_marks_joined.nd rfl (Or.inl rfl) (pe_ifExp (pt_val (pv 10)) (pe_ix ix_seq (pe_ix ix_seq (pv 0) (pv 8) (fun _ _ => rfl)) pe_int (fun _ _ => rfl)) (pe_ix ix_seq (pe_ix ix_seq (pv 1) (pv 9) (fun _ _ => rfl)) pe_int (fun _ _ => rfl))))
      (pss_cons (ps_par (i := 12) (j := 13) (by rfl) sc_marks_joined.nd rfl rfl (by decide) rfl rfl (pa_cons (pv 6) (pa_cons (pv 7) pa_nil)) (by rfl))
      (pss_cons (ps_if (pt_val (pv 10)) (pss_cons (ps_par (i := 12) (j := 6) (by rfl) sc_marks_joined.nd rfl rfl (by decide) rfl rfl (pa_cons (pe_ix ix_seq (pe_ix ix_seq (pv 0) (pv 8) (fun _ _ => rfl)) pe_int (fun _ _ => rfl)) (pa_cons (pe_ix ix_seq (pe_ix ix_seq (pv 0) (pv 8) (fun _ _ => rfl)) pe_int (fun _ _ => rfl)) pa_nil)) (by rfl))
      (pss_one (ps_aug (i := 8) sc_marks_joined.nd rfl (Or.inl rfl) pe_int ip_add))) pss_nil)
      (pss_cons (ps_if (PW.pt (pw_and (pt_cmpR uLt (pv 9) (pe_callB call_len_seq (by rfl) T.n_len (by decide +kernel) (pa_cons (pv 1) pa_nil)) (nomark _)) (pw_and1 (pt_cmpR (uEq hr.units) (pe_ix ix_seq (pe_ix ix_seq (pv 1) (pv 9) (fun _ _ => rfl)) pe_int (fun _ _ => rfl)) (pv 11) (nomark _))))) (pss_cons (ps_par (i := 13) (j := 7) (by rfl) sc_marks_joined.nd rfl rfl (by decide) rfl rfl (pa_cons (pe_ix ix_seq (pe_ix ix_seq (pv 1) (pv 9) (fun _ _ => rfl)) pe_int (fun _ _ => rfl)) (pa_cons (pe_ix ix_seq (pe_ix ix_seq (pv 1) (pv 9) (fun _ _ => rfl)) pe_int (fun _ _ => rfl)) pa_nil)) (by rfl))
      (pss_one (ps_aug (i := 9) sc_marks_joined.nd rfl (Or.inl rfl) pe_int ip_add))) pss_nil)
      (pss_one (ps_expr (pe_bm PySem.F.plainAttrs_list PySem.F.slot_list_append PySem.F.type_list_append mt_append (pv 5) (pa_cons (pe_tup (pa_cons (pv 11) (pa_cons (pe_fnR G_joined_truth (hr.mono (by decide)) T.k_joined_truth T.m_joined_truth pass0 (pa_cons (pv 12) (pa_cons (pv 13) (pa_cons (pv 4) pa_nil)))) (pa_cons (pe_fnR G_joined_truth (hr.mono (by decide)) T.k_joined_truth T.m_joined_truth pass0 (pa_cons (pv 6) (pa_cons (pv 7) (pa_cons (pv 4) pa_nil)))) pa_nil)))) pa_nil))))))))))
      (pss_one (ps_ret (pv 5))))))), ?_⟩
    refine ⟨(by show 0 ≤ sizeLine; decide), fun l hl => ?_⟩
    have e0 := sameNew (o := HO.lst []) hl
    try dsimp only [tNext, gName]
    refine ⟨_, rfl, _, rfl, _, _, rfl, ?_⟩
    try dsimp only [tNext, gName]
    refine ⟨by show 2 ≤ sizeLine; decide, fun t0 h0 => ?_⟩
    refine ⟨t0, _, rfl, SqT.of upd_same, rfl, _, _, rfl, _, _, rfl, rfl, ?_⟩
    have e00 := e0.trans (sameNew (o := HO.tup [.int 0, .int 0]) h0)
    have l00 : upd (upd H l (.lst [])) t0 (.tup [.int 0, .int 0]) l = some (.lst []) := sameNew (o := HO.tup [.int 0, .int 0]) h0 _ _ upd_same
    generalize upd (upd H l (.lst [])) t0 (.tup [.int 0, .int 0]) = H0 at e00 l00 ⊢
    clear e0 h0
    try dsimp only [tNext, gName]
    refine st_eq (σ' := [some (.ref a), some (.ref b), some (.bl f), some (.bl h), some (.str s), some (.ref l), some (.bl f), some (.bl h), some (.int (0 : Nat)), some (.int (0 : Nat)), none, none, none, none]) rfl ?_
    have lx := pd_len hx
    have ly := pd_len hy
    let G := jt s
    refine while_to (fun σ' H' => ∃ (i j : Nat) (p q : Bool) (z1 z2 z3 z4 : Option V) (zs : List V) (done : List Mk), σ' = [some (.ref a), some (.ref b), some (.bl f), some (.bl h), some (.str s), some (.ref l), some (.bl p), some (.bl q), some (.int (i : Int)), some (.int (j : Int)), z1, z2, z3, z4] ∧
        Same H H' ∧ H' l = some (.lst zs) ∧ Mks d.Ratio H' zs done ∧ i ≤ xs.length ∧ j ≤ ys.length ∧ zs.length ≤ i + j ∧ mjoin (jt s) ms ns f h = done ++ mjoin (jt s) (ms.drop i) (ns.drop j) p q)
      (fun σ' _ => match σ'[8]?, σ'[9]? with | some (some (V.int x)), some (some (V.int y)) => (xs.length + ys.length - x - y : Int).toNat | _, _ => 0) ⟨0, 0, f, h, none, none, none, none, [], [], rfl, e00, l00, .nil, Nat.zero_le _, Nat.zero_le _, Nat.zero_le _, rfl⟩ (fun σ' H' hh => ?_)
    obtain ⟨i, j, p, q, z1, z2, z3, z4, zs, done, rfl, e1, hzs, hd, hi, hj, hzl, hm⟩ := hh
    have ha1 := e1 _ _ ha
    have hb1 := e1 _ _ hb
    have hx1 := hx.same e1
    have hy1 := hy.same e1
    -- where the loop goes on
    have dl : ∀ u v : Nat, decide ((u : Int) < (v : Int)) = decide (u < v) := fun u v => decide_eq_decide.mpr Int.ofNat_lt
    have dq : ∀ u v : Nat, decide (V.int (u : Int) = V.int (v : Int)) = decide (u = v) := fun u v => decide_eq_decide.mpr ⟨fun h => by injection h with h; exact Int.ofNat_inj.mp h, fun h => by rw [h]⟩
    refine viaT (decide (i < xs.length) || decide (j < ys.length)) (fun W kW => ?_) (fun H1 e2 => ite2 (fun hc => ?_) (fun hc => ?_))
    · refine ⟨_, rfl, _, rfl, a, xs, rfl, sq_or ha1, Or.inl ⟨_, _, rfl, rfl, _, rfl, ?_⟩⟩
      try dsimp only
      rw [dl]
      refine ite2 (fun hb => ?_) (fun hb => ?_)
      · rw [hb, Bool.true_or] at kW
        exact kW _ (Same.refl _)
      rw [(Bool.not_eq_true _).mp hb, Bool.false_or] at kW
      refine ⟨_, rfl, _, rfl, b, ys, rfl, sq_or hb1, Or.inl ⟨_, _, rfl, rfl, _, rfl, ?_⟩⟩
      try dsimp only
      rw [dl]
      exact kW _ (Same.refl _)
    · -- a turn
      have e12 := e1.trans e2
      have ha2 := e12 _ _ ha
      have hbb := e12 _ _ hb
      have hx2 := hx.same e12
      have hy2 := hy.same e12
      have hzs2 := e2 _ _ hzs
      have hd2 := Mks.same hd e2
      have hc' : i < xs.length ∨ j < ys.length := by
        rcases Bool.or_eq_true_iff.mp hc with h | h
        · exact Or.inl (of_decide_eq_true h)
        · exact Or.inr (of_decide_eq_true h)
      refine ⟨fun σ' H' => ∃ (i' j' : Nat) (p q : Bool) (z1 z2 z3 z4 : Option V) (zs : List V) (done : List Mk), σ' = [some (.ref a), some (.ref b), some (.bl f), some (.bl h), some (.str s), some (.ref l), some (.bl p), some (.bl q), some (.int (i' : Int)), some (.int (j' : Int)), z1, z2, z3, z4] ∧
          Same H H' ∧ H' l = some (.lst zs) ∧ Mks d.Ratio H' zs done ∧ i' ≤ xs.length ∧ j' ≤ ys.length ∧ zs.length ≤ i' + j' ∧ mjoin (jt s) ms ns f h = done ++ mjoin (jt s) (ms.drop i') (ns.drop j') p q ∧ i + j < i' + j',
        fun σ' H' ⟨i', j', p, q, z1, z2, z3, z4, zs, done, e, a1, a2, a3, a4, a5, a6, a7, a8⟩ => ⟨_, by subst e; show ((xs.length : Int) + ys.length - i' - j').toNat < ((xs.length : Int) + ys.length - i - j).toNat; omega, rfl, i', j', p, q, z1, z2, z3, z4, zs, done, e, a1, a2, a3, a4, a5, a6, a7⟩, ?_⟩
      refine in_asg (via (fun v H3 => ∃ r : Bool, v = .bl r ∧ Same H1 H3 ∧ ((r = true ∧ ∃ m, ms[i]? = some m ∧ (ys.length ≤ j ∨ ∃ n, ns[j]? = some n ∧ m.1 ≤ n.1)) ∨ (r = false ∧ ∃ n, ns[j]? = some n ∧ (xs.length ≤ i ∨ ∃ m, ms[i]? = some m ∧ n.1 < m.1)))) (fun W kW => ?_) (fun v H3 hv => ?_))
      · refine ⟨_, rfl, _, rfl, b, ys, rfl, sq_or hbb, Or.inl ⟨rfl, ?_⟩⟩
        rw [dq]
        refine ⟨_, rfl, ite2 (fun hb => ?_) (fun hb => ?_)⟩
        · have jl : j = ys.length := of_decide_eq_true hb
          have il : i < xs.length := by omega
          obtain ⟨m, t, r, h1, _⟩ := mk_at hx2 il
          exact kW _ _ ⟨true, rfl, Same.refl _, Or.inl ⟨rfl, m, h1, Or.inl (by omega)⟩⟩
        have jl : j < ys.length := by
          have : j ≠ ys.length := fun h => hb (decide_eq_true h)
          omega
        obtain ⟨n, t', r', n1, n2, n3, n4⟩ := mk_at hy2 jl
        refine ⟨_, rfl, _, rfl, a, xs, rfl, sq_or ha2, Or.inl ⟨_, _, rfl, rfl, _, rfl, ?_⟩⟩
        try dsimp only
        rw [dl]
        refine ite2 (fun hb2 => ?_) (fun hb2 => ?_)
        · have il : i < xs.length := of_decide_eq_true hb2
          obtain ⟨m, t, r, m1, m2, m3, m4⟩ := mk_at hx2 il
          refine ⟨_, rfl, _, rfl, ix_sq ha2 m2 (Or.inr (Or.inl ⟨t, _, 0, _, rfl, rfl, SqT.of m3, at_of (j := 0) rfl rfl, ?_⟩))⟩
          refine ⟨_, rfl, _, rfl, ix_sq hbb n2 (Or.inr (Or.inl ⟨t', _, 0, _, rfl, rfl, SqT.of n3, at_of (j := 0) rfl rfl, ?_⟩))⟩
          refine Or.inr (oc T.q_Ratio_le G_le (hr.mono (by decide)) m4 (num_r n4) (zm m (List.mem_of_getElem? m1)) (zn n (List.mem_of_getElem? n1)) rfl fun H3 e3 => kW _ _ ⟨_, rfl, e3, ?_⟩)
          by_cases le : m.1 ≤ n.1
          · exact Or.inl ⟨decide_eq_true le, m, m1, Or.inr ⟨n, n1, le⟩⟩
          · exact Or.inr ⟨decide_eq_false le, n, n1, Or.inr ⟨m, m1, by grind⟩⟩
        · have il : ¬ i < xs.length := fun h => hb2 (decide_eq_true h)
          exact kW _ _ ⟨false, rfl, Same.refl _, Or.inr ⟨rfl, n, n1, Or.inl (by omega)⟩⟩
      · obtain ⟨r, rfl, e3, hr3⟩ := hv
        have e13 := e12.trans e3
        have ha3 := e13 _ _ ha
        have hb3 := e13 _ _ hb
        have hx3 := hx.same e13
        have hy3 := hy.same e13
        have hzs3 := e3 _ _ hzs2
        have hd3 := Mks.same hd2 e3
        have mxz : ∀ (i' : Nat) (m : Mk), ms[i']? = some m → ms.drop i' = m :: ms.drop (i' + 1) := fun i' m h => by
          obtain ⟨hlt, rfl⟩ := List.getElem?_eq_some_iff.mp h
          exact List.drop_eq_getElem_cons hlt
        have nxz : ∀ (j' : Nat) (n : Mk), ns[j']? = some n → ns.drop j' = n :: ns.drop (j' + 1) := fun i' m h => by
          obtain ⟨hlt, rfl⟩ := List.getElem?_eq_some_iff.mp h
          exact List.drop_eq_getElem_cons hlt
        -- the zoom
        refine in_asg (via (fun v H4 => ∃ (rz : Addr) (zq : Rat), v = .ref rz ∧ H4 = H3 ∧ IsRat d.Ratio H3 rz zq ∧ ((r = true ∧ ∃ m, ms[i]? = some m ∧ zq = m.1 ∧ (ys.length ≤ j ∨ ∃ n, ns[j]? = some n ∧ m.1 ≤ n.1)) ∨ (r = false ∧ ∃ n, ns[j]? = some n ∧ zq = n.1 ∧ (xs.length ≤ i ∨ ∃ m, ms[i]? = some m ∧ n.1 < m.1)))) (fun W kW => ?_) (fun v H4 hv => ?_))
        · rcases hr3 with ⟨rfl, m, m1, hc3⟩ | ⟨rfl, n, n1, hc3⟩
          · have il : i < xs.length := by rw [lx]; exact (List.getElem?_eq_some_iff.mp m1).1
            obtain ⟨m', t, r, m1', m2, m3, m4⟩ := mk_at hx3 il
            rw [m1] at m1'
            injection m1' with m1'
            subst m1'
            exact ⟨_, rfl, true, rfl, iteT ⟨_, rfl, _, rfl, ix_sq ha3 m2 (Or.inr (Or.inl ⟨t, _, 0, _, rfl, rfl, SqT.of m3, at_of (j := 0) rfl rfl, kW _ _ ⟨r, _, rfl, rfl, m4, Or.inl ⟨rfl, m, m1, rfl, hc3⟩⟩⟩))⟩⟩
          · have jl : j < ys.length := by rw [ly]; exact (List.getElem?_eq_some_iff.mp n1).1
            obtain ⟨n', t, r, n1', n2, n3, n4⟩ := mk_at hy3 jl
            rw [n1] at n1'
            injection n1' with n1'
            subst n1'
            exact ⟨_, rfl, false, rfl, iteF ⟨_, rfl, _, rfl, ix_sq hb3 n2 (Or.inr (Or.inl ⟨t, _, 0, _, rfl, rfl, SqT.of n3, at_of (j := 0) rfl rfl, kW _ _ ⟨r, _, rfl, rfl, n4, Or.inr ⟨rfl, n, n1, rfl, hc3⟩⟩⟩))⟩⟩
        obtain ⟨rz, zq, rfl, rfl, hrz, hz3⟩ := hv
        dsimp only [List.set]
        refine ⟨_, rfl, _, rfl, _, _, rfl, ?_⟩
        dsimp only [List.set]
        -- the first one's mark
        refine if_join (I := fun σ' H5 => ∃ (i1 : Nat) (oa o1 : Bool), σ' = [some (.ref a), some (.ref b), some (.bl f), some (.bl h), some (.str s), some (.ref l), some (.bl o1), some (.bl q), some (.int (i1 : Int)), some (.int (j : Int)), some (.bl r), some (.ref rz), some (.bl oa), some (.bl q)] ∧ H5 = H4 ∧
          ((i1 = i + 1 ∧ ∃ m, ms[i]? = some m ∧ zq = m.1 ∧ oa = m.2.1 ∧ o1 = m.2.2 ∧ (ys.length ≤ j ∨ ∃ n, ns[j]? = some n ∧ m.1 ≤ n.1)) ∨ (i1 = i ∧ oa = p ∧ o1 = p ∧ ∃ n, ns[j]? = some n ∧ zq = n.1 ∧ (xs.length ≤ i ∨ ∃ m, ms[i]? = some m ∧ n.1 < m.1)))) (fun N kN => ?_) (fun σ' H5 hh => ?_)
        · rcases hz3 with ⟨rfl, m, m1, e4, hc3⟩ | ⟨rfl, hn3⟩
          · have il : i < xs.length := by rw [lx]; exact (List.getElem?_eq_some_iff.mp m1).1
            obtain ⟨m', t, r, m1', m2, m3, m4⟩ := mk_at hx3 il
            rw [m1] at m1'
            injection m1' with m1'
            subst m1'
            refine ⟨_, rfl, true, rfl, iteT ⟨_, rfl, _, rfl, ix_sq ha3 m2 (Or.inr (Or.inl ⟨t, _, 1, _, rfl, rfl, SqT.of m3, at_of (j := 1) rfl rfl, _, rfl, _, rfl, ix_sq ha3 m2 (Or.inr (Or.inl ⟨t, _, 2, _, rfl, rfl, SqT.of m3, at_of (j := 2) rfl rfl, _, _, rfl, ?_⟩))⟩))⟩⟩
            exact ⟨_, rfl, _, _, rfl, rfl, kN _ _ ⟨i + 1, _, _, rfl, rfl, Or.inl ⟨rfl, m, m1, e4, rfl, rfl, hc3⟩⟩⟩
          · exact ⟨_, rfl, false, rfl, iteF (kN _ _ ⟨i, p, p, rfl, rfl, Or.inr ⟨rfl, rfl, rfl, hn3⟩⟩)⟩
        obtain ⟨i1, oa, o1, rfl, rfl, hf⟩ := hh
        -- the other one's mark
        refine if_join (I := fun σ' H6 => ∃ (j1 : Nat) (ta t1 : Bool), σ' = [some (.ref a), some (.ref b), some (.bl f), some (.bl h), some (.str s), some (.ref l), some (.bl o1), some (.bl t1), some (.int (i1 : Int)), some (.int (j1 : Int)), some (.bl r), some (.ref rz), some (.bl oa), some (.bl ta)] ∧ Same H5 H6 ∧
          i1 ≤ xs.length ∧ j1 ≤ ys.length ∧ i + j < i1 + j1 ∧ mjoin (jt s) (ms.drop i) (ns.drop j) p q = (zq, jt s oa ta, jt s o1 t1) :: mjoin (jt s) (ms.drop i1) (ns.drop j1) o1 t1) (fun N kN => ?_) (fun σ' H6 hh => ?_)
        · refine ⟨_, rfl, _, rfl, b, ys, rfl, sq_or hb3, Or.inl ⟨_, _, rfl, rfl, _, rfl, ?_⟩⟩
          try dsimp only
          rw [dl]
          have szq : Sz 2000 zq := by
            rcases hf with ⟨_, m, m1, rfl, _⟩ | ⟨_, _, _, n, n1, rfl, _⟩
            · exact zm m (List.mem_of_getElem? m1)
            · exact zn n (List.mem_of_getElem? n1)
          refine ite2 (fun hb2 => ?_) (fun hb2 => ?_)
          · have jl : j < ys.length := of_decide_eq_true hb2
            obtain ⟨n, t, rn, n1, n2, n3, n4⟩ := mk_at hy3 jl
            refine ⟨_, rfl, _, rfl, ix_sq hb3 n2 (Or.inr (Or.inl ⟨t, _, 0, _, rfl, rfl, SqT.of n3, at_of (j := 0) rfl rfl, _, rfl, ?_⟩))⟩
            refine Or.inr (Or.inl (oc T.q_Ratio_eq G_eq (hr.mono (by decide)) n4 (num_r hrz) (zn n (List.mem_of_getElem? n1)) szq rfl fun H6 e6 => ⟨_, rfl, ?_⟩))
            refine ite2 (fun hb3' => ?_) (fun hb3' => ?_)
            · have eq : n.1 = zq := of_decide_eq_true hb3'
              have hb6 := e6 _ _ hb3
              have n36 := e6 _ _ n3
              refine ⟨_, rfl, _, rfl, ix_sq hb6 n2 (Or.inr (Or.inl ⟨t, _, 1, _, rfl, rfl, SqT.of n36, at_of (j := 1) rfl rfl, _, rfl, _, rfl, ix_sq hb6 n2 (Or.inr (Or.inl ⟨t, _, 2, _, rfl, rfl, SqT.of n36, at_of (j := 2) rfl rfl, _, _, rfl, ?_⟩))⟩))⟩
              refine ⟨_, rfl, _, _, rfl, rfl, kN _ _ ⟨j + 1, n.2.1, n.2.2, rfl, e6, ?_, by omega, ?_, ?_⟩⟩
              · rcases hf with ⟨rfl, m, m1, _⟩ | ⟨rfl, _⟩
                · rw [lx]; exact (List.getElem?_eq_some_iff.mp m1).1
                · exact hi
              · rcases hf with ⟨rfl, _⟩ | ⟨rfl, _⟩ <;> omega
              · rcases hf with ⟨rfl, m, m1, rfl, rfl, rfl, _⟩ | ⟨rfl, rfl, rfl, n', n1', rfl, hc3⟩
                · rw [mxz i m m1, nxz j n n1, mjoin, if_pos eq.symm]
                · rw [n1] at n1'
                  injection n1' with n1'
                  subst n1'
                  rw [nxz j n n1]
                  rcases hc3 with hle | ⟨m, m1, lt⟩
                  · rw [List.drop_of_length_le (show ms.length ≤ i1 by omega), mjoin]
                  · rw [mxz i1 m m1, mjoin, if_neg (by grind), if_neg (by grind)]
            · have neq : ¬ n.1 = zq := fun h => hb3' (decide_eq_true h)
              refine kN _ _ ⟨j, q, q, rfl, e6, ?_⟩
              rcases hf with ⟨rfl, m, m1, rfl, rfl, rfl, hc3⟩ | ⟨rfl, rfl, rfl, n', n1', rfl, hc3⟩
              · have il : i < xs.length := by rw [lx]; exact (List.getElem?_eq_some_iff.mp m1).1
                refine ⟨by omega, hj, by omega, ?_⟩
                rcases hc3 with hle | ⟨n', n1', le⟩
                · omega
                rw [n1] at n1'
                injection n1' with n1'
                subst n1'
                rw [mxz i m m1, nxz j n n1, mjoin, if_neg (by grind), if_pos (by grind)]
              · rw [n1] at n1'
                injection n1' with n1'
                subst n1'
                exact absurd rfl neq
          · have jl : ¬ j < ys.length := fun h => hb2 (decide_eq_true h)
            refine kN _ _ ⟨j, q, q, rfl, Same.refl _, ?_⟩
            rcases hf with ⟨rfl, m, m1, rfl, rfl, rfl, hc3⟩ | ⟨rfl, rfl, rfl, n', n1', rfl, hc3⟩
            · have il : i < xs.length := by rw [lx]; exact (List.getElem?_eq_some_iff.mp m1).1
              refine ⟨by omega, hj, by omega, ?_⟩
              rw [mxz i m m1, List.drop_of_length_le (show ns.length ≤ j by omega), mjoin]
            · have := (List.getElem?_eq_some_iff.mp n1').1
              omega
        obtain ⟨j1, ta, t1, rfl, e6, b1, b2, b3, em⟩ := hh
        have e36 := e13.trans e6
        have hzs6 := e6 _ _ hzs3
        refine ⟨_, rfl, .inl ⟨rfl, _, SqL.of hzs6⟩, _, rfl, _, rfl, _, rfl, _, rfl, ⟨oa, ta, s, rfl, _, rfl, _, rfl, _, rfl, ⟨o1, t1, s, rfl, ?_⟩⟩⟩
        refine ⟨by show 3 ≤ sizeLine; decide, fun tt htt => ⟨l, zs, _, rfl, rfl, sameNew htt _ _ hzs6, Nat.lt_of_lt_of_le (show zs.length < 1001 by omega) (by decide), ?_⟩⟩
        have s1 := sameNew (o := HO.tup [.ref rz, .bl (jt s oa ta), .bl (jt s o1 t1)]) htt
        have hy1 := s1 _ _ hzs6
        have up1 : Up l (upd H6 tt (.tup [.ref rz, .bl (jt s oa ta), .bl (jt s o1 t1)])) (upd (upd H6 tt (.tup [.ref rz, .bl (jt s oa ta), .bl (jt s o1 t1)])) l (.lst (zs ++ [.ref tt]))) := Up.put hy1
        refine ⟨i1, j1, o1, t1, _, _, _, _, zs ++ [.ref tt], done ++ [(zq, jt s oa ta, jt s o1 t1)], rfl, same_at (e36.trans s1) hl, upd_same, paired_append (pd_imp (fun q => MkAt.up q up1) (Mks.same (Mks.same hd3 e6) s1)) (.cons ⟨tt, rz, rfl, up1.tup upd_same, ((hrz.same e6).same s1).up up1⟩ .nil), b1, b2, ?_, ?_, b3⟩
        · rw [List.length_append, List.length_singleton]
          omega
        · rw [hm, em, List.append_assoc]
          rfl
    · have hc' := Bool.or_eq_false_iff.mp ((Bool.not_eq_true _).mp hc)
      have h1 : ms.length ≤ i := by have := of_decide_eq_false hc'.1; omega
      have h2 : ns.length ≤ j := by have := of_decide_eq_false hc'.2; omega
      rw [List.drop_of_length_le h1, List.drop_of_length_le h2, mjoin, List.append_nil] at hm
      exact ⟨_, rfl, k l zs _ (e1.trans e2) hl (e2 _ _ hzs) (by rw [hm]; exact Mks.same hd e2)⟩
end

end AZ
namespace AZ
open PySem L2
/-! ## sets joined -/
def spZJ (C D : Addr) : Sp := fun vs H Q _ => ∃ (a b : Addr) (q : Rat) (ms : List Mk) (f : Bool) (q' : Rat) (ms' : List Mk) (f' : Bool) (s : Str), vs = [.ref a, .ref b, .str s] ∧ IsZ C D H a q ms f ∧ IsZ C D H b q' ms' f' ∧ ZOk q ms ∧ ZOk q' ms' ∧ ms.length + ms'.length ≤ 1000 ∧
  ∀ p H', Same H H' → IsZ C D H' p (lastOf (changes (mjoin (jt s) ms ms' f f') (jt s f f'))) (changes (mjoin (jt s) ms ms' f f') (jt s f f')) (jt s f f') → Q (.ref p) H'
def spZSub (C D : Addr) : Sp := fun vs H Q _ => ∃ (a b : Addr) (q : Rat) (ms : List Mk) (f : Bool) (q' : Rat) (ms' : List Mk) (f' : Bool), vs = [.ref a, .ref b] ∧ IsZ C D H a q ms f ∧ IsZ C D H b q' ms' f' ∧ ZOk q ms ∧ ZOk q' ms' ∧ ms.length + ms'.length ≤ 1000 ∧
  ∀ p H', Same H H' → IsZ C D H' p (lastOf (changes (mjoin (jt "-") ms ms' f f') (jt "-" f f'))) (changes (mjoin (jt "-") ms ms' f f') (jt "-" f f')) (jt "-" f f') → Q (.ref p) H'
theorem yes_then {σ : L2.St} {H : Hp} {A B : Hp → Prop} (h : A H) : tYes σ H (fun b H3 => if b = true then A H3 else B H3) := by
  show if true = true then A H else B H
  rw [if_pos rfl]; exact h
/-- marks told by their index -/
theorem lc_marks {C : Addr} {ms : List Mk} {ta : TA} {te : TE} {i : Nat} {vs : List Nat} {σ : L2.St} {H : Hp} {Q : VK} (he : ∀ R : List V → Hp → Prop, R [.int (ms.length : Int)] H → ta σ H R) (hl : ms.length ≤ 1000) (hw : ∀ x : V, wipe ((wipe σ vs).set i (some x)) vs = wipe σ vs)
    (hs : ∀ (j : Nat) (m : Mk) (H' : Hp) (W : VK), ms[j]? = some m → Same H H' → (∀ v, MkAt C H' v m → W v H') → te ((wipe σ vs).set i (some (.int (j : Int)))) H' W)
    (hd : ∀ D H' zs, Same H H' → H D = none → H' D = some (.lst zs) → Mks C H' zs ms → Q (.ref D) H') : tLc (iRng1 ta) (gName i) tYes te vs σ H Q := by
  refine he _ ⟨_, rfl, by omega, by omega, fun D hD => ?_⟩
  refine lc_range (n := ms.length) (Pv := fun j H' => Same H H' ∧ ∃ zs, H' D = some (.lst zs) ∧ zs.length = j ∧ Mks C H' zs (ms.take j)) ⟨sameNew hD, [], upd_same, rfl, .nil⟩ (fun j H' hj g => ?_) (fun H' g => ?_)
  · obtain ⟨e, zs, hz, hl2, hm⟩ := g
    have hmm : ms[j]? = some ms[j] := List.getElem?_eq_getElem hj
    have ej : (0 : Int) + (j : Int) = (j : Int) := by omega
    rw [ej]
    refine ⟨hw _, yes_then (hs j _ H' _ hmm e fun v hv => ?_)⟩
    have up : Up D H' (upd H' D (.lst (zs ++ [v]))) := Up.put hz
    exact ⟨zs, hz, by rw [hl2]; exact Nat.lt_of_lt_of_le (Nat.lt_of_lt_of_le hj hl) (by decide), same_at e hD, zs ++ [v], upd_same, by simp [hl2], by rw [take_at hmm]; exact paired_append (pd_imp (fun q => MkAt.up q up) hm) (.cons (hv.up up) .nil)⟩
  · obtain ⟨e, zs, hz, hl2, hm⟩ := g
    rw [List.take_length] at hm
    exact hd D H' zs e hD hz hm
section
variable {P : Program} {w : World} {K : PySem.W.Frag} {mg : Str → Option Value} {base : Heap} {d : Ad}
theorem G_Zooms_joined (T : Tx K mg d) : FnR P w K mg base CX0 12 d.Zooms_joined (spZJ d.Ratio d.Zooms) := by
  have G_Zooms___init__ := G_Zooms___init__ (P := P) (w := w) (base := base) T
  have G_common_multiple := G_common_multiple (P := P) (w := w) (base := base) T
  have G_Ratio_highest := G_Ratio_highest (P := P) (w := w) (base := base) T
  have G_Zooms_marks_upto := G_Zooms_marks_upto (P := P) (w := w) (base := base) T
  have G_Zooms_mark := G_Zooms_mark (P := P) (w := w) (base := base) T
  have G_marks_joined := G_marks_joined (P := P) (w := w) (base := base) T
  have G_joined_truth := G_joined_truth (P := P) (w := w) (base := base) T
  have G_add : FnR P w K mg base CX0 5 d.Ratio___add__ (spBin d.Ratio (· + ·)) := G_Ratio___add__ T
  obtain ⟨fd, F⟩ := T.F_Zooms_joined
  refine FnR.imp (FnOk.raw (F.ok sc_Zooms_joined (k := 11) (sp := spZJ d.Ratio d.Zooms) (fun vs H Q E h => ?_) (fun cdv A outer s H vs Q E hr h => ?_)) (F.binds fun _ _ _ _ _ _ us hl => match us, hl with | [_, _, _], _ => rfl) .nil) fun vs H Q E h => by rw [List.append_nil]; exact h
  · obtain ⟨a, b, q, ms, f, q', ms', f', s, rfl, _⟩ := h
    rfl
  · obtain ⟨a, b, q, ms, f, q', ms', f', s, rfl, hz, hz', ok, ok', hl2, k⟩ := h
    -- slots: 0 self, 1 other, 2 sign, 3 turn, 4 begin, 5 many, 6 others, 7 rows, 8 index, 9 other_rows, 10 both
    refine ⟨_, (pss_cons (ps_if (pt_not (pt_val (pe_callB uIsi (by rfl) T.n_isinstance (by decide +kernel) (pa_cons (pv 1) (pa_cons (pe_glob (v := .ref _) rfl T.m_Zooms rfl) pa_nil))))) pss_never pss_nil)
      (pss_cons (ps_set (i := 3) sc_Zooms_joined.nd rfl (Or.inl rfl) (pe_fnR G_common_multiple (hr.mono (by decide)) T.k_common_multiple T.m_common_multiple pass0 (pa_cons (pe_fld (pv 0) rfl) (pa_cons (pe_fld (pv 1) rfl) pa_nil))))
      (pss_cons (ps_if (pt_cmpR (uEq hr.units) (pe_fld (pv 0) rfl) (pe_callB call_len_seq (by rfl) T.n_len (by decide +kernel) (pa_cons (pe_fld (pv 0) rfl) pa_nil)) (nomark _)) (pss_one (ps_set (i := 3) sc_Zooms_joined.nd rfl (Or.inl rfl) (pe_fld (pv 1) rfl))) (pss_one (ps_if (pt_cmpR (uEq hr.units) (pe_fld (pv 1) rfl) (pe_callB call_len_seq (by rfl) T.n_len (by decide +kernel) (pa_cons (pe_fld (pv 1) rfl) pa_nil)) (nomark _)) (pss_one (ps_set (i := 3) sc_Zooms_joined.nd rfl (Or.inl rfl) (pe_fld (pv 0) rfl))) pss_nil)))
      (pss_cons (ps_set (i := 4) sc_Zooms_joined.nd rfl (Or.inl rfl) (pe_smeth (pe_glob (v := .ref _) rfl T.m_Ratio rfl) T.s_Ratio_highest G_Ratio_highest (hr.mono (by decide)) pass0 (pa_cons (pe_lst (pa_cons (pe_fld (pv 0) rfl) (pa_cons (pe_fld (pv 1) rfl) pa_nil))) pa_nil)))
      (pss_cons (ps_par (i := 5) (j := 6) (by rfl) sc_Zooms_joined.nd rfl rfl (by decide) rfl rfl (pa_cons (pe_mR (pv 0) T.c_Zooms T.h_Zooms_marks_upto G_Zooms_marks_upto (hr.mono (by decide)) pass0 (pa_cons (pe_op uAdd (pv 4) (pv 3)) pa_nil)) (pa_cons (pe_mR (pv 1) T.c_Zooms T.h_Zooms_marks_upto G_Zooms_marks_upto (hr.mono (by decide)) pass0 (pa_cons (pe_op uAdd (pv 4) (pv 3)) pa_nil)) pa_nil)) (by rfl))
      (pss_cons (ps_if (PW.pt (pw_or (pt_cmpR uGt (pv 5) (ClX.pe_cval (pe_glob (v := .ref _) rfl T.m_Zooms rfl)) (nomark _)) (pw_or1 (pt_cmpR uGt (pv 6) (ClX.pe_cval (pe_glob (v := .ref _) rfl T.m_Zooms rfl)) (nomark _))))) pss_never pss_nil)
      (pss_cons (ps_setLc (own := [("index", 8)]) (g := gName 8) (i := 7) (by rfl) sc_Zooms_joined.nd rfl rfl (sw_true rfl rfl rfl rfl) (pi_range1 rfl T.n_range (pa_cons (pv 5) pa_nil)) (blkOk_by (own := [("index", 8)]) (N := ["self", "other", "sign", "turn", "begin", "many", "others", "rows", "index", "other_rows", "both"]) (sc := defScope s_Zooms_joined) (by decide +kernel)) (fun _ _ _ _ _ => pg_name (i := 8) sc_Zooms_joined.nd rfl (Or.inl rfl)) (fun _ _ _ _ _ => pts_nil) (fun _ _ _ _ _ => (pe_mR (pv 0) T.c_Zooms T.h_Zooms_mark G_Zooms_mark (hr.mono (by decide)) pass0 (pa_cons (pv 8) pa_nil))))
      (pss_cons (ps_setLc (own := [("index", 8)]) (g := gName 8) (i := 9) (by rfl) sc_Zooms_joined.nd rfl rfl (sw_true rfl rfl rfl rfl) (pi_range1 rfl T.n_range (pa_cons (pv 6) pa_nil)) (blkOk_by (own := [("index", 8)]) (N := ["self", "other", "sign", "turn", "begin", "many", "others", "rows", "index", "other_rows", "both"]) (sc := defScope s_Zooms_joined) (by decide +kernel)) (fun _ _ _ _ _ => pg_name (i := 8) sc_Zooms_joined.nd rfl (Or.inl rfl)) (fun _ _ _ _ _ => pts_nil) (fun _ _ _ _ _ => (pe_mR (pv 1) T.c_Zooms T.h_Zooms_mark G_Zooms_mark (hr.mono (by decide)) pass0 (pa_cons (pv 8) pa_nil))))
      (pss_cons (ps_set (i := 10) sc_Zooms_joined.nd rfl (Or.inl rfl) (pe_fnR G_marks_joined (hr.mono (by decide)) T.k_marks_joined T.m_marks_joined pass0 (pa_cons (pv 7) (pa_cons (pv 9) (pa_cons (pe_fld (pv 0) rfl) (pa_cons (pe_fld (pv 1) rfl) (pa_cons (pv 2) pa_nil)))))))
      (pss_cons (ps_if (pt_cmpR uGt (pe_callB call_len_seq (by rfl) T.n_len (by decide +kernel) (pa_cons (pv 10) pa_nil)) (ClX.pe_cval (pe_glob (v := .ref _) rfl T.m_Zooms rfl)) (nomark _)) pss_never pss_nil)
      (pss_one (ps_ret (StX.pe_makeR T.mk_Zooms G_Zooms___init__ (hr.mono (by decide)) rfl T.m_Zooms pass0 (pa_cons (pv 4) (pa_cons (pv 3) (pa_cons (pe_callTy call_tuple_of (by rfl) T.n_tuple (by decide +kernel) (pa_cons (pv 10) pa_nil)) (pa_cons (pe_fnR G_joined_truth (hr.mono (by decide)) T.k_joined_truth T.m_joined_truth pass0 (pa_cons (pe_fld (pv 0) rfl) (pa_cons (pe_fld (pv 1) rfl) (pa_cons (pv 2) pa_nil)))) pa_nil))))))))))))))))), ?_⟩
    obtain ⟨dx, rb, rt, rm, zs, ha, hb, ht, hm, hms⟩ := id hz
    obtain ⟨dy, rb', rt', rm', zs', ha', hb', ht', hm', hms'⟩ := id hz'
    obtain ⟨mc, uc, cr, cv⟩ := T.cv_Zooms_MOST_MARKS
    refine ⟨_, rfl, Or.inl ⟨_, _, _, _, true, rfl, .own _, T.y_Zooms.ty T.c_Zooms ha', T.i_Zooms_is_Zooms, true, rfl, iteF ?_⟩⟩
    try dsimp only [tNext, gName]
    refine ⟨_, rfl, a, _, dx, _, _, rfl, ha, T.c_Zooms, T.a_Zooms_turn, rfl, _, rfl, b, _, dy, _, _, rfl, ha', T.c_Zooms, T.a_Zooms_turn, rfl, ⟨rt, rt', rfl, ht, ht', fun pt H1 e1 hpt => ?_⟩⟩
    have ha1 := e1 _ _ ha
    have ha1' := e1 _ _ ha'
    have dq : ∀ u v : Nat, decide (V.int (u : Int) = V.int (v : Int)) = decide (u = v) := fun u v => decide_eq_decide.mpr ⟨fun h => by injection h with h; exact Int.ofNat_inj.mp h, fun h => by rw [h]⟩
    have lz := pd_len hms
    have lz' := pd_len hms'
    try dsimp only [tNext, gName]
    refine if_two (I := fun σ' H2 => σ' = [some (.ref a), some (.ref b), some (.str s), some (.ref rt'), none, none, none, none, none, none, none] ∧ H2 = H1) (fun N kN => ?_) (fun σ' H2 hh => ?_)
    · refine ⟨_, rfl, a, _, dx, _, _, rfl, ha1, T.c_Zooms, T.a_Zooms_once, rfl, _, rfl, a, _, dx, _, _, rfl, ha1, T.c_Zooms, T.a_Zooms_marks, rfl, rm, zs, rfl, Or.inr (SqT.of (e1 _ _ hm)), Or.inl ⟨rfl, _, rfl, ?_⟩⟩
      rw [dq]
      refine ifT (decide_eq_true lz.symm) ?_
      exact ⟨_, rfl, b, _, dy, _, _, rfl, ha1', T.c_Zooms, T.a_Zooms_turn, rfl, kN _ _ ⟨rfl, rfl⟩⟩
    obtain ⟨rfl, rfl⟩ := hh
    have zb : Sz 2000 q := sz_mono ok.sz (by decide)
    have zb' : Sz 2000 q' := sz_mono ok'.sz (by decide)
    refine ⟨rfl, _, rfl, a, _, dx, _, _, rfl, ha1, T.c_Zooms, T.a_Zooms_begin, rfl, _, rfl, b, _, dy, _, _, rfl, ha1', T.c_Zooms, T.a_Zooms_begin, rfl, (by show 2 ≤ sizeLine; decide), fun l hl => ?_⟩
    have s1 := sameNew (o := HO.lst [.ref rb, .ref rb']) hl
    have es1 := e1.trans s1
    refine ⟨.ref l, q, [q'], rfl, ⟨l, false, _, rfl, upd_same, .cons (num_r (hb.same es1)) (.cons (num_r (hb'.same es1)) .nil), (by show 2 ≤ 1000; decide)⟩, fun x hx => ?_, fun pb H3 e3 hpb => ?_⟩
    · simp only [List.mem_cons, List.not_mem_nil, or_false] at hx
      rcases hx with rfl | rfl
      · exact zb
      · exact zb'
    have e03 := es1.trans e3
    have mx : endOf true q [q'] = (if q' > q then q' else q) := by
      show (if (if true = true then decide (q' > q) else decide (q' < q)) = true then q' else q) = _
      by_cases h : q' > q
      · rw [if_pos rfl, if_pos (decide_eq_true h), if_pos h]
      · rw [if_pos rfl, if_neg (fun z => h (of_decide_eq_true z)), if_neg h]
    generalize endOf true q [q'] = B at hpb mx
    have zB : Sz 900 B := by rw [mx]; split <;> first | exact ok'.sz | exact ok.sz
    have B1 : q ≤ B := by rw [mx]; split <;> grind
    have B2 : q' ≤ B := by rw [mx]; split <;> grind
    have B0 : 0 ≤ B := Rat.le_trans ok.pos B1
    have zB2 : Sz 2000 B := sz_mono zB (by decide)
    have z12 : Sz 2000 (1 : Rat) := ⟨by decide +kernel, by decide +kernel⟩
    have zs1 : Sz 950 (B + 1) := sz_mono (sz_add (m := 1) zB ⟨by decide +kernel, by decide +kernel⟩) (by decide)
    have hz3 := hz.same e03
    have hz3' := hz'.same e03
    try dsimp only [tNext, gName]
    have ht3' := ht'.same e03
    refine ⟨_, rfl, a, dx, _, rfl, e03 _ _ ha, rfl, _, rfl, _, rfl, Or.inr (Or.inl (own_bin T.b_Ratio_add G_add (hr.mono (by decide)) hpb (num_r ht3') zB2 z12 fun ps H4 e4 hps => ?_))⟩
    refine ⟨a, _, q, ms, f, B + 1, rfl, hz3.same e4, ok, num_r hps, zs1, fun H5 e5 => ?_⟩
    rw [upto_past ok (show q ≤ B + 1 by grind)]
    have e35 := e4.trans e5
    refine ⟨_, rfl, b, dy, _, rfl, (e03.trans e35) _ _ ha', rfl, _, rfl, _, rfl, Or.inr (Or.inl (own_bin T.b_Ratio_add G_add (hr.mono (by decide)) (hpb.same e35) (num_r (ht3'.same e35)) zB2 z12 fun ps2 H6 e6 hps2 => ?_))⟩
    refine ⟨b, _, q', ms', f', B + 1, rfl, (hz3'.same e35).same e6, ok', num_r hps2, zs1, fun H7 e7 => ?_⟩
    rw [upto_past ok' (show q' ≤ B + 1 by grind)]
    have e37 := (e35.trans e6).trans e7
    have e07 := e03.trans e37
    refine ⟨_, _, rfl, ?_⟩
    have l1 := ok.len
    have l2 := ok'.len
    try dsimp only [tNext, gName, List.set]
    refine ⟨_, rfl, _, mc, _, uc, rfl, cr, cv, Or.inl ⟨_, _, rfl, rfl, _, rfl, ?_⟩⟩
    refine iteF' (decide_eq_false (by omega)) ?_
    refine ⟨_, rfl, _, mc, _, uc, rfl, cr, cv, Or.inl ⟨_, _, rfl, rfl, _, rfl, ?_⟩⟩
    refine iteF' (decide_eq_false (by omega)) ?_
    try dsimp only [tNext, gName, List.set]
    -- the marks of both
    have ha7 := e07 _ _ ha
    have ha7' := e07 _ _ ha'
    have hz7 := hz.same e07
    have hz7' := hz'.same e07
    refine in_asg (lc_marks (C := d.Ratio) (ms := ms) (fun R q => ⟨_, rfl, q⟩) l1 (fun x => rfl) (fun j m H' W hj e h => ⟨_, rfl, a, dx, _, rfl, e _ _ ha7, rfl, _, rfl, ⟨a, j, q, ms, f, rfl, hz7.same e, l1, Or.inl ⟨m, hj, h⟩⟩⟩) fun D1 H8 zs1 e8 hD1 hD1l hR1 => ?_)
    try dsimp only [tNext, gName, List.set]
    refine in_asg (lc_marks (C := d.Ratio) (ms := ms') (fun R q => ⟨_, rfl, q⟩) l2 (fun x => rfl) (fun j m H' W hj e h => ⟨_, rfl, b, dy, _, rfl, e _ _ (e8 _ _ ha7'), rfl, _, rfl, ⟨b, j, q', ms', f', rfl, (hz7'.same e8).same e, l2, Or.inl ⟨m, hj, h⟩⟩⟩) fun D2 H9 zs2 e9 hD2 hD2l hR2 => ?_)
    try dsimp only [tNext, gName, List.set]
    have e79 := e8.trans e9
    have e09 := e07.trans e79
    have ha9 := e79 _ _ ha7
    have ha9' := e79 _ _ ha7'
    have z1l := pd_len hR1
    have z2l := pd_len hR2
    refine ⟨_, rfl, _, rfl, _, rfl, a, _, dx, _, _, rfl, ha9, T.c_Zooms, T.a_Zooms_is_first, rfl, _, rfl, b, _, dy, _, _, rfl, ha9', T.c_Zooms, T.a_Zooms_is_first, rfl, _, rfl, ⟨D1, D2, false, false, zs1, zs2, ms, ms', f, f', s, rfl, e9 _ _ hD1l, hD2l, Mks.same hR1 e9, hR2, by omega, fun m h => sz_mono (ok.mark m h).1 (by decide), fun m h => sz_mono (ok'.mark m h).1 (by decide), fun lj zj H10 e10 hlj hljl hj => ?_⟩⟩
    have jl : (mjoin (jt s) ms ms' f f').length ≤ 1000 := Nat.le_trans mjoin_len hl2
    have okJ : ZOk B (mjoin (jt s) ms ms' f f') := by
      refine ⟨mjoin_asc ok.asc ok'.asc, jl, fun m h => ?_, zB, B0⟩
      rcases mjoin_mem h with ⟨n, h1, h2⟩ | ⟨n, h1, h2⟩
      · have := ok.mark n h1
        rw [h2] at this
        exact ⟨this.1, this.2.1, Rat.le_trans this.2.2 B1⟩
      · have := ok'.mark n h1
        rw [h2] at this
        exact ⟨this.1, this.2.1, Rat.le_trans this.2.2 B2⟩
    generalize mjoin (jt s) ms ms' f f' = J at hj jl okJ k
    have zjl := pd_len hj
    try dsimp only [tNext, gName, List.set]
    refine ⟨_, rfl, lj, zj, rfl, Or.inl (SqL.of hljl), _, mc, _, uc, rfl, cr, cv, Or.inl ⟨_, _, rfl, rfl, _, rfl, ?_⟩⟩
    refine iteF' (decide_eq_false (by omega)) ?_
    try dsimp only [tNext, gName, List.set]
    have e710 := e79.trans e10
    have e010 := e09.trans e10
    refine ⟨_, rfl, _, rfl, _, rfl, lj, zj, rfl, Or.inl ⟨SqL.of hljl, fun lt hlt => ?_⟩⟩
    have s11 := sameNew (o := HO.tup zj) hlt
    have e011 := e010.trans s11
    refine ⟨_, rfl, a, _, dx, _, _, rfl, (e011 _ _ ha), T.c_Zooms, T.a_Zooms_is_first, rfl, _, rfl, b, _, dy, _, _, rfl, (e011 _ _ ha'), T.c_Zooms, T.a_Zooms_is_first, rfl, _, rfl, ⟨f, f', s, rfl, ?_⟩⟩
    intro x dz nx nd hn
    refine zmake (f := jt s f f') (ms := J) nx nd (Or.inr ⟨pb, rfl, ((hpb.same e37).same e710).same s11, num_r (ht'.same e011)⟩) upd_same (pd_imp MkAt.in (Mks.same hj s11)) okJ fun H12 e12 z => ⟨rfl, ?_⟩
    exact k _ _ (e011.trans e12) z
theorem G_Zooms___sub__ (T : Tx K mg d) : FnR P w K mg base CX0 13 d.Zooms___sub__ (spZSub d.Ratio d.Zooms) := by
  have G_Zooms_joined := G_Zooms_joined (P := P) (w := w) (base := base) T
  obtain ⟨fd, F⟩ := T.F_Zooms___sub__
  refine FnR.imp (FnOk.raw (F.ok sc_Zooms___sub__ (k := 12) (sp := spZSub d.Ratio d.Zooms) (fun vs H Q E h => ?_) (fun cdv A outer s H vs Q E hr h => ?_)) (F.binds fun _ _ _ _ _ _ us hl => match us, hl with | [_, _], _ => rfl) .nil) fun vs H Q E h => by rw [List.append_nil]; exact h
  · obtain ⟨a, b, q, ms, f, q', ms', f', rfl, _⟩ := h
    rfl
  · obtain ⟨a, b, q, ms, f, q', ms', f', rfl, hz, hz', ok, ok', hl2, k⟩ := h
    -- slots: 0 self, 1 other
    refine ⟨_, (pss_one (ps_ret (pe_mR (pv 0) T.c_Zooms T.h_Zooms_joined G_Zooms_joined (hr.mono (by decide)) pass0 (pa_cons (pv 1) (pa_cons pe_str pa_nil))))), ?_⟩
    obtain ⟨dx, rb, rt, rm, zs, ha, _⟩ := id hz
    exact ⟨_, rfl, a, dx, _, rfl, ha, rfl, _, rfl, ⟨a, b, q, ms, f, q', ms', f', "-", rfl, hz, hz', ok, ok', hl2, k⟩⟩
end

end AZ
namespace AZ
open PySem L2
/-! ## what is heard of sets -/
-- asks T.dn_law____law_between_right T.dn_law____law_refused_right T.dn__law_between_right____law_refused_right T.tab_law T.tab__law_between_right T.tab__law_refused_right
def TTz (CB : Addr) : (XK → Hp → VK → Prop) → Hp → VK → Prop := fun tl H Q =>
  (∃ part : Str, (∀ Q', tl (fun cls dd H' => cls = .ref CB ∧ ∃ dx, dd = some dx ∧ Same H H' ∧ H' dx = some (.xd [("part", .str part)])) H Q') ∧ ∀ H', Same H H' → Q (.str part) H') ∨
  ((∀ Q' : VK, (∀ v H', Same H H' → Q' v H') → tl (fun _ _ _ => False) H Q') ∧ ∀ H', Same H H' → Q (.str "told") H')
section
variable {d : Ad} {X : Cx}
theorem pss_ex {α : Type} {body : List Stmt} {t : α → TS} {t' : TS} (h : ∀ e, PSs X body (t e)) (k : ∀ D σ H, t' D σ H → ∃ e, t e D σ H) : PSs X body t' :=
  ⟨fun pins s σ H D I q => let ⟨e, q'⟩ := k D σ H q; (h e).run pins s σ H D I q'⟩
theorem heardZ (T : Tx X.K X.mg d) {cdg : Value} {q : Str} : GivesG X ["_law_ask", "_law_caught", "error"] "_law_heard" (defScope s__law_heard) d._law_heard cdg (defBody s__law_heard) "_law_ask" q (TTz d.BadZooms) := by
  have _ := T.F__law_heard
  intro f c' s H Q tl ng act hr hc h
  refine ⟨_, pss_cons (ps_set (i := 1) sc__law_heard.nd rfl (Or.inl rfl) pe_non)
    (pss_cons (ps_try_keep (x := "SnapError") (c := .ref d.SnapError) (i := 2) (Wout := fun _ _ _ _ => False)
        (tb := fun W D σ H => ∃ Ech : XK, σ[0]? = some (some (.ref f)) ∧ H c' = some (LamX.CodeO c' q) ∧ (∀ cls dd H', Ech cls dd H' → W cls dd σ H') ∧ tl Ech H (fun _ H' => D.nx σ H'))
        (ts := fun a cls dd => tAsg (tVar 2) (gName 1)) rfl rfl rfl sc__law_heard.nd rfl rfl ⟨rfl, by decide, Or.inl T.m_SnapError⟩ L2.takes0 (fun W pn xe tk _ => ?_)
        (fun a oe cls dd pn _ _ => pss_one (ps_set (i := 1) sc__law_heard.nd rfl (Or.inl rfl) (pv 2))))
      (pss_cons (ps_if (pt_cmp (pc_isN (pv 1)) rfl) (pss_one (ps_ret pe_str)) pss_nil)
        (pss_one (ps_ret (pe_ifExp (pt_val (pe_callB call_isEK (by rfl) T.n_isinstance (by decide +kernel) (pa_cons (pv 1) (pa_cons (pe_glob (v := .ref _) rfl T.m_BadZooms rfl) pa_nil))))
          (pe_xfK (pv 1)) pe_str))))), ?_⟩
  · exact pss_ex (fun Ech => pss_one (ps_expr (act W pn xe Ech _ _ tk))) fun D σ H' ⟨Ech, h1, h2, h3, h4⟩ => ⟨Ech, h1, h2, h3, h4⟩
  · rcases h with ⟨part, raises, k⟩ | ⟨tells, k⟩
    · refine ⟨fun cls dd H' => cls = .ref d.BadZooms ∧ ∃ dx, dd = some dx ∧ Same H H' ∧ H' dx = some (.xd [("part", .str part)]), rfl, hc, fun cls dd H' ⟨ec, dx, ed, s1, hd⟩ => ⟨true, ?_, fun _ a na => ⟨_, rfl, fun _ => ?_⟩, fun z => nomatch z⟩, raises _⟩
      · subst ec; exact T.ex_BadZooms.exm T.sx_SnapError
      · subst ec ed
        have nad : dx ≠ a := fun z => by rw [z, na] at hd; cases hd
        have s2 : Same H' (upd H' a (exk a (.ref d.BadZooms) (some dx))) := sameNew na
        have ek : ErrK (upd H' a (exk a (.ref d.BadZooms) (some dx))) a d.BadZooms [("part", .str part)] := ⟨dx, upd_same, by rw [upd_ne nad]; exact hd⟩
        dsimp only [List.set, L2.start]
        refine ⟨_, rfl, _, rfl, ifF (decide_eq_false nofun) ?_⟩
        try dsimp only [tNext, gName]
        refine ⟨_, rfl, a, _, _, _, _, _, _, true, _, rfl, T.gx_object, T.ex_BadZooms, ek, .own _, kit_rr, true, rfl, iteT ?_⟩
        exact ⟨_, rfl, a, d.BadZooms, _, _, rfl, T.ex_BadZooms.xf, T.a_BadZooms_part, ek, by simp [List.lookup], k _ (s1.trans s2)⟩
    · refine ⟨fun _ _ _ => False, rfl, hc, fun _ _ _ z => z.elim, tells _ fun v H' e => ?_⟩
      dsimp only [List.set, L2.start]
      exact ⟨_, rfl, _, rfl, ifT (by decide) (k _ e)⟩
end

end AZ
namespace AZ
open PySem L2
/-! ## numbers drawn, and what is beside them -/
theorem PenAt.mono {H : Hp} {p : Addr} {n m : Nat} (h : PenAt H p n) (e : n ≤ m) : PenAt H p m := by
  obtain ⟨l, ns, a, b, h1, h2, h3, h4, h5, h6⟩ := h
  exact ⟨l, ns, a, b, h1, h2, h3, h4, h5, by omega⟩
theorem lc_keepQ {K : PySem.W.Frag} {C a : Addr} {xs : List V} {qs : List Rat} {i : Nat} {tt : TT} {vs : List Nat} {σ : L2.St} {H : Hp} {Q : VK} (ps : Rat → Bool)
    (ha : H a = some (.lst xs)) (hn : Rats C H xs qs) (hlen : xs.length ≤ 1000) (hi : ∀ x : V, ((wipe σ vs).set i (some x))[i]? = some (some x)) (hw : ∀ x : V, wipe ((wipe σ vs).set i (some x)) vs = wipe σ vs)
    (hs : ∀ p q H' (W : Bool → Hp → Prop), q ∈ qs → IsRat C H' p q → Same H H' → (∀ H'', Same H' H'' → W (ps q) H'') → tt ((wipe σ vs).set i (some (.ref p))) H' W)
    (hd : ∀ D H' zs, Same H H' → H D = none → H' D = some (.lst zs) → Rats C H' zs (qs.filter ps) → Q (.ref D) H') : tLc (iList K fun _ H R => R (.ref a) H) (gName i) tt (tVar i) vs σ H Q := by
  refine ⟨a, rfl, ⟨xs, SqL.of ha⟩, fun D hD => lc_list (xs := xs) (fun j H' => Same H H' ∧ ∃ zs, H' D = some (.lst zs) ∧ Rats C H' zs ((qs.take j).filter ps) ∧ zs.length ≤ j) ⟨sameNew hD, [], upd_same, .nil, Nat.zero_le _⟩ (fun j H' h p => SqL.of (p.1 _ _ ha)) (fun j x H' hx p => ?_) (fun H' p => ?_)⟩
  · obtain ⟨e, zs, hDl, hz, hj⟩ := p
    obtain ⟨q, hq, pn, rfl, nx⟩ := pd_at (hn.same e) hx
    refine ⟨hw _, hs pn q H' _ (List.mem_of_getElem? hq) nx e fun H'' e2 => ?_⟩
    have hi' : j < xs.length := (List.getElem?_eq_some_iff.mp hx).1
    rw [take_at hq, List.filter_append]
    cases hp : ps q with
    | true =>
      have up4 : Up D H'' (upd H'' D (.lst (zs ++ [.ref pn]))) := Up.put (e2 _ _ hDl)
      exact ⟨_, hi _, zs, e2 _ _ hDl, Nat.lt_of_le_of_lt hj (Nat.lt_of_lt_of_le (Nat.lt_of_lt_of_le hi' hlen) (by decide)), same_at (e.trans e2) hD, _, upd_same, by simp only [List.filter_cons, hp, if_true, List.filter_nil]; exact Rats.app (Rats.up up4 (hz.same e2)) ((nx.same e2).up up4), by simp; omega⟩
    | false => exact ⟨e.trans e2, zs, e2 _ _ hDl, by simp only [List.filter_cons, hp, List.filter_nil, Bool.false_eq_true, if_false, List.append_nil]; exact hz.same e2, by omega⟩
  · obtain ⟨e, zs, hDl, hz, _⟩ := p
    rw [pd_len hn, List.take_length] at hz
    exact hd D H' zs e hD hDl hz
def spNumP (C : Addr) : Sp := fun vs H Q _ => ∃ p n, vs = [.ref p] ∧ PenAt H p n ∧ n < 99000 ∧ ∀ v x H', Num C H' v x → 0 ≤ x → Sz 101 x → PenAt H' p (n + 4) → Up p H H' → Q v H'
def stepQ : Rat := (Rat.divInt 1 (10 ^ 40))
def spBeside (C : Addr) : Sp := fun vs H Q _ => ∃ a x, vs = [.ref a] ∧ IsRat C H a x ∧ Sz 120 x ∧ ∀ l ys H', Same H H' → H l = none → H' l = some (.lst ys) → Rats C H' ys ([x - stepQ, x, x + stepQ, x + 1, x - 1].filter fun z => decide (z > 0)) → Q (.ref l) H'
section
variable {P : Program} {w : World} {K : PySem.W.Frag} {mg : Str → Option Value} {base : Heap} {d : Ad}
theorem G__law_number (T : Tx K mg d) : FnR P w K mg base CX0 4 d._law_number (spNumP d.Ratio) := by
  have G__law_draw := G__law_draw (P := P) (w := w) (base := base) T
  have G__law_pick := G__law_pick (P := P) (w := w) (base := base) T
  have G_Ratio___init__ : FnR P w K mg base CX0 2 d.Ratio___init__ _ := G_Ratio___init__ T
  obtain ⟨fd, F⟩ := T.F__law_number
  refine FnR.imp (FnOk.raw (F.ok sc__law_number (k := 3) (sp := spNumP d.Ratio) (fun vs H Q E h => ?_) (fun cdv A outer s H vs Q E hr h => ?_)) (F.binds fun _ _ _ _ _ _ us hl => match us, hl with | [_], _ => rfl) .nil) fun vs H Q E h => by rw [List.append_nil]; exact h
  · obtain ⟨p, n, rfl, _⟩ := h
    rfl
  · obtain ⟨p, n, rfl, hp, hn, k⟩ := h
    -- slots: 0 _law_pen_here, 1 _law_some
    refine ⟨_, (pss_cons (ps_set (i := 1) sc__law_number.nd rfl (Or.inl rfl) (pe_lst (pa_cons pe_int (pa_cons pe_int (pa_cons pe_int (pa_cons (StX.pe_makeR T.mk_Ratio G_Ratio___init__ (hr.mono (by decide)) rfl T.m_Ratio pass0 (pa_cons pe_int (pa_cons pe_int pa_nil))) (pa_cons (StX.pe_makeR T.mk_Ratio G_Ratio___init__ (hr.mono (by decide)) rfl T.m_Ratio pass0 (pa_cons pe_int (pa_cons pe_int pa_nil))) (pa_cons (pe_op op_pow pe_int pe_int) (pa_cons (StX.pe_makeR T.mk_Ratio G_Ratio___init__ (hr.mono (by decide)) rfl T.m_Ratio pass0 (pa_cons pe_int (pa_cons (pe_op op_pow pe_int pe_int) pa_nil))) (pa_cons (pe_fnR G__law_draw (hr.mono (by decide)) T.k__law_draw T.m__law_draw pass0 (pa_cons (pv 0) (pa_cons pe_int pa_nil))) pa_nil))))))))))
      (pss_one (ps_ret (pe_fnR G__law_pick (hr.mono (by decide)) T.k__law_pick T.m__law_pick pass0 (pa_cons (pv 0) (pa_cons (pe_op uAdd (pv 1) (pe_lst (pa_cons (StX.pe_makeR T.mk_Ratio G_Ratio___init__ (hr.mono (by decide)) rfl T.m_Ratio pass0 (pa_cons (pe_fnR G__law_draw (hr.mono (by decide)) T.k__law_draw T.m__law_draw pass0 (pa_cons (pv 0) (pa_cons pe_int pa_nil))) (pa_cons (pe_op uAdd pe_int (pe_fnR G__law_draw (hr.mono (by decide)) T.k__law_draw T.m__law_draw pass0 (pa_cons (pv 0) (pa_cons pe_int pa_nil)))) pa_nil))) pa_nil))) pa_nil)))))), ?_⟩
    refine fun x1 d1 nx nd nn => Or.inl (made' nx nd (by decide) (by decide) fun H1 e1 r1 => ⟨rfl, ?_⟩)
    clear nx nd nn
    refine fun x2 d2 nx nd nn => Or.inl (made' nx nd (by decide) (by decide) fun H2 e2 r2 => ⟨rfl, ?_⟩)
    clear nx nd nn
    refine ⟨_, _, rfl, rfl, ⟨by decide, by decide, by decide⟩, ⟨_, _, rfl, rfl, ⟨by decide, by decide, by decide⟩, ?_⟩⟩
    refine fun x3 d3 nx nd nn => Or.inl (made' nx nd (by decide) (by decide) fun H3 e3 r3 => ⟨rfl, ?_⟩)
    clear nx nd nn
    have e03 := (e1.trans e2).trans e3
    refine ⟨_, rfl, ⟨p, n, 20, rfl, hp.up e03, by omega, by decide, by decide, fun dr H4 dr0 dr1 hp4 u4 => ?_⟩⟩
    refine ⟨by show 8 ≤ sizeLine; decide, fun l1 hl1 => ?_⟩
    have r1 := (((r1.same e2).same e3).up u4).same (sameNew (o := HO.lst [.int 0, .int 1, .int 2, .ref x1, .ref x2, .int (10 ^ (30 : Int).toNat), .ref x3, .int dr]) hl1)
    have r2 := ((r2.same e3).up u4).same (sameNew (o := HO.lst [.int 0, .int 1, .int 2, .ref x1, .ref x2, .int (10 ^ (30 : Int).toNat), .ref x3, .int dr]) hl1)
    have r3 := (r3.up u4).same (sameNew (o := HO.lst [.int 0, .int 1, .int 2, .ref x1, .ref x2, .int (10 ^ (30 : Int).toNat), .ref x3, .int dr]) hl1)
    have u5 := u4.trans (Up.same (sameNew (o := HO.lst [.int 0, .int 1, .int 2, .ref x1, .ref x2, .int (10 ^ (30 : Int).toNat), .ref x3, .int dr]) hl1))
    have hp5 := hp4.up ((sameNew (o := HO.lst [.int 0, .int 1, .int 2, .ref x1, .ref x2, .int (10 ^ (30 : Int).toNat), .ref x3, .int dr]) hl1))
    have l5 : upd H4 l1 (HO.lst [.int 0, .int 1, .int 2, .ref x1, .ref x2, .int (10 ^ (30 : Int).toNat), .ref x3, .int dr]) l1 = some (HO.lst [.int 0, .int 1, .int 2, .ref x1, .ref x2, .int (10 ^ (30 : Int).toNat), .ref x3, .int dr]) := upd_same
    have n1p : l1 ≠ p := by
      obtain ⟨_, _, _, _, _, hh, _⟩ := hp4
      exact (ne_of_none hh hl1).symm
    generalize upd H4 l1 (HO.lst [.int 0, .int 1, .int 2, .ref x1, .ref x2, .int (10 ^ (30 : Int).toNat), .ref x3, .int dr]) = H5 at r1 r2 r3 u5 hp5 l5 ⊢
    try dsimp only [tNext, gName, List.set, L2.start]
    refine ⟨_, rfl, _, rfl, _, rfl, ⟨p, n + 1, 40, rfl, hp5, by omega, by decide, by decide, fun da H6 da0 da1 hp6 u6 => ?_⟩⟩
    refine ⟨_, rfl, ⟨p, n + 2, 9, rfl, hp6, by omega, by decide, by decide, fun db H7 db0 db1 hp7 u7 => Or.inl ⟨_, _, rfl, rfl, ?_⟩⟩⟩
    refine fun x4 d4 nx nd nn => Or.inl (made' nx nd (by omega) ?_ fun H8 e8 r4 => ⟨rfl, ?_⟩)
    · exact Nat.lt_of_lt_of_le (show (1 + db).natAbs < 2 ^ 10 by omega) (Nat.pow_le_pow_right (by decide) (by decide))
    clear nx nd nn
    have u58 := (u6.trans u7).trans (Up.same e8)
    refine ⟨by show 1 ≤ sizeLine; decide, fun l2 hl2 => ?_⟩
    have s9 := sameNew (o := HO.lst [.ref x4]) hl2
    have l9 := s9 _ _ (u58.lst l5 n1p)
    refine Or.inr (Or.inr (Or.inl ⟨l1, l2, _, _, rfl, rfl, l9, upd_same, (by show 9 ≤ sizeLine; decide), fun l3 hl3 => ?_⟩))
    have s10 := sameNew (o := HO.lst ([.int 0, .int 1, .int 2, .ref x1, .ref x2, .int (10 ^ (30 : Int).toNat), .ref x3, .int dr] ++ [.ref x4])) hl3
    have u510 := (u58.trans (Up.same s9)).trans (Up.same s10)
    have hp10 := ((hp7.up e8).up s9).up s10
    have n3p : l3 ≠ p := by
      obtain ⟨_, _, _, _, _, hh, _⟩ := ((hp7.up e8).up s9)
      exact (ne_of_none hh hl3).symm
    refine ⟨p, l3, n + 3, _, rfl, hp10, by omega, Or.inl ⟨upd_same, n3p⟩, by simp, by simp, fun y H11 hy hp11 u11 => ?_⟩
    have nums : Nums d.Ratio H11 ([.int 0, .int 1, .int 2, .ref x1, .ref x2, .int (10 ^ (30 : Int).toNat), .ref x3, .int dr] ++ [.ref x4]) [((0 : Int) : Rat), ((1 : Int) : Rat), ((2 : Int) : Rat), Rat.divInt 1 2, Rat.divInt 7 3, ((10 ^ (30 : Int).toNat : Int) : Rat), Rat.divInt 1 (10 ^ (30 : Int).toNat), (dr : Rat), Rat.divInt da (1 + db)] :=
      .cons num_i (.cons num_i (.cons num_i (.cons (num_r ((r1.up u510).up u11)) (.cons (num_r ((r2.up u510).up u11)) (.cons num_i (.cons (num_r ((r3.up u510).up u11)) (.cons num_i (.cons (num_r (((r4.same s9).same s10).up u11)) .nil))))))))
    obtain ⟨q, hq, hn2⟩ := paired_mem nums hy
    have q0 : 0 ≤ q ∧ Sz 101 q := by
      simp only [List.mem_cons, List.not_mem_nil, or_false] at hq
      rcases hq with rfl | rfl | rfl | rfl | rfl | rfl | rfl | rfl | rfl
      · exact ⟨by decide +kernel, by decide +kernel, by decide +kernel⟩
      · exact ⟨by decide +kernel, by decide +kernel, by decide +kernel⟩
      · exact ⟨by decide +kernel, by decide +kernel, by decide +kernel⟩
      · exact ⟨by decide +kernel, by decide +kernel, by decide +kernel⟩
      · exact ⟨by decide +kernel, by decide +kernel, by decide +kernel⟩
      · exact ⟨by decide +kernel, by decide +kernel, by decide +kernel⟩
      · exact ⟨by decide +kernel, by decide +kernel, by decide +kernel⟩
      · exact ⟨Rat.intCast_nonneg.mpr dr0, sz_i (Nat.lt_of_lt_of_le (show dr.natAbs < 2 ^ 5 by omega) (Nat.pow_le_pow_right (by decide) (by decide))) (by decide)⟩
      · refine ⟨Rat.divInt_nonneg da0 (by omega), sz_di (by omega) (Nat.lt_of_lt_of_le (show da.natAbs < 2 ^ 6 by omega) (Nat.pow_le_pow_right (by decide) (by decide))) (Nat.lt_of_lt_of_le (show (1 + db).natAbs < 2 ^ 4 by omega) (Nat.pow_le_pow_right (by decide) (by decide)))⟩
    exact k y q H11 hn2 q0.1 q0.2 hp11 ((((Up.same e03).trans u5).trans u510).trans u11)
theorem G__law_beside (T : Tx K mg d) : FnR P w K mg base CX0 7 d._law_beside (spBeside d.Ratio) := by
  have G_Ratio_divided := G_Ratio_divided (P := P) (w := w) (base := base) T
  have G_Ratio___init__ : FnR P w K mg base CX0 2 d.Ratio___init__ _ := G_Ratio___init__ T
  have G_add : FnR P w K mg base CX0 5 d.Ratio___add__ (spBin d.Ratio (· + ·)) := G_Ratio___add__ T
  have G_sub : FnR P w K mg base CX0 5 d.Ratio___sub__ (spBin d.Ratio (· - ·)) := G_Ratio___sub__ T
  have G_gt : FnR P w K mg base CX0 5 d.Ratio___gt__ (spCmp d.Ratio fun x y => decide (x > y)) := G_Ratio___gt__ T
  obtain ⟨fd, F⟩ := T.F__law_beside
  refine FnR.imp (FnOk.raw (F.ok sc__law_beside (k := 6) (sp := spBeside d.Ratio) (fun vs H Q E h => ?_) (fun cdv A outer s H vs Q E hr h => ?_)) (F.binds fun _ _ _ _ _ _ us hl => match us, hl with | [_], _ => rfl) .nil) fun vs H Q E h => by rw [List.append_nil]; exact h
  · obtain ⟨a, x, rfl, _⟩ := h
    rfl
  · obtain ⟨a, x, rfl, hx, zx, k⟩ := h
    -- slots: 0 _law_number_here, 1 _law_step, 2 _law_zoom
    refine ⟨_, (pss_cons (ps_set (i := 1) sc__law_beside.nd rfl (Or.inl rfl) (pe_mR (StX.pe_makeR T.mk_Ratio G_Ratio___init__ (hr.mono (by decide)) rfl T.m_Ratio pass0 (pa_cons pe_int (pa_cons (pe_op op_pow pe_int pe_int) pa_nil))) T.c_Ratio T.h_Ratio_divided G_Ratio_divided (hr.mono (by decide)) pass0 (pa_cons (pe_op op_pow pe_int pe_int) pa_nil)))
      (pss_one (ps_ret (pe_lc (own := [("_law_zoom", 2)]) (g := gName 2) (by rfl) sc__law_beside.nd (pi_list (pe_lst (pa_cons (pe_op uSub (pv 0) (pv 1)) (pa_cons (pv 0) (pa_cons (pe_op uAdd (pv 0) (pv 1)) (pa_cons (pe_op uAdd (pv 0) pe_int) (pa_cons (pe_op uSub (pv 0) pe_int) pa_nil))))))) (blkOk_by (own := [("_law_zoom", 2)]) (N := ["_law_number_here", "_law_step", "_law_zoom"]) (sc := defScope s__law_beside) (by decide +kernel)) (fun _ _ _ _ _ => pg_name (i := 2) sc__law_beside.nd rfl (Or.inl rfl)) (fun _ _ _ _ _ => pts_one (pt_cmpR (op_ownCF T.q_Ratio_gt G_gt (hr.mono (by decide)) pass0) (pv 2) pe_int (nomark _))) (fun _ _ _ _ _ => (pv 2)))))), ?_⟩
    refine ⟨_, _, rfl, rfl, ⟨by decide, by decide, by decide⟩, ?_⟩
    refine fun x1 d1 nx nd nn => Or.inl (made' nx nd (by decide) (by decide) fun H1 e1 r1 => ⟨rfl, ?_⟩)
    clear nx nd nn
    obtain ⟨dx1, hx1⟩ := id r1
    refine ⟨x1, dx1, _, rfl, hx1, rfl, ⟨_, _, rfl, rfl, ⟨by decide, by decide, by decide⟩, ?_⟩⟩
    have zt : Sz 101 (Rat.divInt 1 (10 ^ (30 : Int).toNat)) := ⟨by decide +kernel, by decide +kernel⟩
    refine ⟨x1, _, _, _, rfl, r1, num_i, by decide +kernel, sz_mono zt (by decide), ⟨by decide +kernel, by decide +kernel⟩, fun x2 H2 e2 r2 => ?_⟩
    have es : Rat.divInt 1 (10 ^ (30 : Int).toNat) / ((10 ^ (10 : Int).toNat : Int) : Rat) = stepQ := by decide +kernel
    rw [es] at r2
    have e12 := e1.trans e2
    have hx2 := hx.same e12
    have zs : Sz 140 stepQ := ⟨by decide +kernel, by decide +kernel⟩
    have zx2 : Sz 2000 x := sz_mono zx (by decide)
    have zs2 : Sz 2000 stepQ := sz_mono zs (by decide)
    have z12 : Sz 2000 ((1 : Int) : Rat) := o2000
    try dsimp only [tNext, gName, List.set, L2.start]
    generalize stepQ = s at r2 zs zs2 k
    refine ⟨_, rfl, _, rfl, Or.inr (own_bin T.b_Ratio_sub G_sub (hr.mono (by decide)) hx2 (num_r r2) zx2 zs2 fun p1 H3 e3 t1 => ?_)⟩
    refine ⟨_, rfl, _, rfl, _, rfl, Or.inr (Or.inl (own_bin T.b_Ratio_add G_add (hr.mono (by decide)) (hx2.same e3) (num_r (r2.same e3)) zx2 zs2 fun p3 H4 e4 t3 => ?_))⟩
    refine ⟨_, rfl, Or.inr (Or.inl (own_bin T.b_Ratio_add G_add (hr.mono (by decide)) ((hx2.same e3).same e4) num_i zx2 z12 fun p4 H5 e5 t4 => ?_))⟩
    refine ⟨_, rfl, Or.inr (own_bin T.b_Ratio_sub G_sub (hr.mono (by decide)) (((hx2.same e3).same e4).same e5) num_i zx2 z12 fun p5 H6 e6 t5 => ?_)⟩
    refine ⟨by show 5 ≤ sizeLine; decide, fun l hl => ?_⟩
    have s7 := sameNew (o := HO.lst [.ref p1, .ref a, .ref p3, .ref p4, .ref p5]) hl
    have e36 := (e4.trans e5).trans e6
    have e67 := e6.trans s7
    refine lc_keepQ (K := K) (C := d.Ratio) (a := l) (xs := [.ref p1, .ref a, .ref p3, .ref p4, .ref p5]) (qs := [x - s, x, x + s, x + ((1 : Int) : Rat), x - ((1 : Int) : Rat)]) (fun z => decide (z > 0)) upd_same
      (.cons ⟨p1, rfl, (t1.same e36).same s7⟩ (.cons ⟨a, rfl, ((hx2.same e3).same e36).same s7⟩ (.cons ⟨p3, rfl, (t3.same e5).same e67⟩ (.cons ⟨p4, rfl, t4.same e67⟩ (.cons ⟨p5, rfl, t5.same s7⟩ .nil))))) (by show 5 ≤ 1000; decide) (fun _ => rfl) (fun _ => rfl) (fun p q H' W hq hp eW kW => ?_) (fun D H' zs e hD hDl hR => ?_)
    · obtain ⟨dp, hp2⟩ := id hp
      have zq : Sz 2000 q := by
        simp only [List.mem_cons, List.not_mem_nil, or_false] at hq
        have zx1 : Sz 400 x := sz_mono zx (by decide)
        have z11 : Sz 400 ((1 : Int) : Rat) := ⟨by decide +kernel, by decide +kernel⟩
        rcases hq with rfl | rfl | rfl | rfl | rfl
        · exact sz_mono (sz_sub zx zs) (by decide)
        · exact zx2
        · exact sz_mono (sz_add zx zs) (by decide)
        · exact sz_mono (sz_add zx z11) (by decide)
        · exact sz_mono (sz_sub zx z11) (by decide)
      exact ⟨_, rfl, ⟨p, dp, _, rfl, hp2, num_i.right, ⟨p, _, q, _, rfl, hp, num_i, zq, z2000, fun H'' e2 => ⟨_, rfl, kW _ e2⟩⟩⟩⟩
    · refine k D zs H' ((((e12.trans e3).trans e36).trans s7).trans e) ?_ hDl hR
      exact (((e12.trans e3).trans e36).trans s7).free hD
end

end AZ
namespace AZ
open PySem L2
/-! ## the law: beyond -/
theorem hasZ_beyond {q x : Rat} {c : Bool} (q0 : 0 ≤ q) (x0 : x > 0) : hasZ (bey q c) (decide (q = 0)) x = (decide (x > q) || decide (x = q) && c) := by
  unfold hasZ bey upto
  by_cases p : q > 0
  · rw [if_pos p, decide_eq_false (show ¬ q = 0 by grind)]
    by_cases h : q ≤ x
    · rw [List.takeWhile_cons_of_pos (by simpa using h)]
      simp only [List.takeWhile_nil, List.length_cons, List.length_nil, List.take_succ_cons, List.take_nil, List.getLast?_singleton]
      by_cases e : q = x
      · subst e
        simp
      · have : x > q := by grind
        simp [e, this]
    · rw [List.takeWhile_cons_of_neg (by simpa using h)]
      have h1 : ¬ x > q := by grind
      have h2 : ¬ x = q := by grind
      simp [h1, h2]
  · have e : q = 0 := by grind
    rw [if_neg p, decide_eq_true e]
    subst e
    simp [x0]
def spPenT (C : Addr) : Sp := fun vs H Q _ => ∃ p n, vs = [.ref p] ∧ PenAt H p n ∧ n < 90000 ∧ ∀ H', PenAt H' p (n + 10) → Up p H H' → Q (.bl true) H'
theorem pen_new {H : Hp} {p l : Addr} {n : Nat} (h : PenAt H p n) (e : H l = none) : l ≠ p := by
  obtain ⟨_, _, _, _, _, hh, _⟩ := h
  exact (ne_of_none hh e).symm
section
variable {P : Program} {w : World} {K : PySem.W.Frag} {mg : Str → Option Value} {base : Heap} {d : Ad}
theorem zeq {X : Cx} (T : Tx X.K mg d) (G : FnR X.prog X.w X.K X.mg X.base CX0 5 d.Zooms___eq__ (spZEq d.Ratio d.Zooms)) (hr : Room 5 X.A) {a b : Addr} {q q' : Rat} {ms ms' : List Mk} {f f' r : Bool} {H : Hp} {W : VK} (ha : IsZ d.Ratio d.Zooms H a q ms f) (hb : IsZ d.Ratio d.Zooms H b q' ms' f') (ok : ZOk q ms)
    (h : (f ≠ f' ∧ r = false) ∨ (q' = q ∧ ms' = ms ∧ f' = f ∧ r = true)) (k : ∀ H', Same H H' → W (.bl r) H') : rOwnC X .Eq (.ref a) (.ref b) H W := by
  obtain ⟨dx, rb, rt, rm, zs, h1, _⟩ := id ha
  obtain ⟨dy, rb', rt', rm', zs', h2, _⟩ := id hb
  refine ⟨a, d.Zooms, dx, _, _, CX0, 5, _, E0, rfl, h1, Or.inr ⟨b, dy, _, rfl, h2⟩, T.q_Zooms_eq, G, hr, pass0, ⟨a, b, q, ms, f, q', ms', f', rfl, ha, hb, ok, ?_⟩⟩
  rcases h with ⟨ne, rfl⟩ | ⟨e1, e2, e3, rfl⟩
  · exact Or.inl ⟨ne, k _ (Same.refl _)⟩
  · exact Or.inr ⟨e1, e2, e3, k⟩
theorem G__law_beyond_right (T : Tx K mg d) : FnG P w K mg base CX0 15 d._law_beyond_right (spPenT d.Ratio) := by
  have G__law_draw := G__law_draw (P := P) (w := w) (base := base) T
  have G__law_number := G__law_number (P := P) (w := w) (base := base) T
  have G__law_beside := G__law_beside (P := P) (w := w) (base := base) T
  have G_Ratio_of : FnR P w K mg base CX0 4 d.Ratio_of (spOf d.Ratio) := G_Ratio_of T
  have GK_Zooms_beyond := GK_Zooms_beyond (P := P) (w := w) (base := base) T
  have GX_Zooms_beyond := GX_Zooms_beyond (P := P) (w := w) (base := base) T
  have G_Zooms_everything := G_Zooms_everything (P := P) (w := w) (base := base) T
  have G_Zooms___contains__ := G_Zooms___contains__ (P := P) (w := w) (base := base) T
  have G_Zooms___eq__ := G_Zooms___eq__ (P := P) (w := w) (base := base) T
  have G_add : FnR P w K mg base CX0 5 d.Ratio___add__ (spBin d.Ratio (· + ·)) := G_Ratio___add__ T
  have G_gt : FnR P w K mg base CX0 5 d.Ratio___gt__ (spCmp d.Ratio fun x y => decide (x > y)) := G_Ratio___gt__ T
  have G_eq : FnR P w K mg base CX0 2 d.Ratio___eq__ (spCmp d.Ratio fun x y => decide (x = y)) := G_Ratio___eq__ T
  obtain ⟨fd, F⟩ := T.F__law_beyond_right
  refine fnG_of (k := 14) F sc__law_beyond_right (sp := spPenT d.Ratio) (fun vs H Q E h => ?_) (fun cdv A outer s H vs Q E ng hr h => ?_) (F.binds fun _ _ _ _ _ _ us hl => match us, hl with | [_], _ => rfl)
  · obtain ⟨p, n, rfl, _⟩ := h
    rfl
  · obtain ⟨p, n, rfl, hp, hn, k⟩ := h
    -- slots: 0 _law_pen_here, 1 _law_low, 2 _law_is_low, 3 _law_found, 4 _law_zoom
    refine ⟨_, (pss_cons (ps_par (i := 1) (j := 2) (by rfl) sc__law_beyond_right.nd rfl rfl (by decide) rfl rfl (pa_cons (pe_smeth (pe_glob (v := .ref _) rfl T.m_Ratio rfl) T.s_Ratio_of G_Ratio_of (hr.mono (by decide)) pass0 (pa_cons (pe_fnR G__law_number (hr.mono (by decide)) T.k__law_number T.m__law_number pass0 (pa_cons (pv 0) pa_nil)) pa_nil)) (pa_cons (pe_cmpR (uEq hr.units) (pe_fnR G__law_draw (hr.mono (by decide)) T.k__law_draw T.m__law_draw pass0 (pa_cons (pv 0) (pa_cons pe_int pa_nil))) pe_int (nomark _)) pa_nil)) (by rfl))
      (pss_cons (ps_set (i := 3) sc__law_beyond_right.nd rfl (Or.inl rfl) (pe_smethGk (pe_glob (v := .ref _) rfl T.m_Zooms rfl) T.s_Zooms_beyond GK_Zooms_beyond ng (hr.mono (by decide)) passF (pk_cons (pv 2) (pk_cons (pv 1) pk_nil))))
      (pss_cons (ps_for PassesOwn.never rfl (pi_list (pe_op uAdd (pe_fnR G__law_beside (hr.mono (by decide)) T.k__law_beside T.m__law_beside pass0 (pa_cons (pv 1) pa_nil)) (pe_lst (pa_cons (pe_op uAdd (pv 1) (pe_op op_pow pe_int pe_int)) pa_nil)))) (pg_name (i := 4) sc__law_beyond_right.nd rfl (Or.inl rfl)) (pss_one (ps_if (pt_cmpR (uNe hr.units) (pe_cmpR (op_inO T.in_Zooms (FnG.of G_Zooms___contains__) ng (hr.mono (by decide)) pass0) (pv 4) (pv 3) rfl) (pe_or (pe_cmpR uGt (pv 4) (pv 1) (nomark _)) (pe_one (pe_and (pe_cmpR (uEq hr.units) (pv 4) (pv 1) (nomark _)) (pe_one (pv 2))))) (nomark _)) (pss_one (ps_ret pe_bl)) pss_nil)))
      (pss_one (ps_ret (pe_and (pe_cmpR (uEq hr.units) (pe_cmpR (uEq hr.units) (pv 3) (pe_smeth0 (pe_glob (v := .ref _) rfl T.m_Zooms rfl) T.s_Zooms_everything G_Zooms_everything (hr.mono (by decide)) pass0) (nomark _)) (pe_cmpR (uEq hr.units) (pv 1) pe_int (nomark _)) (nomark _)) (pe_one (pe_cmpR (uEq hr.units) (pv 3) (pe_smethG (pe_glob (v := .ref _) rfl T.m_Zooms rfl) T.s_Zooms_beyond GX_Zooms_beyond ng (hr.mono (by decide)) passF (pa_cons (pv 1) (pa_cons (pv 2) pa_nil))) (nomark _))))))))), ?_⟩
    have dz : ∀ j : Int, decide (V.int j = V.int 0) = decide (j = 0) := fun j => decide_eq_decide.mpr ⟨fun h => by injection h, fun h => by rw [h]⟩
    refine ⟨rfl, _, rfl, ⟨p, n, rfl, hp, by omega, fun v0 q H1 hv0 q0 zq hp1 u1 => ⟨v0, q, rfl, hv0, fun r H2 e2 hr2 => ?_⟩⟩⟩
    refine ⟨_, rfl, ⟨p, n + 4, 2, rfl, hp1.up e2, by omega, by decide, by decide, fun dr H3 dr0 dr1 hp3 u3 => Or.inl ⟨rfl, _, _, rfl, ?_⟩⟩⟩
    rw [dz]
    generalize decide (dr = 0) = c
    have hr3 := hr2.up u3
    have u03 := (u1.trans (Up.same e2)).trans u3
    clear hr2 hp1 hv0
    try dsimp only [tNext, gName, List.set, L2.start]
    have zq9 : Sz 900 q := sz_mono zq (by decide)
    have zq2 : Sz 2000 q := sz_mono zq (by decide)
    refine ⟨rfl, _, rfl, _, rfl, ⟨_, _, rfl, Or.inr ⟨q, num_r hr3, zq9, q0, Or.inr ⟨c, rfl, fun z H4 e4 hz => ?_⟩⟩⟩⟩
    obtain ⟨bf, bl⟩ := bey_form c q0
    have okz := zok1 c zq9 q0
    try dsimp only [tNext, gName, List.set, L2.start]
    have hr4 := hr3.same e4
    have hp4 := hp3.up e4
    refine ⟨_, rfl, ⟨r, q, rfl, hr4, sz_mono zq (by decide), fun lb ys H5 e5 hlb hlbl hys => ?_⟩⟩
    refine ⟨_, rfl, ⟨_, _, rfl, rfl, ⟨by decide, by decide, by decide⟩, Or.inr (Or.inl (own_bin T.b_Ratio_add G_add (hr.mono (by decide)) (hr4.same e5) num_i zq2 ⟨by decide +kernel, by decide +kernel⟩ fun pf H6 e6 tf => ?_))⟩⟩
    refine ⟨by show 1 ≤ sizeLine; decide, fun l1 hl1 => ?_⟩
    have s7 := sameNew (o := HO.lst [.ref pf]) hl1
    have e57 := e6.trans s7
    have yl : ys.length ≤ 5 := by rw [pd_len hys]; exact List.length_filter_le _ _
    refine Or.inr (Or.inr (Or.inl ⟨lb, l1, _, _, rfl, rfl, e57 _ _ hlbl, upd_same, (by rw [List.length_singleton]; exact Nat.le_trans (Nat.add_le_add_right yl 1) (by decide)), fun l3 hl3 => ?_⟩))
    have s8 := sameNew (o := HO.lst (ys ++ [.ref pf])) hl3
    have e48 := (e5.trans e57).trans s8
    refine ⟨l3, rfl, ⟨_, SqL.of upd_same⟩, ?_⟩
    have l3l := upd_same (H := upd H6 l1 (HO.lst [.ref pf])) (a := l3) (o := HO.lst (ys ++ [.ref pf]))
    have rats : Rats d.Ratio (upd (upd H6 l1 (HO.lst [.ref pf])) l3 (HO.lst (ys ++ [.ref pf]))) (ys ++ [.ref pf]) ((([q - stepQ, q, q + stepQ, q + 1, q - 1].filter fun z => decide (z > 0))) ++ [q + ((10 ^ (30 : Int).toNat : Int) : Rat)]) :=
      Rats.app (Rats.same (e57.trans s8) hys) ((tf.same s7).same s8)
    have pos : ∀ x ∈ (([q - stepQ, q, q + stepQ, q + 1, q - 1].filter fun z => decide (z > 0))) ++ [q + ((10 ^ (30 : Int).toNat : Int) : Rat)], x > 0 ∧ Sz 900 x := by
      intro x hx
      rcases List.mem_append.mp hx with hx | hx
      · obtain ⟨h1, h2⟩ := List.mem_filter.mp hx
        refine ⟨of_decide_eq_true h2, ?_⟩
        have zs : Sz 140 stepQ := ⟨by decide +kernel, by decide +kernel⟩
        have z1 : Sz 2 (1 : Rat) := ⟨by decide +kernel, by decide +kernel⟩
        simp only [List.mem_cons, List.not_mem_nil, or_false] at h1
        rcases h1 with rfl | rfl | rfl | rfl | rfl
        · exact sz_mono (sz_sub zq zs) (by decide)
        · exact zq9
        · exact sz_mono (sz_add zq zs) (by decide)
        · exact sz_mono (sz_add zq z1) (by decide)
        · exact sz_mono (sz_sub zq z1) (by decide)
      · rw [List.mem_singleton.mp hx]
        have zt : Sz 110 ((10 ^ (30 : Int).toNat : Int) : Rat) := ⟨by decide +kernel, by decide +kernel⟩
        have tp : ((10 ^ (30 : Int).toNat : Int) : Rat) > 0 := by decide +kernel
        exact ⟨by grind, sz_mono (sz_add zq zt) (by decide)⟩
    generalize ((([q - stepQ, q, q + stepQ, q + 1, q - 1].filter fun z => decide (z > 0))) ++ [q + ((10 ^ (30 : Int).toNat : Int) : Rat)]) = qs at rats pos
    generalize hG : upd (upd H6 l1 (HO.lst [.ref pf])) l3 (HO.lst (ys ++ [.ref pf])) = G at e48 l3l rats ⊢
    have hz8 := hz.same e48
    have hr8 := hr4.same e48
    have hp8 := hp4.up e48
    have u08 := (u03.trans (Up.same e4)).trans (Up.same e48)
    clear hG s7 s8 e5 e6 e57 hlb hlbl hys tf hl1 hl3
    refine for_list (xs := ys ++ [.ref pf]) (fun i σ' H' => ∃ z4, σ' = [some (.ref p), some (.ref r), some (.bl c), some (.ref z), z4] ∧ Same G H') ⟨none, rfl, Same.refl _⟩
      (fun i σ' H' _ h => by obtain ⟨_, _, e⟩ := h; exact SqL.of (e _ _ l3l)) (fun i x σ' H' hx h => ?_) (fun σ' H' h => ?_)
    · obtain ⟨z4, rfl, eG⟩ := h
      obtain ⟨y, hy, pn, rfl, rn⟩ := pd_at (rats.same eG) hx
      obtain ⟨y0, zy⟩ := pos y (List.mem_of_getElem? hy)
      have zy2 : Sz 2000 y := sz_mono zy (by decide)
      dsimp only [gName, List.set]
      have hzG := hz8.same eG
      obtain ⟨dz2, rb, rt, rm, zs, hzi, _⟩ := id hzG
      refine ⟨_, rfl, _, rfl, ⟨z, dz2, _, rfl, hzi, ⟨z, _, q, _, _, y, rfl, hzG, okz, num_r rn, zy, y0, fun H9 e9 => ⟨_, rfl, ?_⟩⟩⟩⟩
      rw [hasZ_beyond q0 y0]
      have hr9 := (hr8.same eG).same e9
      try dsimp only
      refine via (fun v H' => v = .bl (decide (y > q) || decide (y = q) && c) ∧ Same H9 H') (fun W kW => ?_) (fun v H10 hv => ?_)
      · refine ⟨_, rfl, _, rfl, Or.inr (oc T.q_Ratio_gt G_gt (hr.mono (by decide)) (rn.same e9) (num_r hr9) zy2 zq2 rfl fun H10 e10 => ⟨_, rfl, ite2 (fun hb => ?_) (fun hb => ?_)⟩)⟩
        · rw [hb, Bool.true_or] at kW
          exact kW _ _ ⟨rfl, e10⟩
        rw [(Bool.not_eq_true _).mp hb, Bool.false_or] at kW
        refine ⟨_, rfl, _, rfl, Or.inr (Or.inl (oc T.q_Ratio_eq G_eq (hr.mono (by decide)) ((rn.same e9).same e10) (num_r (hr9.same e10)) zy2 zq2 rfl fun H11 e11 => ⟨_, rfl, ite2 (fun hb => ?_) (fun hb => ?_)⟩))⟩
        · rw [hb, Bool.true_and] at kW
          exact ⟨_, rfl, kW _ _ ⟨rfl, e10.trans e11⟩⟩
        · rw [(Bool.not_eq_true _).mp hb, Bool.false_and] at kW
          exact kW _ _ ⟨rfl, e10.trans e11⟩
      · obtain ⟨rfl, e10⟩ := hv
        refine Or.inl ⟨rfl, _, rfl, ifF (by simp) ⟨_, rfl, (eG.trans e9).trans e10⟩⟩
    · obtain ⟨z4, rfl, eG⟩ := h
      have e9 := eG
      have hz9 := hz8.same e9
      have hr9 := hr8.same e9
      have fin : ∀ H', Same H' H' → True := fun _ _ => trivial
      refine ⟨_, rfl, ⟨rfl, ⟨rfl, fun pe He ee hze => ?_⟩⟩⟩
      have hz10 := hz9.same ee
      have hr10 := hr9.same ee
      refine Or.inr (Or.inl (zeq T G_Zooms___eq__ (hr.mono (by decide)) hz10 hze okz (r := decide (q = 0)) ?_ fun H11 e11 => ?_))
      · by_cases e : q = 0
        · refine Or.inr ⟨e.symm, ?_, (decide_eq_true e).symm, decide_eq_true e⟩
          unfold bey
          rw [if_neg (by grind)]
        · rw [decide_eq_false e]
          exact Or.inl ⟨by decide, rfl⟩
      refine ⟨_, rfl, Or.inr (Or.inl (oc T.q_Ratio_eq G_eq (hr.mono (by decide)) (hr10.same e11) num_i zq2 z2000 rfl fun H12 e12 => ?_))⟩
      refine Or.inl ⟨rfl, ?_⟩
      have dd : decide (V.bl (decide (q = 0)) = V.bl (decide (q = ((0 : Int) : Rat)))) = true := decide_eq_true rfl
      rw [dd]
      refine ⟨_, rfl, iteT ?_⟩
      have e1012 := e11.trans e12
      refine ⟨_, rfl, ⟨rfl, _, rfl, _, rfl, ⟨_, _, rfl, Or.inr ⟨q, num_r (hr10.same e1012), zq9, q0, Or.inr ⟨c, rfl, fun z2 H13 e13 hz2 => ?_⟩⟩⟩⟩⟩
      refine Or.inr (Or.inl (zeq T G_Zooms___eq__ (hr.mono (by decide)) ((hz10.same e1012).same e13) hz2 okz (r := true) (Or.inr ⟨rfl, rfl, rfl, rfl⟩) fun H14 e14 => ?_))
      have eT := (((e9.trans ee).trans e1012).trans e13).trans e14
      exact k _ (PenAt.mono (hp8.up eT) (by omega)) (u08.trans (Up.same eT))
end

end AZ
namespace AZ
open PySem L2
/-! ## the law: between -/
theorem hasZ_between {l h x : Rat} {c e : Bool} (l0 : 0 ≤ l) (x0 : x > 0) (o : btwO l h c e = false) : hasZ (btw l h c e) (btwF l h) x = (decide (l < x) && decide (x < h) || decide (x = l) && c || decide (x = h) && e) := by
  unfold btwO at o
  have o1 : ¬ l > h := of_decide_eq_false (Bool.or_eq_false_iff.mp o).1
  have o2 := (Bool.or_eq_false_iff.mp o).2
  unfold hasZ btw btwF upto
  by_cases q : l = h
  · subst q
    rw [decide_eq_true rfl, Bool.true_and] at o2
    have o3 : c = true ∧ e = true := by
      cases c <;> cases e <;> simp_all
    obtain ⟨rfl, rfl⟩ := o3
    rw [if_pos rfl, if_pos rfl]
    by_cases p : l ≤ x
    · rw [List.takeWhile_cons_of_pos (by simpa using p)]
      simp only [List.takeWhile_nil, List.length_cons, List.length_nil, List.take_succ_cons, List.take_nil, List.getLast?_singleton]
      by_cases e : l = x
      · subst e
        simp
      · have h1 : ¬ x = l := fun z => e z.symm
        have h2 : ¬ x < l := by grind
        simp [e, h1, h2]
    · rw [List.takeWhile_cons_of_neg (by simpa using p)]
      have h1 : ¬ x = l := by grind
      have h2 : ¬ l < x := by grind
      simp [h1, h2]
  · have lt : l < h := by grind
    rw [if_neg q, if_neg q]
    unfold bey
    by_cases p : l > 0
    · rw [if_pos p, decide_eq_false (fun n => n p)]
      by_cases a : l ≤ x
      · by_cases b : h ≤ x
        · rw [List.cons_append, List.nil_append, List.takeWhile_cons_of_pos (by simpa using a), List.takeWhile_cons_of_pos (by simpa using b)]
          have h1 : ¬ x = l := by grind
          have h2 : ¬ x < h := by grind
          by_cases e2 : h = x
          · subst e2
            simp [h1]
          · have h3 : ¬ x = h := fun z => e2 z.symm
            simp [h1, h2, h3, e2]
        · rw [List.cons_append, List.nil_append, List.takeWhile_cons_of_pos (by simpa using a), List.takeWhile_cons_of_neg (by simpa using b)]
          have h1 : ¬ x = h := by grind
          have h2 : x < h := by grind
          by_cases e2 : l = x
          · subst e2
            simp [h1]
          · have h3 : ¬ x = l := fun z => e2 z.symm
            have h4 : l < x := by grind
            simp [h1, h2, h3, h4, e2]
      · rw [List.cons_append, List.takeWhile_cons_of_neg (by simpa using a)]
        have h1 : ¬ x = l := by grind
        have h2 : ¬ x = h := by grind
        have h3 : ¬ l < x := by grind
        simp [h1, h2, h3]
    · rw [if_neg p, decide_eq_true p, List.nil_append]
      have h0 : l < x := by grind
      have h9 : ¬ x = l := by grind
      by_cases b : h ≤ x
      · rw [List.takeWhile_cons_of_pos (by simpa using b)]
        have h2 : ¬ x < h := by grind
        by_cases e2 : h = x
        · subst e2
          simp [h9]
        · have h3 : ¬ x = h := fun z => e2 z.symm
          simp [h9, h2, h3, e2]
      · rw [List.takeWhile_cons_of_neg (by simpa using b)]
        have h1 : ¬ x = h := by grind
        have h2 : x < h := by grind
        simp [h0, h1, h2, h9]
theorem IsRat.ext {C a : Addr} {H H' : Hp} {q : Rat} (h : IsRat C H a q) (e : LamX.ExtN H H') : IsRat C H' a q := let ⟨dx, x⟩ := h; ⟨dx, e _ _ x fun _ z => nomatch z⟩
theorem ends_two (x y : Rat) : endOf false x [y] = (if y < x then y else x) ∧ endOf true x [y] = (if y > x then y else x) := by
  constructor
  · show (if (if false = true then decide (y > x) else decide (y < x)) = true then y else x) = _
    rw [if_neg Bool.false_ne_true]
    by_cases h : y < x
    · rw [if_pos (decide_eq_true h), if_pos h]
    · rw [if_neg (fun z => h (of_decide_eq_true z)), if_neg h]
  · show (if (if true = true then decide (y > x) else decide (y < x)) = true then y else x) = _
    rw [if_pos rfl]
    by_cases h : y > x
    · rw [if_pos (decide_eq_true h), if_pos h]
    · rw [if_neg (fun z => h (of_decide_eq_true z)), if_neg h]
/-- the wish of a caught error of sets -/
abbrev CaughtZ (CB : Addr) (part : Str) (H : Hp) : XK := fun cls dd H' => cls = .ref CB ∧ ∃ dx, dd = some dx ∧ Same H H' ∧ H' dx = some (.xd [("part", .str part)])
theorem caughtZ_rai {CB : Addr} {part : Str} {H H1 : Hp} (e : Same H H1) : RaiZ CB part H1 (CaughtZ CB part H) := fun H' dx s n => ⟨rfl, dx, rfl, (e.trans s).trans (sameNew n), upd_same⟩
-- lambdas' tables
abbrev lamQ1 : Str := (PyProof.Rows.envOfC "_law_between_right" (defScope s__law_between_right) 0 0 .none).qual ++ "<lambda>"
abbrev lamQ2 : Str := (PyProof.Rows.envOfC "_law_refused_right" (defScope s__law_refused_right) 0 0 .none).qual ++ "<lambda>"
abbrev lamQ3 : Str := (PyProof.Rows.envOfC "law" (defScope s_law) 0 0 .none).qual ++ "<lambda>"
abbrev lamT (d : Ad) : List (Addr × Str) := [(d.cp__law_between_right, lamQ1), (d.cp__law_refused_right, lamQ2), (d.cp_law, lamQ3)]
def spPenL2 (d : Ad) : Sp := fun vs H Q _ => ∃ p n, vs = [.ref p] ∧ PenAt H p n ∧ n < 90000 ∧ LamX.Tabs (lamT d) H ∧ ∀ H', PenAt H' p (n + 20) → LamX.Tabs (lamT d) H' → Q (.bl true) H'
section
variable {P : Program} {w : World} {K : PySem.W.Frag} {mg : Str → Option Value} {base : Heap} {d : Ad}
theorem lamU1 (T : Tx K mg d) : ∀ p ∈ lamT d, p.1 = d.cp__law_between_right → p.2 = lamQ1 := fun p hp e => by
  simp only [List.mem_cons, List.not_mem_nil, or_false] at hp
  rcases hp with rfl | rfl | rfl
  · rfl
  · exact absurd e.symm T.dn__law_between_right____law_refused_right
  · exact absurd e T.dn_law____law_between_right
theorem lamU2 (T : Tx K mg d) : ∀ p ∈ lamT d, p.1 = d.cp__law_refused_right → p.2 = lamQ2 := fun p hp e => by
  simp only [List.mem_cons, List.not_mem_nil, or_false] at hp
  rcases hp with rfl | rfl | rfl
  · exact absurd e T.dn__law_between_right____law_refused_right
  · rfl
  · exact absurd e T.dn_law____law_refused_right
theorem lamU3 (T : Tx K mg d) : ∀ p ∈ lamT d, p.1 = d.cp_law → p.2 = lamQ3 := fun p hp e => by
  simp only [List.mem_cons, List.not_mem_nil, or_false] at hp
  rcases hp with rfl | rfl | rfl
  · exact absurd e.symm T.dn_law____law_between_right
  · exact absurd e.symm T.dn_law____law_refused_right
  · rfl
theorem G__law_between_right (T : Tx K mg d) (TB : LamX.TabB base mg d.cc__law_between_right d.cp__law_between_right) : FnG P w K mg base CX0 18 d._law_between_right (spPenL2 d) := by
  have G__law_draw := G__law_draw (P := P) (w := w) (base := base) T
  have G__law_number := G__law_number (P := P) (w := w) (base := base) T
  have G__law_beside := G__law_beside (P := P) (w := w) (base := base) T
  have G_Ratio_of : FnR P w K mg base CX0 4 d.Ratio_of (spOf d.Ratio) := G_Ratio_of T
  have G_Ratio_highest := G_Ratio_highest (P := P) (w := w) (base := base) T
  have G_Ratio_lowest := G_Ratio_lowest (P := P) (w := w) (base := base) T
  have G_Ratio_divided := G_Ratio_divided (P := P) (w := w) (base := base) T
  have GK_Zooms_between := GK_Zooms_between (P := P) (w := w) (base := base) T
  have GX_Zooms_between := GX_Zooms_between (P := P) (w := w) (base := base) T
  have G_Zooms___contains__ := G_Zooms___contains__ (P := P) (w := w) (base := base) T
  have G_Zooms___eq__ := G_Zooms___eq__ (P := P) (w := w) (base := base) T
  have G_Zooms___bool__ := G_Zooms___bool__ (P := P) (w := w) (base := base) T
  have G_add : FnR P w K mg base CX0 5 d.Ratio___add__ (spBin d.Ratio (· + ·)) := G_Ratio___add__ T
  have G_gt : FnR P w K mg base CX0 5 d.Ratio___gt__ (spCmp d.Ratio fun x y => decide (x > y)) := G_Ratio___gt__ T
  have G_lt : FnR P w K mg base CX0 5 d.Ratio___lt__ (spCmp d.Ratio fun x y => decide (x < y)) := G_Ratio___lt__ T
  have G_eq : FnR P w K mg base CX0 2 d.Ratio___eq__ (spCmp d.Ratio fun x y => decide (x = y)) := G_Ratio___eq__ T
  obtain ⟨fdH, Fh⟩ := T.F__law_heard
  have hbH := Fh.binds (ps := ["_law_ask"]) fun _ _ _ _ _ _ us hl => match us, hl with | [_], _ => rfl
  obtain ⟨ocH, odH, kVH, docH, pmH, anH, cdvH, ctH, oslH, rfl, lkH, cgH⟩ := Fh.ex
  obtain ⟨fd, F⟩ := T.F__law_between_right
  refine fnC_of (k := 17) F sc__law_between_right (sp := spPenL2 d) (fun vs H Q E h => ?_) (fun cdv A outer s H vs Q E hcode ng hr h => ?_) (F.binds fun _ _ _ _ _ _ us hl => match us, hl with | [_], _ => rfl)
  · obtain ⟨p, n, rfl, _⟩ := h
    rfl
  · obtain ⟨p, n, rfl, hp, hn, tabs, k⟩ := h
    have hc := T.tab__law_between_right.code_eq hcode
    subst hc
    -- slots: 0 _law_pen_here, 1 _law_ends, 2 _law_low, 3 _law_high, 4 _law_is_low, 5 _law_is_high, 6 _law_heard_here, 7 _law_found, 8 _law_zoom, 9 _law_due
    refine ⟨_, (pss_cons (ps_set (i := 1) sc__law_between_right.nd rfl (Or.inl rfl) (pe_lst (pa_cons (pe_smeth (pe_glob (v := .ref _) rfl T.m_Ratio rfl) T.s_Ratio_of G_Ratio_of (hr.mono (by decide)) pass0 (pa_cons (pe_fnR G__law_number (hr.mono (by decide)) T.k__law_number T.m__law_number pass0 (pa_cons (pv 0) pa_nil)) pa_nil)) (pa_cons (pe_smeth (pe_glob (v := .ref _) rfl T.m_Ratio rfl) T.s_Ratio_of G_Ratio_of (hr.mono (by decide)) pass0 (pa_cons (pe_fnR G__law_number (hr.mono (by decide)) T.k__law_number T.m__law_number pass0 (pa_cons (pv 0) pa_nil)) pa_nil)) pa_nil))))
      (pss_cons (ps_asg (pe_tup (pa_cons (pe_smeth (pe_glob (v := .ref _) rfl T.m_Ratio rfl) T.s_Ratio_lowest G_Ratio_lowest (hr.mono (by decide)) pass0 (pa_cons (pv 1) pa_nil)) (pa_cons (pe_smeth (pe_glob (v := .ref _) rfl T.m_Ratio rfl) T.s_Ratio_highest G_Ratio_highest (hr.mono (by decide)) pass0 (pa_cons (pv 1) pa_nil)) pa_nil))) (pg_tup (by rfl) (pgs_cons (pg_name (i := 2) sc__law_between_right.nd rfl (Or.inr rfl)) (pgs_cons (pg_name (i := 3) sc__law_between_right.nd rfl (Or.inr rfl)) pgs_nil))))
      (pss_cons (ps_asg (pe_tup (pa_cons (pe_cmpR (uEq hr.units) (pe_fnR G__law_draw (hr.mono (by decide)) T.k__law_draw T.m__law_draw pass0 (pa_cons (pv 0) (pa_cons pe_int pa_nil))) pe_int (nomark _)) (pa_cons (pe_cmpR (uEq hr.units) (pe_fnR G__law_draw (hr.mono (by decide)) T.k__law_draw T.m__law_draw pass0 (pa_cons (pv 0) (pa_cons pe_int pa_nil))) pe_int (nomark _)) pa_nil))) (pg_tup (by rfl) (pgs_cons (pg_name (i := 4) sc__law_between_right.nd rfl (Or.inr rfl)) (pgs_cons (pg_name (i := 5) sc__law_between_right.nd rfl (Or.inr rfl)) pgs_nil))))
      (pss_cons (ps_set (i := 6) sc__law_between_right.nd rfl (Or.inl rfl) (pe_lamG (k := 14) (t := fun E => tSM d.Zooms (spBtw K d.Ratio d.Zooms d.BadZooms) E (tC (.ref d.Zooms)) (tCons (tVar 3) (tCons (tVar 2) (tCons (tVar 4) (tCons (tVar 5) tNil))))) (T := lamT d) (TT := TTz d.BadZooms) ng rfl T.m__law_heard T.k__law_heard lkH cgH hbH sc__law_heard rfl (Or.inl rfl) (heardZ T) TB rfl (List.mem_cons_self ..) (lamU1 T) (hr.mono (by decide)) (LamX.lamS_by (sc := defScope s__law_between_right) (by decide +kernel)) rfl (fun _ _ _ _ _ => rfl) (fun A outer s H E f c' ng hr => pe_smethG (pe_glob (v := .ref _) rfl T.m_Zooms rfl) T.s_Zooms_between GX_Zooms_between ng (hr.mono (by decide)) (on (takes_of rfl rfl rfl rfl)) (pa_cons (pv 3) (pa_cons (pv 2) (pa_cons (pv 4) (pa_cons (pv 5) pa_nil)))))))
      (pss_cons (ps_if (PW.pt (pw_and (pt_cmpR (uEq hr.units) (pv 2) (pv 3) (nomark _)) (pw_and1 (pt_not (PW.pt (pw_and (pt_val (pv 4)) (pw_and (pt_val (pv 5)) (pw_and1 (pt_cmpR uGt (pv 2) pe_int (nomark _)))))))))) (pss_one (ps_ret (pe_cmpR (uEq hr.units) (pv 6) pe_str (nomark _)))) pss_nil)
      (pss_cons (ps_if (pt_cmpR (uNe hr.units) (pv 6) (pe_ifExp (pt_cmpR (uEq hr.units) (pv 2) (pv 3) (nomark _)) pe_str pe_str) (nomark _)) (pss_one (ps_ret pe_bl)) pss_nil)
      (pss_cons (ps_set (i := 7) sc__law_between_right.nd rfl (Or.inl rfl) (pe_smethGk (pe_glob (v := .ref _) rfl T.m_Zooms rfl) T.s_Zooms_between GK_Zooms_between ng (hr.mono (by decide)) passF (pk_cons (pv 5) (pk_cons (pv 4) (pk_cons (pv 3) (pk_cons (pv 2) pk_nil))))))
      (pss_cons (ps_for PassesOwn.never rfl (pi_list (pe_op uAdd (pe_op uAdd (pe_fnR G__law_beside (hr.mono (by decide)) T.k__law_beside T.m__law_beside pass0 (pa_cons (pv 2) pa_nil)) (pe_fnR G__law_beside (hr.mono (by decide)) T.k__law_beside T.m__law_beside pass0 (pa_cons (pv 3) pa_nil))) (pe_lst (pa_cons (pe_mR (pe_op uAdd (pv 2) (pv 3)) T.c_Ratio T.h_Ratio_divided G_Ratio_divided (hr.mono (by decide)) pass0 (pa_cons pe_int pa_nil)) pa_nil)))) (pg_name (i := 8) sc__law_between_right.nd rfl (Or.inl rfl)) (pss_cons (ps_set (i := 9) sc__law_between_right.nd rfl (Or.inl rfl) (pe_or (pe_chain uLt uLt (pv 2) (pv 8) (pv 3)) (pe_or (pe_and (pe_cmpR (uEq hr.units) (pv 8) (pv 2) (nomark _)) (pe_one (pv 4))) (pe_one (pe_and (pe_cmpR (uEq hr.units) (pv 8) (pv 3) (nomark _)) (pe_one (pv 5)))))))
      (pss_one (ps_if (PW.pt (pw_and (pt_cmpR uGt (pv 8) pe_int (nomark _)) (pw_and1 (pt_cmpR (uNe hr.units) (pe_cmpR (op_inO T.in_Zooms (FnG.of G_Zooms___contains__) ng (hr.mono (by decide)) pass0) (pv 8) (pv 7) rfl) (pv 9) (nomark _))))) (pss_one (ps_ret pe_bl)) pss_nil))))
      (pss_one (ps_ret (pe_and (pe_cmpR (uEq hr.units) (pv 7) (pe_smethG (pe_glob (v := .ref _) rfl T.m_Zooms rfl) T.s_Zooms_between GX_Zooms_between ng (hr.mono (by decide)) passF (pa_cons (pv 2) (pa_cons (pv 3) (pa_cons (pv 4) (pa_cons (pv 5) pa_nil))))) (nomark _)) (pe_one (pe_callTy uBool (by rfl) T.n_bool (by decide +kernel) (pa_cons (pv 7) pa_nil)))))))))))))), ?_⟩
    have dz : ∀ j : Int, decide (V.int j = V.int 0) = decide (j = 0) := fun j => decide_eq_decide.mpr ⟨fun h => by injection h, fun h => by rw [h]⟩
    refine ⟨rfl, _, rfl, ⟨p, n, rfl, hp, by omega, fun v1 x1 H1 hv1 a0 az hp1 u1 => ⟨v1, x1, rfl, hv1, fun r1 H2 e2 hr1 => ?_⟩⟩⟩
    refine ⟨rfl, _, rfl, ⟨p, n + 4, rfl, hp1.up e2, by omega, fun v2 x2 H3 hv2 b0 bz hp3 u3 => ⟨v2, x2, rfl, hv2, fun r2 H4 e4 hr2 => ?_⟩⟩⟩
    refine ⟨by show 2 ≤ sizeLine; decide, fun l hl => ?_⟩
    have s5 := sameNew (o := HO.lst [.ref r1, .ref r2]) hl
    have hr1 := ((hr1.up u3).same e4).same s5
    have hr2 := hr2.same s5
    have hp5 := (hp3.up e4).up s5
    have tabs := LamX.Tabs.ext (Tabs.up (LamX.Tabs.ext (Tabs.up tabs u1) e2) u3) (e4.trans s5)
    have l5 : upd H4 l (HO.lst [.ref r1, .ref r2]) l = some (.lst [.ref r1, .ref r2]) := upd_same
    clear hv1 hv2 hp1 hp3 u1 u3 e2 e4
    generalize upd H4 l (HO.lst [.ref r1, .ref r2]) = H5 at hr1 hr2 hp5 tabs l5 ⊢
    clear s5 hl
    try dsimp only [tNext, gName, List.set, L2.start]
    have nums : Nums d.Ratio H5 [.ref r1, .ref r2] [x1, x2] := .cons (num_r hr1) (.cons (num_r hr2) .nil)
    have zz : ∀ x ∈ [x1, x2], Sz 2000 x := fun x hx => by
      simp only [List.mem_cons, List.not_mem_nil, or_false] at hx
      rcases hx with rfl | rfl
      · exact sz_mono az (by decide)
      · exact sz_mono bz (by decide)
    refine ⟨rfl, _, rfl, ⟨_, x1, [x2], rfl, ⟨l, false, _, rfl, l5, nums, (by show 2 ≤ 1000; decide)⟩, zz, fun lo H6 e6 hlo => ?_⟩⟩
    refine ⟨rfl, _, rfl, ⟨_, x1, [x2], rfl, ⟨l, false, _, rfl, e6 _ _ l5, nums.same e6, (by show 2 ≤ 1000; decide)⟩, zz, fun hi H7 e7 hhi => ?_⟩⟩
    have q0 : 0 ≤ endOf false x1 [x2] := by rw [(ends_two x1 x2).1]; split <;> assumption
    have zq : Sz 101 (endOf false x1 [x2]) := by rw [(ends_two x1 x2).1]; split <;> assumption
    have zh : Sz 101 (endOf true x1 [x2]) := by rw [(ends_two x1 x2).2]; split <;> assumption
    have le : endOf false x1 [x2] ≤ endOf true x1 [x2] := by rw [(ends_two x1 x2).1, (ends_two x1 x2).2]; split <;> split <;> grind
    have hlo := hlo.same e7
    have hp7 := hp5.up (e6.trans e7)
    have tabs := LamX.Tabs.ext tabs (e6.trans e7)
    generalize endOf false x1 [x2] = q at q0 zq le hlo
    generalize endOf true x1 [x2] = h at zh le hhi
    clear nums zz l5 e6 e7 hr1 hr2 hp5 hp
    have h0 : 0 ≤ h := Rat.le_trans q0 le
    refine ⟨by show 2 ≤ sizeLine; decide, fun t ht => ?_⟩
    have s8 := sameNew (o := HO.tup [.ref lo, .ref hi]) ht
    refine ⟨t, _, rfl, SqT.of upd_same, rfl, _, _, rfl, _, _, rfl, rfl, ?_⟩
    have hlo := hlo.same s8
    have hhi := hhi.same s8
    have hp8 := hp7.up s8
    have tabs := LamX.Tabs.ext tabs s8
    generalize upd H7 t (HO.tup [.ref lo, .ref hi]) = H8 at hlo hhi hp8 tabs ⊢
    clear s8 ht hp7
    try dsimp only [tNext, gName, List.set, L2.start]
    refine ⟨_, rfl, ⟨p, n + 8, 2, rfl, hp8, by omega, by decide, by decide, fun dc H9 dc0 dc1 hp9 u9 => Or.inl ⟨rfl, ?_⟩⟩⟩
    rw [dz]
    refine ⟨_, rfl, ⟨p, n + 9, 2, rfl, hp9, by omega, by decide, by decide, fun de H10 de0 de1 hp10 u10 => Or.inl ⟨rfl, ?_⟩⟩⟩
    rw [dz]
    generalize decide (dc = 0) = c
    generalize decide (de = 0) = e
    have u910 := u9.trans u10
    have hlo := hlo.up u910
    have hhi := hhi.up u910
    have tabs := Tabs.up tabs u910
    refine ⟨by show 2 ≤ sizeLine; decide, fun t ht => ?_⟩
    have s11 := sameNew (o := HO.tup [.bl c, .bl e]) ht
    refine ⟨t, _, rfl, SqT.of upd_same, rfl, _, _, rfl, _, _, rfl, rfl, ?_⟩
    have hlo := hlo.same s11
    have hhi := hhi.same s11
    have hp11 := hp10.up s11
    have tabs := LamX.Tabs.ext tabs s11
    generalize upd H10 t (HO.tup [.bl c, .bl e]) = H11 at hlo hhi hp11 tabs ⊢
    clear s11 ht hp10 hp9 hp8 u9 u10 u910
    try dsimp only [tNext, gName, List.set, L2.start]
    have zq9 : Sz 900 q := sz_mono zq (by decide)
    have zh9 : Sz 900 h := sz_mono zh (by decide)
    have zq2 : Sz 2000 q := sz_mono zq (by decide)
    have zh2 : Sz 2000 h := sz_mono zh (by decide)
    -- what the lambda tells
    let told : Str := if btwO h q c e = true then "order" else "told"
    refine in_asg (via (fun v H' => v = .str told ∧ LamX.ExtN H11 H' ∧ LamX.Tabs (lamT d) H') (fun W kW => ?_) (fun v H12 hv => ?_))
    · refine ⟨tabs, fun H12 eN t1 => ?_⟩
      have hlo := hlo.ext eN
      have hhi := hhi.ext eN
      by_cases ob : btwO h q c e = true
      · have ht : told = "order" := if_pos ob
        refine Or.inl ⟨"order", fun Q' => ?_, fun H' s => kW _ _ ⟨by rw [ht], LamX.ExtN.trans eN (ExtN.same s), LamX.Tabs.ext t1 s⟩⟩
        refine ⟨rfl, _, rfl, _, rfl, _, rfl, _, rfl, ⟨_, _, _, _, rfl, Or.inr ⟨h, num_r hhi, zh9, h0, Or.inr ⟨q, num_r hlo, zq9, q0, Or.inr ⟨c, rfl, Or.inr ⟨e, rfl, Or.inr ⟨hi, rfl, hhi, num_r hlo⟩, Or.inl ⟨ob, caughtZ_rai (Same.refl _)⟩⟩⟩⟩⟩⟩⟩
      · have ht : told = "told" := if_neg ob
        refine Or.inr ⟨fun Q' kQ => ?_, fun H' s => kW _ _ ⟨by rw [ht], LamX.ExtN.trans eN (ExtN.same s), LamX.Tabs.ext t1 s⟩⟩
        refine ⟨rfl, _, rfl, _, rfl, _, rfl, _, rfl, ⟨_, _, _, _, rfl, Or.inr ⟨h, num_r hhi, zh9, h0, Or.inr ⟨q, num_r hlo, zq9, q0, Or.inr ⟨c, rfl, Or.inr ⟨e, rfl, Or.inr ⟨hi, rfl, hhi, num_r hlo⟩, Or.inr ⟨(Bool.not_eq_true _).mp ob, fun z H' s _ => kQ _ _ s⟩⟩⟩⟩⟩⟩⟩
    obtain ⟨rfl, eN, tabs⟩ := hv
    have hlo := hlo.ext eN
    have hhi := hhi.ext eN
    have hp12 := hp11.ext eN
    try dsimp only [tNext, gName]
    refine st_eq (σ' := [some (.ref p), some (.ref l), some (.ref lo), some (.ref hi), some (.bl c), some (.bl e), some (.str told), none, none, none]) rfl ?_
    have o1 : btwO h q c e = (decide (h > q) || decide (q = h) && !(c && e && decide (q > 0))) := by
      unfold btwO
      by_cases eq : q = h
      · subst eq; rfl
      · have n1 : ¬ h = q := fun z => eq z.symm
        simp [eq, n1]
    have o2 : btwO q h c e = (decide (q = h) && !(c && e && decide (q > 0))) := by
      unfold btwO
      have n1 : ¬ q > h := by grind
      simp [n1]
    have z2 : Sz 2000 ((0 : Int) : Rat) := z2000
    refine if_via (decide (q = h) && !(c && e && decide (q > 0))) (fun W kW => ?_) (fun H13 e13 => ite2 (fun hb => ?_) (fun hb => ?_))
    · refine ⟨_, rfl, _, rfl, Or.inr (Or.inl (oc T.q_Ratio_eq G_eq (hr.mono (by decide)) hlo (num_r hhi) zq2 zh2 rfl fun H13 e13 => ⟨_, rfl, ite2 (fun hb => ?_) (fun hb => ?_)⟩))⟩
      · rw [hb, Bool.true_and] at kW
        cases c
        · exact ⟨_, rfl, false, rfl, iteF (kW _ e13)⟩
        refine ⟨_, rfl, true, rfl, iteT ?_⟩
        cases e
        · exact ⟨_, rfl, false, rfl, iteF (kW _ e13)⟩
        refine ⟨_, rfl, true, rfl, iteT ?_⟩
        exact ⟨_, rfl, Or.inr (oc T.q_Ratio_gt G_gt (hr.mono (by decide)) (hlo.same e13) num_i zq2 z2 rfl fun H14 e14 => ⟨_, rfl, kW _ (e13.trans e14)⟩)⟩
      · rw [(Bool.not_eq_true _).mp hb, Bool.false_and] at kW
        exact kW _ e13
    · have ht : told = "order" := if_pos (by rw [o1, hb, Bool.or_true])
      refine ⟨_, rfl, Or.inl ⟨rfl, ?_⟩⟩
      have dd : decide (V.str told = V.str "order") = true := decide_eq_true (by rw [ht])
      rw [dd]
      exact k _ (PenAt.mono (hp12.up e13) (by omega)) (LamX.Tabs.ext tabs e13)
    have ob : btwO q h c e = false := by rw [o2]; exact (Bool.not_eq_true _).mp hb
    have tt : told = (if q = h then "told" else "order") := by
      by_cases eq : q = h
      · rw [if_pos eq]
        refine if_neg ?_
        rw [o1, (Bool.not_eq_true _).mp hb, Bool.or_false, decide_eq_false (by grind)]
        decide
      · rw [if_neg eq]
        refine if_pos ?_
        rw [o1, decide_eq_true (show h > q by grind), Bool.true_or]
    have hlo := hlo.same e13
    have hhi := hhi.same e13
    have hp13 := hp12.up e13
    have tabs := LamX.Tabs.ext tabs e13
    clear e13 hb hp12 hp11 eN
    try dsimp only [tNext, gName, List.set, L2.start]
    refine if_via false (fun W kW => ?_) (fun H14 e14 => iteF' rfl ?_)
    · refine ⟨_, rfl, _, rfl, _, rfl, Or.inr (Or.inl (oc T.q_Ratio_eq G_eq (hr.mono (by decide)) hlo (num_r hhi) zq2 zh2 rfl fun H14 e14 => ⟨_, rfl, ?_⟩))⟩
      have fin : ∀ s : Str, told = s → (!decide (V.str told = V.str s)) = false := fun s h => by rw [h]; simp
      by_cases eq : q = h
      · rw [if_pos eq] at tt
        exact ifT (decide_eq_true eq) (Or.inl ⟨rfl, _, rfl, by rw [fin _ tt]; exact kW _ e14⟩)
      · rw [if_neg eq] at tt
        exact ifF (decide_eq_false eq) (Or.inl ⟨rfl, _, rfl, by rw [fin _ tt]; exact kW _ e14⟩)
    have hlo := hlo.same e14
    have hhi := hhi.same e14
    have hp14 := hp13.up e14
    have tabs := LamX.Tabs.ext tabs e14
    clear e14 hp13
    try dsimp only [tNext, gName, List.set, L2.start]
    refine ⟨rfl, _, rfl, _, rfl, _, rfl, _, rfl, ⟨_, _, _, _, rfl, Or.inr ⟨q, num_r hlo, zq9, q0, Or.inr ⟨h, num_r hhi, zh9, h0, Or.inr ⟨c, rfl, Or.inr ⟨e, rfl, Or.inr ⟨lo, rfl, hlo, num_r hhi⟩, Or.inr ⟨ob, fun z H15 e15 hz => ?_⟩⟩⟩⟩⟩⟩⟩
    have okz := zok2 zq9 zh9 q0 h0 ob (c := c) (e := e)
    have hlo := hlo.same e15
    have hhi := hhi.same e15
    have hp15 := hp14.up e15
    have tabs := LamX.Tabs.ext tabs e15
    clear e15 hp14
    try dsimp only [tNext, gName, List.set, L2.start]
    have zs : Sz 140 stepQ := ⟨by decide +kernel, by decide +kernel⟩
    have z1 : Sz 2 (1 : Rat) := ⟨by decide +kernel, by decide +kernel⟩
    have besz : ∀ y : Rat, Sz 101 y → ∀ x ∈ [y - stepQ, y, y + stepQ, y + 1, y - 1].filter (fun z => decide (z > 0)), Sz 900 x := by
      intro y zy x hx
      obtain ⟨h1, h2⟩ := List.mem_filter.mp hx
      simp only [List.mem_cons, List.not_mem_nil, or_false] at h1
      rcases h1 with rfl | rfl | rfl | rfl | rfl
      · exact sz_mono (sz_sub zy zs) (by decide)
      · exact sz_mono zy (by decide)
      · exact sz_mono (sz_add zy zs) (by decide)
      · exact sz_mono (sz_add zy z1) (by decide)
      · exact sz_mono (sz_sub zy z1) (by decide)
    refine ⟨_, rfl, ⟨lo, q, rfl, hlo, sz_mono zq (by decide), fun lb ys H16 e16 hlb hlbl hys => ?_⟩⟩
    refine ⟨_, rfl, ⟨hi, h, rfl, hhi.same e16, sz_mono zh (by decide), fun lb2 ys2 H17 e17 hlb2 hlbl2 hys2 => ?_⟩⟩
    have yl : ys.length ≤ 5 := by rw [pd_len hys]; exact List.length_filter_le _ _
    have yl2 : ys2.length ≤ 5 := by rw [pd_len hys2]; exact List.length_filter_le _ _
    refine Or.inr (Or.inr (Or.inl ⟨lb, lb2, _, _, rfl, rfl, e17 _ _ hlbl, hlbl2, Nat.le_trans (Nat.add_le_add yl yl2) (by decide), fun l3 hl3 => ?_⟩))
    have s18 := sameNew (o := HO.lst (ys ++ ys2)) hl3
    have l3l := upd_same (H := H17) (a := l3) (o := HO.lst (ys ++ ys2))
    have hR : Rats d.Ratio (upd H17 l3 (HO.lst (ys ++ ys2))) (ys ++ ys2) (([q - stepQ, q, q + stepQ, q + 1, q - 1].filter fun z => decide (z > 0)) ++ [h - stepQ, h, h + stepQ, h + 1, h - 1].filter fun z => decide (z > 0)) :=
      paired_append (Rats.same (e17.trans s18) hys) (Rats.same s18 hys2)
    have zR : ∀ x ∈ ([q - stepQ, q, q + stepQ, q + 1, q - 1].filter fun z => decide (z > 0)) ++ [h - stepQ, h, h + stepQ, h + 1, h - 1].filter fun z => decide (z > 0), Sz 900 x := fun x hx => (List.mem_append.mp hx).elim (besz q zq x) (besz h zh x)
    generalize (([q - stepQ, q, q + stepQ, q + 1, q - 1].filter fun z => decide (z > 0)) ++ [h - stepQ, h, h + stepQ, h + 1, h - 1].filter fun z => decide (z > 0)) = qs at hR zR
    have lR : (ys ++ ys2).length ≤ 10 := by rw [List.length_append]; omega
    generalize ys ++ ys2 = zs2 at hR lR l3l s18 ⊢
    have e1518 := (e16.trans e17).trans s18
    have hlo := hlo.same e1518
    have hhi := hhi.same e1518
    have hp18 := hp15.up e1518
    have tabs := LamX.Tabs.ext tabs e1518
    have hz := hz.same e1518
    generalize upd H17 l3 (HO.lst zs2) = H18 at *
    clear hlb hlbl hys e16 hlb2 hlbl2 hys2 e17 hl3 s18 e1518 hp15
    have zsum : Sz 203 (q + h) := sz_add zq zh
    obtain ⟨dlo, hlo1⟩ := id hlo
    refine ⟨_, rfl, _, rfl, Or.inr (Or.inl (own_bin T.b_Ratio_add G_add (hr.mono (by decide)) hlo (num_r hhi) zq2 zh2 fun ps H19 e19 hps => ?_))⟩
    obtain ⟨dps, hps1⟩ := id hps
    refine ⟨ps, dps, _, rfl, hps1, rfl, ⟨ps, _, q + h, ((2 : Int) : Rat), rfl, hps, num_i, by decide +kernel, sz_mono zsum (by decide), ⟨by decide +kernel, by decide +kernel⟩, fun pm H20 e20 hpm => ?_⟩⟩
    have zmid : Sz 900 ((q + h) / ((2 : Int) : Rat)) := by
      rw [Rat.div_def]
      exact sz_mono (sz_mul (m := 10) zsum ⟨by decide +kernel, by decide +kernel⟩) (by decide)
    refine ⟨by show 1 ≤ sizeLine; decide, fun l1 hl1 => ?_⟩
    have s21 := sameNew (o := HO.lst [.ref pm]) hl1
    have e1821 := (e19.trans e20).trans s21
    refine Or.inr (Or.inr (Or.inl ⟨l3, l1, _, _, rfl, rfl, e1821 _ _ l3l, upd_same, Nat.le_trans (Nat.add_le_add lR (Nat.le_refl 1)) (by decide), fun l4 hl4 => ?_⟩))
    have s22 := sameNew (o := HO.lst (zs2 ++ [.ref pm])) hl4
    have l4l := upd_same (H := upd H20 l1 (HO.lst [.ref pm])) (a := l4) (o := HO.lst (zs2 ++ [.ref pm]))
    have hR := Rats.app (Rats.same (e1821.trans s22) hR) ((hpm.same s21).same s22)
    have zR : ∀ x ∈ qs ++ [(q + h) / ((2 : Int) : Rat)], Sz 900 x := fun x hx => (List.mem_append.mp hx).elim (zR x) fun z => by rw [List.mem_singleton.mp z]; exact zmid
    generalize qs ++ [(q + h) / ((2 : Int) : Rat)] = qs at hR zR
    have e1822 := e1821.trans s22
    have hlo := hlo.same e1822
    have hhi := hhi.same e1822
    have hp22 := hp18.up e1822
    have tabs := LamX.Tabs.ext tabs e1822
    have hz := hz.same e1822
    refine ⟨l4, rfl, ⟨_, SqL.of l4l⟩, ?_⟩
    generalize hG : upd (upd H20 l1 (HO.lst [.ref pm])) l4 (HO.lst (zs2 ++ [.ref pm])) = G at *
    clear hG hps hps1 hpm e19 e20 hl1 s21 e1821 hl4 s22 e1822 hlo1 l3l hp18
    generalize zs2 ++ [.ref pm] = zs at *
    refine for_list (xs := zs) (fun i σ' H' => ∃ z8 z9, σ' = [some (.ref p), some (.ref l), some (.ref lo), some (.ref hi), some (.bl c), some (.bl e), some (.str told), some (.ref z), z8, z9] ∧ Same G H') ⟨none, none, rfl, Same.refl _⟩
      (fun i σ' H' _ h => by obtain ⟨_, _, _, e⟩ := h; exact SqL.of (e _ _ l4l)) (fun i x σ' H' hx hh => ?_) (fun σ' H' hh => ?_)
    · obtain ⟨z8, z9, rfl, eG⟩ := hh
      obtain ⟨y, hy, pn, rfl, rn⟩ := pd_at (hR.same eG) hx
      have zy := zR y (List.mem_of_getElem? hy)
      have zy2 : Sz 2000 y := sz_mono zy (by decide)
      have hloG := hlo.same eG
      have hhiG := hhi.same eG
      dsimp only [gName, List.set]
      refine in_asg (via (fun v H' => v = .bl (decide (q < y) && decide (y < h) || decide (y = q) && c || decide (y = h) && e) ∧ Same G H') (fun W kW => ?_) (fun v H10 hv => ?_))
      · refine orv (decide (q < y) && decide (y < h)) (fun W1 k1 => ?_) (fun H1 e1 hb1 => ?_) (fun H1 e1 hb1 => ?_)
        · refine ⟨_, rfl, _, rfl, Or.inr (oc T.q_Ratio_lt G_lt (hr.mono (by decide)) hloG (num_r rn) zq2 zy2 rfl fun H1 e1 => ⟨_, rfl, ite2 (fun hb => ?_) (fun hb => ?_)⟩)⟩
          · rw [hb, Bool.true_and] at k1
            exact ⟨_, rfl, Or.inr (oc T.q_Ratio_lt G_lt (hr.mono (by decide)) (rn.same e1) (num_r (hhiG.same e1)) zy2 zh2 rfl fun H2 e2 => k1 _ (e1.trans e2))⟩
          · rw [(Bool.not_eq_true _).mp hb, Bool.false_and] at k1
            exact k1 _ e1
        · rw [hb1, Bool.false_or] at kW
          refine orv (decide (y = q) && c) (fun W1 k1 => ?_) (fun H2 e2 hb2 => ?_) (fun H2 e2 hb2 => ?_)
          · refine ⟨_, rfl, _, rfl, Or.inr (Or.inl (oc T.q_Ratio_eq G_eq (hr.mono (by decide)) (rn.same e1) (num_r (hloG.same e1)) zy2 zq2 rfl fun H2 e2 => ⟨_, rfl, ite2 (fun hb => ?_) (fun hb => ?_)⟩))⟩
            · rw [hb, Bool.true_and] at k1
              exact ⟨_, rfl, k1 _ e2⟩
            · rw [(Bool.not_eq_true _).mp hb, Bool.false_and] at k1
              exact k1 _ e2
          · rw [hb2, Bool.false_or] at kW
            have e12 := e1.trans e2
            refine ⟨_, rfl, _, rfl, Or.inr (Or.inl (oc T.q_Ratio_eq G_eq (hr.mono (by decide)) (rn.same e12) (num_r (hhiG.same e12)) zy2 zh2 rfl fun H3 e3 => ⟨_, rfl, ite2 (fun hb => ?_) (fun hb => ?_)⟩))⟩
            · rw [hb, Bool.true_and] at kW
              exact ⟨_, rfl, kW _ _ ⟨rfl, eG.trans (e12.trans e3)⟩⟩
            · rw [(Bool.not_eq_true _).mp hb, Bool.false_and] at kW
              exact kW _ _ ⟨rfl, eG.trans (e12.trans e3)⟩
          · rw [hb2, Bool.true_or] at kW
            exact kW _ _ ⟨rfl, eG.trans (e1.trans e2)⟩
        · rw [hb1, Bool.true_or, Bool.true_or] at kW
          exact kW _ _ ⟨rfl, eG.trans e1⟩
      · obtain ⟨rfl, e10⟩ := hv
        have rn10 := (hR.same e10)
        obtain ⟨y', hy', pn', epn, rn⟩ := pd_at rn10 hx
        rw [hy] at hy'
        injection hy' with hy'
        subst hy'
        injection epn with epn
        subst epn
        have hzG := hz.same e10
        obtain ⟨dz2, rb, rt, rm, zs2, hzi, _⟩ := id hzG
        dsimp only [gName, List.set]
        refine ⟨_, rfl, Or.inr (oc T.q_Ratio_gt G_gt (hr.mono (by decide)) rn num_i zy2 z2000 rfl fun H11 e11 => ⟨_, rfl, ite2 (fun hb => ?_) (fun hb => ?_)⟩)⟩
        · have y0 : y > 0 := of_decide_eq_true hb
          refine ⟨_, rfl, _, rfl, ⟨z, dz2, _, rfl, e11 _ _ hzi, ⟨z, _, h, _, _, y, rfl, hzG.same e11, okz, num_r (rn.same e11), zy, y0, fun H12 e12 => ⟨_, rfl, ?_⟩⟩⟩⟩
          rw [hasZ_between q0 y0 ob]
          exact ⟨_, rfl, Or.inl ⟨rfl, _, rfl, ifF (by simp) ⟨_, _, rfl, (e10.trans e11).trans e12⟩⟩⟩
        · exact ifF rfl ⟨_, _, rfl, e10.trans e11⟩
    · obtain ⟨z8, z9, rfl, eG⟩ := hh
      have hzG := hz.same eG
      have hloG := hlo.same eG
      have hhiG := hhi.same eG
      refine ⟨_, rfl, ⟨rfl, _, rfl, _, rfl, _, rfl, _, rfl, ⟨_, _, _, _, rfl, Or.inr ⟨q, num_r hloG, zq9, q0, Or.inr ⟨h, num_r hhiG, zh9, h0, Or.inr ⟨c, rfl, Or.inr ⟨e, rfl, Or.inr ⟨lo, rfl, hloG, num_r hhiG⟩, Or.inr ⟨ob, fun z2 H13 e13 hz2 => ?_⟩⟩⟩⟩⟩⟩⟩⟩
      refine Or.inr (Or.inl (zeq T G_Zooms___eq__ (hr.mono (by decide)) (hzG.same e13) hz2 okz (r := true) (Or.inr ⟨rfl, rfl, rfl, rfl⟩) fun H14 e14 => ?_))
      refine ⟨_, rfl, iteT ?_⟩
      have eT := (eG.trans e13).trans e14
      have hzT := hz.same eT
      obtain ⟨dz2, rb, rt, rm, zs2, hzi, _⟩ := id hzT
      refine ⟨_, rfl, Or.inr ⟨_, rfl, z, d.Zooms, dz2, _, _, CX0, 1, _, E0, rfl, hzi, T.bo_Zooms, G_Zooms___bool__, (hr.mono (by decide)), pass0, ⟨z, h, _, _, rfl, hzT, ?_⟩⟩⟩
      have bt : (btwF q h || !(btw q h c e).isEmpty) = true := by
        unfold btw
        split <;> simp
      refine ⟨_, rfl, ?_⟩
      show Q (.bl (btwF q h || !(btw q h c e).isEmpty)) H14
      rw [bt]
      exact k _ (PenAt.mono (hp22.up eT) (by omega)) (LamX.Tabs.ext tabs eT)
end

end AZ
namespace AZ
open PySem L2
/-! ## the law: what is refused -/
abbrev spBtw2 (K : PySem.W.Frag) (C D CB : Addr) : Sp := fun vs H Q E => spBtw K C D CB (vs ++ [.bl true, .bl true]) H Q E
section
variable {P : Program} {w : World} {K : PySem.W.Frag} {mg : Str → Option Value} {base : Heap} {d : Ad}
theorem odd_pl (T : Tx K mg d) {t l r : Addr} {x : V} (hx : x ∈ [V.non, .int (-1), .bl true, .str "1", .ref t, .ref l, .ref r]) {H : Hp} (h1 : H t = some (.tup [.int 1])) (h2 : H l = some (.lst [])) (h3 : IsRat d.Ratio H r (Rat.divInt (-1) 3)) : NotPl K d.Ratio H x := by
  simp only [List.mem_cons, List.not_mem_nil, or_false] at hx
  rcases hx with rfl | rfl | rfl | rfl | rfl | rfl | rfl
  · exact Or.inl ⟨_, ⟨_, .base .non, T.i_NoneType_is_Ratio, T.w_Ratio_NoneType, _, _, T.i_NoneType_is_int, T.i_NoneType_is_bool, rfl⟩, .dp .non rfl, by decide +kernel, by decide +kernel, by decide +kernel⟩
  · exact Or.inr ⟨_, num_i, ⟨by decide +kernel, by decide +kernel⟩, by decide +kernel⟩
  · exact Or.inl ⟨_, ⟨_, .base (.bl _), T.i_bool_is_Ratio, T.w_Ratio_bool, _, _, T.i_bool_is_int, T.i_bool_is_bool, rfl⟩, .dp (.bl _) rfl, by decide +kernel, by decide +kernel, by decide +kernel⟩
  · exact Or.inl ⟨_, ⟨_, .base (.str _), T.i_str_is_Ratio, T.w_Ratio_str, _, _, T.i_str_is_int, T.i_str_is_bool, rfl⟩, .dp (.str _) rfl, by decide +kernel, by decide +kernel, by decide +kernel⟩
  · exact Or.inl ⟨_, ⟨_, .base (.tup h1), T.i_tuple_is_Ratio, T.w_Ratio_tuple, _, _, T.i_tuple_is_int, T.i_tuple_is_bool, rfl⟩, .dp (.tup (SqT.of h1) (.cons (.int 1) .nil)) rfl, by decide +kernel, by decide +kernel, by decide +kernel⟩
  · exact Or.inl ⟨_, ⟨_, .base (.lst h2), T.i_list_is_Ratio, T.w_Ratio_list, _, _, T.i_list_is_int, T.i_list_is_bool, rfl⟩, .dp (.lst (SqL.of h2) .nil) rfl, by decide +kernel, by decide +kernel, by decide +kernel⟩
  · exact Or.inr ⟨_, num_r h3, ⟨by decide +kernel, by decide +kernel⟩, by decide +kernel⟩
theorem bad_bo (T : Tx K mg d) {t l : Addr} {x : V} (hx : x ∈ [V.non, .int 0, .int 1, .str "in", .ref t, .ref l]) {H : Hp} (h1 : H t = some (.tup [])) (h2 : H l = some (.lst [])) : NotBo K H x := by
  simp only [List.mem_cons, List.not_mem_nil, or_false] at hx
  rcases hx with rfl | rfl | rfl | rfl | rfl | rfl
  · exact ⟨_, .base .non, T.i_NoneType_is_bool⟩
  · exact ⟨_, .base (.int _), T.i_int_is_bool⟩
  · exact ⟨_, .base (.int _), T.i_int_is_bool⟩
  · exact ⟨_, .base (.str _), T.i_str_is_bool⟩
  · exact ⟨_, .base (.tup h1), T.i_tuple_is_bool⟩
  · exact ⟨_, .base (.lst h2), T.i_list_is_bool⟩
/-- while the list at lh grows -/
structure Grow (d : Ad) (p lp n lh t0 l0 x t1 l1 : Addr) (xs : List V) (H : Hp) : Prop where
  list : H lh = some (.lst xs)
  pen : PenL H p lp n
  tabs : LamX.Tabs (lamT d) H
  a : H t0 = some (.tup [.int 1])
  b : H l0 = some (.lst [])
  c : IsRat d.Ratio H x (Rat.divInt (-1) 3)
  e : H t1 = some (.tup [])
  f : H l1 = some (.lst [])
  ne : lh ≠ p ∧ lh ≠ lp ∧ lh ≠ l0 ∧ lh ≠ l1
theorem Grow.step {p lp n lh t0 l0 x t1 l1 : Addr} {xs : List V} {H H' : Hp} (g : Grow d p lp n lh t0 l0 x t1 l1 xs H) (e : LamX.ExtN H H') (t : LamX.Tabs (lamT d) H') (v : V) : Grow d p lp n lh t0 l0 x t1 l1 (xs ++ [v]) (upd H' lh (.lst (xs ++ [v]))) := by
  have hl : H' lh = some (.lst xs) := e _ _ g.list fun _ z => nomatch z
  have u : Up lh H' (upd H' lh (.lst (xs ++ [v]))) := Up.put hl
  obtain ⟨n1, n2, n3, n4⟩ := g.ne
  refine ⟨upd_same, ?_, Tabs.up t u, u.tup (e _ _ g.a fun _ z => nomatch z), u.lst (e _ _ g.b fun _ z => nomatch z) n3.symm, (g.c.ext e).up u, u.tup (e _ _ g.e fun _ z => nomatch z), u.lst (e _ _ g.f fun _ z => nomatch z) n4.symm, g.ne⟩
  obtain ⟨ns, a, b, h1, h2, h3, h4, h5, h6⟩ := g.pen
  exact ⟨ns, a, b, h1, u.lst (e _ _ h2 fun _ z => nomatch z) n1.symm, u.lst (e _ _ h3 fun _ z => nomatch z) n2.symm, h4, h5, h6⟩
theorem app_z {K : PySem.W.Frag} {t : XK → TE} {σ : L2.St} {D : Ends} {H : Hp} {lh : Addr} {xs : List V} {i : Nat} {s : Str} {TT : (XK → Hp → VK → Prop) → Hp → VK → Prop} (h3 : σ[i]? = some (some (.ref lh))) (hl : H lh = some (.lst xs)) (tb : LamX.Tabs (lamT d) H)
    (h : ∀ H1 (Q' : VK), LamX.ExtN H H1 → LamX.Tabs (lamT d) H1 → (∀ H', Same H1 H' → Q' (.str s) H') → TT (fun E H' Q' => t E σ H' Q') H1 Q') (hz : xs.length < 1000)
    (k : ∀ H', LamX.ExtN H H' → LamX.Tabs (lamT d) H' → D.nx σ (upd H' lh (.lst (xs ++ [.str s])))) : tDrop (tBM K "list" rAppend (tVar i) (tCons (LamX.tLam (lamT d) TT t) tNil)) D σ H :=
  ⟨_, h3, .inl ⟨rfl, _, SqL.of hl⟩, ⟨tb, fun H1 eN t1 => h H1 _ eN t1 fun H' e => ⟨lh, xs, _, rfl, rfl, (LamX.ExtN.trans eN (ExtN.same e)) _ _ hl (fun _ z => nomatch z), Nat.lt_trans hz (by decide), k H' (LamX.ExtN.trans eN (ExtN.same e)) (LamX.Tabs.ext t1 e)⟩⟩⟩
theorem go_sd {t u : TS} {D : Ends} {σ : L2.St} {H : Hp} (h : t { D with nx := u D } σ H) : tSeq t u D σ H := h
/-- a lambda that is refused -/
theorem hear_z {part : Str} {t : XK → Hp → VK → Prop} {H1 : Hp} {Q' : VK} (h : ∀ Q2, t (CaughtZ d.BadZooms part H1) H1 Q2) (k : ∀ H', Same H1 H' → Q' (.str part) H') : TTz d.BadZooms t H1 Q' := Or.inl ⟨part, h, k⟩
theorem G__law_refused_right (T : Tx K mg d) (TB : LamX.TabB base mg d.cc__law_refused_right d.cp__law_refused_right) : FnG P w K mg base CX0 18 d._law_refused_right (spPenL2 d) := by
  have G__law_pick := G__law_pick (P := P) (w := w) (base := base) T
  have G_Ratio___init__ : FnR P w K mg base CX0 2 d.Ratio___init__ _ := G_Ratio___init__ T
  have GX_Zooms_between := GX_Zooms_between (P := P) (w := w) (base := base) T
  have GX2_Zooms_between := GX2_Zooms_between (P := P) (w := w) (base := base) T
  have GX_Zooms_beyond := GX_Zooms_beyond (P := P) (w := w) (base := base) T
  obtain ⟨fdH, Fh⟩ := T.F__law_heard
  have hbH := Fh.binds (ps := ["_law_ask"]) fun _ _ _ _ _ _ us hl => match us, hl with | [_], _ => rfl
  obtain ⟨ocH, odH, kVH, docH, pmH, anH, cdvH, ctH, oslH, rfl, lkH, cgH⟩ := Fh.ex
  obtain ⟨fd, F⟩ := T.F__law_refused_right
  refine fnC_of (k := 17) F sc__law_refused_right (sp := spPenL2 d) (fun vs H Q E h => ?_) (fun cdv A outer s H vs Q E hcode ng hr h => ?_) (F.binds fun _ _ _ _ _ _ us hl => match us, hl with | [_], _ => rfl)
  · obtain ⟨p, n, rfl, _⟩ := h
    rfl
  · obtain ⟨p, n, rfl, hp, hn, tabs, k⟩ := h
    have hc := T.tab__law_refused_right.code_eq hcode
    subst hc
    -- slots: 0 _law_pen_here, 1 _law_odd, 2 _law_bad, 3 _law_heard_here
    refine ⟨_, (pss_cons (ps_asg (pe_tup (pa_cons (pe_fnR G__law_pick (hr.mono (by decide)) T.k__law_pick T.m__law_pick pass0 (pa_cons (pv 0) (pa_cons (pe_lst (pa_cons pe_non (pa_cons (pe_un uNeg pe_int) (pa_cons pe_bl (pa_cons pe_str (pa_cons (pe_tup (pa_cons pe_int pa_nil)) (pa_cons (pe_lst pa_nil) (pa_cons (StX.pe_makeR T.mk_Ratio G_Ratio___init__ (hr.mono (by decide)) rfl T.m_Ratio pass0 (pa_cons (pe_un uNeg pe_int) (pa_cons pe_int pa_nil))) pa_nil)))))))) pa_nil))) (pa_cons (pe_fnR G__law_pick (hr.mono (by decide)) T.k__law_pick T.m__law_pick pass0 (pa_cons (pv 0) (pa_cons (pe_lst (pa_cons pe_non (pa_cons pe_int (pa_cons pe_int (pa_cons pe_str (pa_cons (pe_tup pa_nil) (pa_cons (pe_lst pa_nil) pa_nil))))))) pa_nil))) pa_nil))) (pg_tup (by rfl) (pgs_cons (pg_name (i := 1) sc__law_refused_right.nd rfl (Or.inr rfl)) (pgs_cons (pg_name (i := 2) sc__law_refused_right.nd rfl (Or.inr rfl)) pgs_nil))))
      (pss_cons (ps_set (i := 3) sc__law_refused_right.nd rfl (Or.inl rfl) (pe_lst (pa_cons (pe_lamG (k := 14) (t := fun E => tSM d.Zooms (spBtw K d.Ratio d.Zooms d.BadZooms) E (tC (.ref d.Zooms)) (tCons (tVar 1) (tCons (tVar 1) (tCons (tVar 2) (tCons (tVar 2) tNil))))) (T := lamT d) (TT := TTz d.BadZooms) ng rfl T.m__law_heard T.k__law_heard lkH cgH hbH sc__law_heard rfl (Or.inl rfl) (heardZ T) TB rfl (List.mem_cons_of_mem _ (List.mem_cons_self ..)) (lamU2 T) (hr.mono (by decide)) (LamX.lamS_by (sc := defScope s__law_refused_right) (by decide +kernel)) rfl (fun _ _ _ _ _ => rfl) (fun A outer s H E f c' ng hr => pe_smethG (pe_glob (v := .ref _) rfl T.m_Zooms rfl) T.s_Zooms_between GX_Zooms_between ng (hr.mono (by decide)) (on (takes_of rfl rfl rfl rfl)) (pa_cons (pv 1) (pa_cons (pv 1) (pa_cons (pv 2) (pa_cons (pv 2) pa_nil)))))) pa_nil)))
      (pss_cons (ps_expr (pe_bm PySem.F.plainAttrs_list PySem.F.slot_list_append PySem.F.type_list_append mt_append (pv 3) (pa_cons (pe_lamG (k := 14) (t := fun E => tSM d.Zooms (spBtw K d.Ratio d.Zooms d.BadZooms) E (tC (.ref d.Zooms)) (tCons (tC (.int 5)) (tCons (tVar 1) (tCons (tVar 2) (tCons (tVar 2) tNil))))) (T := lamT d) (TT := TTz d.BadZooms) ng rfl T.m__law_heard T.k__law_heard lkH cgH hbH sc__law_heard rfl (Or.inl rfl) (heardZ T) TB rfl (List.mem_cons_of_mem _ (List.mem_cons_self ..)) (lamU2 T) (hr.mono (by decide)) (LamX.lamS_by (sc := defScope s__law_refused_right) (by decide +kernel)) rfl (fun _ _ _ _ _ => rfl) (fun A outer s H E f c' ng hr => pe_smethG (pe_glob (v := .ref _) rfl T.m_Zooms rfl) T.s_Zooms_between GX_Zooms_between ng (hr.mono (by decide)) (on (takes_of rfl rfl rfl rfl)) (pa_cons pe_int (pa_cons (pv 1) (pa_cons (pv 2) (pa_cons (pv 2) pa_nil)))))) pa_nil)))
      (pss_cons (ps_expr (pe_bm PySem.F.plainAttrs_list PySem.F.slot_list_append PySem.F.type_list_append mt_append (pv 3) (pa_cons (pe_lamG (k := 14) (t := fun E => tSM d.Zooms (spBtw K d.Ratio d.Zooms d.BadZooms) E (tC (.ref d.Zooms)) (tCons (tC (.int 5)) (tCons (tC (.int 3)) (tCons (tVar 2) (tCons (tVar 2) tNil))))) (T := lamT d) (TT := TTz d.BadZooms) ng rfl T.m__law_heard T.k__law_heard lkH cgH hbH sc__law_heard rfl (Or.inl rfl) (heardZ T) TB rfl (List.mem_cons_of_mem _ (List.mem_cons_self ..)) (lamU2 T) (hr.mono (by decide)) (LamX.lamS_by (sc := defScope s__law_refused_right) (by decide +kernel)) rfl (fun _ _ _ _ _ => rfl) (fun A outer s H E f c' ng hr => pe_smethG (pe_glob (v := .ref _) rfl T.m_Zooms rfl) T.s_Zooms_between GX_Zooms_between ng (hr.mono (by decide)) (on (takes_of rfl rfl rfl rfl)) (pa_cons pe_int (pa_cons pe_int (pa_cons (pv 2) (pa_cons (pv 2) pa_nil)))))) pa_nil)))
      (pss_cons (ps_expr (pe_bm PySem.F.plainAttrs_list PySem.F.slot_list_append PySem.F.type_list_append mt_append (pv 3) (pa_cons (pe_lamG (k := 14) (t := fun E => tSM d.Zooms (spBtw K d.Ratio d.Zooms d.BadZooms) E (tC (.ref d.Zooms)) (tCons (tC (.int 5)) (tCons (tC (.int 3)) (tCons (tC (.bl true)) (tCons (tVar 2) tNil))))) (T := lamT d) (TT := TTz d.BadZooms) ng rfl T.m__law_heard T.k__law_heard lkH cgH hbH sc__law_heard rfl (Or.inl rfl) (heardZ T) TB rfl (List.mem_cons_of_mem _ (List.mem_cons_self ..)) (lamU2 T) (hr.mono (by decide)) (LamX.lamS_by (sc := defScope s__law_refused_right) (by decide +kernel)) rfl (fun _ _ _ _ _ => rfl) (fun A outer s H E f c' ng hr => pe_smethG (pe_glob (v := .ref _) rfl T.m_Zooms rfl) T.s_Zooms_between GX_Zooms_between ng (hr.mono (by decide)) (on (takes_of rfl rfl rfl rfl)) (pa_cons pe_int (pa_cons pe_int (pa_cons pe_bl (pa_cons (pv 2) pa_nil)))))) pa_nil)))
      (pss_cons (ps_expr (pe_bm PySem.F.plainAttrs_list PySem.F.slot_list_append PySem.F.type_list_append mt_append (pv 3) (pa_cons (pe_lamG (k := 14) (t := fun E => tSM d.Zooms (spBtw2 K d.Ratio d.Zooms d.BadZooms) E (tC (.ref d.Zooms)) (tCons (tC (.int 5)) (tCons (tC (.int 3)) tNil))) (T := lamT d) (TT := TTz d.BadZooms) ng rfl T.m__law_heard T.k__law_heard lkH cgH hbH sc__law_heard rfl (Or.inl rfl) (heardZ T) TB rfl (List.mem_cons_of_mem _ (List.mem_cons_self ..)) (lamU2 T) (hr.mono (by decide)) (LamX.lamS_by (sc := defScope s__law_refused_right) (by decide +kernel)) rfl (fun _ _ _ _ _ => rfl) (fun A outer s H E f c' ng hr => pe_smethG (pe_glob (v := .ref _) rfl T.m_Zooms rfl) T.s_Zooms_between GX2_Zooms_between ng (hr.mono (by decide)) (on (takes_of rfl rfl rfl rfl)) (pa_cons pe_int (pa_cons pe_int pa_nil)))) pa_nil)))
      (pss_cons (ps_expr (pe_bm PySem.F.plainAttrs_list PySem.F.slot_list_append PySem.F.type_list_append mt_append (pv 3) (pa_cons (pe_lamG (k := 14) (t := fun E => tSM d.Zooms (spBey K d.Ratio d.Zooms d.BadZooms) E (tC (.ref d.Zooms)) (tCons (tVar 1) (tCons (tVar 2) tNil))) (T := lamT d) (TT := TTz d.BadZooms) ng rfl T.m__law_heard T.k__law_heard lkH cgH hbH sc__law_heard rfl (Or.inl rfl) (heardZ T) TB rfl (List.mem_cons_of_mem _ (List.mem_cons_self ..)) (lamU2 T) (hr.mono (by decide)) (LamX.lamS_by (sc := defScope s__law_refused_right) (by decide +kernel)) rfl (fun _ _ _ _ _ => rfl) (fun A outer s H E f c' ng hr => pe_smethG (pe_glob (v := .ref _) rfl T.m_Zooms rfl) T.s_Zooms_beyond GX_Zooms_beyond ng (hr.mono (by decide)) (on (takes_of rfl rfl rfl rfl)) (pa_cons (pv 1) (pa_cons (pv 2) pa_nil)))) pa_nil)))
      (pss_cons (ps_expr (pe_bm PySem.F.plainAttrs_list PySem.F.slot_list_append PySem.F.type_list_append mt_append (pv 3) (pa_cons (pe_lamG (k := 14) (t := fun E => tSM d.Zooms (spBey K d.Ratio d.Zooms d.BadZooms) E (tC (.ref d.Zooms)) (tCons (tC (.int 0)) (tCons (tVar 2) tNil))) (T := lamT d) (TT := TTz d.BadZooms) ng rfl T.m__law_heard T.k__law_heard lkH cgH hbH sc__law_heard rfl (Or.inl rfl) (heardZ T) TB rfl (List.mem_cons_of_mem _ (List.mem_cons_self ..)) (lamU2 T) (hr.mono (by decide)) (LamX.lamS_by (sc := defScope s__law_refused_right) (by decide +kernel)) rfl (fun _ _ _ _ _ => rfl) (fun A outer s H E f c' ng hr => pe_smethG (pe_glob (v := .ref _) rfl T.m_Zooms rfl) T.s_Zooms_beyond GX_Zooms_beyond ng (hr.mono (by decide)) (on (takes_of rfl rfl rfl rfl)) (pa_cons pe_int (pa_cons (pv 2) pa_nil)))) pa_nil)))
      (pss_one (ps_ret (pe_cmpR (uEq hr.units) (pv 3) (pe_lst (pa_cons pe_str (pa_cons pe_str (pa_cons pe_str (pa_cons pe_str (pa_cons pe_str (pa_cons pe_str (pa_cons pe_str pa_nil)))))))) (nomark _)))))))))))), ?_⟩
    refine ⟨_, rfl, Or.inl ⟨_, rfl, ⟨by show 1 ≤ sizeLine; decide, fun t0 ht0 => ⟨by show 0 ≤ sizeLine; decide, fun l0 hl0 => Or.inl ⟨_, rfl, ?_⟩⟩⟩⟩⟩
    have s1 := sameNew (o := HO.tup [.int 1]) ht0
    have s2 := sameNew (o := HO.lst []) hl0
    have a2 := s2 _ _ (upd_same (H := H) (a := t0) (o := HO.tup [.int 1]))
    have b2 : upd (upd H t0 (HO.tup [.int 1])) l0 (HO.lst []) l0 = some (.lst []) := upd_same
    have p2 := hp.up (s1.trans s2)
    have tabs := LamX.Tabs.ext tabs (s1.trans s2)
    have n0 : l0 ≠ p := pen_new (hp.up s1) hl0
    generalize upd (upd H t0 (HO.tup [.int 1])) l0 (HO.lst []) = H2 at a2 b2 p2 tabs ⊢
    clear s1 s2 ht0 hl0 hp
    refine fun x1 d1 nx nd nn => Or.inl (made' nx nd (by decide) (by decide) fun H3 e3 r3 => ⟨rfl, ?_⟩)
    clear nx nd nn
    refine ⟨by show 7 ≤ sizeLine; decide, fun L hL => ?_⟩
    have s4 := sameNew (o := HO.lst [V.non, .int (-1), .bl true, .str "1", .ref t0, .ref l0, .ref x1]) hL
    have e4 := e3.trans s4
    refine ⟨p, L, n, _, rfl, p2.up e4, by omega, Or.inl ⟨upd_same, pen_new (p2.up e3) hL⟩, by simp, by simp, fun od H5 hod p5 u5 => ?_⟩
    have a5 := u5.tup (e4 _ _ a2)
    have b5 := u5.lst (e4 _ _ b2) n0
    have c5 := (r3.same s4).up u5
    have tabs := Tabs.up (LamX.Tabs.ext tabs e4) u5
    clear u5 s4 e4 r3 e3 a2 b2 p2 hL
    refine ⟨_, rfl, ⟨by show 0 ≤ sizeLine; decide, fun t1 ht1 => ⟨by show 0 ≤ sizeLine; decide, fun l1 hl1 => ?_⟩⟩⟩
    have s1 := sameNew (o := HO.tup []) ht1
    have s2 := sameNew (o := HO.lst []) hl1
    have a7 := (s1.trans s2) _ _ a5
    have b7 := (s1.trans s2) _ _ b5
    have c7 := c5.same (s1.trans s2)
    have p7 := p5.up (s1.trans s2)
    have f7 : upd (upd H5 t1 (HO.tup [])) l1 (HO.lst []) l1 = some (.lst []) := upd_same
    have g7 := s2 _ _ (upd_same (H := H5) (a := t1) (o := HO.tup []))
    have n1 : l1 ≠ p := pen_new (p5.up s1) hl1
    have tabs := LamX.Tabs.ext tabs (s1.trans s2)
    generalize upd (upd H5 t1 (HO.tup [])) l1 (HO.lst []) = H7 at a7 b7 c7 p7 f7 g7 tabs ⊢
    clear s1 s2 ht1 hl1 a5 b5 c5 p5
    refine ⟨by show 6 ≤ sizeLine; decide, fun L hL => ?_⟩
    have s8 := sameNew (o := HO.lst [V.non, .int 0, .int 1, .str "in", .ref t1, .ref l1]) hL
    refine ⟨p, L, n + 1, _, rfl, p7.up s8, by omega, Or.inl ⟨upd_same, pen_new p7 hL⟩, by simp, by simp, fun bd H9 hbd p9 u9 => ?_⟩
    have a9 := u9.tup (s8 _ _ a7)
    have b9 := u9.lst (s8 _ _ b7) n0
    have c9 := (c7.same s8).up u9
    have f9 := u9.lst (s8 _ _ f7) n1
    have g9 := u9.tup (s8 _ _ g7)
    have tabs := Tabs.up (LamX.Tabs.ext tabs s8) u9
    clear u9 s8 hL a7 b7 c7 p7 f7 g7
    refine ⟨by show 2 ≤ sizeLine; decide, fun tt htt => ?_⟩
    have s10 := sameNew (o := HO.tup [od, bd]) htt
    refine ⟨tt, _, rfl, SqT.of upd_same, rfl, _, _, rfl, _, _, rfl, rfl, ?_⟩
    have a10 := s10 _ _ a9
    have b10 := s10 _ _ b9
    have c10 := c9.same s10
    have f10 := s10 _ _ f9
    have g10 := s10 _ _ g9
    have p10 := p9.up s10
    have tabs := LamX.Tabs.ext tabs s10
    generalize upd H9 tt (HO.tup [od, bd]) = HA at a10 b10 c10 f10 g10 p10 tabs ⊢
    clear s10 htt a9 b9 c9 f9 g9 p9
    try dsimp only [tNext, gName]
    refine st_eq (σ' := [some (.ref p), some od, some bd, none]) rfl ?_
    obtain ⟨lp, p10⟩ := p10
    have nplA : ∀ {H' : Hp}, H' t0 = some (.tup [.int 1]) → H' l0 = some (.lst []) → IsRat d.Ratio H' x1 (Rat.divInt (-1) 3) → NotPl K d.Ratio H' od := fun h1 h2 h3 => odd_pl T hod h1 h2 h3
    have nboA : ∀ {H' : Hp}, H' t1 = some (.tup []) → H' l1 = some (.lst []) → NotBo K H' bd := fun h1 h2 => bad_bo T hbd h1 h2
    -- the first one
    refine in_asg (via (fun v H' => ∃ lh, v = .ref lh ∧ Grow d p lp (n + 2) lh t0 l0 x1 t1 l1 [.str "low"] H') (fun W kW => ?_) (fun v HB hv => ?_))
    · refine ⟨tabs, fun H1 eN t1' => hear_z (part := "low") (fun Q2 => ?_) fun H' s => ⟨by show 1 ≤ sizeLine; decide, fun lh hlh => ?_⟩⟩
      · exact ⟨rfl, _, rfl, _, rfl, _, rfl, _, rfl, ⟨_, _, _, _, rfl, Or.inl ⟨nplA (eN _ _ a10 fun _ z => nomatch z) (eN _ _ b10 fun _ z => nomatch z) (c10.ext eN), caughtZ_rai (Same.refl _)⟩⟩⟩
      · have eA := LamX.ExtN.trans eN (ExtN.same s)
        have sl := sameNew (o := HO.lst [.str "low"]) hlh
        have a := sl _ _ (eA _ _ a10 fun _ z => nomatch z)
        have b := sl _ _ (eA _ _ b10 fun _ z => nomatch z)
        have f := sl _ _ (eA _ _ f10 fun _ z => nomatch z)
        have g := sl _ _ (eA _ _ g10 fun _ z => nomatch z)
        obtain ⟨ns, sp, gr, h1, h2, h3, h4, h5, h6⟩ := p10
        have q2 := eA _ _ h2 fun _ z => nomatch z
        have q3 := eA _ _ h3 fun _ z => nomatch z
        refine kW _ _ ⟨lh, rfl, upd_same, ⟨ns, sp, gr, h1, sl _ _ q2, sl _ _ q3, h4, h5, h6⟩, LamX.Tabs.ext t1' (s.trans sl), a, b, (c10.ext eA).same sl, g, f, ?_⟩
        exact ⟨(ne_of_none q2 hlh).symm, (ne_of_none q3 hlh).symm, (ne_of_none (eA _ _ b10 fun _ z => nomatch z) hlh).symm, (ne_of_none (eA _ _ f10 fun _ z => nomatch z) hlh).symm⟩
    obtain ⟨lh, rfl, g1⟩ := hv
    clear a10 b10 c10 f10 g10 p10 tabs
    try dsimp only [tNext, gName, List.set]
    have five : ∀ {H' : Hp}, Num d.Ratio H' (.int 5) ((5 : Int) : Rat) := num_i
    have three : ∀ {H' : Hp}, Num d.Ratio H' (.int 3) ((3 : Int) : Rat) := num_i
    have z5 : Sz 900 ((5 : Int) : Rat) := ⟨by decide +kernel, by decide +kernel⟩
    have z3 : Sz 900 ((3 : Int) : Rat) := ⟨by decide +kernel, by decide +kernel⟩
    have p5 : ((5 : Int) : Rat) ≥ 0 := by decide +kernel
    have p3 : ((3 : Int) : Rat) ≥ 0 := by decide +kernel
    have t53 : ∀ {H' : Hp}, Two d.Ratio H' (.int 5) (.int 3) ((5 : Int) : Rat) ((3 : Int) : Rat) := Or.inl ⟨5, 3, rfl, rfl, rfl, rfl⟩
    refine go_sd (app_z (s := "high") rfl g1.list g1.tabs (fun H1 Q' eN t1' kQ => hear_z (part := "high") (fun Q2 => ⟨rfl, _, rfl, _, rfl, _, rfl, ⟨_, _, _, _, rfl, Or.inr ⟨_, five, z5, p5, Or.inl ⟨nplA (eN _ _ g1.a fun _ z => nomatch z) (eN _ _ g1.b fun _ z => nomatch z) (g1.c.ext eN), caughtZ_rai (Same.refl _)⟩⟩⟩⟩) kQ) (by decide) fun H' eN t1' => ?_)
    have g2 := g1.step eN t1' (.str "high")
    clear g1 eN t1'
    try dsimp only [List.cons_append, List.nil_append] at g2
    refine go_sd (app_z (s := "is_low") rfl g2.list g2.tabs (fun H1 Q' eN t1' kQ => hear_z (part := "is_low") (fun Q2 => ⟨rfl, _, rfl, _, rfl, ⟨_, _, _, _, rfl, Or.inr ⟨_, five, z5, p5, Or.inr ⟨_, three, z3, p3, Or.inl ⟨nboA (eN _ _ g2.e fun _ z => nomatch z) (eN _ _ g2.f fun _ z => nomatch z), caughtZ_rai (Same.refl _)⟩⟩⟩⟩⟩) kQ) (by decide) fun H' eN t1' => ?_)
    have g3 := g2.step eN t1' (.str "is_low")
    clear g2 eN t1'
    try dsimp only [List.cons_append, List.nil_append] at g3
    refine go_sd (app_z (s := "is_high") rfl g3.list g3.tabs (fun H1 Q' eN t1' kQ => hear_z (part := "is_high") (fun Q2 => ⟨rfl, _, rfl, ⟨_, _, _, _, rfl, Or.inr ⟨_, five, z5, p5, Or.inr ⟨_, three, z3, p3, Or.inr ⟨true, rfl, Or.inl ⟨nboA (eN _ _ g3.e fun _ z => nomatch z) (eN _ _ g3.f fun _ z => nomatch z), caughtZ_rai (Same.refl _)⟩⟩⟩⟩⟩⟩) kQ) (by decide) fun H' eN t1' => ?_)
    have g4 := g3.step eN t1' (.str "is_high")
    clear g3 eN t1'
    try dsimp only [List.cons_append, List.nil_append] at g4
    refine go_sd (app_z (s := "order") rfl g4.list g4.tabs (fun H1 Q' eN t1' kQ => hear_z (part := "order") (fun Q2 => ⟨rfl, ⟨_, _, _, _, rfl, Or.inr ⟨_, five, z5, p5, Or.inr ⟨_, three, z3, p3, Or.inr ⟨true, rfl, Or.inr ⟨true, rfl, t53, Or.inl ⟨by decide +kernel, caughtZ_rai (Same.refl _)⟩⟩⟩⟩⟩⟩⟩) kQ) (by decide) fun H' eN t1' => ?_)
    have g5 := g4.step eN t1' (.str "order")
    clear g4 eN t1'
    try dsimp only [List.cons_append, List.nil_append] at g5
    refine go_sd (app_z (s := "low") rfl g5.list g5.tabs (fun H1 Q' eN t1' kQ => hear_z (part := "low") (fun Q2 => ⟨rfl, _, rfl, _, rfl, ⟨_, _, rfl, Or.inl ⟨nplA (eN _ _ g5.a fun _ z => nomatch z) (eN _ _ g5.b fun _ z => nomatch z) (g5.c.ext eN), caughtZ_rai (Same.refl _)⟩⟩⟩) kQ) (by decide) fun H' eN t1' => ?_)
    have g6 := g5.step eN t1' (.str "low")
    clear g5 eN t1'
    try dsimp only [List.cons_append, List.nil_append] at g6
    refine go_sd (app_z (s := "is_low") rfl g6.list g6.tabs (fun H1 Q' eN t1' kQ => hear_z (part := "is_low") (fun Q2 => ⟨rfl, _, rfl, ⟨_, _, rfl, Or.inr ⟨_, num_i, ⟨by decide +kernel, by decide +kernel⟩, by decide +kernel, Or.inl ⟨nboA (eN _ _ g6.e fun _ z => nomatch z) (eN _ _ g6.f fun _ z => nomatch z), caughtZ_rai (Same.refl _)⟩⟩⟩⟩) kQ) (by decide) fun H' eN t1' => ?_)
    have g7 := g6.step eN t1' (.str "is_low")
    clear g6 eN t1'
    try dsimp only [List.cons_append, List.nil_append] at g7
    refine ⟨_, rfl, ⟨by show 7 ≤ sizeLine; decide, fun L hL => ?_⟩⟩
    have s1 := sameNew (o := HO.lst [V.str "low", .str "high", .str "is_low", .str "is_high", .str "order", .str "low", .str "is_low"]) hL
    refine Or.inr (Or.inr ⟨.list [.str "low", .str "high", .str "is_low", .str "is_high", .str "order", .str "low", .str "is_low"], .list [.str "low", .str "high", .str "is_low", .str "is_high", .str "order", .str "low", .str "is_low"], .lst (SqL.of (s1 _ _ g7.list)) ?_, .lst (SqL.of upd_same) ?_, by decide +kernel, by decide +kernel, ?_⟩)
    · exact .cons (.str _) (.cons (.str _) (.cons (.str _) (.cons (.str _) (.cons (.str _) (.cons (.str _) (.cons (.str _) .nil))))))
    · exact .cons (.str _) (.cons (.str _) (.cons (.str _) (.cons (.str _) (.cons (.str _) (.cons (.str _) (.cons (.str _) .nil))))))
    have ee : PyData.eqv (.list [.str "low", .str "high", .str "is_low", .str "is_high", .str "order", .str "low", .str "is_low"]) (.list [.str "low", .str "high", .str "is_low", .str "is_high", .str "order", .str "low", .str "is_low"]) = true := by decide +kernel
    rw [ee]
    exact k _ (PenAt.mono (PenAt.up ⟨lp, g7.pen⟩ s1) (by omega)) (LamX.Tabs.ext g7.tabs s1)
end

end AZ
namespace AZ
open PySem L2
/-! ## the law itself -/
def levelLaw : Nat := 20
def spLaw (K : PySem.W.Frag) (cs : List (Addr × Addr)) : Sp := fun vs H Q _ => ∃ (a : Addr) (ns : List Int), vs = [.ref a] ∧ SqL K H a (ns.map V.int) ∧ ns.length ≤ 63 ∧ (∀ p ∈ cs, H p.2 = some (.tbl #[])) ∧ ∀ H', Q (.bl true) H'
section
variable {P : Program} {w : World} {K : PySem.W.Frag} {mg : Str → Option Value} {base : Heap} {d : Ad}
theorem zinv {X : Cx} (T : Tx X.K mg d) (G : FnR X.prog X.w X.K X.mg X.base CX0 12 d.Zooms___invert__ (spZInv d.Ratio d.Zooms)) (hr : Room 12 X.A) {a : Addr} {q : Rat} {ms : List Mk} {f : Bool} {H : Hp} {W : VK} (ha : IsZ d.Ratio d.Zooms H a q ms f) (ok : ZOk q ms) (cf : changes ms f = ms) (cl : lastOf ms = q)
    (k : ∀ p H', Same H H' → IsZ d.Ratio d.Zooms H' p q (ms.map flipM) (!f) → W (.ref p) H') : rOwnU X "__invert__" (.ref a) H W := by
  obtain ⟨dx, rb, rt, rm, zs, h1, _⟩ := id ha
  exact ⟨a, d.Zooms, dx, _, _, CX0, 12, _, E0, rfl, h1, T.u_Zooms_invert, G, hr, pass0, ⟨a, q, ms, f, rfl, ha, ok, cf, cl, k⟩⟩
theorem zne {X : Cx} (T : Tx X.K mg d) (G : FnR X.prog X.w X.K X.mg X.base CX0 5 d.Zooms___eq__ (spZEq d.Ratio d.Zooms)) (hr : Room 6 X.A) {a b : Addr} {q q' : Rat} {ms ms' : List Mk} {f f' r : Bool} {H : Hp} {W : VK} (ha : IsZ d.Ratio d.Zooms H a q ms f) (hb : IsZ d.Ratio d.Zooms H b q' ms' f') (ok : ZOk q ms)
    (h : (f ≠ f' ∧ r = false) ∨ (q' = q ∧ ms' = ms ∧ f' = f ∧ r = true)) (k : ∀ H', Same H H' → W (.bl (!r)) H') : rOwnN X (.ref a) (.ref b) H W := by
  obtain ⟨dx, rb, rt, rm, zs, h1, _⟩ := id ha
  obtain ⟨dy, rb', rt', rm', zs', h2, _⟩ := id hb
  refine ⟨a, d.Zooms, dx, _, _, CX0, 5, _, E0, rfl, h1, Or.inr ⟨b, dy, _, rfl, h2⟩, T.z_Zooms, G, hr, pass0, ⟨a, b, q, ms, f, q', ms', f', rfl, ha, hb, ok, ?_⟩⟩
  rcases h with ⟨ne, rfl⟩ | ⟨e1, e2, e3, rfl⟩
  · exact Or.inl ⟨ne, _, rfl, k _ (Same.refl _)⟩
  · exact Or.inr ⟨e1, e2, e3, fun H' s => ⟨_, rfl, k _ s⟩⟩
theorem G_law (T : Tx K mg d) (TB1 : LamX.TabB base mg d.cc__law_between_right d.cp__law_between_right) (TB2 : LamX.TabB base mg d.cc__law_refused_right d.cp__law_refused_right) (TB : LamX.TabB base mg d.cc_law d.cp_law) :
    FnG P w K mg base CX0 levelLaw d.law (spLaw K [(d.cc__law_between_right, d.cp__law_between_right), (d.cc__law_refused_right, d.cp__law_refused_right), (d.cc_law, d.cp_law)]) := by
  have G__law_pen := G__law_pen (P := P) (w := w) (base := base) T
  have G__law_between_right := G__law_between_right (P := P) (w := w) (base := base) T TB1
  have G__law_refused_right := G__law_refused_right (P := P) (w := w) (base := base) T TB2
  have G__law_beyond_right := G__law_beyond_right (P := P) (w := w) (base := base) T
  have G_Ratio___init__ : FnR P w K mg base CX0 2 d.Ratio___init__ _ := G_Ratio___init__ T
  have GX_Zooms_between := GX_Zooms_between (P := P) (w := w) (base := base) T
  have GX2_Zooms_between := GX2_Zooms_between (P := P) (w := w) (base := base) T
  have GX_Zooms_beyond := GX_Zooms_beyond (P := P) (w := w) (base := base) T
  have GX1_Zooms_beyond := GX1_Zooms_beyond (P := P) (w := w) (base := base) T
  have G_Zooms_everything := G_Zooms_everything (P := P) (w := w) (base := base) T
  have G_Zooms_nothing := G_Zooms_nothing (P := P) (w := w) (base := base) T
  have G_Zooms___contains__ := G_Zooms___contains__ (P := P) (w := w) (base := base) T
  have G_Zooms___eq__ := G_Zooms___eq__ (P := P) (w := w) (base := base) T
  have G_Zooms___bool__ := G_Zooms___bool__ (P := P) (w := w) (base := base) T
  have G_Zooms___invert__ := G_Zooms___invert__ (P := P) (w := w) (base := base) T
  have G_Zooms___sub__ := G_Zooms___sub__ (P := P) (w := w) (base := base) T
  obtain ⟨fdH, Fh⟩ := T.F__law_heard
  have hbH := Fh.binds (ps := ["_law_ask"]) fun _ _ _ _ _ _ us hl => match us, hl with | [_], _ => rfl
  obtain ⟨ocH, odH, kVH, docH, pmH, anH, cdvH, ctH, oslH, rfl, lkH, cgH⟩ := Fh.ex
  obtain ⟨fd, F⟩ := T.F_law
  refine fnC_of (k := 19) F sc_law (sp := spLaw K [(d.cc__law_between_right, d.cp__law_between_right), (d.cc__law_refused_right, d.cp__law_refused_right), (d.cc_law, d.cp_law)]) (fun vs H Q E h => ?_) (fun cdv A outer s H vs Q E hcode ng hr h => ?_) (F.binds fun _ _ _ _ _ _ us hl => match us, hl with | [_], _ => rfl)
  · obtain ⟨a, ns, rfl, _⟩ := h
    rfl
  · obtain ⟨a, ns, rfl, hS, hlen, htab, k⟩ := h
    have hc := T.tab_law.code_eq hcode
    subst hc
    -- slots: 0 _law_script, 1 _law_pen_here, 2 _law_lap, 3 _law_every, 4 _law_none, 5 _law_told
    refine ⟨_, (pss_cons (ps_set (i := 1) sc_law.nd rfl (Or.inl rfl) (pe_fnR G__law_pen (hr.mono (by decide)) T.k__law_pen T.m__law_pen pass0 (pa_cons (pv 0) pa_nil)))
      (pss_cons (ps_for PassesOwn.never rfl (pi_range1 rfl T.n_range (pa_cons pe_int pa_nil)) (pg_name (i := 2) sc_law.nd rfl (Or.inl rfl)) (pss_one (ps_if (PW.pt (pw_or (pt_not (pt_val (pe_fnG G__law_between_right ng (hr.mono (by decide)) T.k__law_between_right T.m__law_between_right pass0 (pa_cons (pv 1) pa_nil)))) (pw_or (pt_not (pt_val (pe_fnG G__law_beyond_right ng (hr.mono (by decide)) T.k__law_beyond_right T.m__law_beyond_right pass0 (pa_cons (pv 1) pa_nil)))) (pw_or1 (pt_not (pt_val (pe_fnG G__law_refused_right ng (hr.mono (by decide)) T.k__law_refused_right T.m__law_refused_right pass0 (pa_cons (pv 1) pa_nil)))))))) (pss_one (ps_ret pe_bl)) pss_nil)))
      (pss_cons (ps_par (i := 3) (j := 4) (by rfl) sc_law.nd rfl rfl (by decide) rfl rfl (pa_cons (pe_smeth0 (pe_glob (v := .ref _) rfl T.m_Zooms rfl) T.s_Zooms_everything G_Zooms_everything (hr.mono (by decide)) pass0) (pa_cons (pe_smeth0 (pe_glob (v := .ref _) rfl T.m_Zooms rfl) T.s_Zooms_nothing G_Zooms_nothing (hr.mono (by decide)) pass0) pa_nil)) (by rfl))
      (pss_cons (ps_set (i := 5) sc_law.nd rfl (Or.inl rfl) (pe_lst (pa_cons (pe_callTy uBool (by rfl) T.n_bool (by decide +kernel) (pa_cons (pv 3) pa_nil)) (pa_cons (pe_callTy uBool (by rfl) T.n_bool (by decide +kernel) (pa_cons (pv 4) pa_nil)) (pa_cons (pe_cmpR (op_inO T.in_Zooms (FnG.of G_Zooms___contains__) ng (hr.mono (by decide)) pass0) (pe_op op_pow pe_int pe_int) (pv 3) rfl) (pa_cons (pe_cmpR (op_inO T.in_Zooms (FnG.of G_Zooms___contains__) ng (hr.mono (by decide)) pass0) (StX.pe_makeR T.mk_Ratio G_Ratio___init__ (hr.mono (by decide)) rfl T.m_Ratio pass0 (pa_cons pe_int (pa_cons (pe_op op_pow pe_int pe_int) pa_nil))) (pv 3) rfl) (pa_cons (pe_cmpR (op_inO T.in_Zooms (FnG.of G_Zooms___contains__) ng (hr.mono (by decide)) pass0) pe_int (pv 4) rfl) (pa_cons (pe_cmpR (uEq hr.units) (pv 3) (pe_un un_ownInv (pv 4)) (nomark _)) pa_nil))))))))
      (pss_cons (ps_if (PW.pt (pw_or (pt_cmpR (op_or2 op_ne (op_or2 op_ownN (op_neD hr.units))) (pv 5) (pe_lst (pa_cons pe_bl (pa_cons pe_bl (pa_cons pe_bl (pa_cons pe_bl (pa_cons pe_bl (pa_cons pe_bl pa_nil))))))) (nomark _)) (pw_or1 (pt_cmpR (op_or2 op_ne (op_or2 op_ownN (op_neD hr.units))) (pe_smethG (pe_glob (v := .ref _) rfl T.m_Zooms rfl) T.s_Zooms_between GX2_Zooms_between ng (hr.mono (by decide)) passF (pa_cons pe_int (pa_cons pe_int pa_nil))) (pe_un un_ownInv (pe_smethG (pe_glob (v := .ref _) rfl T.m_Zooms rfl) T.s_Zooms_beyond GX_Zooms_beyond ng (hr.mono (by decide)) passF (pa_cons pe_int (pa_cons pe_bl pa_nil)))) (nomark _))))) (pss_one (ps_ret pe_bl)) pss_nil)
      (pss_cons (ps_if (pt_cmpR (op_or2 op_ne (op_or2 op_ownN (op_neD hr.units))) (pe_lamG (k := 14) (t := fun E => tSM d.Zooms (spBtw2 K d.Ratio d.Zooms d.BadZooms) E (tC (.ref d.Zooms)) (tCons (tC (.int 0)) (tCons (tC (.int 0)) tNil))) (T := lamT d) (TT := TTz d.BadZooms) ng rfl T.m__law_heard T.k__law_heard lkH cgH hbH sc__law_heard rfl (Or.inl rfl) (heardZ T) TB rfl (List.mem_cons_of_mem _ (List.mem_cons_of_mem _ (List.mem_cons_self ..))) (lamU3 T) (hr.mono (by decide)) (LamX.lamS_by (sc := defScope s_law) (by decide +kernel)) rfl (fun _ _ _ _ _ => rfl) (fun A outer s H E f c' ng hr => pe_smethG (pe_glob (v := .ref _) rfl T.m_Zooms rfl) T.s_Zooms_between GX2_Zooms_between ng (hr.mono (by decide)) (on (takes_of rfl rfl rfl rfl)) (pa_cons pe_int (pa_cons pe_int pa_nil)))) pe_str (nomark _)) (pss_one (ps_ret pe_bl)) pss_nil)
      (pss_one (ps_ret (pe_cmpR (uEq hr.units) (pe_smethG (pe_glob (v := .ref _) rfl T.m_Zooms rfl) T.s_Zooms_between GX2_Zooms_between ng (hr.mono (by decide)) passF (pa_cons pe_int (pa_cons pe_int pa_nil))) (pe_op uSub (pe_smethG (pe_glob (v := .ref _) rfl T.m_Zooms rfl) T.s_Zooms_beyond GX1_Zooms_beyond ng (hr.mono (by decide)) passF (pa_cons pe_int pa_nil)) (pe_smethG (pe_glob (v := .ref _) rfl T.m_Zooms rfl) T.s_Zooms_beyond GX_Zooms_beyond ng (hr.mono (by decide)) passF (pa_cons pe_int (pa_cons pe_bl pa_nil)))) (nomark _)))))))))), ?_⟩
    have tabs : LamX.Tabs (lamT d) H := fun q hq => by
      simp only [List.mem_cons, List.not_mem_nil, or_false] at hq
      rcases hq with rfl | rfl | rfl
      · exact ⟨#[], htab _ (List.mem_cons_self ..), trivial, fun _ _ hc => nomatch hc⟩
      · exact ⟨#[], htab _ (List.mem_cons_of_mem _ (List.mem_cons_self ..)), trivial, fun _ _ hc => nomatch hc⟩
      · exact ⟨#[], htab _ (List.mem_cons_of_mem _ (List.mem_cons_of_mem _ (List.mem_cons_self ..))), trivial, fun _ _ hc => nomatch hc⟩
    refine ⟨_, rfl, ⟨a, ns, rfl, hS, hlen, fun p H1 np e1 hp => ?_⟩⟩
    have tabs := LamX.Tabs.ext tabs e1
    clear htab hS np e1
    try dsimp only [tNext, gName]
    refine ⟨10, rfl, by decide, by decide, for_range (n := 10) (fun i σ H' => ∃ z2, σ = [some (.ref a), some (.ref p), z2, none, none, none] ∧ PenAt H' p (50 * i) ∧ LamX.Tabs (lamT d) H') ⟨_, rfl, hp, tabs⟩ (fun i σ H' hi h => ?_) (fun σ H' h => ?_)⟩
    · obtain ⟨z2, rfl, hp, tabs⟩ := h
      dsimp only [gName, List.set]
      refine ⟨_, rfl, ⟨p, 50 * i, rfl, hp, by omega, tabs, fun H2 hp2 tabs2 => ⟨true, rfl, iteF ?_⟩⟩⟩
      refine ⟨_, rfl, ⟨p, 50 * i + 20, rfl, hp2, by omega, fun H3 hp3 u3 => ⟨true, rfl, iteF ?_⟩⟩⟩
      refine ⟨_, rfl, ⟨p, 50 * i + 30, rfl, hp3, by omega, Tabs.up tabs2 u3, fun H4 hp4 tabs4 => ⟨true, rfl, iteF ?_⟩⟩⟩
      exact ⟨_, rfl, PenAt.mono hp4 (by omega), tabs4⟩
    obtain ⟨z2, rfl, hp, tabs⟩ := h
    try dsimp only [tNext, gName, List.set]
    refine ⟨rfl, ⟨rfl, fun ev H2 e2 hev => ⟨rfl, ⟨rfl, fun no H3 e3 hno => ⟨_, _, rfl, ?_⟩⟩⟩⟩⟩
    have hev := hev.same e3
    have tabs := LamX.Tabs.ext tabs (e2.trans e3)
    clear e2 e3 hp
    try dsimp only [tNext, gName, List.set]
    have ok0 := zok0
    obtain ⟨dv, _, _, _, _, hev1, _⟩ := id hev
    obtain ⟨dn, _, _, _, _, hno1, _⟩ := id hno
    refine ⟨_, rfl, Or.inr ⟨_, rfl, ev, d.Zooms, dv, _, _, CX0, 1, _, E0, rfl, hev1, T.bo_Zooms, G_Zooms___bool__, (hr.mono (by decide)), pass0, ⟨ev, 0, [], true, rfl, hev, ?_⟩⟩⟩
    refine ⟨_, rfl, ?_⟩
    refine ⟨_, rfl, Or.inr ⟨_, rfl, no, d.Zooms, dn, _, _, CX0, 1, _, E0, rfl, hno1, T.bo_Zooms, G_Zooms___bool__, (hr.mono (by decide)), pass0, ⟨no, 0, [], false, rfl, hno, ?_⟩⟩⟩
    refine ⟨_, rfl, ?_⟩
    have zT : Sz 900 ((10 ^ (30 : Int).toNat : Int) : Rat) := ⟨by decide +kernel, by decide +kernel⟩
    have zU : Sz 900 (Rat.divInt 1 (10 ^ (30 : Int).toNat)) := ⟨by decide +kernel, by decide +kernel⟩
    have hz0 : ∀ (f : Bool) (x : Rat), hasZ [] f x = f := fun f x => rfl
    refine ⟨_, _, rfl, rfl, ⟨by decide, by decide, by decide⟩, _, rfl, ⟨ev, dv, _, rfl, hev1, ⟨ev, _, 0, [], true, _, rfl, hev, ok0, num_i, zT, by decide +kernel, fun H4 e4 => ⟨_, rfl, ?_⟩⟩⟩⟩
    have hev := hev.same e4
    have hno := hno.same e4
    have hev1 := e4 _ _ hev1
    have hno1 := e4 _ _ hno1
    have tabs := LamX.Tabs.ext tabs e4
    clear e4
    refine ⟨_, _, rfl, rfl, ⟨by decide, by decide, by decide⟩, ?_⟩
    refine fun x1 d1 nx nd nn => Or.inl (made' nx nd (by decide) (by decide) fun H5 e5 r5 => ⟨rfl, ?_⟩)
    clear nx nd nn
    refine ⟨_, rfl, ⟨ev, dv, _, rfl, e5 _ _ hev1, ⟨ev, _, 0, [], true, _, rfl, hev.same e5, ok0, num_r r5, zU, by decide +kernel, fun H6 e6 => ⟨_, rfl, ?_⟩⟩⟩⟩
    have e56 := e5.trans e6
    refine ⟨_, rfl, ⟨no, dn, _, rfl, e56 _ _ hno1, ⟨no, _, 0, [], false, ((1 : Int) : Rat), rfl, hno.same e56, ok0, num_i, ⟨by decide +kernel, by decide +kernel⟩, by decide +kernel, fun H7 e7 => ⟨_, rfl, ?_⟩⟩⟩⟩
    have e57 := e56.trans e7
    have hev := hev.same e57
    have hno := hno.same e57
    have hev1 := e57 _ _ hev1
    have hno1 := e57 _ _ hno1
    have tabs := LamX.Tabs.ext tabs e57
    clear e5 e6 e56 e7 e57 r5
    refine ⟨_, rfl, _, rfl, ?_⟩
    refine zinv T G_Zooms___invert__ (hr.mono (by decide)) hno ok0 rfl rfl fun iv H8 e8 hiv => ?_
    refine Or.inr (Or.inl (zeq T G_Zooms___eq__ (hr.mono (by decide)) (hev.same e8) hiv ok0 (r := true) (Or.inr ⟨rfl, rfl, rfl, rfl⟩) fun H9 e9 => ?_))
    refine ⟨by show 6 ≤ sizeLine; decide, fun lt hlt => ?_⟩
    have sA := sameNew (o := HO.lst [V.bl true, .bl false, .bl true, .bl true, .bl false, .bl true]) hlt
    have lA : upd H9 lt (HO.lst [V.bl true, .bl false, .bl true, .bl true, .bl false, .bl true]) lt = some (HO.lst [V.bl true, .bl false, .bl true, .bl true, .bl false, .bl true]) := upd_same
    have tabs := LamX.Tabs.ext tabs ((e8.trans e9).trans sA)
    try dsimp only [tNext, gName, List.set]
    refine st_eq' (H' := upd H9 lt (HO.lst [V.bl true, .bl false, .bl true, .bl true, .bl false, .bl true])) rfl ?_
    generalize upd H9 lt (HO.lst [V.bl true, .bl false, .bl true, .bl true, .bl false, .bl true]) = HA at lA tabs ⊢
    clear sA e8 e9 hev hno hev1 hno1 hiv hlt
    try dsimp only [tNext, gName, List.set]
    have z0 : Sz 900 ((0 : Int) : Rat) := ⟨by decide +kernel, by decide +kernel⟩
    have z5 : Sz 900 ((5 : Int) : Rat) := ⟨by decide +kernel, by decide +kernel⟩
    have z2' : Sz 900 ((2 : Int) : Rat) := ⟨by decide +kernel, by decide +kernel⟩
    have p0 : ((0 : Int) : Rat) ≥ 0 := by decide +kernel
    have p5 : ((5 : Int) : Rat) ≥ 0 := by decide +kernel
    have p2 : ((2 : Int) : Rat) ≥ 0 := by decide +kernel
    refine if_via false (fun W kW => ?_) (fun HB eB => iteF' rfl ?_)
    · refine ⟨_, rfl, ⟨by show 6 ≤ sizeLine; decide, fun l2 hl2 => ?_⟩⟩
      have s1 := sameNew (o := HO.lst [V.bl true, .bl false, .bl true, .bl true, .bl false, .bl true]) hl2
      refine Or.inr (Or.inr ⟨.list [.bool true, .bool false, .bool true, .bool true, .bool false, .bool true], .list [.bool true, .bool false, .bool true, .bool true, .bool false, .bool true], .lst (SqL.of (s1 _ _ lA)) ?_, .lst (SqL.of upd_same) ?_, by decide +kernel, by decide +kernel, _, rfl, ifF (by decide +kernel) ?_⟩)
      · exact .cons (.bl _) (.cons (.bl _) (.cons (.bl _) (.cons (.bl _) (.cons (.bl _) (.cons (.bl _) .nil)))))
      · exact .cons (.bl _) (.cons (.bl _) (.cons (.bl _) (.cons (.bl _) (.cons (.bl _) (.cons (.bl _) .nil)))))
      refine ⟨rfl, ⟨_, _, _, _, rfl, Or.inr ⟨_, num_i, z0, p0, Or.inr ⟨_, num_i, z5, p5, Or.inr ⟨true, rfl, Or.inr ⟨true, rfl, Or.inl ⟨0, 5, rfl, rfl, rfl, rfl⟩, Or.inr ⟨by decide +kernel, fun zb HC eC hzb => ?_⟩⟩⟩⟩⟩⟩⟩
      refine ⟨rfl, ⟨_, _, rfl, Or.inr ⟨_, num_i, z5, p5, Or.inr ⟨false, rfl, fun zc HD eD hzc => ?_⟩⟩⟩⟩
      refine zinv T G_Zooms___invert__ (hr.mono (by decide)) hzc (zok1 false z5 p5) (bey_form false p5).1 (bey_form false p5).2 fun zd HE eE hzd => ?_
      have hb := (hzb.same eD).same eE
      have e1 : btw ((0 : Int) : Rat) ((5 : Int) : Rat) true true = (bey ((5 : Int) : Rat) false).map flipM := by decide +kernel
      have e2 : btwF ((0 : Int) : Rat) ((5 : Int) : Rat) = !decide (((5 : Int) : Rat) = 0) := by decide +kernel
      rw [e1, e2] at hb
      refine Or.inr (Or.inl (zne T G_Zooms___eq__ (hr.mono (by decide)) hb hzd (zok1 false z5 p5).flip (r := true) (Or.inr ⟨rfl, rfl, rfl, rfl⟩) fun HF eF => ⟨_, rfl, kW _ ?_⟩))
      exact (((s1.trans eC).trans eD).trans eE).trans eF
    have tabs := LamX.Tabs.ext tabs eB
    clear lA eB
    try dsimp only [tNext, gName, List.set]
    refine viaL (c := false) (fun W kW => ?_) (fun HC => iteF' rfl ?_)
    · refine ⟨tabs, fun H1 eN t1 => hear_z (part := "order") (fun Q2 => ⟨rfl, ⟨_, _, _, _, rfl, Or.inr ⟨_, num_i, z0, p0, Or.inr ⟨_, num_i, z0, p0, Or.inr ⟨true, rfl, Or.inr ⟨true, rfl, Or.inl ⟨0, 0, rfl, rfl, rfl, rfl⟩, Or.inl ⟨by decide +kernel, caughtZ_rai (Same.refl _)⟩⟩⟩⟩⟩⟩⟩) fun H' s => Or.inl ⟨rfl, _, rfl, ?_⟩⟩
      have dd : (!decide (V.str "order" = V.str "order")) = false := by simp
      rw [dd]
      exact kW _
    try dsimp only [tNext, gName, List.set]
    refine ⟨rfl, ⟨_, _, _, _, rfl, Or.inr ⟨_, num_i, z2', p2, Or.inr ⟨_, num_i, z2', p2, Or.inr ⟨true, rfl, Or.inr ⟨true, rfl, Or.inl ⟨2, 2, rfl, rfl, rfl, rfl⟩, Or.inr ⟨by decide +kernel, fun za HD eD hza => ?_⟩⟩⟩⟩⟩⟩⟩
    refine ⟨rfl, ⟨_, _, rfl, Or.inr ⟨_, num_i, z2', p2, Or.inr ⟨true, rfl, fun zb HE eE hzb => ?_⟩⟩⟩⟩
    refine ⟨rfl, ⟨_, _, rfl, Or.inr ⟨_, num_i, z2', p2, Or.inr ⟨false, rfl, fun zc HF eF hzc => ?_⟩⟩⟩⟩
    have hzb := hzb.same eF
    obtain ⟨db, _, _, _, _, hzb1, _⟩ := id hzb
    obtain ⟨dc, _, _, _, _, hzc1, _⟩ := id hzc
    refine Or.inr ⟨zb, d.Zooms, db, _, _, CX0, 13, _, E0, rfl, hzb1, Or.inr ⟨zc, dc, _, rfl, hzc1⟩, T.b_Zooms_sub, G_Zooms___sub__, (hr.mono (by decide)), pass0, ⟨zb, zc, _, _, _, _, _, _, rfl, hzb, hzc, zok1 true z2' p2, zok1 false z2' p2, (by decide +kernel), fun zs HG eG hzs => ?_⟩⟩
    have em : mjoin (jt "-") (bey ((2 : Int) : Rat) true) (bey ((2 : Int) : Rat) false) (decide (((2 : Int) : Rat) = 0)) (decide (((2 : Int) : Rat) = 0)) = [(((2 : Int) : Rat), true, false)] := by
      have b1 : ∀ c, bey ((2 : Int) : Rat) c = [(((2 : Int) : Rat), c, true)] := fun c => by cases c <;> decide +kernel
      rw [b1, b1, mjoin, if_pos rfl, mjoin]
      decide +kernel
    have ej : jt "-" (decide (((2 : Int) : Rat) = 0)) (decide (((2 : Int) : Rat) = 0)) = false := by decide +kernel
    rw [em, ej] at hzs
    have ec : changes [(((2 : Int) : Rat), true, false)] false = [(((2 : Int) : Rat), true, false)] := by decide +kernel
    rw [ec] at hzs
    have e1 : btw ((2 : Int) : Rat) ((2 : Int) : Rat) true true = [(((2 : Int) : Rat), true, false)] := by decide +kernel
    have e2 : btwF ((2 : Int) : Rat) ((2 : Int) : Rat) = false := by decide +kernel
    have okA := zok2 (c := true) (e := true) z2' z2' p2 p2 (by decide +kernel)
    rw [e1] at okA
    rw [e1, e2] at hza
    refine Or.inr (Or.inl (zeq T G_Zooms___eq__ (hr.mono (by decide)) (((hza.same eE).same eF).same eG) hzs okA (r := true) (Or.inr ⟨?_, rfl, rfl, rfl⟩) fun HH eH => k _))
    decide +kernel
theorem law_end {q : Program} {fa : Addr} {h : Heap} (hq : ((PyProof.Rows.recsOf q).any fun e => e.name == "law") = true) (hq1 : ((PyProof.Rows.recsOf q).any fun e => e.name == "_law_between_right") = true) (hq2 : ((PyProof.Rows.recsOf q).any fun e => e.name == "_law_refused_right") = true) (hfa : mg "law" = some (.ref fa)) (T : Tx K mg d) :
    ∃ cs : List (Addr × Addr), (∀ p ∈ cs, ∃ (x : Str) (f : Addr), ((PyProof.Rows.recsOf q).any fun e => e.name == x) = true ∧ mg x = some (.ref f) ∧ TabK K f p.1 p.2) ∧
      ∀ base : Heap, K.In base → base.Ns mainGlobals mg → (∀ p ∈ cs, LamX.TabB base mg p.1 p.2) → FnG P w K mg base CX0 levelLaw fa (spLaw K cs) := by
  have e := hfa.symm.trans T.m_law
  cases e
  refine ⟨[(d.cc__law_between_right, d.cp__law_between_right), (d.cc__law_refused_right, d.cp__law_refused_right), (d.cc_law, d.cp_law)], fun p hp => ?_, fun base _ _ tb => G_law T (tb _ (List.mem_cons_self ..)) (tb _ (List.mem_cons_of_mem _ (List.mem_cons_self ..))) (tb _ (List.mem_cons_of_mem _ (List.mem_cons_of_mem _ (List.mem_cons_self ..))))⟩
  simp only [List.mem_cons, List.not_mem_nil, or_false] at hp
  rcases hp with rfl | rfl | rfl
  · exact ⟨_, _, hq1, T.m__law_between_right, T.tab__law_between_right⟩
  · exact ⟨_, _, hq2, T.m__law_refused_right, T.tab__law_refused_right⟩
  · exact ⟨_, _, hq, T.m_law, T.tab_law⟩
end

end AZ
theorem PySem.Challenge.cw_allzooms_k24_zooms_between_and_beyond_holds : PySem.Challenge.rw_allzooms_k24_zooms_between_and_beyond.Holds :=
  AZ.pre fun {_ _ _ _ _ _} hd hn hY hq0 hq1 hq2 fs => AZ.walk (l := PySem.Challenge.rw_allzooms_k24_zooms_between_and_beyond) rfl hd hY fun w mg _ h KX G hmg => fs w mg h KX G _ fun L__law_pen L__law_draw L__law_pick L_Ratio L_is_integer L_SnapError L_BadRatio L_all_numbers L_bound_of L_is_number L_is_zoom L_is_place L_many_upto L_state_ahead L_changing L_is_mark L_checked_marks L_least_turn L_least_begin L_normal_form L_Zooms L_BadZooms L_common_multiple L_joined_truth L_marks_joined L__law_number L__law_heard L__law_beside L__law_between_right L__law_beyond_right L__law_refused_right L_law L_Ratio___init__ L_Ratio___add__ L_Ratio___sub__ L_Ratio___mul__ L_Ratio___lt__ L_Ratio___le__ L_Ratio___gt__ L_Ratio___ge__ L_Ratio___eq__ L_Ratio_floor L_Ratio_ceiling L_Ratio___str__ L_Ratio___bool__ L_BadRatio___init__ L_Ratio___radd__ L_Ratio___rsub__ L_Zooms___init__ L_BadZooms___init__ L_Zooms_mark L_Zooms_state_behind L_Zooms___bool__ L_Ratio_divided L_Zooms___contains__ L_Zooms___eq__ L_Zooms___invert__ L_Zooms_joined L_Zooms___sub__ L_Zooms_marks_upto L_Ratio___rmul__ s_Ratio_of_r s_Ratio_highest_r s_Ratio_common_r s_Ratio_lowest_r s_Zooms_between_r s_Zooms_beyond_r s_Zooms_everything_r s_Zooms_nothing_r s_Ratio_of_a s_Ratio_highest_a s_Ratio_common_a s_Ratio_lowest_a s_Zooms_between_a s_Zooms_beyond_a s_Zooms_everything_a s_Zooms_nothing_a s_Ratio_of_q s_Ratio_highest_q s_Ratio_common_q s_Ratio_lowest_q s_Zooms_between_q s_Zooms_beyond_q s_Zooms_everything_q s_Zooms_nothing_q F__law_pen_l F__law_draw_l F__law_pick_l F_is_integer_l D_Ratio___init___l F_Ratio_of_l F_Ratio___add___l F_Ratio___sub___l F_Ratio___mul___l F_Ratio___lt___l F_Ratio___le___l F_Ratio___gt___l F_Ratio___ge___l F_Ratio___eq___l F_Ratio_floor_l F_Ratio_ceiling_l F_Ratio___str___l F_Ratio___bool___l F_BadRatio___init___l F_all_numbers_l F_bound_of_l F_Ratio_highest_l F_Ratio_lowest_l F_is_number_l F_is_zoom_l F_is_place_l F_many_upto_l F_state_ahead_l F_changing_l F_is_mark_l F_checked_marks_l F_least_turn_l F_least_begin_l F_normal_form_l F_Zooms___init___l F_Zooms_everything_l F_Zooms_nothing_l F_BadZooms___init___l D_Zooms_beyond_l D_Zooms_between_l F_Zooms_mark_l F_Zooms_state_behind_l F_Zooms___bool___l F_Ratio_divided_l F_Ratio___rsub___l F_Zooms___contains___l F_Zooms___eq___l F_Zooms___invert___l F_Zooms_joined_l F_Zooms___sub___l F_common_multiple_l F_joined_truth_l F_marks_joined_l F__law_number_l F__law_heard_l F__law_beside_l F__law_between_right_l F__law_beyond_right_l F__law_refused_right_l F_law_l F_Ratio_common_l F_Zooms_marks_upto_l F__law_pen_c F__law_pen_k n_list_a F__law_draw_c F__law_draw_k n_int_a n_len_a n_abs_a F__law_pick_c F__law_pick_k k__law_draw_a m__law_draw_a y_Ratio_a y_Ratio_n y_Ratio_t y_Ratio_m c_Ratio_p c_Ratio_h c_Ratio_o c_Ratio_s i_Ratio_is_int_a i_Ratio_is_bool_a F_is_integer_c F_is_integer_k n_isinstance_a n_bool_a D_Ratio___init___c D_Ratio___init___k D_Ratio___init___t k_is_integer_a m_is_integer_a m_gcd_a a_Ratio_over_a a_Ratio_under_a F_Ratio_of_c F_Ratio_of_k m_Ratio_a mk_Ratio_m mk_Ratio_i mk_Ratio_f mk_Ratio_k i_int_is_Ratio_c i_int_is_Ratio_t i_int_is_Ratio_a F_Ratio___add___c F_Ratio___add___k s_Ratio_of_g s_Ratio_of_k F_Ratio___sub___c F_Ratio___sub___k F_Ratio___mul___c F_Ratio___mul___k F_Ratio___lt___c F_Ratio___lt___k F_Ratio___le___c F_Ratio___le___k F_Ratio___gt___c F_Ratio___gt___k F_Ratio___ge___c F_Ratio___ge___k F_Ratio___eq___c F_Ratio___eq___k F_Ratio_floor_c F_Ratio_floor_k F_Ratio_ceiling_c F_Ratio_ceiling_k F_Ratio___str___c F_Ratio___str___k n_str_a F_Ratio___bool___c F_Ratio___bool___k F_BadRatio___init___c F_BadRatio___init___k vi_SnapError_r vi_SnapError_g vi_SnapError_v m_SnapError_a ex_BadRatio_l ex_BadRatio_s ex_BadRatio_g ex_BadRatio_h ex_BadRatio_c ex_BadRatio_i ex_BadRatio_f ex_BadRatio_k a_BadRatio_value_a m_BadRatio_a F_all_numbers_c F_all_numbers_k n_tuple_a F_bound_of_c F_bound_of_k k_all_numbers_a m_all_numbers_a q_Ratio_gt_s q_Ratio_gt_f q_Ratio_gt_n q_Ratio_lt_s q_Ratio_lt_f q_Ratio_lt_n F_Ratio_highest_c F_Ratio_highest_k k_bound_of_a m_bound_of_a F_Ratio_lowest_c F_Ratio_lowest_k F_is_number_c F_is_number_k F_is_zoom_c F_is_zoom_k k_is_number_a m_is_number_a F_is_place_c F_is_place_k q_Ratio_ge_s q_Ratio_ge_f q_Ratio_ge_n F_many_upto_c F_many_upto_k q_Ratio_le_s q_Ratio_le_f q_Ratio_le_n F_state_ahead_c F_state_ahead_k F_changing_c F_changing_k F_is_mark_c F_is_mark_k k_is_zoom_a m_is_zoom_a F_checked_marks_c F_checked_marks_k k_is_mark_a m_is_mark_a F_least_turn_c F_least_turn_k F_least_begin_c F_least_begin_k k_many_upto_a m_many_upto_a s_Ratio_highest_g s_Ratio_highest_k b_Ratio_add_s b_Ratio_add_f b_Ratio_add_c b_Ratio_add_r b_Ratio_add_t b_Ratio_add_u b_Ratio_add_w q_Ratio_eq_s q_Ratio_eq_f q_Ratio_eq_n b_Ratio_sub_s b_Ratio_sub_f b_Ratio_sub_c b_Ratio_sub_r b_Ratio_sub_t b_Ratio_sub_u b_Ratio_sub_w z_Ratio_e z_Ratio_s z_Ratio_f z_Ratio_m z_Ratio_n F_normal_form_c F_normal_form_k k_changing_a m_changing_a k_least_turn_a m_least_turn_a k_least_begin_a m_least_begin_a F_Zooms___init___c F_Zooms___init___k k_is_place_a m_is_place_a k_checked_marks_a m_checked_marks_a k_state_ahead_a m_state_ahead_a k_normal_form_a m_normal_form_a c_Zooms_p c_Zooms_h c_Zooms_o c_Zooms_s a_Zooms_begin_a a_Zooms_turn_a a_Zooms_marks_a a_Zooms_is_first_a a_Zooms_once_a F_Zooms_everything_c F_Zooms_everything_k mk_Zooms_m mk_Zooms_i mk_Zooms_f mk_Zooms_k m_Zooms_a F_Zooms_nothing_c F_Zooms_nothing_k F_BadZooms___init___c F_BadZooms___init___k ex_BadZooms_l ex_BadZooms_s ex_BadZooms_g ex_BadZooms_h ex_BadZooms_c ex_BadZooms_i ex_BadZooms_f ex_BadZooms_k a_BadZooms_part_a D_Zooms_beyond_c D_Zooms_beyond_k D_Zooms_beyond_t m_BadZooms_a D_Zooms_between_c D_Zooms_between_k D_Zooms_between_t F_Zooms_mark_c F_Zooms_mark_k F_Zooms_state_behind_c F_Zooms_state_behind_k h_Zooms_mark_a h_Zooms_mark_f h_Zooms_mark_k F_Zooms___bool___c F_Zooms___bool___k F_Ratio_divided_c F_Ratio_divided_k F_Ratio___rsub___c F_Ratio___rsub___k in_Zooms_s in_Zooms_f F_Zooms___contains___c F_Zooms___contains___k F_Zooms___eq___c F_Zooms___eq___k F_Zooms___invert___c F_Zooms___invert___k F_Zooms_joined_c F_Zooms_joined_k F_Zooms___sub___c F_Zooms___sub___k F_common_multiple_c F_common_multiple_k F_joined_truth_c F_joined_truth_k F_marks_joined_c F_marks_joined_k F__law_number_c F__law_number_k F__law_heard_c F__law_heard_k F__law_beside_c F__law_beside_k F__law_between_right_c F__law_between_right_k F__law_beyond_right_c F__law_beyond_right_k F__law_refused_right_c F__law_refused_right_k F_law_c F_law_k u_Zooms_invert_s u_Zooms_invert_f q_Zooms_eq_s q_Zooms_eq_f q_Zooms_eq_n z_Zooms_e z_Zooms_s z_Zooms_f z_Zooms_m z_Zooms_n b_Zooms_sub_s b_Zooms_sub_f b_Zooms_sub_c b_Zooms_sub_r b_Zooms_sub_t b_Zooms_sub_u b_Zooms_sub_w bo_Zooms_s bo_Zooms_f h_Zooms_marks_upto_a h_Zooms_marks_upto_f h_Zooms_marks_upto_k h_Zooms_state_behind_a h_Zooms_state_behind_f h_Zooms_state_behind_k h_Zooms_joined_a h_Zooms_joined_f h_Zooms_joined_k h_Ratio_divided_a h_Ratio_divided_f h_Ratio_divided_k h_Ratio_ceiling_a h_Ratio_ceiling_f h_Ratio_ceiling_k F_Ratio_common_c F_Ratio_common_k s_Ratio_common_g s_Ratio_common_k s_Ratio_lowest_g s_Ratio_lowest_k s_Zooms_between_g s_Zooms_between_k s_Zooms_beyond_g s_Zooms_beyond_k s_Zooms_everything_g s_Zooms_everything_k s_Zooms_nothing_g s_Zooms_nothing_k k_marks_joined_a m_marks_joined_a k_joined_truth_a m_joined_truth_a k_common_multiple_a m_common_multiple_a n_range_a y_Zooms_a y_Zooms_n y_Zooms_t y_Zooms_m cv_Zooms_MOST_MARKS_r cv_Zooms_MOST_MARKS_g cv_Zooms_MOST_MARKS_v v_Ratio_sub_s v_Ratio_sub_r v_Ratio_sub_f v_Ratio_sub_c v_Ratio_sub_u bo_Ratio_s bo_Ratio_f m_law_a sx_SnapError_l gx_all_n gx_all_t m__law_number_a k__law_number_a m__law_heard_a k__law_heard_a m__law_beside_a k__law_beside_a m__law_between_right_a k__law_between_right_a m__law_beyond_right_a k__law_beyond_right_a m__law_refused_right_a k__law_refused_right_a m__law_pen_a k__law_pen_a m__law_pick_a k__law_pick_a w_Zooms_bool_n F_Zooms_marks_upto_c F_Zooms_marks_upto_k b_Ratio_mul_s b_Ratio_mul_f b_Ratio_mul_c b_Ratio_mul_r b_Ratio_mul_t b_Ratio_mul_u b_Ratio_mul_w tab_law_l tab_law_c tab_law_v tab_law_o tab_law_h tab__law_between_right_l tab__law_between_right_c tab__law_between_right_v tab__law_between_right_o tab__law_between_right_h tab__law_refused_right_l tab__law_refused_right_c tab__law_refused_right_v tab__law_refused_right_o tab__law_refused_right_h gx_object_n gx_object_t i_NoneType_is_Ratio_c i_NoneType_is_Ratio_t i_NoneType_is_Ratio_a w_Ratio_NoneType_n i_bool_is_Ratio_c i_bool_is_Ratio_t i_bool_is_Ratio_a w_Ratio_bool_n i_str_is_Ratio_c i_str_is_Ratio_t i_str_is_Ratio_a w_Ratio_str_n i_tuple_is_Ratio_c i_tuple_is_Ratio_t i_tuple_is_Ratio_a w_Ratio_tuple_n i_list_is_Ratio_c i_list_is_Ratio_t i_list_is_Ratio_a w_Ratio_list_n dn_law____law_between_right_n dn_law____law_refused_right_n dn__law_between_right____law_refused_right_n => AZ.law_end (h := h) hq0 hq1 hq2 (hn ▸ hmg) (AZ.tx_mk KX G L__law_pen L__law_draw L__law_pick L_Ratio L_is_integer L_SnapError L_BadRatio L_all_numbers L_bound_of L_is_number L_is_zoom L_is_place L_many_upto L_state_ahead L_changing L_is_mark L_checked_marks L_least_turn L_least_begin L_normal_form L_Zooms L_BadZooms L_common_multiple L_joined_truth L_marks_joined L__law_number L__law_heard L__law_beside L__law_between_right L__law_beyond_right L__law_refused_right L_law L_Ratio___init__ L_Ratio___add__ L_Ratio___sub__ L_Ratio___mul__ L_Ratio___lt__ L_Ratio___le__ L_Ratio___gt__ L_Ratio___ge__ L_Ratio___eq__ L_Ratio_floor L_Ratio_ceiling L_Ratio___str__ L_Ratio___bool__ L_BadRatio___init__ L_Ratio___radd__ L_Ratio___rsub__ L_Zooms___init__ L_BadZooms___init__ L_Zooms_mark L_Zooms_state_behind L_Zooms___bool__ L_Ratio_divided L_Zooms___contains__ L_Zooms___eq__ L_Zooms___invert__ L_Zooms_joined L_Zooms___sub__ L_Zooms_marks_upto L_Ratio___rmul__ s_Ratio_of_r s_Ratio_highest_r s_Ratio_common_r s_Ratio_lowest_r s_Zooms_between_r s_Zooms_beyond_r s_Zooms_everything_r s_Zooms_nothing_r s_Ratio_of_a s_Ratio_highest_a s_Ratio_common_a s_Ratio_lowest_a s_Zooms_between_a s_Zooms_beyond_a s_Zooms_everything_a s_Zooms_nothing_a s_Ratio_of_q s_Ratio_highest_q s_Ratio_common_q s_Ratio_lowest_q s_Zooms_between_q s_Zooms_beyond_q s_Zooms_everything_q s_Zooms_nothing_q F__law_pen_l F__law_draw_l F__law_pick_l F_is_integer_l D_Ratio___init___l F_Ratio_of_l F_Ratio___add___l F_Ratio___sub___l F_Ratio___mul___l F_Ratio___lt___l F_Ratio___le___l F_Ratio___gt___l F_Ratio___ge___l F_Ratio___eq___l F_Ratio_floor_l F_Ratio_ceiling_l F_Ratio___str___l F_Ratio___bool___l F_BadRatio___init___l F_all_numbers_l F_bound_of_l F_Ratio_highest_l F_Ratio_lowest_l F_is_number_l F_is_zoom_l F_is_place_l F_many_upto_l F_state_ahead_l F_changing_l F_is_mark_l F_checked_marks_l F_least_turn_l F_least_begin_l F_normal_form_l F_Zooms___init___l F_Zooms_everything_l F_Zooms_nothing_l F_BadZooms___init___l D_Zooms_beyond_l D_Zooms_between_l F_Zooms_mark_l F_Zooms_state_behind_l F_Zooms___bool___l F_Ratio_divided_l F_Ratio___rsub___l F_Zooms___contains___l F_Zooms___eq___l F_Zooms___invert___l F_Zooms_joined_l F_Zooms___sub___l F_common_multiple_l F_joined_truth_l F_marks_joined_l F__law_number_l F__law_heard_l F__law_beside_l F__law_between_right_l F__law_beyond_right_l F__law_refused_right_l F_law_l F_Ratio_common_l F_Zooms_marks_upto_l F__law_pen_c F__law_pen_k n_list_a F__law_draw_c F__law_draw_k n_int_a n_len_a n_abs_a F__law_pick_c F__law_pick_k k__law_draw_a m__law_draw_a y_Ratio_a y_Ratio_n y_Ratio_t y_Ratio_m c_Ratio_p c_Ratio_h c_Ratio_o c_Ratio_s i_Ratio_is_int_a i_Ratio_is_bool_a F_is_integer_c F_is_integer_k n_isinstance_a n_bool_a D_Ratio___init___c D_Ratio___init___k D_Ratio___init___t k_is_integer_a m_is_integer_a m_gcd_a a_Ratio_over_a a_Ratio_under_a F_Ratio_of_c F_Ratio_of_k m_Ratio_a mk_Ratio_m mk_Ratio_i mk_Ratio_f mk_Ratio_k i_int_is_Ratio_c i_int_is_Ratio_t i_int_is_Ratio_a F_Ratio___add___c F_Ratio___add___k s_Ratio_of_g s_Ratio_of_k F_Ratio___sub___c F_Ratio___sub___k F_Ratio___mul___c F_Ratio___mul___k F_Ratio___lt___c F_Ratio___lt___k F_Ratio___le___c F_Ratio___le___k F_Ratio___gt___c F_Ratio___gt___k F_Ratio___ge___c F_Ratio___ge___k F_Ratio___eq___c F_Ratio___eq___k F_Ratio_floor_c F_Ratio_floor_k F_Ratio_ceiling_c F_Ratio_ceiling_k F_Ratio___str___c F_Ratio___str___k n_str_a F_Ratio___bool___c F_Ratio___bool___k F_BadRatio___init___c F_BadRatio___init___k vi_SnapError_r vi_SnapError_g vi_SnapError_v m_SnapError_a ex_BadRatio_l ex_BadRatio_s ex_BadRatio_g ex_BadRatio_h ex_BadRatio_c ex_BadRatio_i ex_BadRatio_f ex_BadRatio_k a_BadRatio_value_a m_BadRatio_a F_all_numbers_c F_all_numbers_k n_tuple_a F_bound_of_c F_bound_of_k k_all_numbers_a m_all_numbers_a q_Ratio_gt_s q_Ratio_gt_f q_Ratio_gt_n q_Ratio_lt_s q_Ratio_lt_f q_Ratio_lt_n F_Ratio_highest_c F_Ratio_highest_k k_bound_of_a m_bound_of_a F_Ratio_lowest_c F_Ratio_lowest_k F_is_number_c F_is_number_k F_is_zoom_c F_is_zoom_k k_is_number_a m_is_number_a F_is_place_c F_is_place_k q_Ratio_ge_s q_Ratio_ge_f q_Ratio_ge_n F_many_upto_c F_many_upto_k q_Ratio_le_s q_Ratio_le_f q_Ratio_le_n F_state_ahead_c F_state_ahead_k F_changing_c F_changing_k F_is_mark_c F_is_mark_k k_is_zoom_a m_is_zoom_a F_checked_marks_c F_checked_marks_k k_is_mark_a m_is_mark_a F_least_turn_c F_least_turn_k F_least_begin_c F_least_begin_k k_many_upto_a m_many_upto_a s_Ratio_highest_g s_Ratio_highest_k b_Ratio_add_s b_Ratio_add_f b_Ratio_add_c b_Ratio_add_r b_Ratio_add_t b_Ratio_add_u b_Ratio_add_w q_Ratio_eq_s q_Ratio_eq_f q_Ratio_eq_n b_Ratio_sub_s b_Ratio_sub_f b_Ratio_sub_c b_Ratio_sub_r b_Ratio_sub_t b_Ratio_sub_u b_Ratio_sub_w z_Ratio_e z_Ratio_s z_Ratio_f z_Ratio_m z_Ratio_n F_normal_form_c F_normal_form_k k_changing_a m_changing_a k_least_turn_a m_least_turn_a k_least_begin_a m_least_begin_a F_Zooms___init___c F_Zooms___init___k k_is_place_a m_is_place_a k_checked_marks_a m_checked_marks_a k_state_ahead_a m_state_ahead_a k_normal_form_a m_normal_form_a c_Zooms_p c_Zooms_h c_Zooms_o c_Zooms_s a_Zooms_begin_a a_Zooms_turn_a a_Zooms_marks_a a_Zooms_is_first_a a_Zooms_once_a F_Zooms_everything_c F_Zooms_everything_k mk_Zooms_m mk_Zooms_i mk_Zooms_f mk_Zooms_k m_Zooms_a F_Zooms_nothing_c F_Zooms_nothing_k F_BadZooms___init___c F_BadZooms___init___k ex_BadZooms_l ex_BadZooms_s ex_BadZooms_g ex_BadZooms_h ex_BadZooms_c ex_BadZooms_i ex_BadZooms_f ex_BadZooms_k a_BadZooms_part_a D_Zooms_beyond_c D_Zooms_beyond_k D_Zooms_beyond_t m_BadZooms_a D_Zooms_between_c D_Zooms_between_k D_Zooms_between_t F_Zooms_mark_c F_Zooms_mark_k F_Zooms_state_behind_c F_Zooms_state_behind_k h_Zooms_mark_a h_Zooms_mark_f h_Zooms_mark_k F_Zooms___bool___c F_Zooms___bool___k F_Ratio_divided_c F_Ratio_divided_k F_Ratio___rsub___c F_Ratio___rsub___k in_Zooms_s in_Zooms_f F_Zooms___contains___c F_Zooms___contains___k F_Zooms___eq___c F_Zooms___eq___k F_Zooms___invert___c F_Zooms___invert___k F_Zooms_joined_c F_Zooms_joined_k F_Zooms___sub___c F_Zooms___sub___k F_common_multiple_c F_common_multiple_k F_joined_truth_c F_joined_truth_k F_marks_joined_c F_marks_joined_k F__law_number_c F__law_number_k F__law_heard_c F__law_heard_k F__law_beside_c F__law_beside_k F__law_between_right_c F__law_between_right_k F__law_beyond_right_c F__law_beyond_right_k F__law_refused_right_c F__law_refused_right_k F_law_c F_law_k u_Zooms_invert_s u_Zooms_invert_f q_Zooms_eq_s q_Zooms_eq_f q_Zooms_eq_n z_Zooms_e z_Zooms_s z_Zooms_f z_Zooms_m z_Zooms_n b_Zooms_sub_s b_Zooms_sub_f b_Zooms_sub_c b_Zooms_sub_r b_Zooms_sub_t b_Zooms_sub_u b_Zooms_sub_w bo_Zooms_s bo_Zooms_f h_Zooms_marks_upto_a h_Zooms_marks_upto_f h_Zooms_marks_upto_k h_Zooms_state_behind_a h_Zooms_state_behind_f h_Zooms_state_behind_k h_Zooms_joined_a h_Zooms_joined_f h_Zooms_joined_k h_Ratio_divided_a h_Ratio_divided_f h_Ratio_divided_k h_Ratio_ceiling_a h_Ratio_ceiling_f h_Ratio_ceiling_k F_Ratio_common_c F_Ratio_common_k s_Ratio_common_g s_Ratio_common_k s_Ratio_lowest_g s_Ratio_lowest_k s_Zooms_between_g s_Zooms_between_k s_Zooms_beyond_g s_Zooms_beyond_k s_Zooms_everything_g s_Zooms_everything_k s_Zooms_nothing_g s_Zooms_nothing_k k_marks_joined_a m_marks_joined_a k_joined_truth_a m_joined_truth_a k_common_multiple_a m_common_multiple_a n_range_a y_Zooms_a y_Zooms_n y_Zooms_t y_Zooms_m cv_Zooms_MOST_MARKS_r cv_Zooms_MOST_MARKS_g cv_Zooms_MOST_MARKS_v v_Ratio_sub_s v_Ratio_sub_r v_Ratio_sub_f v_Ratio_sub_c v_Ratio_sub_u bo_Ratio_s bo_Ratio_f m_law_a sx_SnapError_l gx_all_n gx_all_t m__law_number_a k__law_number_a m__law_heard_a k__law_heard_a m__law_beside_a k__law_beside_a m__law_between_right_a k__law_between_right_a m__law_beyond_right_a k__law_beyond_right_a m__law_refused_right_a k__law_refused_right_a m__law_pen_a k__law_pen_a m__law_pick_a k__law_pick_a w_Zooms_bool_n F_Zooms_marks_upto_c F_Zooms_marks_upto_k b_Ratio_mul_s b_Ratio_mul_f b_Ratio_mul_c b_Ratio_mul_r b_Ratio_mul_t b_Ratio_mul_u b_Ratio_mul_w tab_law_l tab_law_c tab_law_v tab_law_o tab_law_h tab__law_between_right_l tab__law_between_right_c tab__law_between_right_v tab__law_between_right_o tab__law_between_right_h tab__law_refused_right_l tab__law_refused_right_c tab__law_refused_right_v tab__law_refused_right_o tab__law_refused_right_h gx_object_n gx_object_t i_NoneType_is_Ratio_c i_NoneType_is_Ratio_t i_NoneType_is_Ratio_a w_Ratio_NoneType_n i_bool_is_Ratio_c i_bool_is_Ratio_t i_bool_is_Ratio_a w_Ratio_bool_n i_str_is_Ratio_c i_str_is_Ratio_t i_str_is_Ratio_a w_Ratio_str_n i_tuple_is_Ratio_c i_tuple_is_Ratio_t i_tuple_is_Ratio_a w_Ratio_tuple_n i_list_is_Ratio_c i_list_is_Ratio_t i_list_is_Ratio_a w_Ratio_list_n dn_law____law_between_right_n dn_law____law_refused_right_n dn__law_between_right____law_refused_right_n)
