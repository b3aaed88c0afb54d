import PyProof.Rows.All
import Wide.All
import OpenK.AllK
import Wide.FinOn
import HandS.ForExc
import HandS.Comp
import HandS.More
import HandS.Star
import HandS.Gcd
import HandS.Defaults
import HandS.IsInst
import HandS.Wide
import HandS.ClsMeth
import HandS.Flow
import HandS.Style
import HandS.SortInts
import HandS.OwnEq
import HandS.FStr
import PyProof.Rows.ReprR
import HandS.MakeKw
import HandS.ExcInit
import HandS.ExcIs
import HandS.ExcField
import HandS.Dict
import PyProof.ReprRoads
import KE.KExcIs
import HandS.Lambda
import HandS.WordsExc
import HandS.HeadWalk
import KE.KCallOwn
import OpenK.KMeth
import HandS.RaiseMore
import HandS.Text
import HandS.Zip
import HandS.Conv
import PyProof.ReprLen
import HandS.IterVal
import KE.KOwnIter
import HandS.Iter
import KE.KOpsOwn
import HandS.Property
import HandS.StrMore
import HandS.Strs
import HandS.TupAny
import KE.GoesMore
import KE.GoesEnum
import KE.GoesZip
import PyProof.Rows.ReprOcc
import KE.OsRunLaw
import PySem.Challenge.RW_allzooms_k58_pages_made_and_asked

set_option Elab.async false
set_option maxRecDepth 100000
set_option maxHeartbeats 4000000
set_option linter.all false
namespace AZ
open PySem L2
def top (i : Nat) : Stmt := PySem.Challenge.pw_allzooms_k58_pages_made_and_asked.main.body.getD i (.Pass ⟨0, 0, 0, 0⟩)
abbrev s__law_pen : Stmt := top 37
abbrev s__law_draw : Stmt := top 38
abbrev s__law_pick : Stmt := top 39
abbrev s_is_integer : Stmt := top 24
abbrev s_is_name : Stmt := top 16
abbrev s_check_unlike : Stmt := top 17
abbrev s_names_of : Stmt := top 32
abbrev s_Box___str__ : Stmt := inClass (top 34) 3
abbrev s_boxes_text : Stmt := top 31
abbrev s_Box___init__ : Stmt := inClass (top 34) 0
abbrev s_with_inner : Stmt := top 27
abbrev s_boxes_without : Stmt := top 28
abbrev s_boxes_scaled : Stmt := top 30
abbrev s_boxes_with : Stmt := top 29
abbrev s_check_names : Stmt := top 33
abbrev s_Page___init__ : Stmt := inClass (top 35) 1
abbrev s_Page___contains__ : Stmt := inClass (top 35) 6
abbrev s_Page_row : Stmt := inClass (top 35) 8
abbrev s_Page_box : Stmt := inClass (top 35) 9
abbrev s_Page_names : Stmt := inClass (top 35) 3
abbrev s_Page___sub__ : Stmt := inClass (top 35) 14
abbrev s_Page___mul__ : Stmt := inClass (top 35) 15
abbrev s_Page___str__ : Stmt := inClass (top 35) 18
abbrev s_Page_with_box : Stmt := inClass (top 35) 13
abbrev s_Box___eq__ : Stmt := inClass (top 34) 2
abbrev s_Page___eq__ : Stmt := inClass (top 35) 17
abbrev s_Page___rmul__ : Stmt := inClass (top 35) 16
abbrev s__law_box_made : Stmt := top 42
abbrev s__law_all : Stmt := top 44
abbrev s__law_page_made : Stmt := top 43
abbrev s__law_boxes : Stmt := top 40
abbrev s__law_page : Stmt := top 41
abbrev s_Page___len__ : Stmt := inClass (top 35) 5
abbrev s_Page___getitem__ : Stmt := inClass (top 35) 7
abbrev s_Page_around : Stmt := inClass (top 35) 10
abbrev s_Page_within : Stmt := inClass (top 35) 11
abbrev s_Page___iter__ : Stmt := inClass (top 35) 4
abbrev s_Page_some : Stmt := inClass (top 35) 12
abbrev s__law_box_right : Stmt := top 47
abbrev s__law_right : Stmt := top 48
abbrev s_law : Stmt := top 49
end AZ
section
-- what the head leaves keeps its premise: it stands in the goal while the head clears what it does not need
local macro_rules
  | `(tactic| refine $f:ident $args*) => do
    let n := f.getId.eraseMacroScopes
    if n.isStr && n.getString!.startsWith "holds_open" then
      let F := Lean.mkIdent `F
      let hc := Lean.mkIdent `hc
      `(tactic| (refine' $f $args*; (case' $hc:ident => revert $F:ident)))
    else Lean.Macro.throwUnsupported
namespace AZ
open PySem L2
def Wants (K : PySem.W.Frag) (mg : Str → Option Value) : Prop := ∀ C : Prop, (∀ {A__law_pen A__law_draw A__law_pick A_is_integer A_is_name A_check_unlike A_names_of A_Box A_Box___str__ A_boxes_text A_Box___init__ A_with_inner A_boxes_without A_boxes_scaled A_boxes_with A_check_names A_Page A_Page___init__ A_Page___contains__ A_Page_row A_Page_box A_Page_names A_Page___sub__ A_Page___mul__ A_Page___str__ A_Page_with_box A_Box___eq__ A_Page___eq__ A_Page___rmul__ A__law_box_made A__law_all A__law_page_made A__law_boxes A__law_page A_Page___len__ A_Page___getitem__ A_Page_around A_Page_within A_Page___iter__ A_Page_some A__law_box_right A__law_right A_law : Addr} {cd_Box___eq__ cd_Box___init__ cd_Box___str__ cd_Page___contains__ cd_Page___eq__ cd_Page___getitem__ cd_Page___init__ cd_Page___iter__ cd_Page___len__ cd_Page___mul__ cd_Page___rmul__ cd_Page___str__ cd_Page___sub__ cd_Page_around cd_Page_box cd_Page_names cd_Page_row cd_Page_some cd_Page_with_box cd_Page_within cd__law_all cd__law_box_made cd__law_box_right cd__law_boxes cd__law_draw cd__law_page cd__law_page_made cd__law_pen cd__law_pick cd__law_right cd_boxes_scaled cd_boxes_text cd_boxes_with cd_boxes_without cd_check_names cd_check_unlike cd_is_integer cd_is_name cd_law cd_names_of cd_with_inner ct_Box___eq__ ct_Box___init__ ct_Box___str__ ct_Page___contains__ ct_Page___eq__ ct_Page___getitem__ ct_Page___init__ ct_Page___iter__ ct_Page___len__ ct_Page___mul__ ct_Page___rmul__ ct_Page___str__ ct_Page___sub__ ct_Page_around ct_Page_box ct_Page_names ct_Page_row ct_Page_some ct_Page_with_box ct_Page_within ct__law_all ct__law_box_made ct__law_box_right ct__law_boxes ct__law_draw ct__law_page ct__law_page_made ct__law_pen ct__law_pick ct__law_right ct_boxes_scaled ct_boxes_text ct_boxes_with ct_boxes_without ct_check_names ct_check_unlike ct_is_integer ct_is_name ct_law ct_names_of ct_with_inner dc_Box___eq__ dc_Box___init__ dc_Box___str__ dc_Page___contains__ dc_Page___eq__ dc_Page___getitem__ dc_Page___init__ dc_Page___iter__ dc_Page___len__ dc_Page___mul__ dc_Page___rmul__ dc_Page___str__ dc_Page___sub__ dc_Page_around dc_Page_box dc_Page_names dc_Page_row dc_Page_some dc_Page_with_box dc_Page_within dc__law_all dc__law_box_made dc__law_box_right dc__law_boxes dc__law_draw dc__law_page dc__law_page_made dc__law_pen dc__law_pick dc__law_right dc_boxes_scaled dc_boxes_text dc_boxes_with dc_boxes_without dc_check_names dc_check_unlike dc_is_integer dc_is_name dc_law dc_names_of dc_with_inner kV_Box___eq__ kV_Box___init__ kV_Box___str__ kV_Page___contains__ kV_Page___eq__ kV_Page___getitem__ kV_Page___init__ kV_Page___iter__ kV_Page___len__ kV_Page___mul__ kV_Page___rmul__ kV_Page___str__ kV_Page___sub__ kV_Page_around kV_Page_box kV_Page_names kV_Page_row kV_Page_some kV_Page_with_box kV_Page_within kV__law_all kV__law_box_made kV__law_box_right kV__law_boxes kV__law_draw kV__law_page kV__law_page_made kV__law_pen kV__law_pick kV__law_right kV_boxes_scaled kV_boxes_text kV_boxes_with kV_boxes_without kV_check_names kV_check_unlike kV_is_integer kV_is_name kV_law kV_names_of kV_with_inner oc_Box___eq__ oc_Box___init__ oc_Box___str__ oc_Page___contains__ oc_Page___eq__ oc_Page___getitem__ oc_Page___init__ oc_Page___iter__ oc_Page___len__ oc_Page___mul__ oc_Page___rmul__ oc_Page___str__ oc_Page___sub__ oc_Page_around oc_Page_box oc_Page_names oc_Page_row oc_Page_some oc_Page_with_box oc_Page_within oc__law_all oc__law_box_made oc__law_box_right oc__law_boxes oc__law_draw oc__law_page oc__law_page_made oc__law_pen oc__law_pick oc__law_right oc_boxes_scaled oc_boxes_text oc_boxes_with oc_boxes_without oc_check_names oc_check_unlike oc_is_integer oc_is_name oc_law oc_names_of oc_with_inner pm_Box___eq__ pm_Box___init__ pm_Box___str__ pm_Page___contains__ pm_Page___eq__ pm_Page___getitem__ pm_Page___init__ pm_Page___iter__ pm_Page___len__ pm_Page___mul__ pm_Page___rmul__ pm_Page___str__ pm_Page___sub__ pm_Page_around pm_Page_box pm_Page_names pm_Page_row pm_Page_some pm_Page_with_box pm_Page_within pm__law_all pm__law_box_made pm__law_box_right pm__law_boxes pm__law_draw pm__law_page pm__law_page_made pm__law_pen pm__law_pick pm__law_right pm_boxes_scaled pm_boxes_text pm_boxes_with pm_boxes_without pm_check_names pm_check_unlike pm_is_integer pm_is_name pm_law pm_names_of pm_with_inner tc_Page_with_box tc__law_all : Value} {an_Box___eq__ an_Box___init__ an_Box___str__ an_Page___contains__ an_Page___eq__ an_Page___getitem__ an_Page___init__ an_Page___iter__ an_Page___len__ an_Page___mul__ an_Page___rmul__ an_Page___str__ an_Page___sub__ an_Page_around an_Page_box an_Page_names an_Page_row an_Page_some an_Page_with_box an_Page_within an__law_all an__law_box_made an__law_box_right an__law_boxes an__law_draw an__law_page an__law_page_made an__law_pen an__law_pick an__law_right an_boxes_scaled an_boxes_text an_boxes_with an_boxes_without an_check_names an_check_unlike an_is_integer an_is_name an_law an_names_of an_with_inner od_Box___eq__ od_Box___init__ od_Box___str__ od_Page___contains__ od_Page___eq__ od_Page___getitem__ od_Page___init__ od_Page___iter__ od_Page___len__ od_Page___mul__ od_Page___rmul__ od_Page___str__ od_Page___sub__ od_Page_around od_Page_box od_Page_names od_Page_row od_Page_some od_Page_with_box od_Page_within od__law_all od__law_box_made od__law_box_right od__law_boxes od__law_draw od__law_page od__law_page_made od__law_pen od__law_pick od__law_right od_boxes_scaled od_boxes_text od_boxes_with od_boxes_without od_check_names od_check_unlike od_is_integer od_is_name od_law od_names_of od_with_inner td_Page_with_box td__law_all : Option Addr} {sl_Box___eq__ sl_Box___init__ sl_Box___str__ sl_Page___contains__ sl_Page___eq__ sl_Page___getitem__ sl_Page___init__ sl_Page___iter__ sl_Page___len__ sl_Page___mul__ sl_Page___rmul__ sl_Page___str__ sl_Page___sub__ sl_Page_around sl_Page_box sl_Page_names sl_Page_row sl_Page_some sl_Page_with_box sl_Page_within sl__law_all sl__law_box_made sl__law_box_right sl__law_boxes sl__law_draw sl__law_page sl__law_page_made sl__law_pen sl__law_pick sl__law_right sl_boxes_scaled sl_boxes_text sl_boxes_with sl_boxes_without sl_check_names sl_check_unlike sl_is_integer sl_is_name sl_law sl_names_of sl_with_inner ts_Page_with_box ts__law_all : Array (Option Value)} {tn_Page_with_box tn__law_all : Nat} {tk0__law_all tk0_cv_Page_MOST_BOXES tk0_mi_MOST_LETTERS : Tok} {dT_Page_with_box dT__law_all pp_Page_names : Addr} {rr_Page_names : List Value} {fo_Page_mul ro_Page_mul : Option Value} , (PySem.W.nsIn K mainGlobals "_law_pen" = some (some (.ref A__law_pen))) → (PySem.W.nsIn K mainGlobals "_law_draw" = some (some (.ref A__law_draw))) → (PySem.W.nsIn K mainGlobals "_law_pick" = some (some (.ref A__law_pick))) → (PySem.W.nsIn K mainGlobals "is_integer" = some (some (.ref A_is_integer))) → (PySem.W.nsIn K mainGlobals "is_name" = some (some (.ref A_is_name))) → (PySem.W.nsIn K mainGlobals "check_unlike" = some (some (.ref A_check_unlike))) → (PySem.W.nsIn K mainGlobals "names_of" = some (some (.ref A_names_of))) → (PySem.W.nsIn K mainGlobals "Box" = some (some (.ref A_Box))) → (PySem.W.nsIn K mainGlobals "boxes_text" = some (some (.ref A_boxes_text))) → (PySem.W.nsIn K mainGlobals "with_inner" = some (some (.ref A_with_inner))) → (PySem.W.nsIn K mainGlobals "boxes_without" = some (some (.ref A_boxes_without))) → (PySem.W.nsIn K mainGlobals "boxes_scaled" = some (some (.ref A_boxes_scaled))) → (PySem.W.nsIn K mainGlobals "boxes_with" = some (some (.ref A_boxes_with))) → (PySem.W.nsIn K mainGlobals "check_names" = some (some (.ref A_check_names))) → (PySem.W.nsIn K mainGlobals "Page" = some (some (.ref A_Page))) → (PySem.W.nsIn K mainGlobals "_law_box_made" = some (some (.ref A__law_box_made))) → (PySem.W.nsIn K mainGlobals "_law_all" = some (some (.ref A__law_all))) → (PySem.W.nsIn K mainGlobals "_law_page_made" = some (some (.ref A__law_page_made))) → (PySem.W.nsIn K mainGlobals "_law_boxes" = some (some (.ref A__law_boxes))) → (PySem.W.nsIn K mainGlobals "_law_page" = some (some (.ref A__law_page))) → (PySem.W.nsIn K mainGlobals "_law_box_right" = some (some (.ref A__law_box_right))) → (PySem.W.nsIn K mainGlobals "_law_right" = some (some (.ref A__law_right))) → (PySem.W.nsIn K mainGlobals "law" = some (some (.ref A_law))) → (PySem.W.findIn K (.ref A_Box) "__str__" = some (some (.ref A_Box___str__))) → (PySem.W.findIn K (.ref A_Box) "__init__" = some (some (.ref A_Box___init__))) → (PySem.W.findIn K (.ref A_Page) "__init__" = some (some (.ref A_Page___init__))) → (PySem.W.findIn K (.ref A_Page) "__contains__" = some (some (.ref A_Page___contains__))) → (PySem.W.findIn K (.ref A_Page) "row" = some (some (.ref A_Page_row))) → (PySem.W.findIn K (.ref A_Page) "box" = some (some (.ref A_Page_box))) → (PySem.W.findIn K (.ref A_Page) "__sub__" = some (some (.ref A_Page___sub__))) → (PySem.W.findIn K (.ref A_Page) "__mul__" = some (some (.ref A_Page___mul__))) → (PySem.W.findIn K (.ref A_Page) "__str__" = some (some (.ref A_Page___str__))) → (PySem.W.findIn K (.ref A_Page) "with_box" = some (some (.ref A_Page_with_box))) → (PySem.W.findIn K (.ref A_Box) "__eq__" = some (some (.ref A_Box___eq__))) → (PySem.W.findIn K (.ref A_Page) "__eq__" = some (some (.ref A_Page___eq__))) → (PySem.W.findIn K (.ref A_Page) "__rmul__" = some (some (.ref A_Page___rmul__))) → (PySem.W.findIn K (.ref A_Page) "__len__" = some (some (.ref A_Page___len__))) → (PySem.W.findIn K (.ref A_Page) "__getitem__" = some (some (.ref A_Page___getitem__))) → (PySem.W.findIn K (.ref A_Page) "around" = some (some (.ref A_Page_around))) → (PySem.W.findIn K (.ref A_Page) "within" = some (some (.ref A_Page_within))) → (PySem.W.findIn K (.ref A_Page) "__iter__" = some (some (.ref A_Page___iter__))) → (PySem.W.findIn K (.ref A_Page) "some" = some (some (.ref A_Page_some))) → (PySem.W.findIn K (.ref A_Page) "names" = some (some (.ref pp_Page_names))) → (PySem.W.recIn K pp_Page_names "property" = some (.ref A_Page_names :: rr_Page_names)) → (K.lookup A__law_pen = some ⟨oc__law_pen, od__law_pen, .func (PySem.W.fnOf "_law_pen" "_law_pen" (defArgs s__law_pen) (defBody s__law_pen) (defScope s__law_pen) .none kV__law_pen dc__law_pen pm__law_pen an__law_pen cd__law_pen ct__law_pen), sl__law_pen⟩) → (K.lookup A__law_draw = some ⟨oc__law_draw, od__law_draw, .func (PySem.W.fnOf "_law_draw" "_law_draw" (defArgs s__law_draw) (defBody s__law_draw) (defScope s__law_draw) .none kV__law_draw dc__law_draw pm__law_draw an__law_draw cd__law_draw ct__law_draw), sl__law_draw⟩) → (K.lookup A__law_pick = some ⟨oc__law_pick, od__law_pick, .func (PySem.W.fnOf "_law_pick" "_law_pick" (defArgs s__law_pick) (defBody s__law_pick) (defScope s__law_pick) .none kV__law_pick dc__law_pick pm__law_pick an__law_pick cd__law_pick ct__law_pick), sl__law_pick⟩) → (K.lookup A_is_integer = some ⟨oc_is_integer, od_is_integer, .func (PySem.W.fnOf "is_integer" "is_integer" (defArgs s_is_integer) (defBody s_is_integer) (defScope s_is_integer) .none kV_is_integer dc_is_integer pm_is_integer an_is_integer cd_is_integer ct_is_integer), sl_is_integer⟩) → (K.lookup A_is_name = some ⟨oc_is_name, od_is_name, .func (PySem.W.fnOf "is_name" "is_name" (defArgs s_is_name) (defBody s_is_name) (defScope s_is_name) .none kV_is_name dc_is_name pm_is_name an_is_name cd_is_name ct_is_name), sl_is_name⟩) → (K.lookup A_check_unlike = some ⟨oc_check_unlike, od_check_unlike, .func (PySem.W.fnOf "check_unlike" "check_unlike" (defArgs s_check_unlike) (defBody s_check_unlike) (defScope s_check_unlike) .none kV_check_unlike dc_check_unlike pm_check_unlike an_check_unlike cd_check_unlike ct_check_unlike), sl_check_unlike⟩) → (K.lookup A_names_of = some ⟨oc_names_of, od_names_of, .func (PySem.W.fnOf "names_of" "names_of" (defArgs s_names_of) (defBody s_names_of) (defScope s_names_of) .none kV_names_of dc_names_of pm_names_of an_names_of cd_names_of ct_names_of), sl_names_of⟩) → (K.lookup A_Box___str__ = some ⟨oc_Box___str__, od_Box___str__, .func (PySem.W.fnOf "__str__" "Box.__str__" (defArgs s_Box___str__) (defBody s_Box___str__) (defScope s_Box___str__) .none kV_Box___str__ dc_Box___str__ pm_Box___str__ an_Box___str__ cd_Box___str__ ct_Box___str__), sl_Box___str__⟩) → (K.lookup A_boxes_text = some ⟨oc_boxes_text, od_boxes_text, .func (PySem.W.fnOf "boxes_text" "boxes_text" (defArgs s_boxes_text) (defBody s_boxes_text) (defScope s_boxes_text) .none kV_boxes_text dc_boxes_text pm_boxes_text an_boxes_text cd_boxes_text ct_boxes_text), sl_boxes_text⟩) → (K.lookup A_Box___init__ = some ⟨oc_Box___init__, od_Box___init__, .func (PySem.W.fnOf "__init__" "Box.__init__" (defArgs s_Box___init__) (defBody s_Box___init__) (defScope s_Box___init__) .none kV_Box___init__ dc_Box___init__ pm_Box___init__ an_Box___init__ cd_Box___init__ ct_Box___init__), sl_Box___init__⟩) → (K.lookup A_with_inner = some ⟨oc_with_inner, od_with_inner, .func (PySem.W.fnOf "with_inner" "with_inner" (defArgs s_with_inner) (defBody s_with_inner) (defScope s_with_inner) .none kV_with_inner dc_with_inner pm_with_inner an_with_inner cd_with_inner ct_with_inner), sl_with_inner⟩) → (K.lookup A_boxes_without = some ⟨oc_boxes_without, od_boxes_without, .func (PySem.W.fnOf "boxes_without" "boxes_without" (defArgs s_boxes_without) (defBody s_boxes_without) (defScope s_boxes_without) .none kV_boxes_without dc_boxes_without pm_boxes_without an_boxes_without cd_boxes_without ct_boxes_without), sl_boxes_without⟩) → (K.lookup A_boxes_scaled = some ⟨oc_boxes_scaled, od_boxes_scaled, .func (PySem.W.fnOf "boxes_scaled" "boxes_scaled" (defArgs s_boxes_scaled) (defBody s_boxes_scaled) (defScope s_boxes_scaled) .none kV_boxes_scaled dc_boxes_scaled pm_boxes_scaled an_boxes_scaled cd_boxes_scaled ct_boxes_scaled), sl_boxes_scaled⟩) → (K.lookup A_boxes_with = some ⟨oc_boxes_with, od_boxes_with, .func (PySem.W.fnOf "boxes_with" "boxes_with" (defArgs s_boxes_with) (defBody s_boxes_with) (defScope s_boxes_with) .none kV_boxes_with dc_boxes_with pm_boxes_with an_boxes_with cd_boxes_with ct_boxes_with), sl_boxes_with⟩) → (K.lookup A_check_names = some ⟨oc_check_names, od_check_names, .func (PySem.W.fnOf "check_names" "check_names" (defArgs s_check_names) (defBody s_check_names) (defScope s_check_names) .none kV_check_names dc_check_names pm_check_names an_check_names cd_check_names ct_check_names), sl_check_names⟩) → (K.lookup A_Page___init__ = some ⟨oc_Page___init__, od_Page___init__, .func (PySem.W.fnOf "__init__" "Page.__init__" (defArgs s_Page___init__) (defBody s_Page___init__) (defScope s_Page___init__) .none kV_Page___init__ dc_Page___init__ pm_Page___init__ an_Page___init__ cd_Page___init__ ct_Page___init__), sl_Page___init__⟩) → (K.lookup A_Page___contains__ = some ⟨oc_Page___contains__, od_Page___contains__, .func (PySem.W.fnOf "__contains__" "Page.__contains__" (defArgs s_Page___contains__) (defBody s_Page___contains__) (defScope s_Page___contains__) .none kV_Page___contains__ dc_Page___contains__ pm_Page___contains__ an_Page___contains__ cd_Page___contains__ ct_Page___contains__), sl_Page___contains__⟩) → (K.lookup A_Page_row = some ⟨oc_Page_row, od_Page_row, .func (PySem.W.fnOf "row" "Page.row" (defArgs s_Page_row) (defBody s_Page_row) (defScope s_Page_row) .none kV_Page_row dc_Page_row pm_Page_row an_Page_row cd_Page_row ct_Page_row), sl_Page_row⟩) → (K.lookup A_Page_box = some ⟨oc_Page_box, od_Page_box, .func (PySem.W.fnOf "box" "Page.box" (defArgs s_Page_box) (defBody s_Page_box) (defScope s_Page_box) .none kV_Page_box dc_Page_box pm_Page_box an_Page_box cd_Page_box ct_Page_box), sl_Page_box⟩) → (K.lookup A_Page_names = some ⟨oc_Page_names, od_Page_names, .func (PySem.W.fnOf "names" "Page.names" (defArgs s_Page_names) (defBody s_Page_names) (defScope s_Page_names) .none kV_Page_names dc_Page_names pm_Page_names an_Page_names cd_Page_names ct_Page_names), sl_Page_names⟩) → (K.lookup A_Page___sub__ = some ⟨oc_Page___sub__, od_Page___sub__, .func (PySem.W.fnOf "__sub__" "Page.__sub__" (defArgs s_Page___sub__) (defBody s_Page___sub__) (defScope s_Page___sub__) .none kV_Page___sub__ dc_Page___sub__ pm_Page___sub__ an_Page___sub__ cd_Page___sub__ ct_Page___sub__), sl_Page___sub__⟩) → (K.lookup A_Page___mul__ = some ⟨oc_Page___mul__, od_Page___mul__, .func (PySem.W.fnOf "__mul__" "Page.__mul__" (defArgs s_Page___mul__) (defBody s_Page___mul__) (defScope s_Page___mul__) .none kV_Page___mul__ dc_Page___mul__ pm_Page___mul__ an_Page___mul__ cd_Page___mul__ ct_Page___mul__), sl_Page___mul__⟩) → (K.lookup A_Page___str__ = some ⟨oc_Page___str__, od_Page___str__, .func (PySem.W.fnOf "__str__" "Page.__str__" (defArgs s_Page___str__) (defBody s_Page___str__) (defScope s_Page___str__) .none kV_Page___str__ dc_Page___str__ pm_Page___str__ an_Page___str__ cd_Page___str__ ct_Page___str__), sl_Page___str__⟩) → (K.lookup A_Page_with_box = some ⟨oc_Page_with_box, od_Page_with_box, .func (PySem.W.fnOf "with_box" "Page.with_box" (defArgs s_Page_with_box) (defBody s_Page_with_box) (defScope s_Page_with_box) (.ref dT_Page_with_box) kV_Page_with_box dc_Page_with_box pm_Page_with_box an_Page_with_box cd_Page_with_box ct_Page_with_box), sl_Page_with_box⟩) → (K.lookup A_Box___eq__ = some ⟨oc_Box___eq__, od_Box___eq__, .func (PySem.W.fnOf "__eq__" "Box.__eq__" (defArgs s_Box___eq__) (defBody s_Box___eq__) (defScope s_Box___eq__) .none kV_Box___eq__ dc_Box___eq__ pm_Box___eq__ an_Box___eq__ cd_Box___eq__ ct_Box___eq__), sl_Box___eq__⟩) → (K.lookup A_Page___eq__ = some ⟨oc_Page___eq__, od_Page___eq__, .func (PySem.W.fnOf "__eq__" "Page.__eq__" (defArgs s_Page___eq__) (defBody s_Page___eq__) (defScope s_Page___eq__) .none kV_Page___eq__ dc_Page___eq__ pm_Page___eq__ an_Page___eq__ cd_Page___eq__ ct_Page___eq__), sl_Page___eq__⟩) → (K.lookup A_Page___rmul__ = some ⟨oc_Page___rmul__, od_Page___rmul__, .func (PySem.W.fnOf "__rmul__" "Page.__rmul__" (defArgs s_Page___rmul__) (defBody s_Page___rmul__) (defScope s_Page___rmul__) .none kV_Page___rmul__ dc_Page___rmul__ pm_Page___rmul__ an_Page___rmul__ cd_Page___rmul__ ct_Page___rmul__), sl_Page___rmul__⟩) → (K.lookup A__law_box_made = some ⟨oc__law_box_made, od__law_box_made, .func (PySem.W.fnOf "_law_box_made" "_law_box_made" (defArgs s__law_box_made) (defBody s__law_box_made) (defScope s__law_box_made) .none kV__law_box_made dc__law_box_made pm__law_box_made an__law_box_made cd__law_box_made ct__law_box_made), sl__law_box_made⟩) → (K.lookup A__law_all = some ⟨oc__law_all, od__law_all, .func (PySem.W.fnOf "_law_all" "_law_all" (defArgs s__law_all) (defBody s__law_all) (defScope s__law_all) (.ref dT__law_all) kV__law_all dc__law_all pm__law_all an__law_all cd__law_all ct__law_all), sl__law_all⟩) → (K.lookup A__law_page_made = some ⟨oc__law_page_made, od__law_page_made, .func (PySem.W.fnOf "_law_page_made" "_law_page_made" (defArgs s__law_page_made) (defBody s__law_page_made) (defScope s__law_page_made) .none kV__law_page_made dc__law_page_made pm__law_page_made an__law_page_made cd__law_page_made ct__law_page_made), sl__law_page_made⟩) → (K.lookup A__law_boxes = some ⟨oc__law_boxes, od__law_boxes, .func (PySem.W.fnOf "_law_boxes" "_law_boxes" (defArgs s__law_boxes) (defBody s__law_boxes) (defScope s__law_boxes) .none kV__law_boxes dc__law_boxes pm__law_boxes an__law_boxes cd__law_boxes ct__law_boxes), sl__law_boxes⟩) → (K.lookup A__law_page = some ⟨oc__law_page, od__law_page, .func (PySem.W.fnOf "_law_page" "_law_page" (defArgs s__law_page) (defBody s__law_page) (defScope s__law_page) .none kV__law_page dc__law_page pm__law_page an__law_page cd__law_page ct__law_page), sl__law_page⟩) → (K.lookup A_Page___len__ = some ⟨oc_Page___len__, od_Page___len__, .func (PySem.W.fnOf "__len__" "Page.__len__" (defArgs s_Page___len__) (defBody s_Page___len__) (defScope s_Page___len__) .none kV_Page___len__ dc_Page___len__ pm_Page___len__ an_Page___len__ cd_Page___len__ ct_Page___len__), sl_Page___len__⟩) → (K.lookup A_Page___getitem__ = some ⟨oc_Page___getitem__, od_Page___getitem__, .func (PySem.W.fnOf "__getitem__" "Page.__getitem__" (defArgs s_Page___getitem__) (defBody s_Page___getitem__) (defScope s_Page___getitem__) .none kV_Page___getitem__ dc_Page___getitem__ pm_Page___getitem__ an_Page___getitem__ cd_Page___getitem__ ct_Page___getitem__), sl_Page___getitem__⟩) → (K.lookup A_Page_around = some ⟨oc_Page_around, od_Page_around, .func (PySem.W.fnOf "around" "Page.around" (defArgs s_Page_around) (defBody s_Page_around) (defScope s_Page_around) .none kV_Page_around dc_Page_around pm_Page_around an_Page_around cd_Page_around ct_Page_around), sl_Page_around⟩) → (K.lookup A_Page_within = some ⟨oc_Page_within, od_Page_within, .func (PySem.W.fnOf "within" "Page.within" (defArgs s_Page_within) (defBody s_Page_within) (defScope s_Page_within) .none kV_Page_within dc_Page_within pm_Page_within an_Page_within cd_Page_within ct_Page_within), sl_Page_within⟩) → (K.lookup A_Page___iter__ = some ⟨oc_Page___iter__, od_Page___iter__, .func (PySem.W.fnOf "__iter__" "Page.__iter__" (defArgs s_Page___iter__) (defBody s_Page___iter__) (defScope s_Page___iter__) .none kV_Page___iter__ dc_Page___iter__ pm_Page___iter__ an_Page___iter__ cd_Page___iter__ ct_Page___iter__), sl_Page___iter__⟩) → (K.lookup A_Page_some = some ⟨oc_Page_some, od_Page_some, .func (PySem.W.fnOf "some" "Page.some" (defArgs s_Page_some) (defBody s_Page_some) (defScope s_Page_some) .none kV_Page_some dc_Page_some pm_Page_some an_Page_some cd_Page_some ct_Page_some), sl_Page_some⟩) → (K.lookup A__law_box_right = some ⟨oc__law_box_right, od__law_box_right, .func (PySem.W.fnOf "_law_box_right" "_law_box_right" (defArgs s__law_box_right) (defBody s__law_box_right) (defScope s__law_box_right) .none kV__law_box_right dc__law_box_right pm__law_box_right an__law_box_right cd__law_box_right ct__law_box_right), sl__law_box_right⟩) → (K.lookup A__law_right = some ⟨oc__law_right, od__law_right, .func (PySem.W.fnOf "_law_right" "_law_right" (defArgs s__law_right) (defBody s__law_right) (defScope s__law_right) .none kV__law_right dc__law_right pm__law_right an__law_right cd__law_right ct__law_right), sl__law_right⟩) → (K.lookup A_law = some ⟨oc_law, od_law, .func (PySem.W.fnOf "law" "law" (defArgs s_law) (defBody s_law) (defScope s_law) .none kV_law dc_law pm_law an_law cd_law ct_law), sl_law⟩) → (PySem.W.codeIn K cd__law_pen "_law_pen" = true) → (PySem.W.keepIn K (.ref A__law_pen) = true) → (PySem.W.nsIn K mainGlobals "list" = some none) → (PySem.W.codeIn K cd__law_draw "_law_draw" = true) → (PySem.W.keepIn K (.ref A__law_draw) = true) → (PySem.W.nsIn K mainGlobals "int" = some none) → (PySem.W.nsIn K mainGlobals "len" = some none) → (PySem.W.nsIn K mainGlobals "abs" = some none) → (PySem.W.codeIn K cd__law_pick "_law_pick" = true) → (PySem.W.keepIn K (.ref A__law_pick) = true) → (PySem.W.codeIn K cd_is_integer "is_integer" = true) → (PySem.W.keepIn K (.ref A_is_integer) = true) → (PySem.W.nsIn K mainGlobals "isinstance" = some none) → (PySem.W.nsIn K mainGlobals "bool" = some none) → (PySem.W.codeIn K cd_is_name "is_name" = true) → (PySem.W.keepIn K (.ref A_is_name) = true) → (PySem.W.nsIn K mainGlobals "str" = some none) → (PySem.W.nsIn K mainGlobals "MOST_LETTERS" = some (some (.int 8 tk0_mi_MOST_LETTERS))) → (PySem.W.codeIn K cd_check_unlike "check_unlike" = true) → (PySem.W.keepIn K (.ref A_check_unlike) = true) → (PySem.W.codeIn K cd_names_of "names_of" = true) → (PySem.W.keepIn K (.ref A_names_of) = true) → (PySem.W.nsIn K mainGlobals "tuple" = some none) → (PySem.W.plainGet K A_Box Str.empty = true) → (PySem.W.hasDictIn K A_Box = true) → (PySem.W.plainOver K A_Box = true) → (PySem.W.findIn K (.ref A_Box) "__setattr__" = some (some (.builtin "object.__setattr__"))) → (PySem.W.findIn K (.ref A_Box) "names_inside" = some none) → (PySem.W.codeIn K cd_Box___str__ "Box.__str__" = true) → (PySem.W.keepIn K (.ref A_Box___str__) = true) → (PySem.W.findIn K (.ref A_Box) "told" = some none) → (PySem.W.codeIn K cd_boxes_text "boxes_text" = true) → (PySem.W.keepIn K (.ref A_boxes_text) = true) → (PySem.W.isFn K (.ref A_Box___str__) = true) → (PySem.W.findIn K (.ref A_Box) "__format__" = some (some (.builtin "object.__format__"))) → (PySem.W.mroIn K A_Box (.type "object") = some true) → (PySem.W.findIn K (.ref A_Box) "__class__" = some (some (.builtin "object.__class__"))) → (PySem.W.specialIn K (.builtin "object.__class__") "__get__" = some (some (.builtin "getset_descriptor.__get__"))) → (PySem.W.takesIn K (.builtin "object.__class__") = some true) → (PySem.W.findIn K (.ref A_Box) "name" = some none) → (PySem.W.findIn K (.ref A_Box) "offset" = some none) → (PySem.W.findIn K (.ref A_Box) "units" = some none) → (PySem.W.findIn K (.ref A_Box) "inner" = some none) → (PySem.W.codeIn K cd_Box___init__ "Box.__init__" = true) → (PySem.W.keepIn K (.ref A_Box___init__) = true) → (PySem.W.codeIn K cd_with_inner "with_inner" = true) → (PySem.W.keepIn K (.ref A_with_inner) = true) → (PySem.W.makesIn K A_Box = true) → (PySem.W.isFn K (.ref A_Box___init__) = true) → (PySem.W.keepIn K (.ref A_Box) = true) → (PySem.W.codeIn K cd_boxes_without "boxes_without" = true) → (PySem.W.keepIn K (.ref A_boxes_without) = true) → (PySem.W.codeIn K cd_boxes_scaled "boxes_scaled" = true) → (PySem.W.keepIn K (.ref A_boxes_scaled) = true) → (PySem.W.codeIn K cd_boxes_with "boxes_with" = true) → (PySem.W.keepIn K (.ref A_boxes_with) = true) → (PySem.W.codeIn K cd_check_names "check_names" = true) → (PySem.W.keepIn K (.ref A_check_names) = true) → (PySem.W.readsIn K A_Page (.type "type") = true) → (PySem.W.specialIn K (.ref A_Page) "__getattribute__" = some (some (.builtin "type.__getattribute__"))) → (PySem.W.findCls K (.ref A_Page) (.type "type") "MOST_BOXES" = some (.val (.int 24 tk0_cv_Page_MOST_BOXES))) → (PySem.W.codeIn K cd_Page___init__ "Page.__init__" = true) → (PySem.W.keepIn K (.ref A_Page___init__) = true) → (PySem.W.nsIn K mainGlobals "enumerate" = some none) → (PySem.W.plainGet K A_Page Str.empty = true) → (PySem.W.hasDictIn K A_Page = true) → (PySem.W.plainOver K A_Page = true) → (PySem.W.findIn K (.ref A_Page) "__setattr__" = some (some (.builtin "object.__setattr__"))) → (PySem.W.findIn K (.ref A_Page) "boxes" = some none) → (PySem.W.findIn K (.ref A_Page) "all_names" = some none) → (PySem.W.findIn K (.ref A_Page) "rows" = some none) → (PySem.W.codeIn K cd_Page___contains__ "Page.__contains__" = true) → (PySem.W.keepIn K (.ref A_Page___contains__) = true) → (PySem.W.codeIn K cd_Page_row "Page.row" = true) → (PySem.W.keepIn K (.ref A_Page_row) = true) → (PySem.W.isFn K (.ref A_Page___contains__) = true) → (PySem.W.codeIn K cd_Page_box "Page.box" = true) → (PySem.W.keepIn K (.ref A_Page_box) = true) → (PySem.W.isFn K (.ref A_Page_row) = true) → (PySem.W.codeIn K cd_Page_names "Page.names" = true) → (PySem.W.keepIn K (.ref A_Page_names) = true) → (PySem.W.codeIn K cd_Page___sub__ "Page.__sub__" = true) → (PySem.W.keepIn K (.ref A_Page___sub__) = true) → (PySem.W.makesIn K A_Page = true) → (PySem.W.isFn K (.ref A_Page___init__) = true) → (PySem.W.keepIn K (.ref A_Page) = true) → (PySem.W.codeIn K cd_Page___mul__ "Page.__mul__" = true) → (PySem.W.keepIn K (.ref A_Page___mul__) = true) → (PySem.W.codeIn K cd_Page___str__ "Page.__str__" = true) → (PySem.W.keepIn K (.ref A_Page___str__) = true) → (PySem.W.codeIn K cd_Page_with_box "Page.with_box" = true) → (PySem.W.keepIn K (.ref A_Page_with_box) = true) → (K.lookup dT_Page_with_box = some ⟨tc_Page_with_box, td_Page_with_box, .seq (List.toArray [.none]) tn_Page_with_box, ts_Page_with_box⟩) → (PySem.W.isFn K (.ref A_Page_box) = true) → (PySem.W.codeIn K cd_Box___eq__ "Box.__eq__" = true) → (PySem.W.keepIn K (.ref A_Box___eq__) = true) → (PySem.W.codeIn K cd_Page___eq__ "Page.__eq__" = true) → (PySem.W.keepIn K (.ref A_Page___eq__) = true) → (PySem.W.isFn K (.ref A_Box___eq__) = true) → (PySem.W.notFirst K A_Box (.type "int") = true) → (PySem.W.findIn K (.ref A_Page) "__class__" = some (some (.builtin "object.__class__"))) → (PySem.W.mroIn K A_Page (.type "object") = some true) → (PySem.W.codeIn K cd_Page___rmul__ "Page.__rmul__" = true) → (PySem.W.keepIn K (.ref A_Page___rmul__) = true) → (PySem.W.isFn K (.ref A_Page___mul__) = true) → (PySem.W.selfFirst K A_Page = true) → (PySem.W.findIn K (.type "int") "__mul__" = some fo_Page_mul) → (PySem.W.findIn K (.type "int") "__rmul__" = some ro_Page_mul) → (PySem.W.subIn K (.type "int") (.ref A_Page) = some false) → (PySem.W.codeIn K cd__law_box_made "_law_box_made" = true) → (PySem.W.keepIn K (.ref A__law_box_made) = true) → (PySem.W.codeIn K cd__law_all "_law_all" = true) → (PySem.W.keepIn K (.ref A__law_all) = true) → (K.lookup dT__law_all = some ⟨tc__law_all, td__law_all, .seq (List.toArray [.int 0 tk0__law_all, .none]) tn__law_all, ts__law_all⟩) → (PySem.W.codeIn K cd__law_page_made "_law_page_made" = true) → (PySem.W.keepIn K (.ref A__law_page_made) = true) → (PySem.W.isFn K (.ref A_Page_with_box) = true) → (PySem.W.codeIn K cd__law_boxes "_law_boxes" = true) → (PySem.W.keepIn K (.ref A__law_boxes) = true) → (PySem.W.nsIn K mainGlobals "range" = some none) → (PySem.W.codeIn K cd__law_page "_law_page" = true) → (PySem.W.keepIn K (.ref A__law_page) = true) → (PySem.W.codeIn K cd_Page___len__ "Page.__len__" = true) → (PySem.W.keepIn K (.ref A_Page___len__) = true) → (PySem.W.codeIn K cd_Page___getitem__ "Page.__getitem__" = true) → (PySem.W.keepIn K (.ref A_Page___getitem__) = true) → (PySem.W.codeIn K cd_Page_around "Page.around" = true) → (PySem.W.keepIn K (.ref A_Page_around) = true) → (PySem.W.codeIn K cd_Page_within "Page.within" = true) → (PySem.W.keepIn K (.ref A_Page_within) = true) → (PySem.W.codeIn K cd_Page___iter__ "Page.__iter__" = true) → (PySem.W.keepIn K (.ref A_Page___iter__) = true) → (PySem.W.nsIn K mainGlobals "iter" = some none) → (PySem.W.codeIn K cd_Page_some "Page.some" = true) → (PySem.W.keepIn K (.ref A_Page_some) = true) → (PySem.W.codeIn K cd__law_box_right "_law_box_right" = true) → (PySem.W.keepIn K (.ref A__law_box_right) = true) → (PySem.W.nsIn K mainGlobals "repr" = some none) → (PySem.W.nsIn K mainGlobals "zip" = some none) → (PySem.W.codeIn K cd__law_right "_law_right" = true) → (PySem.W.keepIn K (.ref A__law_right) = true) → (PySem.W.findIn K (.ref A_Page) "__ne__" = some (some (.builtin "object.__ne__"))) → (PySem.W.isFn K (.ref A_Page___eq__) = true) → (PySem.W.notFirst K A_Page (.type "int") = true) → (PySem.W.isFn K (.ref A_Page___str__) = true) → (PySem.W.findIn K (.ref A_Page) "__format__" = some (some (.builtin "object.__format__"))) → (PySem.W.specialIn K (.ref pp_Page_names) "__get__" = some (some (.builtin "property.__get__"))) → (PySem.W.takesIn K (.ref pp_Page_names) = some true) → (PySem.W.notFirst K A_Page (.type "str") = true) → (PySem.W.notFirst K A_Page (.type "tuple") = true) → (PySem.W.isClsIn K A_Page = true) → (PySem.W.typeIn K (.ref A_Page) = some (.type "type")) → (PySem.W.subIn K (.type "list") (.ref A_Page) = some false) → (PySem.W.subIn K (.type "str") (.ref A_Page) = some false) → (PySem.W.subIn K (.type "tuple") (.ref A_Page) = some false) → (PySem.W.isFn K (.ref A_Page___len__) = true) → (PySem.W.findIn K (.ref A_Page) "__bool__" = some none) → (PySem.W.isFn K (.ref A_Page___getitem__) = true) → (PySem.W.fnIn K A_Page___getitem__ = true) → (PySem.W.isFn K (.ref A_Page___iter__) = true) → (PySem.W.isFn K (.ref A_Page_around) = true) → (PySem.W.isFn K (.ref A_Page_within) = true) → (PySem.W.isFn K (.ref A_Page_some) = true) → (PySem.W.codeIn K cd_law "law" = true) → (PySem.W.keepIn K (.ref A_law) = true) → (PySem.W.findIn K (.ref A_Box) "__ne__" = some (some (.builtin "object.__ne__"))) → (PySem.W.notFirst K A_Box (.ref A_Page) = true) → ((PySem.Value.ref A_Page == PySem.Value.ref A_Box) = false) → (PySem.W.isClsIn K A_Box = true) → (PySem.W.typeIn K (.ref A_Box) = some (.type "type")) → (PySem.W.subIn K (.ref A_Page) (.ref A_Box) = some false) → C) → C
open PySem PySem.W PyProof.Rows in
set_option maxRecDepth 100000 in
set_option maxHeartbeats 0 in
theorem pre (F : ∀ {q : Program} {loose : List Str} {XP : (Str → Option Value) → Heap → Prop} {YP : World → Heap → Prop} {r : DefRec} {K : Params → PySem.W.Frag}, r.params.defaults = [] → r.name = "law" → (∀ (w : World) (h : Heap), YP w h → (K w.params).In h) → (∀ (w : World) (mg : Str → Option Value) (h : Heap), (K w.params).In h → h.Ns mainGlobals mg → Wants (K w.params) mg) →
    PySem.W.WalkO q loose XP YP (PySem.Challenge.rw_allzooms_k58_pages_made_and_asked).row.toRowW r [] (fun f vs => PySem.call f vs)) : PySem.Challenge.rw_allzooms_k58_pages_made_and_asked.Holds := by
  w_on; o_law; k_headL; (case hw => w_witness2)
  intro F
  k_fill
  refine F rfl rfl (fun w h Y => PySem.W.kIn_of Y) ?_
  as_aux_lemma =>
    intro w mg h KX G C k
    refine' k ?L__law_pen ?L__law_draw ?L__law_pick ?L_is_integer ?L_is_name ?L_check_unlike ?L_names_of ?L_Box ?L_boxes_text ?L_with_inner ?L_boxes_without ?L_boxes_scaled ?L_boxes_with ?L_check_names ?L_Page ?L__law_box_made ?L__law_all ?L__law_page_made ?L__law_boxes ?L__law_page ?L__law_box_right ?L__law_right ?L_law ?L_Box___str__ ?L_Box___init__ ?L_Page___init__ ?L_Page___contains__ ?L_Page_row ?L_Page_box ?L_Page___sub__ ?L_Page___mul__ ?L_Page___str__ ?L_Page_with_box ?L_Box___eq__ ?L_Page___eq__ ?L_Page___rmul__ ?L_Page___len__ ?L_Page___getitem__ ?L_Page_around ?L_Page_within ?L_Page___iter__ ?L_Page_some ?pr_Page_names_a ?pr_Page_names_q ?F__law_pen_l ?F__law_draw_l ?F__law_pick_l ?F_is_integer_l ?F_is_name_l ?F_check_unlike_l ?F_names_of_l ?F_Box___str___l ?F_boxes_text_l ?F_Box___init___l ?F_with_inner_l ?F_boxes_without_l ?F_boxes_scaled_l ?F_boxes_with_l ?F_check_names_l ?F_Page___init___l ?F_Page___contains___l ?F_Page_row_l ?F_Page_box_l ?F_Page_names_l ?F_Page___sub___l ?F_Page___mul___l ?F_Page___str___l ?D_Page_with_box_l ?F_Box___eq___l ?F_Page___eq___l ?F_Page___rmul___l ?F__law_box_made_l ?D__law_all_l ?F__law_page_made_l ?F__law_boxes_l ?F__law_page_l ?F_Page___len___l ?F_Page___getitem___l ?F_Page_around_l ?F_Page_within_l ?F_Page___iter___l ?F_Page_some_l ?F__law_box_right_l ?F__law_right_l ?F_law_l ?F__law_pen_c ?F__law_pen_k ?n_list_a ?F__law_draw_c ?F__law_draw_k ?n_int_a ?n_len_a ?n_abs_a ?F__law_pick_c ?F__law_pick_k ?F_is_integer_c ?F_is_integer_k ?n_isinstance_a ?n_bool_a ?F_is_name_c ?F_is_name_k ?n_str_a ?mi_MOST_LETTERS_a ?F_check_unlike_c ?F_check_unlike_k ?F_names_of_c ?F_names_of_k ?n_tuple_a ?c_Box_p ?c_Box_h ?c_Box_o ?c_Box_s ?a_Box_names_inside_a ?F_Box___str___c ?F_Box___str___k ?a_Box_told_a ?F_boxes_text_c ?F_boxes_text_k ?t_Box_f ?t_Box_g ?t_Box_m ?y_Box_a ?y_Box_n ?y_Box_t ?a_Box_name_a ?a_Box_offset_a ?a_Box_units_a ?a_Box_inner_a ?F_Box___init___c ?F_Box___init___k ?F_with_inner_c ?F_with_inner_k ?mk_Box_m ?mk_Box_f ?mk_Box_k ?F_boxes_without_c ?F_boxes_without_k ?F_boxes_scaled_c ?F_boxes_scaled_k ?F_boxes_with_c ?F_boxes_with_k ?F_check_names_c ?F_check_names_k ?cv_Page_MOST_BOXES_r ?cv_Page_MOST_BOXES_g ?cv_Page_MOST_BOXES_v ?F_Page___init___c ?F_Page___init___k ?n_enumerate_a ?c_Page_p ?c_Page_h ?c_Page_o ?c_Page_s ?a_Page_boxes_a ?a_Page_all_names_a ?a_Page_rows_a ?F_Page___contains___c ?F_Page___contains___k ?F_Page_row_c ?F_Page_row_k ?in_Page_f ?F_Page_box_c ?F_Page_box_k ?h_Page_row_f ?F_Page_names_c ?F_Page_names_k ?F_Page___sub___c ?F_Page___sub___k ?mk_Page_m ?mk_Page_f ?mk_Page_k ?F_Page___mul___c ?F_Page___mul___k ?F_Page___str___c ?F_Page___str___k ?D_Page_with_box_c ?D_Page_with_box_k ?D_Page_with_box_t ?h_Page_box_f ?F_Box___eq___c ?F_Box___eq___k ?F_Page___eq___c ?F_Page___eq___k ?q_Box_eq_f ?q_Box_eq_n ?y_Page_a ?y_Page_m ?F_Page___rmul___c ?F_Page___rmul___k ?b_Page_mul_f ?b_Page_mul_c ?b_Page_mul_t ?b_Page_mul_u ?b_Page_mul_w ?F__law_box_made_c ?F__law_box_made_k ?D__law_all_c ?D__law_all_k ?D__law_all_t ?F__law_page_made_c ?F__law_page_made_k ?h_Page_with_box_f ?F__law_boxes_c ?F__law_boxes_k ?n_range_a ?F__law_page_c ?F__law_page_k ?F_Page___len___c ?F_Page___len___k ?F_Page___getitem___c ?F_Page___getitem___k ?F_Page_around_c ?F_Page_around_k ?F_Page_within_c ?F_Page_within_k ?F_Page___iter___c ?F_Page___iter___k ?n_iter_a ?F_Page_some_c ?F_Page_some_k ?F__law_box_right_c ?F__law_box_right_k ?n_repr_a ?n_zip_a ?F__law_right_c ?F__law_right_k ?z_Page_e ?z_Page_f ?z_Page_n ?t_Page_f ?t_Page_g ?pr_Page_names_g ?pr_Page_names_t ?w_Page_str_n ?w_Page_tuple_n ?i_list_is_Page_c ?i_list_is_Page_t ?i_list_is_Page_a ?i_str_is_Page_a ?i_tuple_is_Page_a ?ln_Page_f ?nb_Page_s ?gi_Page_f ?gi_Page_i ?it_Page_f ?h_Page_around_f ?h_Page_within_f ?h_Page_some_f ?F_law_c ?F_law_k ?z_Box_e ?w_Box_Page_n ?i_Page_is_Box_n ?i_Page_is_Box_c ?i_Page_is_Box_t ?i_Page_is_Box_a
    (case L__law_pen => as_aux_lemma => k_is)
    (case L__law_draw => as_aux_lemma => k_is)
    (case L__law_pick => as_aux_lemma => k_is)
    (case L_is_integer => as_aux_lemma => k_is)
    (case L_is_name => as_aux_lemma => k_is)
    (case L_check_unlike => as_aux_lemma => k_is)
    (case L_names_of => as_aux_lemma => k_is)
    (case L_Box => as_aux_lemma => k_is)
    (case L_boxes_text => as_aux_lemma => k_is)
    (case L_with_inner => as_aux_lemma => k_is)
    (case L_boxes_without => as_aux_lemma => k_is)
    (case L_boxes_scaled => as_aux_lemma => k_is)
    (case L_boxes_with => as_aux_lemma => k_is)
    (case L_check_names => as_aux_lemma => k_is)
    (case L_Page => as_aux_lemma => k_is)
    (case L__law_box_made => as_aux_lemma => k_is)
    (case L__law_all => as_aux_lemma => k_is)
    (case L__law_page_made => as_aux_lemma => k_is)
    (case L__law_boxes => as_aux_lemma => k_is)
    (case L__law_page => as_aux_lemma => k_is)
    (case L__law_box_right => as_aux_lemma => k_is)
    (case L__law_right => as_aux_lemma => k_is)
    (case L_law => as_aux_lemma => k_is)
    (case L_Box___str__ => as_aux_lemma => k_is)
    (case L_Box___init__ => as_aux_lemma => k_is)
    (case L_Page___init__ => as_aux_lemma => k_is)
    (case L_Page___contains__ => as_aux_lemma => k_is)
    (case L_Page_row => as_aux_lemma => k_is)
    (case L_Page_box => as_aux_lemma => k_is)
    (case L_Page___sub__ => as_aux_lemma => k_is)
    (case L_Page___mul__ => as_aux_lemma => k_is)
    (case L_Page___str__ => as_aux_lemma => k_is)
    (case L_Page_with_box => as_aux_lemma => k_is)
    (case L_Box___eq__ => as_aux_lemma => k_is)
    (case L_Page___eq__ => as_aux_lemma => k_is)
    (case L_Page___rmul__ => as_aux_lemma => k_is)
    (case L_Page___len__ => as_aux_lemma => k_is)
    (case L_Page___getitem__ => as_aux_lemma => k_is)
    (case L_Page_around => as_aux_lemma => k_is)
    (case L_Page_within => as_aux_lemma => k_is)
    (case L_Page___iter__ => as_aux_lemma => k_is)
    (case L_Page_some => as_aux_lemma => k_is)
    (case pr_Page_names_a => as_aux_lemma => k_is)
    (case pr_Page_names_q => as_aux_lemma => k_is)
    (case F__law_pen_l => as_aux_lemma => k_is)
    (case F__law_draw_l => as_aux_lemma => k_is)
    (case F__law_pick_l => as_aux_lemma => k_is)
    (case F_is_integer_l => as_aux_lemma => k_is)
    (case F_is_name_l => as_aux_lemma => k_is)
    (case F_check_unlike_l => as_aux_lemma => k_is)
    (case F_names_of_l => as_aux_lemma => k_is)
    (case F_Box___str___l => as_aux_lemma => k_is)
    (case F_boxes_text_l => as_aux_lemma => k_is)
    (case F_Box___init___l => as_aux_lemma => k_is)
    (case F_with_inner_l => as_aux_lemma => k_is)
    (case F_boxes_without_l => as_aux_lemma => k_is)
    (case F_boxes_scaled_l => as_aux_lemma => k_is)
    (case F_boxes_with_l => as_aux_lemma => k_is)
    (case F_check_names_l => as_aux_lemma => k_is)
    (case F_Page___init___l => as_aux_lemma => k_is)
    (case F_Page___contains___l => as_aux_lemma => k_is)
    (case F_Page_row_l => as_aux_lemma => k_is)
    (case F_Page_box_l => as_aux_lemma => k_is)
    (case F_Page_names_l => as_aux_lemma => k_is)
    (case F_Page___sub___l => as_aux_lemma => k_is)
    (case F_Page___mul___l => as_aux_lemma => k_is)
    (case F_Page___str___l => as_aux_lemma => k_is)
    (case D_Page_with_box_l => as_aux_lemma => k_is)
    (case F_Box___eq___l => as_aux_lemma => k_is)
    (case F_Page___eq___l => as_aux_lemma => k_is)
    (case F_Page___rmul___l => as_aux_lemma => k_is)
    (case F__law_box_made_l => as_aux_lemma => k_is)
    (case D__law_all_l => as_aux_lemma => k_is)
    (case F__law_page_made_l => as_aux_lemma => k_is)
    (case F__law_boxes_l => as_aux_lemma => k_is)
    (case F__law_page_l => as_aux_lemma => k_is)
    (case F_Page___len___l => as_aux_lemma => k_is)
    (case F_Page___getitem___l => as_aux_lemma => k_is)
    (case F_Page_around_l => as_aux_lemma => k_is)
    (case F_Page_within_l => as_aux_lemma => k_is)
    (case F_Page___iter___l => as_aux_lemma => k_is)
    (case F_Page_some_l => as_aux_lemma => k_is)
    (case F__law_box_right_l => as_aux_lemma => k_is)
    (case F__law_right_l => as_aux_lemma => k_is)
    (case F_law_l => as_aux_lemma => k_is)
    (case F__law_pen_c => as_aux_lemma => k_is)
    (case F__law_pen_k => as_aux_lemma => k_is)
    (case n_list_a => as_aux_lemma => k_is)
    (case F__law_draw_c => as_aux_lemma => k_is)
    (case F__law_draw_k => as_aux_lemma => k_is)
    (case n_int_a => as_aux_lemma => k_is)
    (case n_len_a => as_aux_lemma => k_is)
    (case n_abs_a => as_aux_lemma => k_is)
    (case F__law_pick_c => as_aux_lemma => k_is)
    (case F__law_pick_k => as_aux_lemma => k_is)
    (case F_is_integer_c => as_aux_lemma => k_is)
    (case F_is_integer_k => as_aux_lemma => k_is)
    (case n_isinstance_a => as_aux_lemma => k_is)
    (case n_bool_a => as_aux_lemma => k_is)
    (case F_is_name_c => as_aux_lemma => k_is)
    (case F_is_name_k => as_aux_lemma => k_is)
    (case n_str_a => as_aux_lemma => k_is)
    (case mi_MOST_LETTERS_a => as_aux_lemma => k_is)
    (case F_check_unlike_c => as_aux_lemma => k_is)
    (case F_check_unlike_k => as_aux_lemma => k_is)
    (case F_names_of_c => as_aux_lemma => k_is)
    (case F_names_of_k => as_aux_lemma => k_is)
    (case n_tuple_a => as_aux_lemma => k_is)
    (case c_Box_p => as_aux_lemma => k_is)
    (case c_Box_h => as_aux_lemma => k_is)
    (case c_Box_o => as_aux_lemma => k_is)
    (case c_Box_s => as_aux_lemma => k_is)
    (case a_Box_names_inside_a => as_aux_lemma => k_is)
    (case F_Box___str___c => as_aux_lemma => k_is)
    (case F_Box___str___k => as_aux_lemma => k_is)
    (case a_Box_told_a => as_aux_lemma => k_is)
    (case F_boxes_text_c => as_aux_lemma => k_is)
    (case F_boxes_text_k => as_aux_lemma => k_is)
    (case t_Box_f => as_aux_lemma => k_is)
    (case t_Box_g => as_aux_lemma => k_is)
    (case t_Box_m => as_aux_lemma => k_is)
    (case y_Box_a => as_aux_lemma => k_is)
    (case y_Box_n => as_aux_lemma => k_is)
    (case y_Box_t => as_aux_lemma => k_is)
    (case a_Box_name_a => as_aux_lemma => k_is)
    (case a_Box_offset_a => as_aux_lemma => k_is)
    (case a_Box_units_a => as_aux_lemma => k_is)
    (case a_Box_inner_a => as_aux_lemma => k_is)
    (case F_Box___init___c => as_aux_lemma => k_is)
    (case F_Box___init___k => as_aux_lemma => k_is)
    (case F_with_inner_c => as_aux_lemma => k_is)
    (case F_with_inner_k => as_aux_lemma => k_is)
    (case mk_Box_m => as_aux_lemma => k_is)
    (case mk_Box_f => as_aux_lemma => k_is)
    (case mk_Box_k => as_aux_lemma => k_is)
    (case F_boxes_without_c => as_aux_lemma => k_is)
    (case F_boxes_without_k => as_aux_lemma => k_is)
    (case F_boxes_scaled_c => as_aux_lemma => k_is)
    (case F_boxes_scaled_k => as_aux_lemma => k_is)
    (case F_boxes_with_c => as_aux_lemma => k_is)
    (case F_boxes_with_k => as_aux_lemma => k_is)
    (case F_check_names_c => as_aux_lemma => k_is)
    (case F_check_names_k => as_aux_lemma => k_is)
    (case cv_Page_MOST_BOXES_r => as_aux_lemma => k_is)
    (case cv_Page_MOST_BOXES_g => as_aux_lemma => k_is)
    (case cv_Page_MOST_BOXES_v => as_aux_lemma => k_is)
    (case F_Page___init___c => as_aux_lemma => k_is)
    (case F_Page___init___k => as_aux_lemma => k_is)
    (case n_enumerate_a => as_aux_lemma => k_is)
    (case c_Page_p => as_aux_lemma => k_is)
    (case c_Page_h => as_aux_lemma => k_is)
    (case c_Page_o => as_aux_lemma => k_is)
    (case c_Page_s => as_aux_lemma => k_is)
    (case a_Page_boxes_a => as_aux_lemma => k_is)
    (case a_Page_all_names_a => as_aux_lemma => k_is)
    (case a_Page_rows_a => as_aux_lemma => k_is)
    (case F_Page___contains___c => as_aux_lemma => k_is)
    (case F_Page___contains___k => as_aux_lemma => k_is)
    (case F_Page_row_c => as_aux_lemma => k_is)
    (case F_Page_row_k => as_aux_lemma => k_is)
    (case in_Page_f => as_aux_lemma => k_is)
    (case F_Page_box_c => as_aux_lemma => k_is)
    (case F_Page_box_k => as_aux_lemma => k_is)
    (case h_Page_row_f => as_aux_lemma => k_is)
    (case F_Page_names_c => as_aux_lemma => k_is)
    (case F_Page_names_k => as_aux_lemma => k_is)
    (case F_Page___sub___c => as_aux_lemma => k_is)
    (case F_Page___sub___k => as_aux_lemma => k_is)
    (case mk_Page_m => as_aux_lemma => k_is)
    (case mk_Page_f => as_aux_lemma => k_is)
    (case mk_Page_k => as_aux_lemma => k_is)
    (case F_Page___mul___c => as_aux_lemma => k_is)
    (case F_Page___mul___k => as_aux_lemma => k_is)
    (case F_Page___str___c => as_aux_lemma => k_is)
    (case F_Page___str___k => as_aux_lemma => k_is)
    (case D_Page_with_box_c => as_aux_lemma => k_is)
    (case D_Page_with_box_k => as_aux_lemma => k_is)
    (case D_Page_with_box_t => as_aux_lemma => k_is)
    (case h_Page_box_f => as_aux_lemma => k_is)
    (case F_Box___eq___c => as_aux_lemma => k_is)
    (case F_Box___eq___k => as_aux_lemma => k_is)
    (case F_Page___eq___c => as_aux_lemma => k_is)
    (case F_Page___eq___k => as_aux_lemma => k_is)
    (case q_Box_eq_f => as_aux_lemma => k_is)
    (case q_Box_eq_n => as_aux_lemma => k_is)
    (case y_Page_a => as_aux_lemma => k_is)
    (case y_Page_m => as_aux_lemma => k_is)
    (case F_Page___rmul___c => as_aux_lemma => k_is)
    (case F_Page___rmul___k => as_aux_lemma => k_is)
    (case b_Page_mul_f => as_aux_lemma => k_is)
    (case b_Page_mul_c => as_aux_lemma => k_is)
    (case b_Page_mul_t => as_aux_lemma => k_is)
    (case b_Page_mul_u => as_aux_lemma => k_is)
    (case b_Page_mul_w => as_aux_lemma => k_is)
    (case F__law_box_made_c => as_aux_lemma => k_is)
    (case F__law_box_made_k => as_aux_lemma => k_is)
    (case D__law_all_c => as_aux_lemma => k_is)
    (case D__law_all_k => as_aux_lemma => k_is)
    (case D__law_all_t => as_aux_lemma => k_is)
    (case F__law_page_made_c => as_aux_lemma => k_is)
    (case F__law_page_made_k => as_aux_lemma => k_is)
    (case h_Page_with_box_f => as_aux_lemma => k_is)
    (case F__law_boxes_c => as_aux_lemma => k_is)
    (case F__law_boxes_k => as_aux_lemma => k_is)
    (case n_range_a => as_aux_lemma => k_is)
    (case F__law_page_c => as_aux_lemma => k_is)
    (case F__law_page_k => as_aux_lemma => k_is)
    (case F_Page___len___c => as_aux_lemma => k_is)
    (case F_Page___len___k => as_aux_lemma => k_is)
    (case F_Page___getitem___c => as_aux_lemma => k_is)
    (case F_Page___getitem___k => as_aux_lemma => k_is)
    (case F_Page_around_c => as_aux_lemma => k_is)
    (case F_Page_around_k => as_aux_lemma => k_is)
    (case F_Page_within_c => as_aux_lemma => k_is)
    (case F_Page_within_k => as_aux_lemma => k_is)
    (case F_Page___iter___c => as_aux_lemma => k_is)
    (case F_Page___iter___k => as_aux_lemma => k_is)
    (case n_iter_a => as_aux_lemma => k_is)
    (case F_Page_some_c => as_aux_lemma => k_is)
    (case F_Page_some_k => as_aux_lemma => k_is)
    (case F__law_box_right_c => as_aux_lemma => k_is)
    (case F__law_box_right_k => as_aux_lemma => k_is)
    (case n_repr_a => as_aux_lemma => k_is)
    (case n_zip_a => as_aux_lemma => k_is)
    (case F__law_right_c => as_aux_lemma => k_is)
    (case F__law_right_k => as_aux_lemma => k_is)
    (case z_Page_e => as_aux_lemma => k_is)
    (case z_Page_f => as_aux_lemma => k_is)
    (case z_Page_n => as_aux_lemma => k_is)
    (case t_Page_f => as_aux_lemma => k_is)
    (case t_Page_g => as_aux_lemma => k_is)
    (case pr_Page_names_g => as_aux_lemma => k_is)
    (case pr_Page_names_t => as_aux_lemma => k_is)
    (case w_Page_str_n => as_aux_lemma => k_is)
    (case w_Page_tuple_n => as_aux_lemma => k_is)
    (case i_list_is_Page_c => as_aux_lemma => k_is)
    (case i_list_is_Page_t => as_aux_lemma => k_is)
    (case i_list_is_Page_a => as_aux_lemma => k_is)
    (case i_str_is_Page_a => as_aux_lemma => k_is)
    (case i_tuple_is_Page_a => as_aux_lemma => k_is)
    (case ln_Page_f => as_aux_lemma => k_is)
    (case nb_Page_s => as_aux_lemma => k_is)
    (case gi_Page_f => as_aux_lemma => k_is)
    (case gi_Page_i => as_aux_lemma => k_is)
    (case it_Page_f => as_aux_lemma => k_is)
    (case h_Page_around_f => as_aux_lemma => k_is)
    (case h_Page_within_f => as_aux_lemma => k_is)
    (case h_Page_some_f => as_aux_lemma => k_is)
    (case F_law_c => as_aux_lemma => k_is)
    (case F_law_k => as_aux_lemma => k_is)
    (case z_Box_e => as_aux_lemma => k_is)
    (case w_Box_Page_n => as_aux_lemma => k_is)
    (case i_Page_is_Box_n => decide)
    (case i_Page_is_Box_c => as_aux_lemma => k_is)
    (case i_Page_is_Box_t => as_aux_lemma => k_is)
    (case i_Page_is_Box_a => as_aux_lemma => k_is)
end AZ
end
set_option Elab.async false
set_option maxRecDepth 100000
set_option maxHeartbeats 4000000
set_option linter.all false
namespace AZ
open PySem L2
/-! ## fractions -/
theorem num_di (a b : Int) (hb : b ≠ 0) : (Rat.divInt a b).num = a.fdiv (if b < 0 then -(Int.gcd a b : Int) else (Int.gcd a b : Int)) := by
  rw [Rat.num_divInt, Int.gcd_comm]
  obtain ⟨x, hx⟩ : (Int.gcd a b : Int) ∣ a := Int.gcd_dvd_left ..
  have hg : (Int.gcd a b : Int) ≠ 0 := by
    intro h
    have h2 : Int.gcd a b = 0 := by omega
    exact hb (Int.gcd_eq_zero_iff.mp h2).2
  generalize (Int.gcd a b : Int) = g at hx hg
  subst hx
  by_cases h : b < 0
  · rw [if_pos h, Int.sign_eq_neg_one_of_neg h, show -1 * (g * x) = g * -x by grind, Int.mul_ediv_cancel_left _ hg, show g * x = -g * -x by grind, Int.mul_fdiv_cancel_left _ (by omega)]
  · have hp : 0 < b := by omega
    rw [if_neg h, Int.sign_eq_one_of_pos hp, Int.one_mul, Int.mul_ediv_cancel_left _ hg, Int.mul_fdiv_cancel_left _ hg]
theorem den_di (a b : Int) (hb : b ≠ 0) : ((Rat.divInt a b).den : Int) = b.fdiv (if b < 0 then -(Int.gcd a b : Int) else (Int.gcd a b : Int)) := by
  rw [Rat.den_divInt, if_neg hb, Int.gcd_comm, Int.natCast_ediv]
  obtain ⟨x, hx⟩ : (Int.gcd a b : Int) ∣ b := Int.gcd_dvd_right ..
  have hg : (Int.gcd a b : Int) ≠ 0 := by
    intro h
    have h2 : Int.gcd a b = 0 := by omega
    exact hb (Int.gcd_eq_zero_iff.mp h2).2
  generalize hgd : (Int.gcd a b : Int) = g at hx hg
  by_cases h : b < 0
  · rw [if_pos h, show (b.natAbs : Int) = -b by omega, hx, show -(g * x) = g * -x by grind, Int.mul_ediv_cancel_left _ hg, show g * x = -g * -x by grind, Int.mul_fdiv_cancel_left _ (by omega)]
  · rw [if_neg h, show (b.natAbs : Int) = b by omega, hx, Int.mul_ediv_cancel_left _ hg, Int.mul_fdiv_cancel_left _ hg]
theorem dpos (q : Rat) : (0:Int) < q.den := Int.natCast_pos.mpr q.den_pos
theorem dne (q : Rat) : (q.den : Int) ≠ 0 := Int.ne_of_gt (dpos q)
theorem rdq (q : Rat) : Rat.divInt q.num q.den = q := Rat.num_divInt_den q
theorem r_add (x y : Rat) : Rat.divInt (x.num * y.den + y.num * x.den) (x.den * y.den) = x + y := by
  rw [← Rat.divInt_add_divInt _ _ (dne x) (dne y), rdq, rdq]
theorem r_sub (x y : Rat) : Rat.divInt (x.num * y.den - y.num * x.den) (x.den * y.den) = x - y := by
  rw [← Rat.divInt_sub_divInt _ _ (dne x) (dne y), rdq, rdq]
theorem r_mul (x y : Rat) : Rat.divInt (x.num * y.num) (x.den * y.den) = x * y := by
  rw [← Rat.divInt_mul_divInt, rdq, rdq]
theorem r_neg (x : Rat) : Rat.divInt (-x.num) x.den = -x := by
  rw [← Rat.neg_divInt, rdq]
theorem r_div (x y : Rat) : Rat.divInt (x.num * y.den) (x.den * y.num) = x / y := by
  rw [← Rat.divInt_mul_divInt, rdq, Rat.div_def, ← Rat.inv_divInt, rdq]
theorem r_floor (q : Rat) : q.num.fdiv q.den = q.floor := by
  rw [Rat.floor_def, Int.fdiv_eq_ediv_of_nonneg _ (Int.le_of_lt (dpos q))]
theorem r_ceil (q : Rat) : -((-q.num).fdiv q.den) = q.ceil := by
  rw [Rat.ceil_eq_neg_floor_neg, ← r_floor, Rat.neg_num, Rat.neg_den]
theorem r_int (n : Int) : Rat.divInt n 1 = (n : Rat) := by
  rw [Rat.divInt_eq_div]; show (n : Rat) / ((1 : Int) : Rat) = n; rw [Rat.intCast_one]; grind
theorem gcd_pos (a b : Int) (hb : b ≠ 0) : 0 < Int.gcd a b := Nat.pos_of_ne_zero fun h => hb (Int.gcd_eq_zero_iff.mp h).2
theorem gcd_le (a b : Int) (hb : b ≠ 0) : Int.gcd a b ≤ b.natAbs := Nat.le_of_dvd (by omega) (Nat.gcd_dvd_right _ _)
/-- sizes -/
def Sz (n : Nat) (q : Rat) : Prop := q.num.natAbs < 2 ^ n ∧ q.den < 2 ^ n
theorem sz_di {a b : Int} {n : Nat} (hb : b ≠ 0) (h1 : a.natAbs < 2 ^ n) (h2 : b.natAbs < 2 ^ n) : Sz n (Rat.divInt a b) := by
  constructor
  · rw [Rat.num_divInt]
    refine Nat.lt_of_le_of_lt (Int.natAbs_ediv_le_natAbs _ _) ?_
    rw [Int.natAbs_mul, Int.natAbs_sign_of_ne_zero hb, Nat.one_mul]
    exact h1
  · rw [Rat.den_divInt, if_neg hb]
    exact Nat.lt_of_le_of_lt (Nat.div_le_self _ _) h2
theorem Sz.mono {n m : Nat} {q : Rat} (h : Sz n q) (e : n ≤ m) : Sz m q :=
  ⟨Nat.lt_of_lt_of_le h.1 (Nat.pow_le_pow_right (by decide) e), Nat.lt_of_lt_of_le h.2 (Nat.pow_le_pow_right (by decide) e)⟩
theorem mul_lt2 {x y a b : Nat} (h1 : x < 2 ^ a) (h2 : y < 2 ^ b) : x * y < 2 ^ (a + b) := by
  rw [Nat.pow_add]; exact Nat.mul_lt_mul'' h1 h2

/-! ## operators of own classes, by promises -/
section
variable {X : Cx}
/-- what binary operators ask of the class at C: the def at f -/
structure BinM (K : PySem.W.Frag) (C : Addr) (op : Operator) (f : Addr) : Prop where
  hs : PySem.W.findIn K (.ref C) (PySem.dunder op.info.2) = some (some (.ref f))
  hf : PySem.W.isFn K (.ref f) = true
  hc : PySem.W.selfFirst K C = true
  hr : ∃ rc, PySem.W.findIn K (.ref C) (dunderR op.info.2) = some rc ∧ (rc = none ∨ ∃ g : Addr, rc = some (.ref g))
  ht : ∃ fo ro, PySem.W.findIn K (.type "int") (PySem.dunder op.info.2) = some fo ∧ PySem.W.findIn K (.type "int") (dunderR op.info.2) = some ro
  hu : PySem.W.subIn K (.type "int") (.ref C) = some false
/-- the right side: an int or another one of C -/
def RightI (C : Addr) (H : Hp) (y : V) : Prop := (∃ j, y = .int j) ∨ ∃ b dy gs, y = .ref b ∧ H b = some (.ins C dy gs)
def rOwn (X : Cx) (op : Operator) : R2 := fun x y H Q => ∃ (a C dx : Addr) (fs : List (Str × V)) (f : Addr) (CX : CXT) (k : Nat) (sp : Sp) (E : XK),
  x = .ref a ∧ H a = some (.ins C dx fs) ∧ RightI C H y ∧ BinM X.K C op f ∧ FnR X.prog X.w X.K X.mg X.base CX k f sp ∧ Room k X.A ∧ Passes CX X E ∧ sp [x, y] H Q E
theorem cmpBack_of {pins : List (Addr × Obj)} {σ : St} {Q : VK} {v : Value} {s : Shared} (h : EP X pins σ Q v s) : PySem.W.CmpBack (EP X pins σ Q) v s := by
  cases v <;> first
  | exact h
  | (obtain ⟨z, _, _, rz, _⟩ := h
     exfalso
     cases z <;> simp [RelV] at rz)
theorem op_ownB (op : Operator) : OpR X (binaryOp op) (rOwn X op) := by
  intro pins s σ H x y v u Q I rx ry h
  obtain ⟨a, C, dx, fs, f, CX, k, sp, E, rfl, ha, hR, hM, F, hr, hx, hs⟩ := h
  obtain rfl : v = Value.ref a := rx
  have hc : wpAny (model X.prog X.w) X.A (call (.ref f) [.ref a, u]) (PySem.W.CmpBack (EP X pins σ Q)) X.xe s :=
    thn (wpAny_call (run_fnR (us := [.ref a, u]) (vs := [.ref a, y]) F hr hx I (.cons rfl (.cons ry .nil)) hs)) fun _ _ z => cmpBack_of z
  obtain ⟨mA, J, _⟩ := ins_get I.hok ha
  obtain ⟨od, J, _⟩ := J.look
  obtain ⟨m, hF⟩ := I.fr
  rcases hR with ⟨j, rfl⟩ | ⟨b, dy, gs, rfl, hb⟩
  · obtain ⟨t, rfl⟩ := ry
    obtain ⟨rc, hrc, hp⟩ := hM.hr
    obtain ⟨fo, ro, h1, h2⟩ := hM.ht
    exact PySem.W.ksp_binT hF I.ok.mod.kin J rfl hM.hc hM.hs hM.hf hrc hp h1 h2 hM.hu hc
  · obtain rfl : u = Value.ref b := ry
    obtain ⟨mB, J2, _⟩ := ins_get I.hok hb
    obtain ⟨od2, J2, _⟩ := J2.look
    exact PySem.W.binop_K hF I.ok.mod.kin J J2.type hM.hc hM.hs hM.hf hc
/-- comparisons -/
structure CmpM (K : PySem.W.Frag) (C : Addr) (op : CmpOp) (f : Addr) : Prop where
  hs : PySem.W.findIn K (.ref C) (cmpInfo op).2.1 = some (some (.ref f))
  hf : PySem.W.isFn K (.ref f) = true
  hn : PySem.W.notFirst K C (.type "int") = true
def rOwnC (X : Cx) (op : CmpOp) : R2 := fun x y H Q => ∃ (a C dx : Addr) (fs : List (Str × V)) (f : Addr) (CX : CXT) (k : Nat) (sp : Sp) (E : XK),
  x = .ref a ∧ H a = some (.ins C dx fs) ∧ RightI C H y ∧ CmpM X.K C op f ∧ FnR X.prog X.w X.K X.mg X.base CX k f sp ∧ Room k X.A ∧ Passes CX X E ∧ sp [x, y] H Q E
theorem op_ownC (op : CmpOp) (hop : ∀ a b, compareOp op a b = richCompare op a b := by intro _ _; rfl) : OpR X (compareOp op) (rOwnC X op) := by
  intro pins s σ H x y v u Q I rx ry h
  obtain ⟨a, C, dx, fs, f, CX, k, sp, E, rfl, ha, hR, hM, F, hr, hx, hs⟩ := h
  obtain rfl : v = Value.ref a := rx
  have hc : wpAny (model X.prog X.w) X.A (call (.ref f) [.ref a, u]) (PySem.W.CmpBack (EP X pins σ Q)) X.xe s :=
    thn (wpAny_call (run_fnR (us := [.ref a, u]) (vs := [.ref a, y]) F hr hx I (.cons rfl (.cons ry .nil)) hs)) fun _ _ z => cmpBack_of z
  obtain ⟨mA, J, _⟩ := ins_get I.hok ha
  obtain ⟨od, J, _⟩ := J.look
  obtain ⟨m, hF⟩ := I.fr
  rw [hop]
  rcases hR with ⟨j, rfl⟩ | ⟨b, dy, gs, rfl, hb⟩
  · obtain ⟨t, rfl⟩ := ry
    exact PySem.W.cmp_K (tb := .type "int") hr.units0 hF I.ok.mod.kin J (PySem.W.Looks.of_pure rfl) hM.hn hM.hs hM.hf hc
  · obtain rfl : u = Value.ref b := ry
    obtain ⟨mB, J2, _⟩ := ins_get I.hok hb
    obtain ⟨od2, J2, _⟩ := J2.look
    exact PySem.W.cmp_K (tb := .ref C) hr.units0 hF I.ok.mod.kin J J2.type (by simp [PySem.W.notFirst]) hM.hs hM.hf hc
/-- one-place operators -/
structure UnM (K : PySem.W.Frag) (C : Addr) (nm : Str) (f : Addr) : Prop where
  hs : PySem.W.findIn K (.ref C) nm = some (some (.ref f))
  hf : PySem.W.isFn K (.ref f) = true
def rOwnU (X : Cx) (nm : Str) : V → Hp → VK → Prop := fun x H Q => ∃ (a C dx : Addr) (fs : List (Str × V)) (f : Addr) (CX : CXT) (k : Nat) (sp : Sp) (E : XK),
  x = .ref a ∧ H a = some (.ins C dx fs) ∧ UnM X.K C nm f ∧ FnR X.prog X.w X.K X.mg X.base CX k f sp ∧ Room k X.A ∧ Passes CX X E ∧ sp [x] H Q E
theorem un_ownNeg : UnR X (unaryOp .USub) (rOwnU X "__neg__") := by
  intro pins s σ H x v Q I rx h
  obtain ⟨a, C, dx, fs, f, CX, k, sp, E, rfl, ha, hM, F, hr, hx, hs⟩ := h
  obtain rfl : v = Value.ref a := rx
  obtain ⟨mA, J, _⟩ := ins_get I.hok ha
  obtain ⟨od, J, _⟩ := J.look
  obtain ⟨m, hF⟩ := I.fr
  exact PySem.W.ksp_neg hF I.ok.mod.kin J hM.hs hM.hf (wpAny_call (run_fnR (us := [.ref a]) (vs := [.ref a]) F hr hx I (.cons rfl .nil) hs))
theorem un_ownInv : UnR X (unaryOp .Invert) (rOwnU X "__invert__") := by
  intro pins s σ H x v Q I rx h
  obtain ⟨a, C, dx, fs, f, CX, k, sp, E, rfl, ha, hM, F, hr, hx, hs⟩ := h
  obtain rfl : v = Value.ref a := rx
  obtain ⟨mA, J, _⟩ := ins_get I.hok ha
  obtain ⟨od, J, _⟩ := J.look
  obtain ⟨m, hF⟩ := I.fr
  exact PySem.W.ksp_inv hF I.ok.mod.kin J hM.hs hM.hf (wpAny_call (run_fnR (us := [.ref a]) (vs := [.ref a]) F hr hx I (.cons rfl .nil) hs))
/-! ## static methods, methods, defs by positional promises -/
structure SMet (K : PySem.W.Frag) (C : Addr) (m : Str) (g : Addr) : Prop where
  ex : ∃ (mc : Value) (p : Addr) (rest : List Value), ClX.CRead K C mc ∧ PySem.W.findCls K (.ref C) mc m = some (.get (.builtin "staticmethod.__get__") (.ref p) .none (.ref C)) ∧ PySem.W.recIn K p "staticmethod" = some (.ref g :: rest)
  kp : PySem.W.keepIn K (.ref g) = true
variable {CX : CXT} {k : Nat} {C g : Addr} {sp : Sp} {E : XK} {o e : Expr} {es : List Expr} {m x : Str} {p pos apos : Pos} {ta : TE} {t : TA}
def tSM (C : Addr) (sp : Sp) (E : XK) (ta : TE) (t : TA) : TE := fun σ H Q => ta σ H fun x H1 => x = .ref C ∧ t σ H1 fun vs H2 => sp vs H2 Q E
theorem pe_smeth {pl : Sem Bool} (he : PE X o ta) (c : SMet X.K C m g) (F : FnR X.prog X.w X.K X.mg X.base CX k g sp) (hr : Room k X.A) (hx : Passes CX X E) (ha : PA X (e :: es) t)
    (hst : starEach (e :: es) X.env = (false, eval e X.env) :: starEach es X.env := by rfl) (hpl : (backTo pos (starEach es X.env)).any (·.1) = false := by rfl)
    (ht : eval (.Call (.Attribute o m apos) (e :: es) [] pos) X.env = (eval o X.env >>= fun ov => standAt apos.atName >>= fun _ => holding [ov] (getMethod ov m pl) >>= fun r =>
      callWith pos r.1 r.2 (backTo pos (starEach (e :: es) X.env)) (backToKw pos (keywordEach [] X.env))) := by rfl) :
    PE X (.Call (.Attribute o m apos) (e :: es) [] pos) (tSM C sp E ta t) := by
  refine ⟨fun pins s σ H Q I h => ?_⟩
  refine PySem.W.methodCall_KW (pl := pl) (thn (he.run pins s σ H _ I h) fun u s1 ⟨x, H1, I1, rx, ex, q⟩ => ?_) ht
  subst ex
  obtain rfl : u = Value.ref C := rx
  obtain ⟨mc, p, rest, r, at_, rc⟩ := c.ex
  refine PySem.W.method_cls I1.kIn r.ga ?_
  refine PySem.W.cls_bind I1.kIn r.rd at_ (wpAny_call (PySem.W.sm_get (s := { s1 with toks := s1.toks + 1 }) I1.kIn rc (PySem.W.handed_on rfl ?_)))
  refine PySem.W.callWith_K (first := []) (h₀ := X.base) I1.ok.mod.kin c.kp (thn (ha.run pos pins _ σ H1 _ (I1.tok _) q) fun us s2 ⟨vs, H2, I2, r2, q2⟩ => ⟨I2.kIn, ?_⟩) hst hpl
  exact wpAny_call (run_fnR F hr hx I2 r2 q2)
/-- x(e, ..), x a def of the module -/
theorem pe_fnR (F : FnR X.prog X.w X.K X.mg X.base CX k g sp) (hr : Room k X.A) (hk : PySem.W.keepIn X.K (.ref g) = true) (hm : X.mg x = some (.ref g)) (hx : Passes CX X E) (ha : PA X (e :: es) t) (hg : Gl X x := by rfl) (hd : (x == ("__debug__" : Str)) = false := by decide)
    (he : starEach (e :: es) X.env = (false, eval e X.env) :: starEach es X.env := by rfl) (hst : (backTo pos (starEach es X.env)).any (·.1) = false := by rfl) :
    PE X (.Call (.Name x p) (e :: es) [] pos) (fun σ H Q => t σ H fun vs H1 => sp vs H1 Q E) := by
  refine ⟨fun pins s σ H Q I h => ?_⟩
  refine wpAny_Call_Name_kw (ld_glob I hg hm ?_ hd)
  refine PySem.W.callWith_K (h₀ := X.base) I.ok.mod.kin hk (thn (ha.run pos pins s σ H _ I h) fun us s1 ⟨vs, H1, I1, r, q⟩ => ⟨I1.kIn, ?_⟩) he hst
  exact wpAny_call (run_fnR F hr hx I1 r q)
/-- o.m(e, ..) -/
def tMR (C : Addr) (m : Str) (sp : Sp) (E : XK) (ta : TE) (t : TA) : TE := fun σ H Q => ta σ H fun x H1 => ∃ a dx fs, x = .ref a ∧ H1 a = some (.ins C dx fs) ∧ fs.lookup m = none ∧ t σ H1 fun vs H2 => sp (x :: vs) H2 Q E
theorem pe_mR {pl : Sem Bool} (he : PE X o ta) (c : Cls X.K C) (hm : Meth X.K C m g) (F : FnR X.prog X.w X.K X.mg X.base CX k g sp) (hr : Room k X.A) (hx : Passes CX X E) (ha : PA X (e :: es) t)
    (hst : starEach (e :: es) X.env = (false, eval e X.env) :: starEach es X.env := by rfl) (hpl : (backTo pos (starEach es X.env)).any (·.1) = false := by rfl)
    (ht : eval (.Call (.Attribute o m apos) (e :: es) [] pos) X.env = (eval o X.env >>= fun ov => standAt apos.atName >>= fun _ => holding [ov] (getMethod ov m pl) >>= fun r =>
      callWith pos r.1 r.2 (backTo pos (starEach (e :: es) X.env)) (backToKw pos (keywordEach [] X.env))) := by rfl) :
    PE X (.Call (.Attribute o m apos) (e :: es) [] pos) (tMR C m sp E ta t) := by
  refine ⟨fun pins s σ H Q I h => ?_⟩
  refine PySem.W.methodCall_KW (pl := pl) (thn (he.run pins s σ H _ I h) fun u s1 ⟨x, H1, I1, rx, a, dx, fs, ex, ea, l, q⟩ => ?_) ht
  subst ex
  obtain rfl : u = Value.ref a := rx
  refine getmeth_ok I1 ea c hm l ?_
  refine PySem.W.callWith_K (first := [.ref a]) (h₀ := X.base) I.ok.mod.kin hm.kp (thn (ha.run pos pins s1 σ H1 _ I1 q) fun us s2 ⟨vs, H2, I2, r, q2⟩ => ⟨I2.kIn, ?_⟩) hst hpl
  exact wpAny_call (run_fnR (us := .ref a :: us) (vs := .ref a :: vs) F hr hx I2 (.cons rfl r) q2)
/-- o.m() -/
theorem pe_mR0 {pl : Sem Bool} (he : PE X o ta) (c : Cls X.K C) (hm : Meth X.K C m g) (F : FnR X.prog X.w X.K X.mg X.base CX k g sp) (hr : Room k X.A) (hx : Passes CX X E)
    (ht : eval (.Call (.Attribute o m apos) [] [] pos) X.env = (eval o X.env >>= fun ov => standAt apos.atName >>= fun _ => holding [ov] (getMethod ov m pl) >>= fun r =>
      callWith pos r.1 r.2 (backTo pos (starEach [] X.env)) (backToKw pos (keywordEach [] X.env))) := by rfl) :
    PE X (.Call (.Attribute o m apos) [] [] pos) (tMR C m sp E ta tNil) := by
  refine ⟨fun pins s σ H Q I h => ?_⟩
  refine PySem.W.methodCall_KW (pl := pl) (thn (he.run pins s σ H _ I h) fun u s1 ⟨x, H1, I1, rx, a, dx, fs, ex, ea, l, q⟩ => ?_) ht
  subst ex
  obtain rfl : u = Value.ref a := rx
  refine getmeth_ok I1 ea c hm l ?_
  exact PySem.W.callWith_K0 (first := [.ref a]) I1.kIn hm.kp (wpAny_call (run_fnR (us := [.ref a]) (vs := [.ref a]) F hr hx I1 (.cons rfl .nil) q))
/-- // by a divisor of any sign below 2 ^ 9000 -/
def CDivZ (_ j : Int) : Prop := j ≠ 0 ∧ j.natAbs.log2 < 9000
theorem op_fdivZ : OpR X (binaryOp .FloorDiv) (rI CDivZ fun i j => .int (i.fdiv j)) := opI fun _ _ _ _ _ _ _ hc q => PyProof.Rows.floordiv_int hc.1 q (.inl (PyProof.noPylong_of_log2 hc.2))
theorem divZ {i j : Int} {b : Nat} (h : j ≠ 0) (hb : j.natAbs < 2 ^ b) (h0 : 0 < b) (h9 : b ≤ 9000) : CDivZ i j := ⟨h, Nat.lt_of_lt_of_le (PySem.Flt.log2_lt_of h0 hb) h9⟩
/-- what isinstance asks of an own class -/
structure TyC (K : PySem.W.Frag) (C : Addr) : Prop where
  ha : PySem.W.findIn K (.ref C) "__class__" = some (some (.builtin "object.__class__"))
  hn : PySem.W.specialIn K (.builtin "object.__class__") "__get__" = some (some (.builtin "getset_descriptor.__get__"))
  htk : PySem.W.takesIn K (.builtin "object.__class__") = some true
  hm : PySem.W.mroIn K C (.type "object") = some true
theorem TyC.ty {K : PySem.W.Frag} {C a dx : Addr} {H : Hp} {fs : List (Str × V)} (y : TyC K C) (c : Cls K C) (e : H a = some (.ins C dx fs)) : TyX K H (.ref a) (.ref C) := .base (.ins e c y.ha y.hn y.htk y.hm)
theorem kit_rt {K : PySem.W.Frag} {C : Addr} {S : String} {b : Bool} (m : PySem.W.kitMeta S = true) (h : PySem.W.subIn K (.ref C) (.type S) = some b) : PySem.W.kitOne K (.ref C) (.type S) = some b := by
  unfold PySem.W.kitOne PySem.W.kitCls
  rw [if_neg (by intro e; cases (beq_iff_eq.mp e))]
  dsimp only
  rw [if_pos m]
  exact h
theorem kit_tr {K : PySem.W.Frag} {C : Addr} {S : String} {b : Bool} (c : PySem.W.isClsIn K C = true) (t : PySem.W.typeIn K (.ref C) = some (.type "type")) (h : PySem.W.subIn K (.type S) (.ref C) = some b) : PySem.W.kitOne K (.type S) (.ref C) = some b := by
  unfold PySem.W.kitOne PySem.W.kitCls
  rw [if_neg (by intro e; cases (beq_iff_eq.mp e))]
  dsimp only
  rw [if_pos (by rw [show (PySem.W.clsIn K C).isSome = true from c, t]; rfl)]
  exact h
theorem kit_rr {K : PySem.W.Frag} {C : Addr} : PySem.W.kitOne K (.ref C) (.ref C) = some true := by simp [PySem.W.kitOne]
theorem ifF {c : Bool} {A B : Prop} (hc : c = false) (h : B) : if c = true then A else B := by subst hc; exact iteF h
theorem ifT {c : Bool} {A B : Prop} (hc : c = true) (h : A) : if c = true then A else B := by subst hc; exact iteT h
theorem if2 {c : Bool} {A B : Prop} (h1 : c = true → A) (h2 : c = false → B) : if c = true then A else B := by
  cases c with
  | true => exact iteT (h1 rfl)
  | false => exact iteF (h2 rfl)
/-! ## what stays beside a pen -/
def isL : HO → Bool
  | .lst _ => true
  | _ => false
/-- all but the list at p stays -/
def Up (p : Addr) (H H' : Hp) : Prop := ∀ b o, H b = some o → (b = p → isL o = false) → H' b = some o
theorem Up.refl (p : Addr) (H : Hp) : Up p H H := fun _ _ h _ => h
theorem Up.trans {p : Addr} {H H1 H2 : Hp} (a : Up p H H1) (b : Up p H1 H2) : Up p H H2 := fun c o h n => b c o (a c o h n) n
theorem Up.same {p : Addr} {H H' : Hp} (e : Same H H') : Up p H H' := fun b o h _ => e b o h
theorem Up.new {p q : Addr} {H : Hp} {o : HO} (h : H q = none) : Up p H (upd H q o) := fun b u e _ => by rw [upd_ne (ne_of_none e h)]; exact e
theorem Up.new' {p q : Addr} {H H1 : Hp} {o : HO} (e : Up p H H1) (h : H1 q = none) : Up p H (upd H1 q o) := e.trans (Up.new h)
theorem Up.put {p : Addr} {H : Hp} {xs : List V} {o : HO} (h : H p = some (.lst xs)) : Up p H (upd H p o) := fun b u e n => by
  by_cases hb : b = p
  · subst hb
    rw [h] at e
    cases e
    exact absurd (n rfl) (by simp [isL])
  · rw [upd_ne hb]; exact e
theorem Up.tup {p a : Addr} {H H' : Hp} {xs : List V} (e : Up p H H') (h : H a = some (.tup xs)) : H' a = some (.tup xs) := e _ _ h fun _ => rfl
theorem Up.ins {p a C dx : Addr} {H H' : Hp} {fs : List (Str × V)} (e : Up p H H') (h : H a = some (.ins C dx fs)) : H' a = some (.ins C dx fs) := e _ _ h fun _ => rfl
theorem Up.lst {p a : Addr} {H H' : Hp} {xs : List V} (e : Up p H H') (h : H a = some (.lst xs)) (n : a ≠ p) : H' a = some (.lst xs) := e _ _ h fun z => absurd z n
/-! ## rules by alternatives -/
theorem CallR.or' {f : Value} {r r' : List V → Hp → VK → Prop} (h : CallR X f r) (h' : CallR X f r') : CallR X f (fun xs H Q => r xs H Q ∨ r' xs H Q) := by
  intro pins s σ H xs us Q I rv q
  rcases q with q | q
  · exact h pins s σ H xs us Q I rv q
  · exact h' pins s σ H xs us Q I rv q
theorem UnR.or' {f : Value → Sem Value} {r r' : V → Hp → VK → Prop} (h : UnR X f r) (h' : UnR X f r') : UnR X f (fun x H Q => r x H Q ∨ r' x H Q) := by
  intro pins s σ H x v Q I rv q
  rcases q with q | q
  · exact h pins s σ H x v Q I rv q
  · exact h' pins s σ H x v Q I rv q
def orR (r r' : R2) : R2 := fun x y H Q => r x y H Q ∨ r' x y H Q
theorem op_or2 {f : Value → Value → Sem Value} {r r' : R2} (h : OpR X f r) (h' : OpR X f r') : OpR X f (orR r r') := OpR.or h h'
theorem uAdd : OpR X (binaryOp .Add) (orR (rI0 fun i j => .int (i + j)) (orR (rOwn X .Add) (orR rCat (rCatT X.K)))) := op_or2 op_add (op_or2 (op_ownB _) (op_or2 op_cat op_catT))
theorem uSub : OpR X (binaryOp .Sub) (orR (rI0 fun i j => .int (i - j)) (rOwn X .Sub)) := op_or2 op_sub (op_ownB _)
/-- * of two factors, one small or both together below a million bits -/
def CMulU (i j : Int) : Prop := CMul i j ∨ CMulW i j
theorem op_mulU : OpR X (binaryOp .Mult) (rI CMulU fun i j => .int (i * j)) := opI fun _ _ _ _ _ _ _ hc q => PyProof.Rows.mul_int q (hc.elim (fun h => h.ok) fun h => h.ok)
theorem mulL {i j : Int} (h : -(2 ^ 64) < i ∧ i < 2 ^ 64) : CMulU i j := .inl (.inl h)
theorem mulR {i j : Int} (h : -(2 ^ 64) < j ∧ j < 2 ^ 64) : CMulU i j := .inl (.inr h)
theorem uMul : OpR X (binaryOp .Mult) (orR (rI CMulU fun i j => .int (i * j)) (rOwn X .Mult)) := op_or2 op_mulU (op_ownB _)
/-! ## numbers that stir a pen -/
theorem fm0 {a b : Int} (h : 0 < b) : 0 ≤ a.fmod b ∧ a.fmod b < b := by
  rw [Int.fmod_eq_emod_of_nonneg _ (by omega)]
  exact ⟨Int.emod_nonneg _ (by omega), Int.emod_lt_of_pos _ h⟩
theorem stir1 {x m a b s : Int} (hm : 0 < m) (hm1 : m ≤ 2147483648) (ha : 0 ≤ a) (ha1 : a ≤ 1000000) (hb : 0 ≤ b) (hb1 : b ≤ 10000000) (h0 : 0 ≤ s) (h1 : s ≤ 100000) : (x.fmod m + a * s + b).natAbs < 2 ^ 64 := by
  obtain ⟨h2, h3⟩ := fm0 (a := x) hm
  have h4 : 0 ≤ a * s := Int.mul_nonneg ha h0
  have h5 : a * s ≤ 1000000 * 100000 := Int.mul_le_mul ha1 h1 h0 (by decide)
  omega
theorem stir2 {x m u a b s : Int} (hm : 0 < m) (hm1 : m ≤ 2147483648) (hu : 0 ≤ u) (hu1 : u ≤ 100000) (ha : 0 ≤ a) (ha1 : a ≤ 1000000) (hb : 0 ≤ b) (hb1 : b ≤ 10000000) (h0 : 0 ≤ s) (h1 : s ≤ 100000) : (x.fmod m * (2 * s + u) + a * s * s + b).natAbs < 2 ^ 64 := by
  obtain ⟨h2, h3⟩ := fm0 (a := x) hm
  have h4 : 0 ≤ a * s := Int.mul_nonneg ha h0
  have h5 : a * s ≤ 1000000 * 100000 := Int.mul_le_mul ha1 h1 h0 (by decide)
  have h6 : 0 ≤ a * s * s := Int.mul_nonneg h4 h0
  have h7 : a * s * s ≤ 1000000 * 100000 * 100000 := Int.mul_le_mul h5 h1 h0 (by decide)
  have h8 : 0 ≤ x.fmod m * (2 * s + u) := Int.mul_nonneg h2 (by omega)
  have h9 : x.fmod m * (2 * s + u) ≤ 2147483648 * 300000 := Int.mul_le_mul (by omega) (by omega) (by omega) (by decide)
  omega
theorem stir3 {x m : Int} (hm : 0 < m) (hm1 : m ≤ 2147483648) : ∀ y, CMulU (x.fmod m) y := fun y => by
  obtain ⟨h2, h3⟩ := fm0 (a := x) hm
  exact mulL (by omega)
theorem stir4 {a s : Int} (ha : 0 ≤ a) (ha1 : a ≤ 1000000) (h0 : 0 ≤ s) (h1 : s ≤ 100000) : ∀ y, CMulU (a * s) y := fun y => by
  have h4 : 0 ≤ a * s := Int.mul_nonneg ha h0
  have h5 : a * s ≤ 1000000 * 100000 := Int.mul_le_mul ha1 h1 h0 (by decide)
  exact mulL (by omega)
theorem nz {j : Int} (h : j ≠ 0) : j ≠ 0 := h
theorem small_div {i j : Int} (h0 : 0 < j) (h1 : j ≤ 100000000000) : CDivZ i j := divZ (b := 40) (by omega) (by omega) (by decide) (by decide)
theorem szN {n : Nat} {q : Rat} (h : Sz n q) : q.num.natAbs < 2 ^ n := h.1
theorem szD {n : Nat} {q : Rat} (h : Sz n q) : (q.den : Int).natAbs < 2 ^ n := h.2
theorem mul2 {i j : Int} (h1 : i.natAbs < 2 ^ 2000) (h2 : j.natAbs < 2 ^ 2000) : CMulU i j := .inr (wide_mul h1 h2 (by decide) (by decide) (by decide))
theorem den2 {x y : Rat} (h1 : Sz 2000 x) (h2 : Sz 2000 y) : ((x.den : Int) * (y.den : Int)).natAbs < 2 ^ 8000 := by
  rw [Int.natAbs_mul]
  exact Nat.lt_of_lt_of_le (mul_lt2 (szD h1) (szD h2)) (Nat.pow_le_pow_right (by decide) (by decide))
theorem den0 (x y : Rat) : (x.den : Int) * (y.den : Int) ≠ 0 := Int.mul_ne_zero (dne x) (dne y)
/-! ## menus: displays of tuples of constants -/
def tcs (c : List V) : TA := c.foldr (fun v t => tCons (tC v) t) tNil
theorem tcs_ok {σ : St} : ∀ {c : List V} {H : Hp} {Q : List V → Hp → Prop}, Q c H → tcs c σ H Q
  | [], _, _, q => q
  | v :: c, H, Q, q => tcs_ok (c := c) (H := H) (Q := fun xs H2 => Q (v :: xs) H2) q
def tMenu (cs : List (List V)) : TA := cs.foldr (fun c t => tCons (tTup (tcs c)) t) tNil
theorem tMenu_ok {σ : St} : ∀ {cs : List (List V)} {H : Hp} {Q : List V → Hp → Prop}, (∀ c ∈ cs, c.length ≤ 1000) →
    (∀ ps H', Same H H' → Paired (fun p c => H' p = some (.tup c)) ps cs → Q (ps.map V.ref) H') → tMenu cs σ H Q
  | [], H, Q, _, q => q [] H (Same.refl H) .nil
  | c :: cs, H, Q, hc, q => by
    show tTup (tcs c) σ H (fun x H1 => tMenu cs σ H1 fun xs H2 => Q (x :: xs) H2)
    refine tcs_ok (c := c) ⟨Nat.le_of_lt (small1000 (hc c (List.mem_cons_self ..))), fun p hp => ?_⟩
    refine tMenu_ok (fun c' h => hc c' (List.mem_cons_of_mem _ h)) fun ps H' e pr => ?_
    refine q (p :: ps) H' (fun b o h => e _ _ (by rw [upd_ne (ne_of_none h hp)]; exact h)) (.cons (e _ _ upd_same) pr)
theorem sameNew {H : Hp} {a : Addr} {o : HO} (h : H a = none) : Same H (upd H a o) := fun b u e => by rw [upd_ne (ne_of_none e h)]; exact e
theorem go_sa {te : TE} {g : TG} {u : TS} {D : Ends} {σ : St} {H : Hp} (h : te σ H fun x H1 => g x σ H1 (u D)) : tSeq (tAsg te g) u D σ H := h
theorem qb {Q : Bool → Hp → Prop} {b c : Bool} {H : Hp} (e : b = c) (h : Q c H) : Q b H := e ▸ h
theorem vb {Q : VK} {b c : Bool} {H : Hp} (e : b = c) (h : Q (.bl c) H) : Q (.bl b) H := e ▸ h
/-- an if whose test is false, whatever is wanted of it -/
theorem sif {tc : TT} {t w : TS} {D : Ends} {σ : St} {H : Hp} (h : ∀ Q : Bool → Hp → Prop, (∀ H2, Same H H2 → Q false H2) → tc σ H Q) (k : ∀ H2, Same H H2 → w D σ H2) : tSeq (tIfS tc t tNext) w D σ H :=
  h _ fun H2 e => iteF (k H2 e)
theorem lMenu_ok {σ : St} {cs : List (List V)} {H : Hp} {Q : VK} (hc : ∀ c ∈ cs, c.length ≤ 1000) (hl : cs.length ≤ 1000)
    (q : ∀ ps H1 a, Same H H1 → Paired (fun p c => H1 p = some (.tup c)) ps cs → H1 a = none → Q (.ref a) (upd H1 a (.lst (ps.map V.ref)))) : tLst (tMenu cs) σ H Q :=
  tMenu_ok hc fun ps H1 e pr => ⟨by rw [List.length_map, pr.length]; exact Nat.le_of_lt (small1000 hl), fun a ha => q ps H1 a e pr ha⟩
theorem paired_mem {α β : Type} {F : α → β → Prop} : ∀ {l : List α} {m : List β} {x : α}, Paired F l m → x ∈ l → ∃ y ∈ m, F x y
  | _, _, _, .nil, h => by cases h
  | _, _, x, .cons r t, h => by
    rcases List.mem_cons.mp h with e | h
    · subst e; exact ⟨_, List.mem_cons_self .., r⟩
    · obtain ⟨y, hy, f⟩ := paired_mem t h
      exact ⟨y, List.mem_cons_of_mem _ hy, f⟩
/-! ## lists of ints as data -/
theorem dp_ints {K : PySem.W.Frag} {H : Hp} : ∀ ns : List Int, DpAll K H (ns.map V.int) (ns.map PyData.int)
  | [] => .nil
  | n :: ns => .cons (.int n) (dp_ints ns)
theorem canAll_ints : ∀ ns : List Int, PyData.canLayAll0 (ns.map PyData.int) = true
  | [] => by simp [PyData.canLayAll0]
  | n :: ns => by simp [PyData.canLayAll0, PyData.canLay0, canAll_ints ns]
theorem depthAll_ints : ∀ ns : List Int, PyData.depthAll (ns.map PyData.int) ≤ 1
  | [] => by simp [PyData.depthAll]
  | n :: ns => by
    have h := depthAll_ints ns
    simp [PyData.depthAll, PyData.depth] at *
    omega
theorem shaped_ints (ns : List Int) : SeqAt.shaped (.list (ns.map PyData.int)) = true := by
  have h := depthAll_ints ns
  simp [SeqAt.shaped, PyData.canLay0, PyData.depth, canAll_ints]
  omega
theorem eqv_same : ∀ ns : List Int, PyData.eqv (.list (ns.map PyData.int)) (.list (ns.map PyData.int)) = true
  | [] => by simp [PyData.eqv, PyData.eqvAll]
  | n :: ns => by
    have h := eqv_same ns
    simp [PyData.eqv, PyData.eqvAll] at *
    exact h
theorem eqv_nil (ns : List Int) : PyData.eqv (.list (ns.map PyData.int)) (.list []) = ns.isEmpty := by
  cases ns <;> simp [PyData.eqv, PyData.eqvAll]
theorem uDiv : OpR X (binaryOp .FloorDiv) (orR (rI CDivZ fun i j => .int (i.fdiv j)) (rOwn X .FloorDiv)) := op_or2 op_fdivZ (op_ownB _)
theorem uMod : OpR X (binaryOp .Mod) (orR (rI (fun _ j => j ≠ 0) fun i j => .int (i.fmod j)) (rOwn X .Mod)) := op_or2 op_modN (op_ownB _)
theorem uLt : OpR X (compareOp .Lt) (orR (rI0 fun i j => .bl (decide (i < j))) (rOwnC X .Lt)) := op_or2 op_lt (op_ownC _)
theorem uLe : OpR X (compareOp .LtE) (orR (rI0 fun i j => .bl (decide (i ≤ j))) (rOwnC X .LtE)) := op_or2 op_le (op_ownC _)
theorem uGt : OpR X (compareOp .Gt) (orR (rI0 fun i j => .bl (decide (j < i))) (rOwnC X .Gt)) := op_or2 op_gt (op_ownC _)
theorem uGe : OpR X (compareOp .GtE) (orR (rI0 fun i j => .bl (decide (j ≤ i))) (rOwnC X .GtE)) := op_or2 op_ge (op_ownC _)
theorem uEq (hu : X.A.units + 64 < cLine) : OpR X (compareOp .Eq) (orR rEq (orR (rOwnC X .Eq) (rEqD X.K))) := op_or2 op_eq (op_or2 (op_ownC _) (op_eqD hu))
theorem uNe (hu : X.A.units + 64 < cLine) : OpR X (compareOp .NotEq) (orR rNe (rNeD X.K)) := op_or2 op_ne (op_neD hu)
theorem uNeg : UnR X (unaryOp .USub) (fun x H Q => rU (fun i => .int (-i)) x H Q ∨ rOwnU X "__neg__" x H Q) := UnR.or' un_neg un_ownNeg
/-- two promises of one def -/
theorem FnR.or {P : Program} {w : World} {K : PySem.W.Frag} {mg : Str → Option Value} {base : Heap} {CX : CXT} {k : Nat} {f : Addr} {sp sp' : Sp} (h : FnR P w K mg base CX k f sp) (h' : FnR P w K mg base CX k f sp') :
    FnR P w K mg base CX k f (fun vs H Q E => sp vs H Q E ∨ sp' vs H Q E) := fun A outer s H us vs Q E hr e0 r hs =>
  hs.elim (fun q => h A outer s H us vs Q E hr e0 r q) fun q => h' A outer s H us vs Q E hr e0 r q
theorem uIsi : CallR X (.builtin "isinstance") (fun xs H Q => rIsi X.K xs H Q ∨ rIsiT X.K xs H Q) := CallR.or' call_isi call_isiT
end
end AZ

set_option Elab.async false
set_option maxRecDepth 100000
set_option maxHeartbeats 4000000
set_option linter.all false
namespace AZ
open PySem PySem.Spec PySem.W PySem.Calls PyProof.Rows
section
variable {prog : Program} {w : World} {A : Around} {E : Value → Shared → Prop} {s : Shared} {K : Frag} {x C L f : Addr} {h₀ : Heap} {m : Str → Option Value} {ox : Obj} {od : Option Obj} {name : Str} {b tb : Value}
theorem ifBound_B {M : Model} {id : String} {args : List Value} {Q : Option Value → Shared → Prop} (X : K.In s.heap) (I : InstAt s.heap x ox C od) (hs : findIn K (.ref C) name = some (some (.builtin id)))
    (hb : ∀ self, bindSpecial (.builtin id) self = pure (.builtin id, [self])) (h : wpAny M A (call (.builtin id) (.ref x :: args)) (fun v => Q (some v)) E s) : wpAny M A (callSpecialIfBound? (.ref x) name args) Q E s := by
  simp only [callSpecialIfBound?, bindSpecialIfBound?]
  refine wpAny_holding (wpAny_bind (wpAny_bind (wpAny_bind (I.type.here ((looks_findIn X hs).here ?_)))))
  refine wpAny_bind (wpAny_askSetting (wpAny_ite ?_))
  have fin : wpAny M A (call (.builtin id) ([.ref x] ++ args) >>= fun v => pure (some v)) Q E s := wpAny_bind (wpAny_mono h (fun v s' h' => wpAny_pure h') fun _ _ h' => h')
  split
  · exact wpAny_bind ((Looks.of_pure (hb _)).here (wpAny_pure (by exact fin)))
  · exact wpAny_tryCatch (wpAny_bind ((Looks.of_pure (hb _)).here (wpAny_pure (by exact fin))))
theorem one_ne {Q : Value → Shared → Prop} (hu : A.units + 1 < cLine) (X : K.In s.heap) (I : InstAt s.heap x ox C od)
    (hne : findIn K (.ref C) "__ne__" = some (some (.builtin "object.__ne__"))) (hs : findIn K (.ref C) "__eq__" = some (some (.ref f))) (hf : isFn K (.ref f) = true) (hm : mroIn K C (.type "object") = some true)
    (h : wpAny (model prog w) A.in1 (call (.ref f) [.ref x, b]) (fun v s' => ∃ r, v = .bool r ∧ Q (.bool (!r)) s') E s) :
    wpAny (model prog w) A (tryCompare (.ref x) "__ne__" b) (fun r s' => ∃ v, r = some v ∧ Q v s') E s := by
  have hu' : A.in1.units < cLine := by
    show A.units + 1 < cLine
    exact hu
  unfold tryCompare
  refine wpAny_bind (ifBound_B X I hne PySem.F.cmp_object.ne.bind (wpAny_call (codeAny_call_builtin PySem.F.cmp_object.ne.plain PySem.F.cmpEntry_ne (check_slot PySem.F.cmpKind_ne PySem.F.cmpSplit_ne (I.type.andThen (looks_mroIn X hm)) (PySem.F.cmpArgs_ne _ _) ?_))))
  unfold Builtin.«object.__ne__»
  refine wpAny_bind (m := slotArgs "__ne__" 1 _) (wpAny_pure ?_)
  refine wpAny_bind (m := cRoomFor _ _) (wpAny_cRoomFor hu' ?_)
  refine wpAny_bind (m := callSpecialIfBound? (.ref x) (Str.ofString "__eq__") _) (ifBound_K X I hs hf (wpAny_mono h (fun r s' hr => ?_) fun _ _ y => y))
  obtain ⟨q, rfl, hq⟩ := hr
  refine wpAny_bind (wpAny_truthy_bool (wpAny_pure ?_))
  exact wpAny_pure ⟨_, rfl, hq⟩
theorem ne_K {Q : Value → Shared → Prop} (hu : A.units + 1 < cLine) (F : Fr h₀ L s.heap m) (X₀ : K.In h₀) (I : InstAt s.heap x ox C od) (hb : Looks (model prog w) s.heap (typeOf b) tb) (hn : notFirst K C tb = true)
    (hne : findIn K (.ref C) "__ne__" = some (some (.builtin "object.__ne__"))) (hs : findIn K (.ref C) "__eq__" = some (some (.ref f))) (hf : isFn K (.ref f) = true) (hm : mroIn K C (.type "object") = some true)
    (h : wpAny (model prog w) A.in1 (call (.ref f) [.ref x, b]) (fun v s' => ∃ r, v = .bool r ∧ Q (.bool (!r)) s') E s) : wpAny (model prog w) A (richCompare .NotEq (.ref x) b) Q E s := by
  have X := X₀.keeps F.keep
  have one := one_ne hu X I hne hs hf hm h
  unfold richCompare
  simp only [oneThing_ref]
  refine wpAny_holding (wpAny_bind (wpAny_cRoomFor (by omega) ?_))
  refine wpAny_bind (I.type.here (wpAny_bind (hb.here ?_)))
  split
  · rename_i q
    have e : subIn K tb (.ref C) = some false := by
      rcases Bool.or_eq_true_iff.mp hn with e | e
      · rw [beq_iff_eq.mp e] at q; simp at q
      · exact beq_iff_eq.mp e
    refine wpAny_bind ((looks_subIn X e).here ?_)
    simp only [Bool.false_eq_true, if_false]
    refine wpAny_bind (wpAny_mono one (fun r s' z => ?_) fun _ _ e => e)
    obtain ⟨v, rfl, hq⟩ := z
    exact wpAny_pure hq
  · refine wpAny_bind (wpAny_pure ?_)
    simp only [Bool.false_eq_true, if_false]
    refine wpAny_bind (wpAny_mono one (fun r s' z => ?_) fun _ _ e => e)
    obtain ⟨v, rfl, hq⟩ := z
    exact wpAny_pure hq
end
end AZ
namespace GQ
open PySem PySem.SeqAt
open AutoSeq1 (wpAny_loadPart')
open MeetsSeq MeetsSeq2 MeetsSeq3 SeqRoads2
section
variable {prog : Program} {w : World} {A : Around} {R : Result → Shared → Prop}
/-- where the walk over two tuples stands -/
def PairsAt (as bs : Array Value) (J : Nat → Shared → Prop) (left : List (Value × Value)) (z : Shared) : Prop := ∃ k, left = (as.toList.zip bs.toList).drop k ∧ k ≤ as.size ∧ J k z
theorem pairs_next {as bs : Array Value} {J : Nat → Shared → Prop} (e : as.size = bs.size) {p q : Value} {left : List (Value × Value)} {z : Shared} (h : PairsAt as bs J ((p, q) :: left) z) :
    ∃ k, ∃ (k1 : k < as.size) (k2 : k < bs.size), p = as[k] ∧ q = bs[k] ∧ left = (as.toList.zip bs.toList).drop (k + 1) ∧ J k z := by
  obtain ⟨k, el, _, hJ⟩ := h
  have len : (as.toList.zip bs.toList).length = as.size := by simp [e]
  by_cases hk : k < (as.toList.zip bs.toList).length
  · have k1 : k < as.size := len ▸ hk
    rw [List.drop_eq_getElem_cons hk] at el
    obtain ⟨e1, e2⟩ := List.cons.inj el
    have e3 := Prod.mk.inj (e1.trans (show _ = (as[k], bs[k]'(e ▸ k1)) by simp))
    exact ⟨k, k1, e ▸ k1, e3.1, e3.2, e2, hJ⟩
  · rw [List.drop_of_length_le (Nat.le_of_not_lt hk)] at el
    cases el
theorem pairs_done {as bs : Array Value} {J : Nat → Shared → Prop} (e : as.size = bs.size) {z : Shared} (h : PairsAt as bs J [] z) : J as.size z := by
  obtain ⟨k, el, hk, hJ⟩ := h
  have len : (as.toList.zip bs.toList).length = as.size := by simp [e]
  have : (as.toList.zip bs.toList).length ≤ k := by simpa using el.symm
  have hke : k = as.size := by omega
  exact hke ▸ hJ
theorem tup_ne {u v : Addr} {as bs : Array Value} {n1 n2 : Nat} {d1 d2 : Option Addr} {s1 s2 : Array (Option Value)} (e : as.size = bs.size) (J : Nat → Shared → Prop)
    (step : ∀ k (k1 : k < as.size) (k2 : k < bs.size) z, J k z → wpAny (model prog w) A.in1 (eqBool as[k] bs[k]) (fun r z' => r = true ∧ J (k + 1) z') (fun x z' => R (.error x) z') z)
    (last : ∀ z, J as.size z → R (.ok (.ret (.bool false))) z) {z : Shared} (hu : z.heap.get? u = some { cls := .type "tuple", dict := d1, data := .seq as n1, slots := s1 }) (hv : z.heap.get? v = some { cls := .type "tuple", dict := d2, data := .seq bs n2, slots := s2 }) (h : J 0 z) :
    wpAny (model prog w) A.in1 (Builtin.«tuple.__ne__» ⟨[.ref u, .ref v], []⟩) (FinOf prog w A R) (fun x z' => R (.error x) z') z := by
  have isTup := AutoSeq1.sub_tuple_tuple
  have start : PairsAt as bs J (as.toList.zip bs.toList) z := ⟨0, rfl, Nat.zero_le _, h⟩
  obtain ⟨hp, gs, dr, tk, os⟩ := z
  wp_walk using wpAny_loadPart' hu, wpAny_loadPart' hv, wpAny_forIn_list _ (fun left b z' => b.1 = none ∧ PairsAt as bs J left z') _
  case turn =>
    rintro ⟨p, q⟩ left b z' ⟨_, at_⟩
    obtain ⟨k, k1, k2, rfl, rfl, el, hJ⟩ := pairs_next e at_
    refine wpAny_bind (wpAny_mono (step k k1 k2 z' hJ) (fun r z2 hz => ?_) fun _ _ x => x)
    obtain ⟨rfl, hJ2⟩ := hz
    wp_walk
    exact ⟨rfl, k + 1, el, k1, hJ2⟩
  case fin =>
    rintro ⟨b1, b2⟩ z' ⟨hb, at_⟩
    obtain rfl : b1 = none := hb
    have hl := last z' (pairs_done e at_)
    wp_walk
    simpa [Builtin.Tuple.tupleCompareSizes, e] using hl
  case h => exact ⟨rfl, start⟩
end
section
variable {prog : Program} {w : World} {A : Around} {X : Value → Shared → Prop} {z : Shared}
theorem ne_tups {u v : Addr} {as bs : Array Value} {Q : Value → Shared → Prop} (e : as.size = bs.size) (room : A.units < cLine) (J : Nat → Shared → Prop) (hu : z.heap.IsTuple u as) (hv : z.heap.IsTuple v bs)
    (step : ∀ k (k1 : k < as.size) (k2 : k < bs.size) z, J k z → wpAny (model prog w) A.in1 (eqBool as[k] bs[k]) (fun r z' => r = true ∧ J (k + 1) z') X z)
    (last : ∀ z, J as.size z → Q (.bool false) z) (h : J 0 z) : wpAny (model prog w) A (richCompare .NotEq (.ref u) (.ref v)) Q X z := by
  obtain ⟨⟨c1, d1, a1, s1⟩, g1, rfl, n1, rfl⟩ := id hu
  obtain ⟨⟨c2, d2, a2, s2⟩, g2, rfl, n2, rfl⟩ := id hv
  exact wpAny_richCompare_same_room (op := .NotEq) ⟨_, g1, rfl⟩ ⟨_, g2, rfl⟩ F.slot_tuple_ne (call_here F.slot_tuple_ne ⟨_, g1, rfl⟩ F.entry_tuple_ne (F.args_tuple_ne_2 _ _)
    (tup_ne (R := wants (fun v s' => v ≠ .notImplemented ∧ Q v s') X) e J step (fun z' q => ⟨(fun x => nomatch x), last z' q⟩) g1 g2 h)) room
end
end GQ
namespace AZ
open PySem L2
section
variable {X : Cx} {n m : Nat} {D D' : Eqv}
/-- the callee of X, somewhere below X's running body -/
theorem run_fnS {CX : CXT} {f : Addr} {sp : Sp} {E : XK} {Q : VK} {us : List Value} {vs : List V} {A : Around} {pins : List (Addr × Obj)} {σ : St} {H : Hp} {s : Shared} (sb : Sub X n A) (F : FnR X.prog X.w X.K X.mg X.base CX n f sp) (hx : Passes CX X E) (I : Inv X pins σ H s) (r : Vals vs us) (h : sp vs H Q E) :
    codeAny (model X.prog X.w) A (.call (.ref f) ⟨us, []⟩) (fun r s' => match r with | .ok (.ret v) => EP X pins σ Q v s' | .ok _ => False | .error e => X.xe e s') s := by
  have e0 : Env0 X.prog X.w X.K X.mg X.base A X.stack s H := by
    have e := I.env0
    exact ⟨by rw [sb.fr]; exact e.frames, e.mod, e.bs, e.bsz, e.funs, e.frf, e.hok, e.bare⟩
  refine codeAny_mono (F A X.stack s H us vs Q E sb.room e0 r h) fun r s' hq => ?_
  cases r with
  | error e => exact hx pins σ H s e s' I hq
  | ok fl =>
    cases fl with
    | ret u => exact I.after hq
    | next => exact False.elim hq
    | brk => exact False.elim hq
    | cont => exact False.elim hq
/-- != of own classes that have == alone -/
structure NeM (K : PySem.W.Frag) (C f : Addr) : Prop where
  hne : PySem.W.findIn K (.ref C) "__ne__" = some (some (.builtin "object.__ne__"))
  hs : PySem.W.findIn K (.ref C) "__eq__" = some (some (.ref f))
  hf : PySem.W.isFn K (.ref f) = true
  hm : PySem.W.mroIn K C (.type "object") = some true
  hn : PySem.W.notFirst K C (.type "int") = true
def rOwnN (X : Cx) : R2 := fun x y H Q => ∃ (a C dx : Addr) (fs : List (Str × V)) (f : Addr) (CX : CXT) (k : Nat) (sp : Sp) (E : XK),
  x = .ref a ∧ H a = some (.ins C dx fs) ∧ RightI C H y ∧ NeM X.K C f ∧ FnR X.prog X.w X.K X.mg X.base CX k f sp ∧ Room (k + 1) X.A ∧ Passes CX X E ∧ sp [x, y] H (fun v H1 => ∃ r, v = .bl r ∧ Q (.bl (!r)) H1) E
theorem op_ownN : OpR X (compareOp .NotEq) (rOwnN X) := by
  intro pins s σ H x y v u Q I rx ry h
  obtain ⟨a, C, dx, fs, f, CX, k, sp, E, rfl, ha, hR, hM, F, hr, hx, hs⟩ := h
  obtain rfl : v = Value.ref a := rx
  have hc : wpAny (model X.prog X.w) X.A.in1 (call (.ref f) [.ref a, u]) (fun v s' => ∃ r, v = .bool r ∧ EP X pins σ Q (.bool (!r)) s') X.xe s :=
    thn (wpAny_call (run_fnS (us := [.ref a, u]) (vs := [.ref a, y]) ⟨hr.in1, rfl⟩ F hx I (.cons rfl (.cons ry .nil)) hs)) fun v s1 z => by
      obtain ⟨z, H1, I1, rz, r, rfl, q⟩ := z
      obtain rfl : v = Value.bool r := rz
      exact ⟨r, rfl, .bl (!r), H1, I1, rfl, q⟩
  obtain ⟨mA, J, _⟩ := ins_get I.hok ha
  obtain ⟨od, J, _⟩ := J.look
  obtain ⟨m, hF⟩ := I.fr
  have hu : X.A.units + 1 < cLine := by have := hr.units; omega
  show wpAny (model X.prog X.w) X.A (richCompare .NotEq (.ref a) u) (EP X pins σ Q) X.xe s
  rcases hR with ⟨j, rfl⟩ | ⟨b, dy, gs, rfl, hb⟩
  · obtain ⟨t, rfl⟩ := ry
    exact ne_K (tb := .type "int") hu hF I.ok.mod.kin J (PySem.W.Looks.of_pure rfl) hM.hn hM.hne hM.hs hM.hf hM.hm hc
  · obtain rfl : u = Value.ref b := ry
    obtain ⟨mB, J2, _⟩ := ins_get I.hok hb
    obtain ⟨od2, J2, _⟩ := J2.look
    exact ne_K (tb := .ref C) hu hF I.ok.mod.kin J J2.type (by simp [PySem.W.notFirst]) hM.hne hM.hs hM.hf hM.hm hc
/-- != of two tuples that are equal, item by item -/
def NcG (X : Cx) (n : Nat) (D : Eqv) : Prop :=
  ∀ (A : Around) (pins : List (Addr × Obj)) (s : Shared) (σ : St) (H : Hp) (x y : V) (u v : Value), Sub X n A → Inv X pins σ H s → RelV x u → RelV y v → D x y H →
    wpAny (model X.prog X.w) A (richCompare .NotEq u v) (fun r s' => r = .bool false ∧ ∃ H', Inv X pins σ H' s' ∧ Ext H H') X.xe s
theorem ncG_tup (hD : Mon D) (h : EqG X n D) : NcG X (n + 1) (DTup X.K D) := by
  intro A pins s σ H x y u v sb I rx ry d
  obtain ⟨a, b, xs, ys, rfl, rfl, ha, hb, p⟩ := d
  cases rx
  cases ry
  obtain ⟨its, r, e, z⟩ := I.tuple ha
  obtain ⟨its2, r2, e2, z2⟩ := I.tuple hb
  have hsz : its.toArray.size = its2.toArray.size := by rw [List.size_toArray, List.size_toArray, ← r.length, ← r2.length]; exact p.1
  exact GQ.ne_tups hsz sb.room.units0 (fun _ s' => LoopI X pins σ H s') e e2 (fun k k1 k2 z q => turnG hD h sb p r r2 k k1 k2 z q) (fun z q => ⟨rfl, q⟩) ⟨H, I, Ext.rfl'⟩
def rNeG (D : Eqv) : R2 := fun x y H Q => D x y H ∧ ∀ H', Ext H H' → Q (.bl false) H'
theorem op_neG (h : NcG X n D) (hr : Room n X.A) : OpR X (compareOp .NotEq) (rNeG D) := by
  intro pins s σ H x y v u Q I rx ry hq
  obtain ⟨d, q⟩ := hq
  show wpAny (model X.prog X.w) X.A (richCompare .NotEq v u) (EP X pins σ Q) X.xe s
  refine wpAny_mono (h X.A pins s σ H x y v u ⟨hr, rfl⟩ I rx ry d) (fun r s' z => ?_) fun _ _ x => x
  obtain ⟨hr', H', I', e⟩ := z
  subst hr'
  exact ⟨.bl false, H', I', rfl, q H' e⟩
/-- an own == promised by a comparison, as a way two values are equal -/
def DOwn (C : Addr) (R : Addr → V → Hp → Prop) : Eqv := fun x y H => ∃ a dx fs, x = .ref a ∧ H a = some (.ins C dx fs) ∧ RightI C H y ∧ R a y H
def spEqV (R : Addr → V → Hp → Prop) : Sp := fun vs H Q _ => ∃ a y, vs = [.ref a, y] ∧ R a y H ∧ ∀ H', Ext H H' → Q (.bl true) H'
theorem mon_own {C : Addr} {R : Addr → V → Hp → Prop} (hR : ∀ a b H H', Ext H H' → R a b H → R a b H') : Mon (DOwn C R) := fun x y H H' e d => by
  obtain ⟨a, dx, fs, hx, h1, h2, r⟩ := d
  exact ⟨a, dx, fs, hx, e _ _ h1, h2.elim .inl fun ⟨b, dy, gs, hy, h⟩ => .inr ⟨b, dy, gs, hy, e _ _ h⟩, hR a y H H' e r⟩
theorem eqBool_refV {prog : Program} {w : World} {A : Around} {E : Value → Shared → Prop} {s : Shared} {l : Addr} {y : Value} {Q : Bool → Shared → Prop} (hne : Value.ref l ≠ y) (h : wpAny (model prog w) A (richCompare .Eq (.ref l) y) (fun v s' => ∃ r, v = .bool r ∧ Q r s') E s) : wpAny (model prog w) A (eqBool (.ref l) y) Q E s := by
  unfold eqBool
  refine wpAny_holding ?_
  refine wpAny_ite_split (fun hab => absurd (eq_of_beq hab) hne) (fun _ => ?_)
  refine wpAny_bind (wpAny_mono h (fun v s' hv => ?_) fun _ _ x => x)
  obtain ⟨r, rfl, q⟩ := hv
  exact wpAny_truthy_bool q
theorem eqG_own {CX : CXT} {C f : Addr} {R : Addr → V → Hp → Prop} {E : XK} (F : FnR X.prog X.w X.K X.mg X.base CX n f (spEqV R)) (M : CmpM X.K C .Eq f) (hx : Passes CX X E) : EqG X n (DOwn C R) := by
  intro A pins s σ H x y u v sb I rx ry d
  obtain ⟨a, dx, fs, rfl, ha, hR, r⟩ := d
  obtain rfl : u = Value.ref a := rx
  have hsp : spEqV R [.ref a, y] H (fun v H' => v = .bl true ∧ Ext H H') E := ⟨a, y, rfl, r, fun H' e => ⟨rfl, e⟩⟩
  have hc : wpAny (model X.prog X.w) A (call (.ref f) [.ref a, v]) (PySem.W.CmpBack (fun v s' => ∃ r, v = .bool r ∧ (fun r s' => r = true ∧ ∃ H', Inv X pins σ H' s' ∧ Ext H H') r s')) X.xe s :=
    thn (wpAny_call (run_fnS (us := [.ref a, v]) (vs := [.ref a, y]) sb F hx I (.cons rfl (.cons ry .nil)) hsp)) fun v s1 z => by
      obtain ⟨z, H1, I1, rz, rfl, e⟩ := z
      obtain rfl : v = Value.bool true := rz
      exact ⟨true, rfl, rfl, H1, I1, e⟩
  by_cases hab : Value.ref a = v
  · subst hab
    exact SeqAt.EqAt.same (A := A) (s := s) (.ref a) X.prog X.w X.xe _ ⟨rfl, H, I, Ext.rfl'⟩
  refine eqBool_refV hab ?_
  obtain ⟨mA, J, _⟩ := ins_get I.hok ha
  obtain ⟨od, J, _⟩ := J.look
  obtain ⟨m, hF⟩ := I.fr
  rcases hR with ⟨j, rfl⟩ | ⟨b, dy, gs, rfl, hb⟩
  · obtain ⟨t, rfl⟩ := ry
    exact PySem.W.cmp_K (op := .Eq) (tb := .type "int") sb.room.units0 hF I.ok.mod.kin J (PySem.W.Looks.of_pure rfl) M.hn M.hs M.hf hc
  · obtain rfl : v = Value.ref b := ry
    obtain ⟨mB, J2, _⟩ := ins_get I.hok hb
    obtain ⟨od2, J2, _⟩ := J2.look
    exact PySem.W.cmp_K (op := .Eq) (tb := .ref C) sb.room.units0 hF I.ok.mod.kin J J2.type (by simp [PySem.W.notFirst]) M.hs M.hf hc
end
end AZ

set_option Elab.async false
set_option maxRecDepth 100000
set_option maxHeartbeats 4000000
set_option linter.all false
namespace AZ
open PySem PySem.Spec PySem.W PySem.Calls PyProof.Rows
section
variable {prog : Program} {w : World} {A : Around} {E : Value → Shared → Prop} {s : Shared} {K : Frag} {x C L f g dx : Addr} {h₀ : Heap} {m : Str → Option Value} {ox : Obj} {od : Option Obj} {name : Str} {b tb : Value} {i : Int} {t : Tok}
theorem intBin_dec {M : Model} {name : String} {fn : Int → Int → Sem Fin} {Q : Fin → Shared → Prop} (hx : s.heap.get? x = some (instObj C dx)) (q : Q (.done (.ret .notImplemented)) s) :
    wpAny M A (Builtin.Int.intBinary name fn false ⟨[.int i t, .ref x], []⟩) Q E s := by
  unfold Builtin.Int.intBinary
  refine wpAny_bind (m := slotArgs name 1 _) (wpAny_pure ?_)
  refine wpAny_bind (m := Builtin.Int.intOfSelf _) (wpAny_pure ?_)
  obtain ⟨hp, gs, d, tk, os⟩ := s
  have hx' : hp.get? x = some (instObj C dx) := hx
  unfold instObj at hx'
  wp_walk using AutoSeq1.wpAny_loadPart' hx'
  exact q
/-- what an int does beside an instance: it declines -/
structure IntDec (nm : String) : Prop where
  fills : fillsNumberSlot (.type "int") nm = pure true
  dec : ∀ {prog : Program} {w : World} {A : Around} {E : Value → Shared → Prop} {s : Shared} {x C dx : Addr} {i : Int} {t : Tok} {Q : Option Value → Shared → Prop}, s.heap.get? x = some (instObj C dx) → Q none s →
    wpAny (model prog w) A (tryMethod (.int i t) (PySem.dunder nm) (.ref x)) Q E s
theorem int_dec_sub : IntDec "sub" := by
  refine ⟨PyProof.Rows.fills_int_sub, fun {prog w A E s x C dx i t Q} hx q => ?_⟩
  refine wpAny_tryMethod_declines (T := "int") (id := "int.__sub__") (name := PySem.dunder "sub") (typeIs_int s i t) ?_ ?_
  · exact PyProof.Rows.slot_int_sub
  · refine wpAny_call_entry PyProof.Rows.slot_int_sub (typeIs_int s i t) PyProof.Rows.entry_int_sub ?_ (PyProof.Rows.args_int_sub _ _)
    unfold Builtin.«int.__sub__»
    exact intBin_dec hx ⟨_, rfl, rfl, q⟩
theorem int_dec_add : IntDec "add" := by
  refine ⟨PySem.F.fills_int_add, fun {prog w A E s x C dx i t Q} hx q => ?_⟩
  refine wpAny_tryMethod_declines (T := "int") (id := "int.__add__") (name := PySem.dunder "add") (typeIs_int s i t) ?_ ?_
  · exact PySem.F.slot_int_add
  · refine wpAny_call_entry PySem.F.slot_int_add (typeIs_int s i t) PySem.F.entry_int_add ?_ (PySem.F.args_int_add_2 _ _)
    unfold Builtin.«int.__add__»
    exact intBin_dec hx ⟨_, rfl, rfl, q⟩
theorem int_dec_mul : IntDec "mul" := by
  refine ⟨PySem.F.fills_int_mul, fun {prog w A E s x C dx i t Q} hx q => ?_⟩
  refine wpAny_tryMethod_declines (T := "int") (id := "int.__mul__") (name := PySem.dunder "mul") (typeIs_int s i t) ?_ ?_
  · exact PySem.F.slot_int_mul
  · refine wpAny_call_entry PySem.F.slot_int_mul (typeIs_int s i t) PySem.F.entry_int_mul ?_ (PySem.F.args_int_mul_2 _ _)
    unfold Builtin.«int.__mul__»
    exact intBin_dec hx ⟨_, rfl, rfl, q⟩
theorem refl1 {nm : String} {Q : Value → Shared → Prop} (D : IntDec nm) (X : K.In s.heap) (I : InstAt s.heap x ox C od) (hx : s.heap.get? x = some (instObj C dx)) (hc : selfFirst K C = true)
    (hs : findIn K (.ref C) (PySem.dunder nm) = some (some (.ref g))) (hr : findIn K (.ref C) (dunderR nm) = some (some (.ref f))) (hf : isFn K (.ref f) = true) (hu : subIn K (.ref C) (.type "int") = some false)
    (h : wpAny (model prog w) A (call (.ref f) [.ref x, .int i t]) (PySem.W.CmpBack Q) E s) : wpAny (model prog w) A (binaryOp1 nm (.int i t) (.ref x)) (fun r s' => ∃ v, r = some v ∧ Q v s') E s := by
  obtain ⟨cd, rest, hcd, hm⟩ := ksp_first hc
  have back := ksp_try X I hr hf h
  have dec : ∀ {Q : Option Value → Shared → Prop}, Q none s → wpAny (model prog w) A (tryMethod (.int i t) (PySem.dunder nm) (.ref x)) Q E s := fun q => D.dec hx q
  have L1 : Looks (model prog w) s.heap (typeOf (.int i t)) (.type "int") := Looks.of_pure rfl
  have L2 : Looks (model prog w) s.heap (typeOf (.ref x)) (.ref C) := I.type
  have L3 : Looks (model prog w) s.heap (fillsNumberSlot (.type "int") nm) true := Looks.of_pure D.fills
  have L4 : Looks (model prog w) s.heap (fillsNumberSlot (.ref C) nm) true := fills_K X hcd hm hs
  have L5 : Looks (model prog w) s.heap (isSubtype (.ref C) (.type "int")) false := looks_subIn X hu
  have L6 : Looks (model prog w) s.heap (numberSlotInPython (.type "int") nm) false := Looks.of_pure rfl
  generalize hR : (fun (r : Option Value) s' => ∃ v, r = some v ∧ Q v s') = R at back ⊢
  have hne : (Value.type "int" == Value.ref C) = false := Bool.eq_false_iff.mpr fun q => by cases beq_iff_eq.mp q
  generalize (fun (r : Option Value) s' => ∃ v, r = some v ∧ Q v s') = R at back ⊢
  unfold binaryOp1
  refine wpAny_bind (L1.here (wpAny_bind (L2.here (wpAny_bind (L3.here ?_)))))
  simp only [hne, Bool.false_eq_true, if_false]
  refine wpAny_bind (L4.here ?_)
  refine wpAny_bind (m := isSubtype (.ref C) (.type "int")) (L5.here ?_)
  refine wpAny_bind (m := numberSlotInPython (.type "int") nm) (L6.here ?_)
  refine wpAny_bind (m := tryMethod (.int i t) (PySem.dunder nm) (.ref x)) (dec ?_)
  refine wpAny_bind (m := tryMethod (.ref x) (dunderR nm) (.int i t)) (wpAny_mono back (fun r s' hr' => ?_) fun _ _ e => e)
  have hr2 := hr'
  rw [← hR] at hr2
  obtain ⟨v, rfl, hq⟩ := hr2
  exact wpAny_bind (m := rule "binop.reflected") (wpAny_rule (wpAny_pure hr'))
theorem refl_K {op : Operator} {sym : String} {nm : String} {Q : Value → Shared → Prop} (hi : op.info = (sym, nm)) (D : IntDec nm) (F : Fr h₀ L s.heap m) (X₀ : K.In h₀) (I : InstAt s.heap x ox C od) (hx : s.heap.get? x = some (instObj C dx)) (hc : selfFirst K C = true)
    (hs : findIn K (.ref C) (PySem.dunder nm) = some (some (.ref g))) (hr : findIn K (.ref C) (dunderR nm) = some (some (.ref f))) (hf : isFn K (.ref f) = true) (hu : subIn K (.ref C) (.type "int") = some false)
    (h : wpAny (model prog w) A (call (.ref f) [.ref x, .int i t]) (PySem.W.CmpBack Q) E s) : wpAny (model prog w) A (binaryOp op (.int i t) (.ref x)) Q E s := by
  have b1 := refl1 D (X₀.keeps F.keep) I hx hc hs hr hf hu h
  generalize hR : (fun (r : Option Value) s' => ∃ v, r = some v ∧ Q v s') = R at b1
  unfold binaryOp
  refine wpAny_holding ?_
  rw [hi]
  refine wpAny_bind (m := binaryOp1 nm (.int i t) (.ref x)) (wpAny_mono b1 (fun r s' hr' => ?_) fun _ _ e => e)
  rw [← hR] at hr'
  obtain ⟨v, rfl, hq⟩ := hr'
  exact wpAny_pure hq
end
end AZ
namespace AZ
open PySem L2
section
variable {X : Cx}
/-- an int, then the operator, then an instance: its own reflected one -/
structure ReflM (K : PySem.W.Frag) (C : Addr) (nm : Str) (rn : Str) (g f : Addr) : Prop where
  hs : PySem.W.findIn K (.ref C) nm = some (some (.ref g))
  hr : PySem.W.findIn K (.ref C) rn = some (some (.ref f))
  hf : PySem.W.isFn K (.ref f) = true
  hc : PySem.W.selfFirst K C = true
  hu : PySem.W.subIn K (.ref C) (.type "int") = some false
def rRefl (X : Cx) (nm : String) : R2 := fun x y H Q => ∃ (j : Int) (a C dx : Addr) (fs : List (Str × V)) (g f : Addr) (CX : CXT) (k : Nat) (sp : Sp) (E : XK),
  x = .int j ∧ y = .ref a ∧ H a = some (.ins C dx fs) ∧ ReflM X.K C (PySem.dunder nm) (dunderR nm) g f ∧ FnR X.prog X.w X.K X.mg X.base CX k f sp ∧ Room k X.A ∧ Passes CX X E ∧ sp [y, x] H Q E
theorem op_refl {op : Operator} {sym nm : String} (hi : op.info = (sym, nm)) (D : IntDec nm) : OpR X (binaryOp op) (rRefl X nm) := by
  intro pins s σ H x y v u Q I rx ry h
  obtain ⟨j, a, C, dx, fs, g, f, CX, k, sp, E, rfl, rfl, ha, hM, F, hr, hx, hs⟩ := h
  obtain ⟨t, rfl⟩ := id rx
  obtain rfl : u = Value.ref a := ry
  have hc : wpAny (model X.prog X.w) X.A (call (.ref f) [.ref a, .int j t]) (PySem.W.CmpBack (EP X pins σ Q)) X.xe s :=
    thn (wpAny_call (run_fnR (us := [.ref a, .int j t]) (vs := [.ref a, .int j]) F hr hx I (.cons rfl (.cons rx .nil)) hs)) fun _ _ z => cmpBack_of z
  obtain ⟨mA, J, _⟩ := ins_get I.hok ha
  have hobj := J.obj
  obtain ⟨od, J, _⟩ := J.look
  obtain ⟨m, hF⟩ := I.fr
  exact refl_K hi D hF I.ok.mod.kin J hobj hM.hc hM.hs hM.hr hM.hf hM.hu hc
end
end AZ

set_option Elab.async false
set_option maxRecDepth 100000
set_option maxHeartbeats 4000000
set_option linter.all false
namespace AZ
open PySem L2
section
variable {X : Cx}
/-- what str(x) and f'{x}' ask of the class at C: its own __str__ at f -/
structure StrM (K : PySem.W.Frag) (C f : Addr) : Prop where
  hs : PySem.W.findIn K (.ref C) "__str__" = some (some (.ref f))
  hf : PySem.W.isFn K (.ref f) = true
  hfm : PySem.W.findIn K (.ref C) "__format__" = some (some (.builtin "object.__format__"))
  hm : PySem.W.mroIn K C (.type "object") = some true
def rStrO (X : Cx) (d : Nat) (x : V) (H : Hp) (Q : VK) : Prop := ∃ (a C dx : Addr) (fs : List (Str × V)) (f : Addr) (CX : CXT) (k : Nat) (sp : Sp) (E : XK),
  x = .ref a ∧ H a = some (.ins C dx fs) ∧ StrM X.K C f ∧ FnR X.prog X.w X.K X.mg X.base CX k f sp ∧ Room (k + d) X.A ∧ Passes CX X E ∧ sp [x] H (fun v H1 => ∃ z, v = .str z ∧ Q (.str z) H1) E
theorem strBack_of {pins : List (Addr × Obj)} {σ : St} {Q : VK} {v : Value} {s : Shared} (h : EP X pins σ (fun v H1 => ∃ z, v = .str z ∧ Q (.str z) H1) v s) : PySem.W.StrBack (EP X pins σ Q) v s := by
  obtain ⟨z, H1, I1, rz, y, rfl, q⟩ := h
  obtain ⟨t, rfl⟩ := id rz
  exact ⟨.str y, H1, I1, rz, q⟩
theorem call_strO : CallR X (.type "str") (fun xs H Q => ∃ x, xs = [x] ∧ rStrO X 2 x H Q) := by
  intro pins s σ H xs us Q I rv q
  obtain ⟨x, rfl, a, C, dx, fs, f, CX, k, sp, E, rfl, ha, hM, F, hr, hx, hs⟩ := q
  cases rv with
  | cons r1 r2 =>
    cases r2
    cases r1
    have hc : wpAny (model X.prog X.w) X.A.in1.in1 (call (.ref f) [.ref a]) (PySem.W.StrBack (EP X pins σ Q)) X.xe s :=
      thn (wpAny_call (run_fnS (us := [.ref a]) (vs := [.ref a]) ⟨hr.in1.in1, rfl⟩ F hx I (.cons rfl .nil) hs)) fun v s3 z => strBack_of z
    obtain ⟨mA, J, _⟩ := ins_get I.hok ha
    obtain ⟨od, J, _⟩ := J.look
    exact PySem.W.kso_call hr.in1.in1.units0 I.kIn J hM.hs hM.hf hc
theorem uStr : CallR X (.type "str") (fun xs H Q => (∃ i, xs = [.int i] ∧ i.natAbs.log2 < 1920 ∧ Q (.str (toString i)) H) ∨ ∃ x, xs = [x] ∧ rStrO X 2 x H Q) := CallR.or' call_str_int call_strO
/-- {x}: a text, an int, an own one -/
def tFmtU (X : Cx) (te : TE) : TE := fun σ H Q => te σ H fun x H1 => ((∃ y : Str, x = .str y ∧ y.length ≤ sizeLine ∧ Q (.str y) H1) ∨ ∃ i : Int, x = .int i ∧ i.natAbs.log2 < 1920 ∧ Q (.str (toString i)) H1) ∨ rStrO X 1 x H1 Q
theorem pe_fmtU {e : Expr} {te : TE} {pos : Pos} (he : PE X e te) : PE X (.FormattedValue e (-1) none pos) (tFmtU X te) := by
  refine ⟨fun pins s σ H Q I h => ?_⟩
  refine wpAny_FormattedValue_plain (thn (he.run pins s σ H _ I h) fun v s1 hv => ?_)
  obtain ⟨x, H1, I1, r1, q⟩ := hv
  rcases q with (⟨y, rfl, hz, q⟩ | ⟨i, rfl, hz, q⟩) | ⟨a, C, dx, fs, f, CX, k, sp, E, rfl, ha, hM, F, hr, hx, hs⟩
  · obtain ⟨t, rfl⟩ := r1
    exact wpAny_formatField_str ⟨.str y, H1, I1, ⟨t, rfl⟩, q⟩ ⟨.str y, H1, I1.tok _, ⟨_, rfl⟩, q⟩ hz
  · obtain ⟨t, rfl⟩ := r1
    exact wpAny_formatField_int hz ⟨.str (toString i), H1, I1.tok _, ⟨_, rfl⟩, q⟩
  · obtain rfl : v = Value.ref a := r1
    have I2 := I1.tok (s1.toks + 1)
    have hc : wpAny (model X.prog X.w) X.A.in1 (call (.ref f) [.ref a]) (PySem.W.StrBack (EP X pins σ Q)) X.xe { s1 with toks := s1.toks + 1 } :=
      thn (wpAny_call (run_fnS (us := [.ref a]) (vs := [.ref a]) ⟨hr.in1, rfl⟩ F hx I2 (.cons rfl .nil) hs)) fun v s3 z => strBack_of z
    obtain ⟨mA, J, _⟩ := ins_get I1.hok ha
    obtain ⟨od, J, _⟩ := J.look
    exact PySem.W.kfo_fieldS hr.in1.units0 I1.kIn J hM.hfm hM.hm hM.hs hM.hf hc
end
end AZ

set_option Elab.async false
set_option maxRecDepth 100000
set_option maxHeartbeats 4000000
set_option linter.all false
namespace AZ
open PySem L2
/-- a def's promise where the last arguments are told by their names -/
def FnRk (P : Program) (w : World) (K : PySem.W.Frag) (mg : Str → Option Value) (base : Heap) (CX : CXT) (k : Nat) (f : Addr) (ks : List Str) (gV : List V → List V → List V) (sp : Sp) : Prop :=
  ∀ (A : Around) (outer : List Env) (s : Shared) (H : Hp) (us ws : List Value) (vs zs : List V) (Q : VK) (E : XK), Room k A → Env0 P w K mg base A outer s H → Vals vs us → Vals zs ws → sp (gV vs zs) H Q E →
    codeAny (model P w) A (.call (.ref f) ⟨us, ks.zip ws⟩) (CR CX outer P w H s Q E) s
theorem FnOk.rawk {P : Program} {w : World} {K : PySem.W.Frag} {mg : Str → Option Value} {base : Heap} {CX : CXT} {k : Nat} {f : Addr} {fd : FuncData} {ps ks : List Str} {sp : Sp} {g : List Value → List Value → List Value} {gV : List V → List V → List V}
    (F : FnOk P w K mg base CX k f fd ps sp) (hb : KBinds K fd ps ks g gV) (hK : ∀ {A : Around} {outer : List Env} {s : Shared} {H : Hp}, Env0 P w K mg base A outer s H → K.In s.heap) : FnRk P w K mg base CX k f ks gV sp := by
  intro A outer s H us ws vs zs Q E hr e0 r rz h
  have r2 := hb.rel r rz
  have hl : (g us ws).length = ps.length := by rw [← r2.length]; exact F.len _ _ _ _ h
  exact F.run A outer s H ⟨us, ks.zip ws⟩ (g us ws) (gV vs zs) Q E hr e0 (hb.to s us ws (hK e0) hl) r2 h
section
variable {X : Cx} {CX : CXT} {k : Nat} {C g : Addr} {sp : Sp} {E : XK} {o : Expr} {kws : List Keyword} {m : Str} {ks : List Str} {pos apos : Pos} {ta : TE} {t : TA} {gV : List V → List V → List V}
/-- o.m(k = e, ..) -/
def tMRk (C : Addr) (m : Str) (gV : List V → List V → List V) (sp : Sp) (E : XK) (ta : TE) (t : TA) : TE := fun σ H Q => ta σ H fun x H1 => ∃ a dx fs, x = .ref a ∧ H1 a = some (.ins C dx fs) ∧ fs.lookup m = none ∧ t σ H1 fun zs H2 => sp (gV [x] zs) H2 Q E
theorem pe_mRk {pl : Sem Bool} (he : PE X o ta) (c : Cls X.K C) (hm : Meth X.K C m g) (F : FnRk X.prog X.w X.K X.mg X.base CX k g ks gV sp) (hr : Room k X.A) (hx : Passes CX X E) (hkw : PK X kws t)
    (hall : (backToKw pos (keywordEach kws X.env)).all (·.1.isSome) = true := by rfl) (hks : (backToKw pos (keywordEach kws X.env)).filterMap (·.1) = ks := by rfl)
    (hpl : ((backTo pos (starEach [] X.env)).any (·.1) || (backToKw pos (keywordEach kws X.env)).any (·.1.isNone)) = false := by rfl)
    (ht : eval (.Call (.Attribute o m apos) [] kws pos) X.env = (eval o X.env >>= fun ov => standAt apos.atName >>= fun _ => holding [ov] (getMethod ov m pl) >>= fun r =>
      callWith pos r.1 r.2 (backTo pos (starEach [] X.env)) (backToKw pos (keywordEach kws X.env))) := by rfl) :
    PE X (.Call (.Attribute o m apos) [] kws pos) (tMRk C m gV sp E ta t) := by
  refine ⟨fun pins s σ H Q I h => ?_⟩
  refine PySem.W.methodCall_KW (pl := pl) (thn (he.run pins s σ H _ I h) fun u s1 ⟨x, H1, I1, rx, a, dx, fs, ex, ea, l, q⟩ => ?_) ht
  subst ex
  obtain rfl : u = Value.ref a := rx
  refine getmeth_ok I1 ea c hm l ?_
  refine PySem.W.callWith_KW0 (first := [.ref a]) (h₀ := X.base) I.ok.mod.kin hm.kp hall (thn (hkw.run pos pins s1 σ H1 _ I1 q) fun ws s2 ⟨zs, H2, I2, rz, q2⟩ => ⟨I2.kIn, ?_⟩) hpl
  rw [hks]
  refine wpAny_call (codeAny_mono (F X.A X.stack s2 H2 [.ref a] ws [.ref a] zs Q E hr I2.env0 (.cons rfl .nil) rz q2) fun r s' hq => ?_)
  cases r with
  | error e => exact hx pins σ H2 s2 e s' I2 hq
  | ok fl =>
    cases fl with
    | ret u => exact I2.after hq
    | next => exact False.elim hq
    | brk => exact False.elim hq
    | cont => exact False.elim hq
theorem uSubR : OpR X (binaryOp .Sub) (orR (rI0 fun i j => .int (i - j)) (orR (rOwn X .Sub) (rRefl X "sub"))) := op_or2 op_sub (op_or2 (op_ownB _) (op_refl rfl int_dec_sub))
theorem uNeR (hu : X.A.units + 64 < cLine) : OpR X (compareOp .NotEq) (orR rNe (orR (rOwnN X) (rNeD X.K))) := op_or2 op_ne (op_or2 op_ownN (op_neD hu))
theorem un_inv : UnR X (unaryOp .Invert) (rOwnU X "__invert__") := un_ownInv
end
end AZ

set_option Elab.async false
set_option maxRecDepth 100000
set_option maxHeartbeats 4000000
set_option linter.all false
/-! Own work: promises that know that no repr is under way (needed by repr of lists). -/
namespace AZ
open PySem L2 PyProof.Rows
abbrev NoG (A : Around) : Prop := A.guards = some []
theorem NoG.deeper {A : Around} (h : NoG A) (env : Env) : NoG (A.deeper env) := by
  obtain ⟨hd, d, fr, gs, u⟩ := A
  exact h
/-- a def's promise where no repr is under way -/
def FnG (P : Program) (w : World) (K : PySem.W.Frag) (mg : Str → Option Value) (base : Heap) (CX : CXT) (k : Nat) (f : Addr) (sp : Sp) : Prop :=
  ∀ (A : Around) (out : List Env) (z : Shared) (Hp0 : Hp) (us : List Value) (vs : List V) (Q : VK) (E : XK), NoG A → Room k A → Env0 P w K mg base A out z Hp0 → Vals vs us → sp vs Hp0 Q E →
    codeAny (model P w) A (.call (.ref f) ⟨us, []⟩) (CR CX out P w Hp0 z Q E) z
section
variable {P : Program} {w : World} {K : PySem.W.Frag} {mg : Str → Option Value} {base : Heap} {CX : CXT} {k : Nat} {f : Addr} {sp sp' : Sp}
theorem FnG.imp (F : FnG P w K mg base CX k f sp) (h : ∀ vs H Q E, sp' vs H Q E → sp vs H Q E) : FnG P w K mg base CX k f sp' :=
  fun A out z G us vs Q E ng room env vals prom => F A out z G us vs Q E ng room env vals (h _ _ _ _ prom)
theorem FnG.of (F : FnR P w K mg base CX k f sp) : FnG P w K mg base CX k f sp := fun A out z G us vs Q E _ => F A out z G us vs Q E
def valOf : Flow → Value
  | .ret v => v
  | _ => .none
/-- its end, from the end of its body -/
theorem ends_CR {N : List Str} {qual : Str} {scope : Scope} {cdv : Value} {A : Around} {out : List Env} {z : Shared} {G : Hp} {Q : VK} {E : XK} {fl : Flow} {z' : Shared}
    (q : SP (cxOf CX P w K mg base N qual scope f cdv A out z G E) [] { nx := fun _ H' => Q .non H', rt := Q } fl z') :
    CR CX out P w G z Q E (.ok (.ret (valOf fl))) z' := by
  cases fl with
  | ret v => obtain ⟨x, σ, G2, J, rel, q⟩ := q; exact ⟨x, G2, J.os, J.bare, J.base, J.hok, rel, q⟩
  | next => obtain ⟨σ, G2, J, q⟩ := q; exact ⟨.non, G2, J.os, J.bare, J.base, J.hok, rfl, q⟩
  | brk => obtain ⟨σ, G2, J, q⟩ := q; exact q.elim
  | cont => obtain ⟨σ, G2, J, q⟩ := q; exact q.elim
end
section
variable {P : Program} {w : World} {K : PySem.W.Frag} {mg : Str → Option Value} {base : Heap} {k : Nat} {f : Addr} {sp : Sp} {x qual : Str} {st : Stmt} {fd : FuncData} {N ps : List Str}
/-- a def by its body, known to run where no repr is under way -/
theorem fnG_of (F : Fun K x qual st f fd) (S : FnScope N ps (defScope st)) (len : ∀ vs H Q E, sp vs H Q E → vs.length = ps.length)
    (bd : ∀ (cdv : Value) (A : Around) (out : List Env) (z : Shared) (G : Hp) (vs : List V) (Q : VK) (E : XK), NoG (A.deeper (envOfC qual (defScope st) z.heap.objs.size f cdv)) →
      Room k (A.deeper (envOfC qual (defScope st) z.heap.objs.size f cdv)) → sp vs G Q E →
      ∃ t, PSs (cxOf CX0 P w K mg base N qual (defScope st) f cdv A out z G E).nox (defBody st) t ∧ t { nx := fun _ H' => Q .non H', rt := Q } (start N vs) G)
    (hb : Binds K fd ps []) : FnG P w K mg base CX0 (k + 1) f sp := by
  obtain ⟨oc, od, kV, doc, pm, an, cdv, ct, osl, rfl, look, rec⟩ := F.ex
  intro A out z G us vs Q E ng room env vals prom
  have keep : ∀ b o, base.get? b = some o → z.heap.get? b = some o := fun b o e => (env.bs b o e).1
  have kin := env.mod.kin.keeps keep
  have many : us.length = ps.length := vals.length.symm.trans (len _ _ _ _ prom)
  have bnd := hb z us kin (by rw [List.append_nil]; exact many)
  rw [List.append_nil] at bnd
  have kinds : ∀ y ∈ ps.zip us, (defScope st).names.lookup y.1 = some .local ∨
      ((defScope st).names.lookup y.1 = some .cell ∧ ((cellsFrom (z.heap.objs.size + 1) (defScope st).names []).lookup y.1).isSome = true) := by
    rintro ⟨n, v⟩ there
    exact (S.par n (List.of_mem_zip there).1).imp id fun c => ⟨c, PySem.W.cellsFrom_some _ _ _ (.inl c)⟩
  refine codeAny_call_function room.depth (kin _ _ look) rfl S.co S.gen rfl (PySem.W.codeRec_of kin rec) (bnd _ _ _ _ (wpAny_newFunctionEnv_cells S.kind kinds ?_))
  rintro env2 rfl z1 made
  refine ⟨(env.mod.nolimit.keeps keep).keeps made.toInCall.keep, codeAny_func ?_⟩
  obtain ⟨t, body, run⟩ := bd cdv A out z G vs Q E (ng.deeper _) (room.deeper _) prom
  exact wpAny_mono (body.nox.run [] z1 (start N vs) G _ (inv_start S room.hd env (len _ _ _ _ prom) vals made) run) (fun fl z2 q => ends_CR q) fun e z2 q => q
end
section
variable {X : Cx} {CX : CXT} {k : Nat} {g : Addr} {sp : Sp} {E : XK} {e : Expr} {es : List Expr} {x : Str} {p pos : Pos} {t : TA}
theorem run_fnG {pins : List (Addr × Obj)} {σ : L2.St} {H : Hp} {s : Shared} {Q : VK} {us : List Value} {vs : List V} (F : FnG X.prog X.w X.K X.mg X.base CX k g sp) (ng : NoG X.A) (hr : Room k X.A) (hx : Passes CX X E) (I : Inv X pins σ H s) (r : Vals vs us) (h : sp vs H Q E) :
    codeAny (model X.prog X.w) X.A (.call (.ref g) ⟨us, []⟩) (fun r s' => match r with | .ok (.ret v) => EP X pins σ Q v s' | .ok _ => False | .error e => X.xe e s') s :=
  codeAny_mono (F X.A X.stack s H us vs Q E ng hr I.env0 r h) fun r s' hq => match r, hq with
    | .error e, hq => hx pins σ H s e s' I hq
    | .ok (.ret _), hq => I.after hq
    | .ok .next, hq => hq.elim
    | .ok .brk, hq => hq.elim
    | .ok .cont, hq => hq.elim
/-- x(e, ..), x a def of the module that wants no repr under way -/
theorem pe_fnG (F : FnG X.prog X.w X.K X.mg X.base CX k g sp) (ng : NoG X.A) (hr : Room k X.A) (hk : PySem.W.keepIn X.K (.ref g) = true) (hm : X.mg x = some (.ref g)) (hx : Passes CX X E) (ha : PA X (e :: es) t) (hg : Gl X x := by rfl) (hd : (x == ("__debug__" : Str)) = false := by decide)
    (he : starEach (e :: es) X.env = (false, eval e X.env) :: starEach es X.env := by rfl) (hst : (backTo pos (starEach es X.env)).any (·.1) = false := by rfl) :
    PE X (.Call (.Name x p) (e :: es) [] pos) (fun σ H Q => t σ H fun vs H1 => sp vs H1 Q E) :=
  ⟨fun pins s σ H Q I h => wpAny_Call_Name_kw (ld_glob I hg hm (PySem.W.callWith_K (h₀ := X.base) I.ok.mod.kin hk
    (thn (ha.run pos pins s σ H _ I h) fun us s1 ⟨vs, H1, I1, r, q⟩ => ⟨I1.kIn, wpAny_call (run_fnG F ng hr hx I1 r q)⟩) he hst) hd)⟩
end
/-! ## the head: the law's promise at the heap behind the top -/
theorem guards_caller : NoG callerA := rfl
section
variable {P : Program} {w : World} {K : PySem.W.Frag} {mg mb : Str → Option Value} {k : Nat} {fa a : Addr} {sp : Sp} {z : Shared} {vs : List Value} {ns : List Int}
/-- what the law's end leaves -/
def EndsTrue (z : Shared) (r : Result) (z' : Shared) : Prop := r = .ok (.ret (.bool true)) ∧ OldK z.heap z'.heap ∧ z'.os = z.os ∧ AllBare z'.gens
/-- from one abstract heap that tracks at most the script -/
theorem headG (kin : K.In z.heap) (hns : z.heap.Ns mainGlobals mg) (hmb : z.heap.Ns builtinsNs mb) (boot : ∀ x : Str, x ≠ "__name__" → mb x = bootBuiltins x) (lim : z.heap.NoLimit) (nogen : z.gens = #[])
    (room : Room k callerA) (F : ∀ base : Heap, K.In base → base.Ns mainGlobals mg → FnG P w K mg base CX0 k fa sp) (prom : ∀ H : Hp, Only H → SqL K H a (ns.map V.int) → sp [.ref a] H (fun v _ => v = .bl true) E0)
    (H : Hp) (only : Only H) (seq : SqL K H a (ns.map V.int)) (hok : HOk P w H z.heap) (just : ∀ b, H b ≠ none → b = a ∧ K.lookup a = none) (obj : z.heap.get? a = some { cls := .type "list", data := .seq vs.toArray }) :
    codeAny (model P w) callerA (.call (.ref fa) ⟨[.ref a], []⟩) (EndsTrue z) z := by
  have free : ∀ b o, z.heap.get? b = some o → (b = a → K.lookup a ≠ none ∨ (∃ es ep, o.data = .dict es ep)) → (hidT z.heap H).get? b = some o := fun b o e n => hidT_get e (by
    cases q : H b with
    | none => rfl
    | some u =>
      obtain ⟨rfl, nk⟩ := just b (by rw [q]; exact fun t => nomatch t)
      rcases n rfl with n | ⟨es, ep, d⟩
      · exact absurd nk n
      · rw [obj] at e; cases e; cases d)
  have names : ∀ b m, z.heap.Ns b m → (hidT z.heap H).Ns b m := fun b m ⟨o, es, ep, e, d, r⟩ => ⟨o, es, ep, free b o e fun _ => .inr ⟨es, ep, d⟩, d, r⟩
  have kinB : K.In (hidT z.heap H) := fun b o e => free b o (kin b o e) fun eq => .inl (by rw [← eq, e]; exact fun t => nomatch t)
  obtain ⟨m2, l1, l2⟩ := lim
  have env : Env0 P w K mg (hidT z.heap H) callerA [] z H := {
    frames := rfl
    mod := ⟨kinB, names _ _ hns, ⟨mb, names _ _ hmb, boot⟩, ⟨m2, names _ _ l1, l2⟩⟩
    bs := fun _ _ e => of_hidT e
    bsz := Nat.le_of_eq (hidT_size ..)
    funs := trivial
    frf := fun _ t => nomatch t
    hok := hok
    bare := .of_eq nogen }
  refine codeAny_mono (F _ kinB (names _ _ hns) callerA [] z H [.ref a] [.ref a] _ _ guards_caller room env (.cons rfl .nil) (prom H only seq)) fun r z' q => ?_
  match r, q with
  | .error _, q => exact q.elim
  | .ok .next, q => exact q.elim
  | .ok .brk, q => exact q.elim
  | .ok .cont, q => exact q.elim
  | .ok (.ret u), ⟨v, H2, os, bare, un, hok2, rel, tr⟩ =>
    subst tr
    obtain rfl : u = Value.bool true := rel
    refine ⟨rfl, OldK.of_keep fun b o e => ?_, os, bare⟩
    rcases only b with n | ⟨ob, xs, n⟩
    · exact un.keep b o e n (fun t => nomatch t) (fun t => nomatch t)
    · have g1 := (hok b _ n).1
      rw [e] at g1
      cases g1
      exact (hok2 b _ (un.frzs b _ _ n)).1
theorem lawG (kin : K.In z.heap) (hns : z.heap.Ns mainGlobals mg) (hmb : z.heap.Ns builtinsNs mb) (boot : ∀ x : Str, x ≠ "__name__" → mb x = bootBuiltins x) (lim : z.heap.NoLimit) (nogen : z.gens = #[])
    (obj : z.heap.get? a = some { cls := .type "list", data := .seq vs.toArray }) (isI : IntsAre vs ns) (few : ns.length ≤ sizeLine)
    (room : Room k callerA) (F : ∀ base : Heap, K.In base → base.Ns mainGlobals mg → FnG P w K mg base CX0 k fa sp) (prom : ∀ H : Hp, Only H → SqL K H a (ns.map V.int) → sp [.ref a] H (fun v _ => v = .bl true) E0) :
    codeAny (model P w) callerA (.call (.ref fa) ⟨[.ref a], []⟩) (EndsTrue z) z := by
  cases own : K.lookup a with
  | some o =>
    have same := kin a o own
    rw [obj] at same
    cases same
    refine headG kin hns hmb boot lim nogen room F prom (fun _ => none) (fun _ => .inl rfl) (.inr ⟨_, vs.toArray, _, own, rfl, rfl, rfl, ?_, vals_ints isI⟩) (fun _ _ t => nomatch t) (fun _ t => absurd rfl t) obj
    rw [List.size_toArray, isI.length]; exact few
  | none =>
    have at_ : ∀ b u, (if b = a then some (HO.frz { cls := .type "list", data := .seq vs.toArray } (.lst (ns.map V.int))) else none) = some u → b = a ∧ u = .frz { cls := .type "list", data := .seq vs.toArray } (.lst (ns.map V.int)) := fun b u t => by
      split at t
      · rename_i h; exact ⟨h, (Option.some.inj t).symm⟩
      · cases t
    refine headG kin hns hmb boot lim nogen room F prom (fun b => if b = a then some (.frz { cls := .type "list", data := .seq vs.toArray } (.lst (ns.map V.int))) else none) (fun b => ?_) (.inl (.inr ⟨_, if_pos rfl⟩)) (fun b u t => ?_) (fun b t => ?_) obj
    · by_cases h : b = a
      · exact .inr ⟨_, _, if_pos h⟩
      · exact .inl (if_neg h)
    · obtain ⟨rfl, rfl⟩ := at_ b u t
      exact ⟨obj, by rw [List.length_map]; exact few, vs, _, vals_ints isI, obj⟩
    · by_cases h : b = a
      · exact ⟨h, own⟩
      · exact absurd (if_neg h) t
end
/-- the goal of the head, from the law's promise -/
theorem walkG {l : PySem.W.OpenLaw} {n k : Nat} {q : Program} {loose : List Str} {XP : (Str → Option Value) → Heap → Prop} {YP : World → Heap → Prop} {d : DefRec} {K : Params → PySem.W.Frag} {sp : PySem.W.Frag → Sp}
    (hn : l.most = some n) (hn2 : n ≤ sizeLine) (hdf : d.params.defaults = []) (room : Room k callerA) (hY : ∀ (w : World) (h : Heap), YP w h → (K w.params).In h)
    (F : ∀ (w : World) (mg : Str → Option Value) (fa : Addr) (h : Heap), (K w.params).In h → h.Ns mainGlobals mg → mg d.name = some (.ref fa) →
      ∀ base : Heap, (K w.params).In base → base.Ns mainGlobals mg → FnG l.prog w (K w.params) mg base CX0 k fa (sp (K w.params)))
    (prom : ∀ (K : PySem.W.Frag) (H : Hp) (a : Addr) (ns : List Int), ns.length ≤ n → Only H → SqL K H a (ns.map V.int) → sp K [.ref a] H (fun v _ => v = .bl true) E0) :
    PySem.W.WalkO q loose XP YP l.row.toRowW d [] (fun f vs => PySem.call f vs) :=
  Att.attach_call hn hdf fun w _ z mg mb fa o pm cd doc a vs ns G Y _ _ _ hmg obj isI few nogen =>
    lawG (hY w _ Y) G.T.g G.T.b G.T.builtins G.T.nolimit nogen obj isI (Nat.le_trans few hn2) room (fun base => F w mg fa _ (hY w _ Y) G.T.g hmg base) fun H o s => prom _ H a ns few o s
/-! ## static methods without arguments -/
section
variable {X : Cx} {CX : CXT} {k : Nat} {C g : Addr} {sp : Sp} {E : XK} {o : Expr} {m : Str} {pos apos : Pos} {ta : TE}
theorem pe_smeth0 {pl : Sem Bool} (he : PE X o ta) (c : SMet X.K C m g) (F : FnR X.prog X.w X.K X.mg X.base CX k g sp) (hr : Room k X.A) (hx : Passes CX X E)
    (ht : eval (.Call (.Attribute o m apos) [] [] pos) X.env = (eval o X.env >>= fun ov => standAt apos.atName >>= fun _ => holding [ov] (getMethod ov m pl) >>= fun r =>
      callWith pos r.1 r.2 (backTo pos (starEach [] X.env)) (backToKw pos (keywordEach [] X.env))) := by rfl) :
    PE X (.Call (.Attribute o m apos) [] [] pos) (fun σ H Q => ta σ H fun x H1 => x = .ref C ∧ sp [] H1 Q E) := by
  refine ⟨fun pins s σ H Q I h => ?_⟩
  refine PySem.W.methodCall_KW (pl := pl) (thn (he.run pins s σ H _ I h) fun u s1 ⟨x, H1, I1, rx, ex, q⟩ => ?_) ht
  subst ex
  obtain rfl : u = Value.ref C := rx
  obtain ⟨mc, p, rest, r, at_, rc⟩ := c.ex
  refine PySem.W.method_cls I1.kIn r.ga (PySem.W.cls_bind I1.kIn r.rd at_ (wpAny_call (PySem.W.sm_get (s := { s1 with toks := s1.toks + 1 }) I1.kIn rc (PySem.W.handed_on rfl ?_))))
  exact PySem.W.callWith_K0 (first := []) (I1.tok _).kIn c.kp (wpAny_call (run_fnR (us := []) (vs := []) F hr hx (I1.tok _) .nil q))
end
/-! ## repr -/
section
variable {X : Cx}
def rReprD (K : PySem.W.Frag) : List V → Hp → VK → Prop := fun xs H Q => ∃ (a : Addr) (d : PyData), xs = [.ref a] ∧ Dp K H (.ref a) d ∧ d.showable = true ∧ d.hasDict = false ∧ d.depth ≤ 60 ∧ d.shown.length ≤ sizeLine ∧ Q (.str d.shown) H
/-- repr of a list or tuple of data, none under way -/
theorem call_reprD (ng : NoG X.A) (hu : X.A.units + 64 < cLine) : CallR X (.builtin "repr") (rReprD X.K) := by
  intro pins s σ H xs us Q I rv q
  obtain ⟨a, d, rfl, hd, sh, nd, dp, sz, q⟩ := q
  obtain ⟨u, rfl, ru⟩ := vals1 rv
  obtain rfl : u = Value.ref a := ru
  obtain ⟨as, r⟩ := Dp.reads I d (.ref a) (.ref a) hd rfl
  exact repr_of_reads' r sh (PyData.noDict_hsm nd) ng (by omega) (fun _ _ e => e) (fun h' u tk hk => ⟨.str d.shown, H, I.kept hk, ⟨_, rfl⟩, q⟩) sz
theorem call_reprB : CallR X (.builtin "repr") (fun xs H Q => ∃ b, xs = [.bl b] ∧ Q (.str (if b then "True" else "False")) H) := by
  intro pins s σ H xs us Q I rv q
  obtain ⟨b, rfl, q⟩ := q
  obtain ⟨u, rfl, ru⟩ := vals1 rv
  obtain rfl : u = Value.bool b := ru
  exact PySem.P.repr_of_bool ⟨.str (if b then "True" else "False"), H, I.tok _, ⟨_, rfl⟩, q⟩
theorem call_reprI : CallR X (.builtin "repr") (fun xs H Q => ∃ i, xs = [.int i] ∧ i.natAbs.log2 < 1920 ∧ Q (.str (toString i)) H) := by
  intro pins s σ H xs us Q I rv q
  obtain ⟨i, rfl, hz, q⟩ := q
  obtain ⟨u, rfl, t, rfl⟩ := vals1 rv
  exact PySem.P.repr_of_int hz ⟨.str (toString i), H, I.tok _, ⟨_, rfl⟩, q⟩
theorem uRepr (ng : NoG X.A) (hu : X.A.units + 64 < cLine) : CallR X (.builtin "repr") (fun xs H Q => (∃ b, xs = [.bl b] ∧ Q (.str (if b then "True" else "False")) H) ∨ (∃ i, xs = [.int i] ∧ i.natAbs.log2 < 1920 ∧ Q (.str (toString i)) H) ∨ rReprD X.K xs H Q) :=
  CallR.or' call_reprB (CallR.or' call_reprI (call_reprD ng hu))
theorem uIsiK {K : PySem.W.Frag} (h : X.K = K) : CallR X (.builtin "isinstance") (fun xs H Q => rIsi K xs H Q ∨ rIsiT K xs H Q) := by
  subst h
  exact uIsi
/-- != of ints and the like, of own ones, of tuples with own ones, of data -/
theorem uNeX {n : Nat} {D : Eqv} (hD : Mon D) (h : EqG X n D) (hr : Room (n + 1) X.A) (hu : X.A.units + 64 < cLine) : OpR X (compareOp .NotEq) (orR rNe (orR (rOwnN X) (orR (rNeG (DTup X.K D)) (rNeD X.K)))) :=
  op_or2 op_ne (op_or2 op_ownN (op_or2 (op_neG (ncG_tup hD h) hr) (op_neD hu)))
end
/-- how one positional value and one by its name are bound -/
def g11 {α : Type} : List α → List α → List α
  | [a], [b] => [a, b]
  | _, _ => []
theorem kbinds11 {K : PySem.W.Frag} {fd : FuncData} {p q : Str} (h : ∀ a b : Value, bindArgs fd ⟨[a], [(q, b)]⟩ = pure [(p, a), (q, b)]) : KBinds K fd [p, q] [q] g11 g11 where
  to := fun s us ws _ hl => match us, ws, hl with
    | [a], [b], _ => .of_eq (h a b)
    | [], _, hl => by cases hl
    | [_], [], hl => by cases hl
    | [_], _ :: _ :: _, hl => by cases hl
    | _ :: _ :: _, _, hl => by cases hl
  rel := fun {vs us zs ws} r rz => match vs, us, zs, ws, r, rz with
    | [_], [_], [_], [_], .cons a .nil, .cons b .nil => .cons a (.cons b .nil)
    | [], [], _, _, .nil, _ => .nil
    | [_], [_], [], [], .cons _ .nil, .nil => .nil
    | [_], [_], _ :: _ :: _, _ :: _ :: _, .cons _ .nil, .cons _ (.cons _ _) => .nil
    | _ :: _ :: _, _ :: _ :: _, _, _, .cons _ (.cons _ _), _ => .nil
end AZ

set_option Elab.async false
set_option maxRecDepth 100000
set_option maxHeartbeats 4000000
set_option linter.all false
/-! Own work: != of lists with own items; own == beside other types; objects and classes called with keywords. -/
namespace GQ
open PySem PySem.SeqAt
open AutoSeq1 (wpAny_loadPart')
open MeetsSeq MeetsSeq2 MeetsSeq3 SeqRoads2
section
variable {prog : Program} {w : World} {A : Around} {R : Result → Shared → Prop}
theorem list_ne_from (l b : Addr) (N : Nat) (J : Nat → Shared → Prop) (walk : ListI prog w A (fun x z => R (.error x) z) l b N J) (last : ∀ z, J N z → R (.ok (.ret (.bool false))) z) :
    ∀ (m i : Nat), i + m = N → ∀ z, J i z → wpAny (model prog w) A.in1 (Builtin.«list.__eq__.loop» ⟨[.ref l, .ref b, rawInt i, rawInt 3], []⟩) (FinOf prog w A R) (fun x z' => R (.error x) z') z
  | 0, i, e, z, h => by
    obtain ⟨xs, ys, n1, n2, g1, g2, e1, e2, _⟩ := walk _ _ h
    obtain rfl : i = N := by omega
    have done := last z h
    obtain ⟨hp, gs, dr, tk, os⟩ := z
    have none1 : xs[((i : Nat) : Int).toNat]? = none := by simp; omega
    have none2 : ys[((i : Nat) : Int).toNat]? = none := by simp; omega
    wp_walk using wpAny_loadPart' g1, wpAny_loadPart' g2
    rw [none1, none2]
    wp_walk using wpAny_loadPart' g1, wpAny_loadPart' g2
    show R (.ok (.ret (.bool (xs.size != ys.size)))) _
    rw [e1, e2]
    simpa using done
  | m + 1, i, e, z, h => by
    obtain ⟨xs, ys, n1, n2, g1, g2, e1, e2, turn⟩ := walk _ _ h
    have k1 : i < xs.size := by omega
    have k2 : i < ys.size := by omega
    have step := turn k1 k2
    have next := list_ne_from l b N J walk last m (i + 1) (by omega)
    obtain ⟨hp, gs, dr, tk, os⟩ := z
    have some1 : xs[((i : Nat) : Int).toNat]? = some xs[i] := by simp [k1]
    have some2 : ys[((i : Nat) : Int).toNat]? = some ys[i] := by simp [k2]
    have more : ((i : Int) + 1) = ((i + 1 : Nat) : Int) := by omega
    wp_walk using wpAny_loadPart' g1, wpAny_loadPart' g2
    rw [some1, some2]
    refine wpAny_bind (wpAny_mono step (fun r z2 q => ?_) fun _ _ x => x)
    obtain ⟨rfl, q⟩ := q
    have nx := next z2 q
    obtain ⟨hp2, gs2, dr2, tk2, os2⟩ := z2
    wp_walk
    rw [more]
    exact ⟨plainId_quiet plain_eq_loop _, codeAny_builtin entry_eq_loop ((Around.under_plainId plain_eq_loop _).symm ▸ nx)⟩
theorem list_ne_all (l b : Addr) (N : Nat) (J : Nat → Shared → Prop) (walk : ListI prog w A (fun x z => R (.error x) z) l b N J) (last : ∀ z, J N z → R (.ok (.ret (.bool false))) z) {z : Shared} (h : J 0 z) :
    wpAny (model prog w) A.in1 (Builtin.«list.__ne__» ⟨[.ref l, .ref b], []⟩) (FinOf prog w A R) (fun x z' => R (.error x) z') z := by
  obtain ⟨xs, ys, n1, n2, g1, g2, e1, e2, _⟩ := walk _ _ h
  have nx := list_ne_from (A := A) (R := R) l b N J walk last N 0 (Nat.zero_add N) z h
  obtain ⟨hp, gs, dr, tk, os⟩ := z
  have isList := AutoSeq1.sub_list_list
  have same : ¬ (xs.size != ys.size) = true := by simp [e1, e2]
  wp_walk using wpAny_loadPart' g1, wpAny_loadPart' g2
  exact ⟨plainId_quiet plain_eq_loop _, codeAny_builtin entry_eq_loop ((Around.under_plainId plain_eq_loop _).symm ▸ nx)⟩
end
section
variable {prog : Program} {w : World} {A : Around} {X : Value → Shared → Prop} {z : Shared}
theorem ne_lists {l b : Addr} {N : Nat} {Q : Value → Shared → Prop} (room : A.units < cLine) (J : Nat → Shared → Prop) (walk : ListI prog w A X l b N J) (last : ∀ z, J N z → Q (.bool false) z) (h : J 0 z) :
    wpAny (model prog w) A (richCompare .NotEq (.ref l) (.ref b)) Q X z := by
  obtain ⟨xs, ys, n1, n2, g1, g2, _, _, _⟩ := walk _ _ h
  exact wpAny_richCompare_same_room (op := .NotEq) ⟨_, g1, rfl⟩ ⟨_, g2, rfl⟩ F.slot_list_ne (call_here F.slot_list_ne ⟨_, g1, rfl⟩ F.entry_list_ne (F.args_list_ne_2 _ _)
    (list_ne_all (R := wants (fun v s' => v ≠ .notImplemented ∧ Q v s') X) l b N J walk (fun z' q => ⟨(fun x => nomatch x), last z' q⟩) h)) room
end
end GQ
namespace AZ
open PySem L2
section
variable {X : Cx} {n : Nat} {D : Eqv}
theorem ncG_list (hD : Mon D) (h : EqG X n D) : NcG X (n + 1) (DList D) := by
  intro A pins s σ H x y u v sb I rx ry d
  obtain ⟨a, b, xs, ys, rfl, rfl, ha, hb, p⟩ := d
  cases rx
  cases ry
  refine GQ.ne_lists (N := xs.length) sb.room.units0 (fun _ s' => LoopI X pins σ H s') (fun i s' q => ?_) (fun s' q => ⟨rfl, q⟩) ⟨H, I, Ext.rfl'⟩
  obtain ⟨H1, I1, e1⟩ := id q
  obtain ⟨z, its, k, r, e⟩ := I1.hok a _ (e1 _ _ ha)
  obtain ⟨z2, its2, k2, r2, e2⟩ := I1.hok b _ (e1 _ _ hb)
  exact ⟨its.toArray, its2.toArray, k, k2, e, e2, by rw [List.size_toArray, ← r.length], by rw [List.size_toArray, ← r2.length, ← p.1], fun h1 h2 => turnG hD h sb p r r2 i h1 h2 s' q⟩
/-- own == where the right side is of a built-in type -/
def RightT (H : Hp) (y : V) (T : String) : Prop := (T = "str" ∧ ∃ z, y = .str z) ∨ (T = "tuple" ∧ ∃ b xs, y = .ref b ∧ H b = some (.tup xs))
def rOwnT (X : Cx) (op : CmpOp) : R2 := fun x y H Q => ∃ (T : String) (a C dx : Addr) (fs : List (Str × V)) (f : Addr) (CX : CXT) (k : Nat) (sp : Sp) (E : XK),
  x = .ref a ∧ H a = some (.ins C dx fs) ∧ RightT H y T ∧ PySem.W.notFirst X.K C (.type T) = true ∧ CmpM X.K C op f ∧ FnR X.prog X.w X.K X.mg X.base CX k f sp ∧ Room k X.A ∧ Passes CX X E ∧ sp [x, y] H Q E
theorem op_ownT (op : CmpOp) (hop : ∀ a b, compareOp op a b = richCompare op a b := by intro _ _; rfl) : OpR X (compareOp op) (rOwnT X op) := by
  intro pins s σ H x y v u Q I rx ry h
  obtain ⟨T, a, C, dx, fs, f, CX, k, sp, E, rfl, ha, hR, hT, hM, F, hr, hx, hs⟩ := h
  obtain rfl : v = Value.ref a := rx
  have hc : wpAny (model X.prog X.w) X.A (call (.ref f) [.ref a, u]) (PySem.W.CmpBack (EP X pins σ Q)) X.xe s :=
    thn (wpAny_call (run_fnR (us := [.ref a, u]) (vs := [.ref a, y]) F hr hx I (.cons rfl (.cons ry .nil)) hs)) fun _ _ z => cmpBack_of z
  obtain ⟨mA, J, _⟩ := ins_get I.hok ha
  obtain ⟨od, J, _⟩ := J.look
  obtain ⟨m, hF⟩ := I.fr
  rw [hop]
  rcases hR with ⟨rfl, z, rfl⟩ | ⟨rfl, b, xs, rfl, hb⟩
  · obtain ⟨t, rfl⟩ := ry
    exact PySem.W.cmp_K (tb := .type "str") hr.units0 hF I.ok.mod.kin J (PySem.W.Looks.of_pure rfl) hT hM.hs hM.hf hc
  · obtain rfl : u = Value.ref b := ry
    obtain ⟨its, r, e, _⟩ := I.tuple (SqT.of hb)
    obtain ⟨o, g, c, _⟩ := id e
    have look : PySem.W.Looks (model X.prog X.w) s.heap (typeOf (.ref b)) (.type "tuple") := fun A Q E z k q => wpAny_typeOf_ref (k _ _ g) (by rw [c]; exact q)
    exact PySem.W.cmp_K (tb := .type "tuple") hr.units0 hF I.ok.mod.kin J look hT hM.hs hM.hf hc
end
end AZ
namespace AZ
open PySem L2 PyProof.Rows
/-- an object called with keywords -/
theorem callOk_of {M : Model} {A : Around} {E : Value → Shared → Prop} {s : Shared} {a : Addr} {pos : Pos} {Q : Value → Shared → Prop} {args : List (Bool × Sem Value)} {kws : List (Option Str × Sem Value)} (plain : (args.any (·.1) || kws.any (·.1.isNone)) = false)
    (h : wpAny M A (evalArgs (.ref a) true args kws) (fun z s1 => (∃ C ox od, PySem.W.InstAt s1.heap a ox C od ∧ ox.data = .plain) ∧ wpAny M A (call (.ref a) z.pos z.kw) Q E s1) E s) : wpAny M A (callWith pos (.ref a) [] args kws) Q E s := by
  unfold callWith
  refine wpAny_bind (wpAny_holding (wpAny_mono h (fun z s1 q => wpAny_bind (wpAny_standAt ?_)) fun _ _ q => q))
  obtain ⟨⟨C, ox, od, at_, dat⟩, q⟩ := q
  simp only [plain]
  refine wpAny_bind ((PySem.W.kco_keeper (M := M) at_ dat).here (wpAny_bind (wpAny_mono (wpAny_operateT q) (fun r s2 q2 => ?_) fun _ _ q => q)))
  exact wpAny_bind (wpAny_holding (wpAny_point (wpAny_pure q2)))
section
variable {X : Cx} {CX : CXT} {k : Nat} {C g : Addr} {sp : Sp} {E : XK} {fe : Expr} {kws : List Keyword} {ks : List Str} {x : Str} {p pos : Pos} {tf : TE} {t : TA} {gV : List V → List V → List V}
/-- f(k = e, ..), f an expression that gives an instance of C -/
def tCallOk (X : Cx) (C : Addr) (gV : List V → List V → List V) (sp : Sp) (E : XK) (tf : TE) (t : TA) : TE := fun σ H Q => tf σ H fun y H1 => ∃ a, y = V.ref a ∧ t σ H1 fun zs H2 => StX.InsC X H2 a C ∧ sp (gV [V.ref a] zs) H2 Q E
theorem pe_callOk (hf : PE X fe tf) (c : StX.CallO X.K C g) (F : FnRk X.prog X.w X.K X.mg X.base CX k g ks gV sp) (hr : Room k X.A) (hx : Passes CX X E) (hkw : PK X kws t)
    (hall : (backToKw pos (keywordEach kws X.env)).all (·.1.isSome) = true := by rfl) (hks : (backToKw pos (keywordEach kws X.env)).filterMap (·.1) = ks := by rfl)
    (ht : eval (.Call fe [] kws pos) X.env = (do callWith pos (← eval fe X.env) [] (backTo pos (starEach [] X.env)) (backToKw pos (keywordEach kws X.env))) := by rfl)
    (hpl : ((backTo pos (starEach [] X.env)).any (·.1) || (backToKw pos (keywordEach kws X.env)).any (·.1.isNone)) = false := by rfl) : PE X (.Call fe [] kws pos) (tCallOk X C gV sp E tf t) := by
  refine ⟨fun pins s σ H Q I h => ?_⟩
  rw [ht]
  refine wpAny_bind (thn (hf.run pins s σ H _ I h) fun u s1 ⟨y, H1, I1, ry, a, ey, q⟩ => ?_)
  subst ey
  obtain rfl : u = Value.ref a := ry
  refine callOk_of hpl (evalArgs_kw2_nil hall (thn (hkw.run pos pins s1 σ H1 _ I1 q) fun ws s2 ⟨zs, H2, I2, rz, hi, q2⟩ => ?_))
  obtain ⟨ox, od, J, hd⟩ := StX.insC_at I2 hi
  refine ⟨⟨C, ox, od, J, hd⟩, ?_⟩
  rw [hks]
  refine wpAny_call (PySem.W.kco_code I2.kIn J hd c.at_ c.fn c.fi (codeAny_mono (F X.A X.stack s2 H2 [.ref a] ws [.ref a] zs Q E hr I2.env0 (.cons rfl .nil) rz q2) fun r s' hq => ?_))
  match r, hq with
  | .error e, hq => exact hx pins σ H2 s2 e s' I2 hq
  | .ok (.ret _), hq => exact I2.after hq
  | .ok .next, hq => exact hq.elim
  | .ok .brk, hq => exact hq.elim
  | .ok .cont, hq => exact hq.elim
/-- C(k = e, ..): a new instance and its dict, then __init__ -/
def tMakeRk (C : Addr) (gV : List V → List V → List V) (sp : Sp) (E : XK) (t : TA) : TE := fun σ H Q => t σ H fun zs H1 => ∀ x dx, H1 x = none → H1 dx = none → dx ≠ x →
  sp (gV [.ref x] zs) (upd (upd H1 dx (.own x)) x (.ins C dx [])) (fun v H2 => v = .non ∧ Q (.ref x) H2) E
theorem pe_makeRk (M : Mk X.K C g) (F : FnRk X.prog X.w X.K X.mg X.base CX k g ks gV sp) (hr : Room (k + 1) X.A) (hg : Gl X x) (hm : X.mg x = some (.ref C)) (hx : Passes CX X E) (hkw : PK X kws t)
    (hall : (backToKw pos (keywordEach kws X.env)).all (·.1.isSome) = true := by rfl) (hks : (backToKw pos (keywordEach kws X.env)).filterMap (·.1) = ks := by rfl) (hdb : (x == ("__debug__" : Str)) = false := by decide)
    (hpl : ((backTo pos (starEach [] X.env)).any (·.1) || (backToKw pos (keywordEach kws X.env)).any (·.1.isNone)) = false := by rfl) : PE X (.Call (.Name x p) [] kws pos) (tMakeRk C gV sp E t) := by
  refine ⟨fun pins s σ H Q I h => wpAny_Call_Name_kw (ld_glob I hg hm ?_ hdb)⟩
  refine PySem.W.callWith_KW0 (h₀ := X.base) I.ok.mod.kin M.kp hall (thn (hkw.run pos pins s σ H _ I h) fun ws s2 ⟨zs, H2, I2, rz, q⟩ => ⟨I2.kIn, ?_⟩) hpl
  rw [hks]
  have q2 := q (s2.heap.objs.size + 1) s2.heap.objs.size (I2.hok.fresh (Nat.le_succ _)) (I2.hok.fresh (Nat.le_refl _)) (Nat.ne_of_lt (Nat.lt_succ_self _))
  have J := Inv.made (C := C) I2
  refine wpAny_call (make_map (f := g) I2.kIn M.makes M.init (beq_iff_eq.mp M.fn) (codeAny_mono (F _ X.stack _ _ [.ref (s2.heap.objs.size + 1)] ws [.ref (s2.heap.objs.size + 1)] zs _ E (hr.make C [] (ks.zip ws)) (J.env0.make C [] (ks.zip ws)) (.cons rfl .nil) rz q2) fun r s' hq => ?_))
  match r, hq with
  | .error e, hq => exact hx pins σ _ _ e s' J hq
  | .ok (.ret _), hq =>
    obtain ⟨v, H3, J3, rv, ev, q3⟩ := J.after hq
    subst ev
    exact ⟨rv, ⟨V.ref (s2.heap.objs.size + 1), H3, J3, rfl, q3⟩⟩
  | .ok .next, hq => exact hq.elim
  | .ok .brk, hq => exact hq.elim
  | .ok .cont, hq => exact hq.elim
end
/-- how one positional value and two by their names, told the other way round, are bound -/
def g12 {α : Type} : List α → List α → List α
  | [a], [b, c] => [a, c, b]
  | _, _ => []
theorem vals_g12 : ∀ {vs zs : List V} {us ws : List Value}, Vals vs us → Vals zs ws → Vals (g12 vs zs) (g12 us ws)
  | _, _, _, _, .cons a .nil, .cons b (.cons c .nil) => .cons a (.cons c (.cons b .nil))
  | _, _, _, _, .nil, _ => .nil
  | _, _, _, _, .cons _ (.cons _ _), _ => .nil
  | _, _, _, _, .cons _ .nil, .nil => .nil
  | _, _, _, _, .cons _ .nil, .cons _ .nil => .nil
  | _, _, _, _, .cons _ .nil, .cons _ (.cons _ (.cons _ _)) => .nil
theorem FnOk.rawkn {P : Program} {w : World} {K : PySem.W.Frag} {mg : Str → Option Value} {base : Heap} {CX : CXT} {k n : Nat} {f : Addr} {fd : FuncData} {ps ks : List Str} {sp : Sp} {g : List Value → List Value → List Value} {gV : List V → List V → List V}
    (F : FnOk P w K mg base CX k f fd ps sp) (hb : KBn K fd ps n ks g gV) (hl : ∀ vs zs : List V, (gV vs zs).length = ps.length → vs.length = n ∧ zs.length = ks.length) : FnRk P w K mg base CX k f ks gV sp := by
  intro A outer s H us ws vs zs Q E hr e0 r rz h
  obtain ⟨l1, l2⟩ := hl vs zs (F.len _ _ _ _ h)
  exact F.run A outer s H ⟨us, ks.zip ws⟩ (g us ws) (gV vs zs) Q E hr e0 (hb.to s us ws (e0.mod.kin.keeps fun b o e => (e0.bs b o e).1) (r.length.symm.trans l1) (rz.length.symm.trans l2)) (hb.rel r rz) h
section
variable {X : Cx}
theorem uEqT (hu : X.A.units + 64 < cLine) : OpR X (compareOp .Eq) (orR rEq (orR (rOwnC X .Eq) (orR (rOwnT X .Eq) (rEqD X.K)))) := op_or2 op_eq (op_or2 (op_ownC _) (op_or2 (op_ownT _) (op_eqD hu)))
theorem uNeL {n : Nat} {D : Eqv} (hD : Mon D) (h : EqG X n D) (hr : Room (n + 1) X.A) (hu : X.A.units + 64 < cLine) : OpR X (compareOp .NotEq) (orR rNe (orR (rOwnN X) (orR (rNeG (DList D)) (rNeD X.K)))) :=
  op_or2 op_ne (op_or2 op_ownN (op_or2 (op_neG (ncG_list hD h) hr) (op_neD hu)))
end
section
variable {X : Cx} {k : Nat} {C g : Addr} {CX : CXT} {sp : Sp} {E : XK} {fe e : Expr} {es : List Expr} {pos : Pos} {tf : TE} {t : TA}
/-- calling an object, told without the context (for blocks) -/
def tCallOF (C : Addr) (sp : Sp) (E : XK) (tf : TE) (t : TA) : TE := fun σ H Q => tf σ H fun y H1 => ∃ a, y = V.ref a ∧ t σ H1 fun vs H2 => ((∃ dx vs, SlX.Slt H2 a C dx vs) ∨ ∃ dx fs, H2 a = some (.ins C dx fs)) ∧ sp (V.ref a :: vs) H2 Q E
theorem pe_callOF (hf : PE X fe tf) (c : StX.CallO X.K C g) (F : FnR X.prog X.w X.K X.mg X.base CX k g sp) (hr : Room k X.A) (hx : Passes CX X E) (ha : PA X (e :: es) t)
    (ht : eval (.Call fe (e :: es) [] pos) X.env = (do callWith pos (← eval fe X.env) [] (backTo pos (starEach (e :: es) X.env)) (backToKw pos (keywordEach [] X.env))) := by rfl)
    (he : starEach (e :: es) X.env = (false, eval e X.env) :: starEach es X.env := by rfl) (hpl : (backTo pos (starEach es X.env)).any (·.1) = false := by rfl) : PE X (.Call fe (e :: es) [] pos) (tCallOF C sp E tf t) :=
  StX.pe_callO hf c F hr hx ha ht he hpl
end
section
variable {X : Cx} {tg l : Expr} {tl : TE}
theorem pi_listK {K : PySem.W.Frag} (h : X.K = K) (hl : PE X l tl) : PI X tg l (iList K tl) := by
  subst h
  exact pi_list hl
end
end AZ

set_option Elab.async false
set_option maxRecDepth 100000
set_option maxHeartbeats 4000000
set_option linter.all false
/-! Own work: errors of own classes as values: made, read, asked for their class; repr of any showable datum. -/
namespace AZ
open PySem L2 PyProof.Rows
/-! ## showable data, dicts of texts or ints to ints too -/
def keyD : Key → PyData
  | .inl i => .int i
  | .inr x => .str x
def kvD (l : List (Key × Int)) : PyData := .dict (l.map fun p => (keyD p.1, .int p.2))
abbrev kvV (l : List (Key × Int)) : List (Key × V) := l.map fun p => (p.1, V.int p.2)
inductive Sh (K : PySem.W.Frag) (H : Hp) : V → PyData → Prop
  | dp {v : V} {d : PyData} : Dp K H v d → d.hasDict = false → Sh K H v d
  | dict {a : Addr} {l : List (Key × Int)} : H a = some (.dK (kvV l)) → Sh K H (.ref a) (kvD l)
theorem reads_keys {P : Program} {w : World} {h : Heap} : ∀ (l : List (Key × Int)) (es : List DictEntry) (vs : List (Key × Value)), KV (kvV l) vs → PySem.Pairs (mixKind P w) es vs →
    ReadsAll h (es.map (·.key)) (l.map fun p => keyD p.1) [] ∧ ReadsAll h (es.map (·.val)) (l.map fun p => PyData.int p.2) []
  | [], es, vs, r, p => by
    cases r
    cases p
    exact ⟨.nil, .nil⟩
  | q :: l, es, vs, r, p => by
    cases r with
    | @cons a b as bs r1 r2 =>
      cases p with
      | @cons e1 kv1 es1 kvs1 p1 p2 p3 =>
        obtain ⟨a1, a2⟩ := reads_keys l _ _ r2 p3
        obtain ⟨e0, t, e2⟩ := r1
        have p1' : keyIs b.1 e1.key = true := p1
        have hv : Reads h e1.val (.int q.2) [] := by
          rw [p2, e2]
          exact Reads.int _ _
        have hk : Reads h e1.key (keyD q.1) [] := by
          have e0' : q.1 = b.1 := e0
          rw [e0']
          rcases keyIs_shape p1' with ⟨i, t, e3, e4⟩ | ⟨x, t, e3, e4⟩
          · rw [e3, e4]; exact Reads.int _ _
          · rw [e3, e4]; exact Reads.str _ _
        exact ⟨.cons (as := []) hk a1, .cons (as := []) hv a2⟩
section
variable {X : Cx} {pins : List (Addr × Obj)} {σ : L2.St} {H : Hp} {s : Shared}
theorem Sh.reads {v : V} {d : PyData} {u : Value} (S : Sh X.K H v d) (I : Inv X pins σ H s) (r : RelV v u) : ∃ as, Reads s.heap u d as ∧ (d.hasDict = true → sysModules ∉ as) := by
  cases S with
  | dp h n =>
    obtain ⟨as, q⟩ := Dp.reads I d v u h r
    exact ⟨as, q, fun z => by rw [n] at z; cases z⟩
  | @dict a l e =>
    obtain rfl : u = Value.ref a := r
    obtain ⟨_, hd, vs, rel, ob, es, ep, g, ex, dd, _, pr, _⟩ := dk_of I.hok e
    obtain ⟨a1, a2⟩ := reads_keys l _ _ rel pr
    have b1 : ReadsAll s.heap (es.toList.map (·.key)) ((l.map fun p : Key × Int => (keyD p.1, PyData.int p.2)).map (·.1)) [] := by rw [List.map_map]; exact a1
    have b2 : ReadsAll s.heap (es.toList.map (·.val)) ((l.map fun p : Key × Int => (keyD p.1, PyData.int p.2)).map (·.2)) [] := by rw [List.map_map]; exact a2
    refine ⟨a :: [] ++ [], Reads.dict g ex.1 dd b1 b2, fun _ hm => ?_⟩
    simp at hm
    rw [← hm] at hd
    simp at hd
/-- what repr of a datum asks -/
structure Shn (d : PyData) : Prop where
  sh : d.showable = true
  dp : d.depth ≤ 60
  sz : d.shown.length ≤ 2000
theorem repr_any {v : V} {d : PyData} {u : Value} {A : Around} {E : Value → Shared → Prop} {Q : Value → Shared → Prop} (S : Sh X.K H v d) (n : Shn d) (I : Inv X pins σ H s) (r : RelV v u) (ng : NoG A) (hu : A.units + 64 < cLine)
    (k : ∀ s' t, Inv X pins σ H s' → Q (.str d.shown t) s') : wpAny (model X.prog X.w) A (pyReprObj u) Q E s := by
  have sz : d.shown.length ≤ sizeLine := Nat.le_trans n.sz (by decide)
  have refl : ∀ {a : Addr}, u = .ref a → wpAny (model X.prog X.w) A (pyReprObj u) Q E s := fun {a} e => by
    obtain ⟨as, q, hs⟩ := S.reads I r
    have hdp := n.dp
    subst e
    exact pyReprObj_of_reads q n.sh hs ng (by omega) (fun _ _ e => e) (fun h' u tk hk => k _ _ (I.kept hk)) sz
  cases S with
  | dict e => exact refl r
  | dp h nd =>
    cases h with
    | non => obtain rfl : u = Value.none := r; exact pyReprObj_none (k _ _ (I.tok _))
    | bl b => obtain rfl : u = Value.bool b := r; exact pyReprObj_bool (k _ _ (I.tok _))
    | int i =>
      obtain ⟨t, rfl⟩ := r
      exact pyReprObj_int (of_decide_eq_true n.sh) (k _ _ (I.tok _))
    | str x => obtain ⟨t, rfl⟩ := r; exact pyReprObj_str (k _ _ (I.tok _)) sz
    | lst _ _ => exact refl r
    | tup _ _ => exact refl r
/-- {x!r} -/
def tFmtA (K : PySem.W.Frag) (te : TE) : TE := fun σ H Q => te σ H fun x H1 => ∃ d, Sh K H1 x d ∧ Shn d ∧ Q (.str d.shown) H1
theorem pe_fmtA {e : Expr} {te : TE} {pos : Pos} (ng : NoG X.A) (hu : X.A.units + 64 < cLine) (he : PE X e te) : PE X (.FormattedValue e 114 none pos) (tFmtA X.K te) := by
  refine ⟨fun pins s σ H Q I h => ?_⟩
  refine wpAny_FormattedValue_repr (thn (he.run pins s σ H _ I h) fun v s1 hv => ?_)
  obtain ⟨x, H1, I1, r1, d, S, n, q⟩ := hv
  refine repr_any S n I1 r1 ng hu fun s2 t I2 => ?_
  exact wpAny_formatField_str ⟨.str d.shown, H1, I2, ⟨_, rfl⟩, q⟩ ⟨.str d.shown, H1, I2.tok _, ⟨_, rfl⟩, q⟩ (Nat.le_trans n.sz (by decide))
theorem call_reprS (ng : NoG X.A) (hu : X.A.units + 70 < cLine) : CallR X (.builtin "repr") (fun xs H Q => ∃ v d, xs = [v] ∧ Sh X.K H v d ∧ Shn d ∧ Q (.str d.shown) H) := by
  intro pins s σ H xs us Q I rv q
  obtain ⟨v, d, rfl, S, n, q⟩ := q
  obtain ⟨u, rfl, r⟩ := vals1 rv
  have sz : d.shown.length ≤ sizeLine := Nat.le_trans n.sz (by decide)
  have refl : ∀ {a : Addr}, u = .ref a → wpAny (model X.prog X.w) X.A (call (.builtin "repr") [u]) (EP X pins σ Q) X.xe s := fun {a} e => by
    obtain ⟨as, g, hs⟩ := S.reads I r
    have hdp := n.dp
    subst e
    exact repr_of_reads' g n.sh hs ng (by omega) (fun _ _ e => e) (fun h' u tk hk => ⟨.str d.shown, H, I.kept hk, ⟨_, rfl⟩, q⟩) sz
  have fin : ∀ tk, EP X pins σ Q (.str d.shown tk) { s with toks := s.toks + 1 } := fun tk => ⟨.str d.shown, H, I.tok _, ⟨_, rfl⟩, q⟩
  cases S with
  | dict e => exact refl r
  | dp h nd =>
    cases h with
    | non => obtain rfl : u = Value.none := r; exact PySem.P.repr_of_none (fin _)
    | bl b => obtain rfl : u = Value.bool b := r; exact PySem.P.repr_of_bool (fin _)
    | int i => obtain ⟨t, rfl⟩ := r; exact PySem.P.repr_of_int (of_decide_eq_true n.sh) (fin _)
    | str x => obtain ⟨t, rfl⟩ := r; exact PySem.P.repr_of_str (fin _) sz
    | lst _ _ => exact refl r
    | tup _ _ => exact refl r
end
/-! ## the base's __init__, through an own base without one -/
/-- what C.__init__(..) asks of the class at C: it is ValueError's -/
structure VInit (K : PySem.W.Frag) (C : Addr) : Prop where
  ex : ∃ mc : Value, ClX.CRead K C mc ∧ PySem.W.findCls K (.ref C) mc "__init__" = some (.val (.builtin "ValueError.__init__"))
section
variable {X : Cx} {e : Expr} {es : List Expr} {ta : TA} {S : Addr} {x : Str} {p1 p2 pos : Pos}
theorem pe_sinit {pl : Sem Bool} (V : VInit X.K S) (hg : Gl X x) (hm : X.mg x = some (.ref S)) (ha : PA X (e :: es) ta) (hdb : (x == ("__debug__" : Str)) = false := by decide)
    (hc : eval (.Call (.Attribute (.Name x p1) "__init__" p2) (e :: es) [] pos) X.env = (eval (.Name x p1) X.env >>= fun ov => standAt p2.atName >>= fun _ => holding [ov] (getMethod ov "__init__" pl) >>= fun r =>
      callWith pos r.1 r.2 (backTo pos (starEach (e :: es) X.env)) (backToKw pos (keywordEach [] X.env))) := by rfl)
    (he : starEach (e :: es) X.env = (false, eval e X.env) :: starEach es X.env := by rfl) (hpl : (backTo pos (starEach es X.env)).any (·.1) = false := by rfl) :
    PE X (.Call (.Attribute (.Name x p1) "__init__" p2) (e :: es) [] pos) (tVeI X.K ta) := by
  refine ⟨fun pins s σ H Q I h => ?_⟩
  obtain ⟨mc, r, at_⟩ := V.ex
  refine PySem.W.methodCall_KW (pl := pl) (ld_glob I hg hm ?_ hdb) hc
  refine PySem.W.method_cls I.kIn r.ga (PySem.W.cls_value I.kIn r.rd at_ (by decide +kernel) ?_)
  show wpAny _ _ (callWith pos (Value.builtin "ValueError.__init__") [] (backTo pos (starEach (e :: es) X.env)) []) _ _ _
  refine PyProof.Rows.callWith_method1 (thn (ha.run pos pins _ σ H _ (I.tok _) h) fun us s1 ⟨vs, H1, I1, r1, a, C, ws, ev, hl, T, ea, q⟩ => ?_) he hpl
  subst ev
  cases r1 with
  | @cons _ u0 _ ur ra rw' =>
    obtain rfl : u0 = Value.ref a := ra
    have hlen : ur.length ≤ sizeLine := Nat.le_trans (by rw [← Paired.length rw']; exact hl) (show 1000 ≤ sizeLine by decide)
    exact oinit_ok T I1 ea hlen fun s' J => ⟨.non, H1, J, rfl, q⟩
end
end AZ
/-! ## an own error class called with keywords -/
namespace PySem
namespace HKW
open Builtin Builtin.ObjectAttr HandSPX
section
variable {prog : Program} {w : World} {A : Around} {E : Value → Shared → Prop} {R : Result → Shared → Prop} {h : Heap} {g : Array GenState} {d : Drawn} {t : Nat} {os : OsState}
variable {nm q : Str} {C N : Addr} {bs bm bmB : List Value} {hdct : Bool} {sn : List Str} {sub : List Value} {ab : Bool} {col : Option Bool} {dd : Option Addr} {k0 k1 k2 k3 k5 : Option Value} {B newId initId : String}
/-- BaseException.__new__ lets by whatever is told by name -/
theorem check_kw {M : Model} (F : ExcBaseFacts B newId initId bmB) (hT : ∀ X : String, bm.contains (.type X) = bmB.contains (.type X)) {kws : List (Str × Value)} {Q : Unit → Shared → Prop}
    (hC : h.get? C = some (excClassObj nm q C N bs bm hdct sn sub ab col dd k0 k1 k2 k3 k5 newId)) (hq : Q () ⟨h, g, d, t, os⟩) : wpAny M A (checkBuiltinCall newId ⟨[.ref C], kws⟩) Q E ⟨h, g, d, t, os⟩ := by
  have isB : (Value.ref C :: bm).contains (.type B) = true := by rw [List.contains_cons, hT, F.hasB, Bool.or_true]
  have st := F.noStar
  simp only [checkBuiltinCall, F.newKind, F.newSplit, F.newRow]
  repeat (first | refine wpAny_loadPart_at hC ?_ | (refine wpAny_isSubtype_exc hC ?_; rw [isB]) | refine wpAny_staticBase_exc hC ?_ | refine wpAny_madeBy_exc hC ?_ | simp only [bne_self_eq_false, Bool.false_eq_true, if_false] | wp_step)
  exact hq
theorem new_kw (F : ExcBaseFacts B newId initId bmB) (hT : ∀ X : String, bm.contains (.type X) = bmB.contains (.type X)) {kws : List (Str × Value)}
    (hC : h.get? C = some (excClassObj nm q C N bs bm hdct sn sub ab col dd k0 k1 k2 k3 k5 newId))
    (hq : R (.ok (.ret (.ref (h.objs.size + 1)))) ⟨(h.push (W.kdv_tup [])).push (excO C h.objs.size), g, d, t, os⟩) :
    codeAny (model prog w) A (.builtin newId ⟨[.ref C], kws⟩) R ⟨h, g, d, t, os⟩ := by
  have fin := F.ends
  have isB : (Value.ref C :: bm).contains (.type B) = true := by rw [List.contains_cons, hT, F.hasB, Bool.or_true]
  have noA : (Value.ref C :: bm).contains (.type "AttributeError") = false := by rw [List.contains_cons, hT, F.noAttr]; rfl
  have noN : (Value.ref C :: bm).contains (.type "NameError") = false := by rw [List.contains_cons, hT, F.noName]; rfl
  refine codeAny_builtinAt F.entry ?_
  unfold Builtin.«BaseException.__new__»
  refine wpAt_bind ?_
  show wpAt _ _ _ (stack >>= _) _ _ _
  refine wpAt_bind (wpAt_stack fun p below => wpAt_of_wpAny ?_)
  wp_walk
  refine wpAt_of_wpAny ?_
  rw [F.owner]
  repeat (first | with_reducible refine wpAny_madeHere_exc F.canon hC ?_ | with_reducible refine wpAny_loadPart_at hC ?_ | (with_reducible refine wpAny_isSubtype_exc hC ?_; first | rw [isB] | rw [noA] | rw [noN]) | wp_step)
  show R _ _
  rw [Heap.size_push]
  exact hq
theorem tcall_kw (F : ExcBaseFacts B newId initId bmB) (hT : ∀ X : String, bm.contains (.type X) = bmB.contains (.type X)) {kws : List (Str × Value)} {fI : Addr} {Q : Fin → Shared → Prop}
    (hC : h.get? C = some (excClassObj nm q C N bs bm hdct sn sub ab col dd k0 k1 k2 k3 k5 newId))
    (hi : W.Looks (model prog w) h (typeLookup (.ref C) "__init__") (some (.ref fI))) (hb : ∀ self, W.Looks (model prog w) h (bindSpecial (.ref fI) self) (.ref fI, [self]))
    (hq : codeAny (model prog w) A (.call (.ref fI) ⟨[.ref (h.objs.size + 1)], kws⟩)
      (fun r s' => match r with | .ok (.ret v) => v = .none ∧ Q (.done (.ret (.ref (h.objs.size + 1)))) s' | .ok _ => False | .error e => E e s')
      ⟨(h.push (W.kdv_tup [])).push (excO C h.objs.size), g, d, t, os⟩) :
    wpAny (model prog w) A (Builtin.«type.__call__» ⟨[.ref C], kws⟩) Q E ⟨h, g, d, t, os⟩ := by
  repeat (first | with_reducible refine wpAny_loadPart_at hC ?_ | with_reducible refine wpAny_madeBy_exc hC ?_ | wp_step)
  refine codeAny_call_builtin_code (Code.quiet_builtin _ F.quiet) (check_kw F hT hC ?_)
  refine new_kw F hT hC ?_
  show wpAny _ _ _ _ _ _
  have kp : ∀ b o, h.get? b = some o → ((h.push (W.kdv_tup [])).push (excO C h.objs.size)).get? b = some o := fun b o e => Heap.get?_push_of_some _ (Heap.get?_push_of_some _ e)
  have hC2 := kp _ _ hC
  have gx : ((h.push (W.kdv_tup [])).push (excO C h.objs.size)).get? (h.objs.size + 1) = some (excO C h.objs.size) := by heap_get
  have own : (Value.ref C :: bm).contains (.ref C) = true := by simp
  have i2 := hi.keeps kp
  have b2 := (hb (.ref (h.objs.size + 1))).keeps kp
  unfold isInstance
  repeat (first | with_reducible refine wpAny_loadPart_at gx ?_ | (with_reducible refine wpAny_isSubtype_exc hC2 ?_; rw [own]) | wp_step)
  show wpAny _ _ (typeLookup (.ref C) _) _ _ _
  refine i2.at (wpAny_holding (wpAny_bind (b2.at (wpAny_bind (wpAny_call (codeAny_mono hq fun r s' z => ?_))))))
  rcases r with e | (v | _ | _ | _) <;> first | exact z | exact z.elim | skip
  obtain ⟨rfl, z⟩ := z
  first
    | exact wpAny_pure (wpAny_pure z)
    | (wp_walk; exact z)
theorem call_kw (F : ExcBaseFacts B newId initId bmB) (hT : ∀ X : String, bm.contains (.type X) = bmB.contains (.type X)) {kws : List (Str × Value)} {fI : Addr}
    (hC : h.get? C = some (excClassObj nm q C N bs bm hdct sn sub ab col dd k0 k1 k2 k3 k5 newId))
    (hi : W.Looks (model prog w) h (typeLookup (.ref C) "__init__") (some (.ref fI))) (hb : ∀ self, W.Looks (model prog w) h (bindSpecial (.ref fI) self) (.ref fI, [self]))
    (hq : codeAny (model prog w) (A.under (.builtin "type.__call__" ⟨[.ref C], kws⟩)) (.call (.ref fI) ⟨[.ref (h.objs.size + 1)], kws⟩) (W.InitBack (h.objs.size + 1) R)
      ⟨(h.push (W.kdv_tup [])).push (excO C h.objs.size), g, d, t, os⟩) :
    codeAny (model prog w) A (.call (.ref C) ⟨[], kws⟩) R ⟨h, g, d, t, os⟩ := by
  have f1 := tc_lookup
  have f2 := tc_bind (.ref C)
  have hTy : (⟨h, g, d, t, os⟩ : Shared).TypeIs (.ref C) "type" := ⟨_, hC, rfl⟩
  refine codeAny_of_tree ?_
  show wpAny _ _ (callAny (.ref C) _) _ _ _
  repeat (any_goals (first | assumption | with_reducible refine wpAny_loadPart_at hC ?_ | wp_step))
  refine ⟨rfl, codeAny_call_builtin_at (Code.quiet_builtin _ (by decide +kernel)) entry_typeCall (wpAny_check_type_call_sub hC (tcall_kw F hT hC hi hb ?_))⟩
  refine codeAny_mono hq fun r s' z => ?_
  rcases r with e | (v | _ | _ | _) <;> exact z
end
end HKW
end PySem
namespace AZ
open PySem L2 PyProof.Rows
/-! ## made as a value -/
/-- an error of the class C at a with these fields -/
def ErrAt (H : Hp) (a C : Addr) (fs : List (Str × V)) : Prop := ∃ dx, H a = some (exo a C (some dx)) ∧ H dx = some (exd dx fs)
def tMkE (C : Addr) (sp : Sp) (ta : TA) : TE := fun σ H Q => ta σ H fun vs H1 => vs.length ≤ 1000 ∧ ∀ a, H1 a = none → sp (.ref a :: vs) (upd H1 a (exo a C none)) (fun v H2 => v = .non ∧ Q (.ref a) H2) (fun _ _ _ => False)
section
variable {X : Cx} {CX : CXT} {k : Nat} {C fI : Addr} {sp : Sp} {pins : List (Addr × Obj)} {σ : L2.St} {H : Hp} {s : Shared} {Q : VK}
/-- C(us) -/
theorem mkE_run (T : OexC X.K C) (iC : PySem.W.findIn X.K (.ref C) "__init__" = some (some (.ref fI))) (tI : PySem.W.typeIn X.K (.ref fI) = some (.type "function")) (F : FnG X.prog X.w X.K X.mg X.base CX k fI sp) (ng : NoG X.A) (hr : Room (k + 1) X.A)
    (hx : Passes CX X (fun _ _ _ => False)) (I : Inv X pins σ H s) {vs : List V} {us : List Value} {as : Args} (r : Vals vs us) (hl : vs.length ≤ 1000)
    (q : ∀ a, H a = none → sp (.ref a :: vs) (upd H a (exo a C none)) (fun v H2 => v = .non ∧ Q (.ref a) H2) (fun _ _ _ => False)) :
    wpAny (model X.prog X.w) X.A (call (.ref C) us) (EP X pins σ Q) X.xe s := by
  obtain ⟨nm, qn, N, bs, bm, sn, sub, ab, col, dd, k0, k1, k2, k3, k5, hC, hbm⟩ := T.cls
  obtain ⟨hp, g, dr, tk, os⟩ := s
  have hsz : hp.objs.size ≤ hp.objs.size + 1 := Nat.le_succ _
  have hn : H (hp.objs.size + 1) = none := I.hok.fresh hsz
  have hq := q (hp.objs.size + 1) hn
  have kk : ∀ b o, hp.get? b = some o → ((hp.push (PySem.W.kdv_tup us)).push (PySem.HandSPX.excO C hp.objs.size)).get? b = some o := fun b o e => Heap.get?_push_of_some _ (Heap.get?_push_of_some _ e)
  have hget : ((hp.push (PySem.W.kdv_tup us)).push (PySem.HandSPX.excO C hp.objs.size)).get? (hp.objs.size + 1) = some (PySem.HandSPX.excO C hp.objs.size) := by heap_get
  have I2 : Inv X pins σ (upd H (hp.objs.size + 1) (exo (hp.objs.size + 1) C none)) ⟨(hp.push (PySem.W.kdv_tup us)).push (PySem.HandSPX.excO C hp.objs.size), g, dr, tk, os⟩ :=
    I.laid (t' := tk) (a := hp.objs.size + 1) (o := exo (hp.objs.size + 1) C none) (h' := (hp.push (PySem.W.kdv_tup us)).push (PySem.HandSPX.excO C hp.objs.size)) kk hsz (exo_ok hget)
  have hus : us.length ≤ sizeLine := Nat.le_trans (by rw [← Paired.length r]; exact hl) (show 1000 ≤ sizeLine by decide)
  refine wpAny_call (PySem.HandSPX.call_own PySem.F.excBase_ValueError (fun Y => PySem.HandSPX.refsVE_contains Y bm hbm) (I.kIn _ _ hC) (PySem.W.looks_findIn I.kIn iC) (fun self => PySem.W.bind_fn I.kIn self tI) hus ?_)
  refine codeAny_mono (F _ X.stack _ _ (.ref (hp.objs.size + 1) :: us) (.ref (hp.objs.size + 1) :: vs) _ _ ?_ (hr.make C us []) (I2.env0.make C us []) (.cons rfl r) hq) fun r s' hq' => ?_
  · exact ng
  · cases r with
    | error er => exact hx pins σ _ _ er s' I2 hq'
    | ok fl =>
      cases fl with
      | ret u =>
        obtain ⟨v, H2, J, rv, ev, q2⟩ := I2.after hq'
        subst ev
        exact ⟨rv, .ref _, H2, J, rfl, q2⟩
      | next => exact False.elim hq'
      | brk => exact False.elim hq'
      | cont => exact False.elim hq'
end
/-! ## promises of a def told by any binding, none of repr under way -/
def FnOG (P : Program) (w : World) (K : PySem.W.Frag) (mg : Str → Option Value) (base : Heap) (CX : CXT) (k : Nat) (f : Addr) (fd : FuncData) (ps : List Str) (sp : Sp) : Prop :=
  ∀ (A : Around) (out : List Env) (z : Shared) (G : Hp) (as : Args) (us : List Value) (vs : List V) (Q : VK) (E : XK), NoG A → Room k A → Env0 P w K mg base A out z G → BindsTo z fd as (ps.zip us) → us.length = ps.length → Vals vs us → sp vs G Q E →
    codeAny (model P w) A (.call (.ref f) as) (CR CX out P w G z Q E) z
/-- .. where the last ones are told by name -/
def FnGk (P : Program) (w : World) (K : PySem.W.Frag) (mg : Str → Option Value) (base : Heap) (CX : CXT) (k : Nat) (f : Addr) (ks : List Str) (gV : List V → List V → List V) (sp : Sp) : Prop :=
  ∀ (A : Around) (out : List Env) (z : Shared) (G : Hp) (us ws : List Value) (vs zs : List V) (Q : VK) (E : XK), NoG A → Room k A → Env0 P w K mg base A out z G → Vals vs us → Vals zs ws → sp (gV vs zs) G Q E →
    codeAny (model P w) A (.call (.ref f) ⟨us, ks.zip ws⟩) (CR CX out P w G z Q E) z
section
variable {P : Program} {w : World} {K : PySem.W.Frag} {mg : Str → Option Value} {base : Heap} {CX : CXT} {k : Nat} {f : Addr} {sp : Sp} {x qual : Str} {st : Stmt} {fd : FuncData} {N ps ks : List Str}
theorem kin0 {A : Around} {out : List Env} {z : Shared} {G : Hp} (env : Env0 P w K mg base A out z G) : K.In z.heap := env.mod.kin.keeps fun b o e => (env.bs b o e).1
/-- a def by its body; what it lets out goes by CX -/
theorem fnOG (F : Fun K x qual st f fd) (S : FnScope N ps (defScope st)) (len : ∀ vs H Q E, sp vs H Q E → vs.length = ps.length)
    (bd : ∀ (cdv : Value) (A : Around) (out : List Env) (z : Shared) (G : Hp) (vs : List V) (Q : VK) (E : XK), NoG (A.deeper (envOfC qual (defScope st) z.heap.objs.size f cdv)) →
      Room k (A.deeper (envOfC qual (defScope st) z.heap.objs.size f cdv)) → sp vs G Q E →
      ∃ t, PSs (cxOf CX P w K mg base N qual (defScope st) f cdv A out z G E) (defBody st) t ∧ t { nx := fun _ H' => Q .non H', rt := Q } (start N vs) G) : FnOG P w K mg base CX (k + 1) f fd ps sp := by
  obtain ⟨oc, od, kV, doc, pm, an, cdv, ct, osl, rfl, look, rec⟩ := F.ex
  intro A out z G as us vs Q E ng room env bnd many vals prom
  have keep : ∀ b o, base.get? b = some o → z.heap.get? b = some o := fun b o e => (env.bs b o e).1
  have kin := kin0 env
  have kinds : ∀ y ∈ ps.zip us, (defScope st).names.lookup y.1 = some .local ∨
      ((defScope st).names.lookup y.1 = some .cell ∧ ((cellsFrom (z.heap.objs.size + 1) (defScope st).names []).lookup y.1).isSome = true) := by
    rintro ⟨n, v⟩ there
    exact (S.par n (List.of_mem_zip there).1).imp id fun c => ⟨c, PySem.W.cellsFrom_some _ _ _ (.inl c)⟩
  refine codeAny_call_function room.depth (kin _ _ look) rfl S.co S.gen rfl (PySem.W.codeRec_of kin rec) (bnd _ _ _ _ (wpAny_newFunctionEnv_cells S.kind kinds ?_))
  rintro env2 rfl z1 made
  refine ⟨(env.mod.nolimit.keeps keep).keeps made.toInCall.keep, codeAny_func ?_⟩
  obtain ⟨t, body, run⟩ := bd cdv A out z G vs Q E (ng.deeper _) (room.deeper _) prom
  exact wpAny_mono (body.run [] z1 (start N vs) G _ (inv_start S room.hd env (len _ _ _ _ prom) vals made) run) (fun fl z2 q => by
    cases fl with
    | ret v => obtain ⟨y, σ, G2, J, rel, q⟩ := q; exact ⟨y, G2, J.os, J.bare, J.base, J.hok, rel, q⟩
    | next => obtain ⟨σ, G2, J, q⟩ := q; exact ⟨.non, G2, J.os, J.bare, J.base, J.hok, rfl, q⟩
    | brk => obtain ⟨σ, G2, J, q⟩ := q; exact q.elim
    | cont => obtain ⟨σ, G2, J, q⟩ := q; exact q.elim) fun e z2 q => q
theorem FnOG.pos (F : FnOG P w K mg base CX k f fd ps sp) (len : ∀ vs H Q E, sp vs H Q E → vs.length = ps.length) (hb : Binds K fd ps []) : FnG P w K mg base CX k f sp := by
  intro A out z G us vs Q E ng room env vals prom
  have many : us.length = ps.length := vals.length.symm.trans (len _ _ _ _ prom)
  have bnd := hb z us (kin0 env) (by rw [List.append_nil]; exact many)
  rw [List.append_nil] at bnd
  exact F A out z G ⟨us, []⟩ us vs Q E ng room env bnd many vals prom
theorem FnOG.key {n : Nat} {g : List Value → List Value → List Value} {gV : List V → List V → List V} (F : FnOG P w K mg base CX k f fd ps sp) (len : ∀ vs H Q E, sp vs H Q E → vs.length = ps.length) (hb : KBn K fd ps n ks g gV)
    (hl : ∀ vs zs : List V, (gV vs zs).length = ps.length → vs.length = n ∧ zs.length = ks.length) : FnGk P w K mg base CX k f ks gV sp := by
  intro A out z G us ws vs zs Q E ng room env r rz prom
  have ln := len _ _ _ _ prom
  obtain ⟨l1, l2⟩ := hl vs zs ln
  have rel := hb.rel r rz
  exact F A out z G ⟨us, ks.zip ws⟩ (g us ws) (gV vs zs) Q E ng room env (hb.to z us ws (kin0 env) (r.length.symm.trans l1) (rz.length.symm.trans l2)) (rel.length.symm.trans ln) rel prom
end
end AZ

set_option Elab.async false
set_option maxRecDepth 100000
set_option maxHeartbeats 4000000
set_option linter.all false
/-! Own work: errors as values: the rules for the text. -/
namespace AZ
open PySem L2 PyProof.Rows
/-- what is asked of an own error class: made as such, its __init__ at fI -/
structure ErrC (K : PySem.W.Frag) (C fI : Addr) : Prop where
  oex : OexC K C
  init : PySem.W.findIn K (.ref C) "__init__" = some (some (.ref fI))
  fn : PySem.W.typeIn K (.ref fI) = some (.type "function")
section
variable {X : Cx} {CX : CXT} {k : Nat} {C fI : Addr} {sp : Sp} {pins : List (Addr × Obj)} {σ : L2.St} {H : Hp} {s : Shared} {Q : VK} {x : Str} {e : Expr} {es : List Expr} {kws : List Keyword} {ks : List Str} {gV : List V → List V → List V} {p pos : Pos} {ta : TA}
/-- C(e, ..) as a value -/
theorem pe_mkE (T : ErrC X.K C fI) (F : FnG X.prog X.w X.K X.mg X.base CX k fI sp) (ng : NoG X.A) (hr : Room (k + 1) X.A) (hg : Gl X x) (hm : X.mg x = some (.ref C)) (hx : Passes CX X (fun _ _ _ => False)) (ha : PA X (e :: es) ta)
    (hdb : (x == ("__debug__" : Str)) = false := by decide) (he : starEach (e :: es) X.env = (false, eval e X.env) :: starEach es X.env := by rfl) (hpl : (backTo pos (starEach es X.env)).any (·.1) = false := by rfl) :
    PE X (.Call (.Name x p) (e :: es) [] pos) (tMkE C sp ta) :=
  ⟨fun pins s σ H Q I h => wpAny_Call_Name_kw (ld_glob I hg hm (PySem.W.callWith_K (h₀ := X.base) I.ok.mod.kin T.oex.kC (thn (ha.run pos pins s σ H _ I h) fun us s1 ⟨vs, H1, I1, r1, hz, q1⟩ =>
    ⟨I1.kIn, mkE_run (as := ⟨us, []⟩) T.oex T.init T.fn F ng hr hx I1 r1 hz q1⟩) he hpl) hdb)⟩
/-- C() -/
theorem pe_mkE0 (T : ErrC X.K C fI) (F : FnG X.prog X.w X.K X.mg X.base CX k fI sp) (ng : NoG X.A) (hr : Room (k + 1) X.A) (hg : Gl X x) (hm : X.mg x = some (.ref C)) (hx : Passes CX X (fun _ _ _ => False))
    (hdb : (x == ("__debug__" : Str)) = false := by decide) :
    PE X (.Call (.Name x p) [] [] pos) (tMkE C sp tNil) :=
  ⟨fun pins s σ H Q I ⟨hz, q1⟩ => wpAny_Call_Name_kw (ld_glob I hg hm (PySem.W.callWith_K0 (first := []) I.kIn T.oex.kC (mkE_run (as := ⟨[], []⟩) T.oex T.init T.fn F ng hr hx I .nil hz q1)) hdb)⟩
/-- C(k = e, ..) -/
def tMkEk (C : Addr) (gV : List V → List V → List V) (sp : Sp) (ta : TA) : TE := fun σ H Q => ta σ H fun zs H1 => ∀ a, H1 a = none → sp (gV [.ref a] zs) (upd H1 a (exo a C none)) (fun v H2 => v = .non ∧ Q (.ref a) H2) (fun _ _ _ => False)
theorem pe_mkEk (T : ErrC X.K C fI) (F : FnGk X.prog X.w X.K X.mg X.base CX k fI ks gV sp) (ng : NoG X.A) (hr : Room (k + 1) X.A) (hg : Gl X x) (hm : X.mg x = some (.ref C)) (hx : Passes CX X (fun _ _ _ => False)) (hkw : PK X kws ta)
    (hall : (backToKw pos (keywordEach kws X.env)).all (·.1.isSome) = true := by rfl) (hks : (backToKw pos (keywordEach kws X.env)).filterMap (·.1) = ks := by rfl) (hdb : (x == ("__debug__" : Str)) = false := by decide)
    (hpl : ((backTo pos (starEach [] X.env)).any (·.1) || (backToKw pos (keywordEach kws X.env)).any (·.1.isNone)) = false := by rfl) : PE X (.Call (.Name x p) [] kws pos) (tMkEk C gV sp ta) := by
  refine ⟨fun pins s σ H Q I h => wpAny_Call_Name_kw (ld_glob I hg hm ?_ hdb)⟩
  refine PySem.W.callWith_KW0 (h₀ := X.base) I.ok.mod.kin T.oex.kC hall (thn (hkw.run pos pins s σ H _ I h) fun ws s2 ⟨zs, H2, I2, rz, q⟩ => ⟨I2.kIn, ?_⟩) hpl
  rw [hks]
  obtain ⟨nm, qn, N, bs, bm, sn, sub, ab, col, dd, k0, k1, k2, k3, k5, hC, hbm⟩ := T.oex.cls
  obtain ⟨hp, g, dr, tk, os⟩ := s2
  have hn : H2 (hp.objs.size + 1) = none := I2.hok.fresh (Nat.le_succ _)
  have hq := q (hp.objs.size + 1) hn
  have kk : ∀ b o, hp.get? b = some o → ((hp.push (PySem.W.kdv_tup [])).push (PySem.HandSPX.excO C hp.objs.size)).get? b = some o := fun b o e => Heap.get?_push_of_some _ (Heap.get?_push_of_some _ e)
  have gx : ((hp.push (PySem.W.kdv_tup [])).push (PySem.HandSPX.excO C hp.objs.size)).get? (hp.objs.size + 1) = some (PySem.HandSPX.excO C hp.objs.size) := by heap_get
  have I3 : Inv X pins σ (upd H2 (hp.objs.size + 1) (exo (hp.objs.size + 1) C none)) ⟨(hp.push (PySem.W.kdv_tup [])).push (PySem.HandSPX.excO C hp.objs.size), g, dr, tk, os⟩ :=
    I2.laid (t' := tk) (a := hp.objs.size + 1) (o := exo (hp.objs.size + 1) C none) (h' := (hp.push (PySem.W.kdv_tup [])).push (PySem.HandSPX.excO C hp.objs.size)) kk (Nat.le_succ _) (exo_ok gx)
  refine wpAny_call (PySem.HKW.call_kw PySem.F.excBase_ValueError (fun Y => PySem.HandSPX.refsVE_contains Y bm hbm) (I2.kIn _ _ hC) (PySem.W.looks_findIn I2.kIn T.init) (fun self => PySem.W.bind_fn I2.kIn self T.fn) ?_)
  refine codeAny_mono (F _ X.stack _ _ [.ref (hp.objs.size + 1)] ws [.ref (hp.objs.size + 1)] zs _ _ ng (hr.make C [] (ks.zip ws)) (I3.env0.make C [] (ks.zip ws)) (.cons rfl .nil) rz hq) fun r s' hq' => ?_
  match r, hq' with
  | .error e, hq' => exact hx pins σ _ _ e s' I3 hq'
  | .ok (.ret _), hq' =>
    obtain ⟨v, H3, J3, rv, ev, q3⟩ := I3.after hq'
    subst ev
    exact ⟨rv, ⟨V.ref _, H3, J3, rfl, q3⟩⟩
  | .ok .next, hq' => exact hq'.elim
  | .ok .brk, hq' => exact hq'.elim
  | .ok .cont, hq' => exact hq'.elim
/-- e.f, of an error -/
def tXfE (C : Addr) (f : Str) (te : TE) : TE := fun σ H Q => te σ H fun y H1 => ∃ a fs v, y = .ref a ∧ ErrAt H1 a C fs ∧ fs.lookup f = some v ∧ Q v H1
theorem pe_xfE {n : Str} {te : TE} (T : XfC X.K C) (no : PySem.W.findIn X.K (.ref C) n = some none) (he : PE X e te) (hb : attributeBase e n X.env (eval e X.env) = eval e X.env := by rfl) : PE X (.Attribute e n pos) (tXfE C n te) := by
  refine ⟨fun pins s σ H Q I h => attr_of hb (thn (he.run pins s σ H _ I h) fun u s1 hh => ?_)⟩
  obtain ⟨y, H1, I1, ry, a, fs, v, ey, ⟨dx, ea, ed⟩, l, q⟩ := hh
  subst ey
  obtain rfl : u = Value.ref a := ry
  obtain ⟨t1, ho⟩ := exo_at I1.hok ea
  obtain ⟨mA, hns, hr⟩ := exd_at I1.hok ed
  obtain ⟨od, hod, hl⟩ := lookIn_ns hns
  obtain ⟨u, hu, ru⟩ := RelO.some_of (v := v) (o := mA n) (by rw [← l]; exact hr n)
  have J : PySem.W.InstAt s1.heap a _ C (some od) := ⟨ho, rfl, rfl, hod⟩
  exact HandSPX.exc_get I1.kIn J T.ga T.gg T.exC (PySem.W.findObj_own T.hdC no rfl (by rw [hl, hu])) (handed_of ru) ⟨v, H1, I1.tok _, ru, q⟩
/-- e.f, of an error of any class -/
def tXfA (K : PySem.W.Frag) (f : Str) (te : TE) : TE := fun σ H Q => te σ H fun y H1 => ∃ a C fs v, y = .ref a ∧ XfC K C ∧ PySem.W.findIn K (.ref C) f = some none ∧ ErrAt H1 a C fs ∧ fs.lookup f = some v ∧ Q v H1
theorem pe_xfA {n : Str} {te : TE} (he : PE X e te) (hb : attributeBase e n X.env (eval e X.env) = eval e X.env := by rfl) : PE X (.Attribute e n pos) (tXfA X.K n te) := by
  refine ⟨fun pins s σ H Q I h => attr_of hb (thn (he.run pins s σ H _ I h) fun u s1 hh => ?_)⟩
  obtain ⟨y, H1, I1, ry, a, C, fs, v, ey, T, no, ⟨dx, ea, ed⟩, l, q⟩ := hh
  subst ey
  obtain rfl : u = Value.ref a := ry
  obtain ⟨t1, ho⟩ := exo_at I1.hok ea
  obtain ⟨mA, hns, hr⟩ := exd_at I1.hok ed
  obtain ⟨od, hod, hl⟩ := lookIn_ns hns
  obtain ⟨u, hu, ru⟩ := RelO.some_of (v := v) (o := mA n) (by rw [← l]; exact hr n)
  have J : PySem.W.InstAt s1.heap a _ C (some od) := ⟨ho, rfl, rfl, hod⟩
  exact HandSPX.exc_get I1.kIn J T.ga T.gg T.exC (PySem.W.findObj_own T.hdC no rfl (by rw [hl, hu])) (handed_of ru) ⟨v, H1, I1.tok _, ru, q⟩
end
/-- promises of the __init__ of errors: the fields that they keep -/
def spErr0 (C : Addr) : Sp := fun vs H Q _ => ∃ a, vs = [.ref a] ∧ H a = some (exo a C none) ∧ Q .non H
def spErr1 (K : PySem.W.Frag) (C : Addr) (f : Str) : Sp := fun vs H Q _ => ∃ a v d, vs = [.ref a, v] ∧ H a = some (exo a C none) ∧ Sh K H v d ∧ Shn d ∧ ∀ H', (∀ x o, H x = some o → x ≠ a → H' x = some o) → ErrAt H' a C [(f, v)] → Q .non H'
def spErr2 (K : PySem.W.Frag) (C : Addr) (f g : Str) : Sp := fun vs H Q _ => ∃ a v u d e, vs = [.ref a, v, u] ∧ H a = some (exo a C none) ∧ Sh K H v d ∧ Shn d ∧ Sh K H u e ∧ Shn e ∧ ∀ H', (∀ x o, H x = some o → x ≠ a → H' x = some o) → ErrAt H' a C [(g, u), (f, v)] → Q .non H'
theorem shn_len {d : PyData} (n : Shn d) {x : Str} (h : x.length ≤ 4000) : (x ++ d.shown).length ≤ sizeLine := by
  have := n.sz
  have e : (x ++ d.shown).length = x.length + d.shown.length := Array.size_append ..
  rw [e]
  exact Nat.le_trans (by omega : x.length + d.shown.length ≤ 6000) (by decide)
theorem cat_len {x y : Str} {m n k : Nat} (h1 : x.length ≤ m) (h2 : y.length ≤ n) (h : m + n ≤ k) : (x ++ y).length ≤ k := by
  have e : (x ++ y).length = x.length + y.length := Array.size_append ..
  omega
end AZ

set_option Elab.async false
set_option maxRecDepth 100000
set_option maxHeartbeats 4000000
set_option linter.all false
/-! Own work: classes of errors below one base: what is asked of each, and which is which. -/
namespace AZ
open PySem L2 PyProof.Rows
open PySem.HandSPX (veTail)
/-- the base of all, at S -/
structure Sx (K : PySem.W.Frag) (S : Addr) (nm : Str) : Prop where
  lk : ∃ q N bs sn sub ab col dd k0 k1 k2 k3 k5, K.lookup S = some (excClassObj nm q S N bs veTail true sn sub ab col dd k0 k1 k2 k3 k5 "ValueError.__new__")
/-- an own error class at C directly below S, its __init__ at fI -/
structure Ex (K : PySem.W.Frag) (S C fI : Addr) (nm : Str) : Prop where
  lk : ∃ q N bs sn sub ab col dd k0 k1 k2 k3 k5, K.lookup C = some (excClassObj nm q C N bs (.ref S :: veTail) true sn sub ab col dd k0 k1 k2 k3 k5 "ValueError.__new__")
  sa : PySem.W.findIn K (.ref C) "__setattr__" = some (some (.builtin "object.__setattr__"))
  ga : PySem.W.findIn K (.ref C) "__getattribute__" = some (some (.builtin "BaseException.__getattribute__"))
  gg : PySem.W.findIn K (.ref C) "__getattr__" = some none
  ca : PySem.W.findIn K (.ref C) "__class__" = some (some (.builtin "object.__class__"))
  init : PySem.W.findIn K (.ref C) "__init__" = some (some (.ref fI))
  fn : PySem.W.typeIn K (.ref fI) = some (.type "function")
  kp : PySem.W.keepIn K (.ref C) = true
/-- what isinstance asks of object.__class__ -/
structure Gx (K : PySem.W.Frag) : Prop where
  hn : PySem.W.specialIn K (.builtin "object.__class__") "__get__" = some (some (.builtin "getset_descriptor.__get__"))
  tk : PySem.W.takesIn K (.builtin "object.__class__") = some true
section
variable {K : PySem.W.Frag} {S C D fI fJ : Addr} {nm nm' ns : Str}
theorem Ex.cls (x : Ex K S C fI nm) : ∃ cd, PySem.W.clsIn K C = some cd ∧ cd.mro = .ref C :: .ref S :: veTail ∧ cd.name = nm ∧ cd.hasDict = true := by
  obtain ⟨q, N, bs, sn, sub, ab, col, dd, k0, k1, k2, k3, k5, h⟩ := x.lk
  have e : PySem.W.clsIn K C = some { name := nm, bases := bs, mro := .ref C :: .ref S :: veTail, ns := N, qualname := q, hasDict := true, slotNames := sn, subclasses := sub, abstract := ab, collection := col, hasDel := false } := by
    unfold PySem.W.clsIn; rw [h]
  exact ⟨_, e, rfl, rfl, rfl⟩
theorem Sx.cls (x : Sx K S nm) : ∃ cd, PySem.W.clsIn K S = some cd ∧ cd.mro = .ref S :: veTail ∧ cd.name = nm := by
  obtain ⟨q, N, bs, sn, sub, ab, col, dd, k0, k1, k2, k3, k5, h⟩ := x.lk
  have e : PySem.W.clsIn K S = some { name := nm, bases := bs, mro := .ref S :: veTail, ns := N, qualname := q, hasDict := true, slotNames := sn, subclasses := sub, abstract := ab, collection := col, hasDel := false } := by
    unfold PySem.W.clsIn; rw [h]
  exact ⟨_, e, rfl, rfl⟩
theorem Ex.ty (x : Ex K S C fI nm) : PySem.W.typeIn K (.ref C) = some (.type "type") := by
  obtain ⟨q, N, bs, sn, sub, ab, col, dd, k0, k1, k2, k3, k5, h⟩ := x.lk
  show (K.lookup C).map (·.cls) = _
  rw [h]; rfl
theorem Sx.ty (x : Sx K S nm) : PySem.W.typeIn K (.ref S) = some (.type "type") := by
  obtain ⟨q, N, bs, sn, sub, ab, col, dd, k0, k1, k2, k3, k5, h⟩ := x.lk
  show (K.lookup S).map (·.cls) = _
  rw [h]; rfl
theorem Ex.mro (x : Ex K S C fI nm) (b : Value) : PySem.W.mroIn K C b = some ((.ref C :: .ref S :: veTail).contains b) := by
  obtain ⟨cd, h, m, _⟩ := x.cls
  unfold PySem.W.mroIn
  rw [h, Option.bind_some, m]; rfl
theorem Ex.ne (x : Ex K S C fI nm) (y : Ex K S D fJ nm') (h : nm ≠ nm') : C ≠ D := fun e => by
  obtain ⟨cd, h1, _, n1, _⟩ := x.cls
  obtain ⟨ce, h2, _, n2, _⟩ := y.cls
  rw [e, h2] at h1
  cases h1
  exact h (n1.symm.trans n2)
theorem Ex.neS (x : Ex K S C fI nm) (y : Sx K S ns) (h : nm ≠ ns) : C ≠ S := fun e => by
  obtain ⟨cd, h1, _, n1, _⟩ := x.cls
  obtain ⟨ce, h2, _, n2⟩ := y.cls
  rw [e, h2] at h1
  cases h1
  exact h (n1.symm.trans n2)
theorem Ex.exc (x : Ex K S C fI nm) : PySem.W.subIn K (.ref C) (.type "BaseException") = some true := (x.mro _).trans (by simp [veTail])
theorem Ex.oex (x : Ex K S C fI nm) : OexC K C where
  cls := by
    obtain ⟨q, N, bs, sn, sub, ab, col, dd, k0, k1, k2, k3, k5, h⟩ := x.lk
    exact ⟨nm, q, N, bs, .ref S :: veTail, sn, sub, ab, col, dd, k0, k1, k2, k3, k5, h, show PySem.HandSPX.refsVE veTail = true by decide +kernel⟩
  sa := x.sa
  exC := x.exc
  tyC := x.ty
  kC := x.kp
theorem Ex.err (x : Ex K S C fI nm) : ErrC K C fI := ⟨x.oex, x.init, x.fn⟩
theorem Ex.hd (x : Ex K S C fI nm) : PySem.W.hasDictIn K C = true := by
  obtain ⟨cd, h, _, _, d⟩ := x.cls
  unfold PySem.W.hasDictIn
  rw [h]
  simp [d]
theorem Ex.xf (x : Ex K S C fI nm) : XfC K C := ⟨x.ga, x.gg, x.exc, x.hd⟩
/-- isinstance among them -/
theorem Ex.kit_ne (x : Ex K S C fI nm) (y : Ex K S D fJ nm') (s : Sx K S ns) (h : nm ≠ nm') (h2 : nm' ≠ ns) : PySem.W.kitOne K (.ref C) (.ref D) = some false := by
  have e : C ≠ D := x.ne y h
  have e2 : D ≠ S := y.neS s h2
  unfold PySem.W.kitOne PySem.W.kitCls
  rw [if_neg (by intro q; exact e (Value.ref.inj (beq_iff_eq.mp q)))]
  obtain ⟨ce, hc, _⟩ := y.cls
  dsimp only
  rw [if_pos (by rw [hc, y.ty]; rfl)]
  show PySem.W.mroIn K C _ = _
  rw [x.mro]
  simp [veTail, Ne.symm e, e2]
theorem Ex.kit_s (x : Ex K S C fI nm) (s : Sx K S ns) (h2 : nm ≠ ns) : PySem.W.kitOne K (.ref C) (.ref S) = some true := by
  have e : C ≠ S := x.neS s h2
  unfold PySem.W.kitOne PySem.W.kitCls
  rw [if_neg (by intro q; exact e (Value.ref.inj (beq_iff_eq.mp q)))]
  obtain ⟨ce, hc, _⟩ := s.cls
  dsimp only
  rw [if_pos (by rw [hc, s.ty]; rfl)]
  show PySem.W.mroIn K C _ = _
  rw [x.mro]
  simp [veTail]
theorem Ex.kit_v (x : Ex K S C fI nm) : PySem.W.kitOne K (.ref C) (.type "ValueError") = some true := by
  unfold PySem.W.kitOne PySem.W.kitCls
  rw [if_neg (by intro q; cases (beq_iff_eq.mp q))]
  dsimp only
  rw [if_pos (by decide +kernel)]
  show PySem.W.mroIn K C _ = _
  rw [x.mro]
  simp [veTail]
end
/-- an error of the class C, with fields or without -/
def ErrO (H : Hp) (a C : Addr) : Prop := H a = some (exo a C none) ∨ ∃ fs, ErrAt H a C fs
theorem ErrAt.o {H : Hp} {a C : Addr} {fs : List (Str × V)} (h : ErrAt H a C fs) : ErrO H a C := Or.inr ⟨fs, h⟩
section
variable {X : Cx}
/-- isinstance(e, c), e an error -/
def rIsE1 (K : PySem.W.Frag) : List V → Hp → VK → Prop := fun xs H Q => ∃ (a S C fI : Addr) (nm : Str) (c : V) (u : Value) (b : Bool), xs = [.ref a, c] ∧ Gx K ∧ Ex K S C fI nm ∧ ErrO H a C ∧ ClsV c u ∧ PySem.W.kitOne K (.ref C) u = some b ∧ Q (.bl b) H
def rIsET (K : PySem.W.Frag) : List V → Hp → VK → Prop := fun xs H Q => ∃ (a tp S C fI : Addr) (nm : Str) (cs : List V) (us : List Value) (b : Bool), xs = [.ref a, .ref tp] ∧ H tp = some (.tup cs) ∧ Gx K ∧ Ex K S C fI nm ∧ ErrO H a C ∧ Paired ClsV cs us ∧ PySem.W.kitAny K (.ref C) us = some b ∧ Q (.bl b) H
theorem exo_inst {pins : List (Addr × Obj)} {σ : L2.St} {H : Hp} {s : Shared} {a C : Addr} (I : Inv X pins σ H s) (e : ErrO H a C) : ∃ ox od, PySem.W.InstAt s.heap a ox C od := by
  rcases e with e | ⟨fs, dx, e, ed⟩
  · obtain ⟨t1, ho⟩ := exo_at I.hok e
    exact ⟨_, none, ho, rfl, rfl, trivial⟩
  · obtain ⟨t1, ho⟩ := exo_at I.hok e
    obtain ⟨mA, hns, hr⟩ := exd_at I.hok ed
    obtain ⟨od, hod, hl⟩ := lookIn_ns hns
    exact ⟨_, some od, ho, rfl, rfl, hod⟩
theorem call_isE1 : CallR X (.builtin "isinstance") (rIsE1 X.K) := by
  intro pins s σ H xs us Q I r h
  obtain ⟨a, S, C, fI, nm, c, u, b, rfl, G, x, e, k, q, w⟩ := h
  obtain ⟨u1, u2, rfl, r1, r2⟩ := vals2 r
  obtain rfl : u1 = Value.ref a := r1
  have ec := k.eq r2
  subst ec
  obtain ⟨ox, od, J⟩ := exo_inst I e
  obtain ⟨cd, hc, _⟩ := x.cls
  exact PySem.W.kia_one (PySem.W.kitx_exc (by rw [hc]; rfl) x.ga x.gg x.exc x.ca G.hn G.tk ((x.mro _).trans (by simp [veTail]))) I.kIn J q (fun z => nomatch z) fun tk => ⟨.bl b, H, I.tok _, rfl, w⟩
theorem call_isET : CallR X (.builtin "isinstance") (rIsET X.K) := by
  intro pins s σ H xs us Q I r h
  obtain ⟨a, tp, S, C, fI, nm, cs, ws, b, rfl, hT, G, x, e, k, q, w⟩ := h
  obtain ⟨u1, u2, rfl, r1, r2⟩ := vals2 r
  obtain rfl : u1 = Value.ref a := r1
  cases (show u2 = Value.ref tp from r2)
  obtain ⟨ox, od, J⟩ := exo_inst I e
  obtain ⟨cd, hc, _⟩ := x.cls
  obtain ⟨_, its, rv, o, h1, h2, n, h3⟩ := (show ObjOk X.prog X.w H s.heap tp (.tup cs) from I.hok tp _ hT)
  have e3 := ClsV.all k rv
  subst e3
  obtain ⟨oc, od', dt, sl⟩ := o
  simp only at h2 h3
  subst h2 h3
  exact PySem.W.kia_tup (PySem.W.kitx_exc (by rw [hc]; rfl) x.ga x.gg x.exc x.ca G.hn G.tk ((x.mro _).trans (by simp [veTail]))) I.kIn J h1 q (fun z => nomatch z) fun tk => ⟨.bl b, H, I.tok _, rfl, w⟩
theorem uIsE : CallR X (.builtin "isinstance") (fun xs H Q => rIsE1 X.K xs H Q ∨ rIsET X.K xs H Q) := CallR.or' call_isE1 call_isET
end
/-! ## the bodies of their __init__ -/
abbrev tText (ts : List TE) : TE := fun σ H Q => tJs ts Str.empty σ H fun out H1 => Q (.str out) H1
section
variable {K : PySem.W.Frag} {S C fI a : Addr} {nm f g lit lit2 : Str} {H : Hp} {Q : VK} {σ : L2.St} {D : Ends} {v u : V} {e e2 : PyData}
theorem err0_body (X : Ex K S C fI nm) (ha : H a = some (exo a C none)) (h0 : σ[0]? = some (some (.ref a))) (k : D.nx σ H) : tDrop (tVeI K (tCons (tVar 0) (tCons (tC (.str lit)) tNil))) D σ H :=
  ⟨_, h0, a, C, _, rfl, by simp, X.oex, ha, k⟩
theorem err1_body (X : Ex K S C fI nm) (A : NoAttr K C f) (ha : H a = some (exo a C none)) (s : Sh K H v e) (n : Shn e) (h0 : σ[0]? = some (some (.ref a))) (h1 : σ[1]? = some (some v)) (hl : lit.length ≤ 1000)
    (k : ∀ H', (∀ x o, H x = some o → x ≠ a → H' x = some o) → ErrAt H' a C [(f, v)] → D.nx σ H') :
    tSeq (tDrop (tVeI K (tCons (tVar 0) (tCons (tText [tC (.str lit), tFmtA K (tVar 1)]) tNil)))) (tOst K f (tVar 0) (tVar 1)) D σ H := by
  refine ⟨_, h0, ⟨_, rfl, cat_len (m := 0) (n := 1000) (Nat.le_refl _) hl (by decide), _, h1, e, s, n, _, rfl, ?_, ?_⟩⟩
  · exact shn_len n (cat_len (m := 0) (n := 1000) (Nat.le_refl _) hl (by decide))
  · refine ⟨a, C, _, rfl, by simp, X.oex, ha, ?_⟩
    refine ⟨_, h1, _, h0, a, C, rfl, X.oex, A, Or.inl ⟨ha, fun dx hd ne => k _ (fun x o h nx => ?_) ⟨dx, upd_same, ?_⟩⟩⟩
    · rw [upd_ne nx, upd_ne (ne_of_none h hd)]; exact h
    · rw [upd_ne ne, upd_same]
theorem err2_body (X : Ex K S C fI nm) (A : NoAttr K C f) (B : NoAttr K C g) (ha : H a = some (exo a C none)) (s : Sh K H v e) (n : Shn e) (s2 : Sh K H u e2) (n2 : Shn e2) (h0 : σ[0]? = some (some (.ref a))) (h1 : σ[1]? = some (some v)) (h2 : σ[2]? = some (some u))
    (hl : lit.length ≤ 1000) (hl2 : lit2.length ≤ 900) (k : ∀ H', (∀ x o, H x = some o → x ≠ a → H' x = some o) → ErrAt H' a C [(g, u), (f, v)] → D.nx σ H') :
    tSeq (tDrop (tVeI K (tCons (tVar 0) (tCons (tText [tC (.str lit), tFmtA K (tVar 1), tC (.str lit2), tFmtA K (tVar 2)]) tNil)))) (tSeq (tOst K f (tVar 0) (tVar 1)) (tOst K g (tVar 0) (tVar 2))) D σ H := by
  have z1 : (Str.empty ++ lit).length ≤ 1000 := cat_len (m := 0) (n := 1000) (Nat.le_refl _) hl (by decide)
  have z2 : (Str.empty ++ lit ++ e.shown).length ≤ 3000 := cat_len z1 n.sz (by decide)
  have z3 : (Str.empty ++ lit ++ e.shown ++ lit2).length ≤ 3900 := cat_len z2 hl2 (by decide)
  refine ⟨_, h0, ⟨_, rfl, Nat.le_trans z1 (by decide), _, h1, e, s, n, _, rfl, Nat.le_trans z2 (by decide), ⟨_, rfl, Nat.le_trans z3 (by decide), _, h2, e2, s2, n2, _, rfl, shn_len n2 (Nat.le_trans z3 (by decide)), ?_⟩⟩⟩
  refine ⟨a, C, _, rfl, by simp, X.oex, ha, ?_⟩
  refine ⟨_, h1, _, h0, a, C, rfl, X.oex, A, Or.inl ⟨ha, fun dx hd ne => ?_⟩⟩
  have hne : a ≠ dx := Ne.symm ne
  refine ⟨_, h2, _, h0, a, C, rfl, X.oex, B, Or.inr ⟨dx, [(f, v)], upd_same, by rw [upd_ne ne, upd_same], by simp, ?_⟩⟩
  refine k _ (fun x o h nx => ?_) ⟨dx, by rw [upd_ne hne, upd_same], upd_same⟩
  have nd := ne_of_none h hd
  rw [upd_ne nd, upd_ne nx, upd_ne nd]; exact h
end
/-! ## bindings by name -/
section
variable {P : Program} {w : World} {K : PySem.W.Frag} {mg : Str → Option Value} {base : Heap} {CX : CXT} {k : Nat} {f : Addr} {sp : Sp} {fd : FuncData} {p q r : Str}
theorem FnOG.key11 (F : FnOG P w K mg base CX k f fd [p, q] sp) (len : ∀ vs H Q E, sp vs H Q E → vs.length = 2) (h : ∀ a b : Value, bindArgs fd ⟨[a], [(q, b)]⟩ = pure [(p, a), (q, b)]) : FnGk P w K mg base CX k f [q] g11 sp := by
  intro A out z G us ws vs zs Q E ng room env r rz prom
  have ln := len _ _ _ _ prom
  match vs, us, zs, ws, r, rz, ln, prom with
  | [_], [u], [_], [b], .cons r1 .nil, .cons r2 .nil, _, prom => exact F A out z G ⟨[u], [(q, b)]⟩ [u, b] _ Q E ng room env (.of_eq (h u b)) rfl (.cons r1 (.cons r2 .nil)) prom
  | [], [], _, _, .nil, _, ln, _ => cases ln
  | [_], [_], [], [], .cons _ .nil, .nil, ln, _ => cases ln
  | [_], [_], _ :: _ :: _, _ :: _ :: _, .cons _ .nil, .cons _ (.cons _ _), ln, _ => cases ln
  | _ :: _ :: _, _ :: _ :: _, _, _, .cons _ (.cons _ _), _, ln, _ => cases ln
theorem FnOG.key12 (F : FnOG P w K mg base CX k f fd [p, q, r] sp) (len : ∀ vs H Q E, sp vs H Q E → vs.length = 3) (h : ∀ a b c : Value, bindArgs fd ⟨[a], [(r, b), (q, c)]⟩ = pure [(p, a), (q, c), (r, b)]) : FnGk P w K mg base CX k f [r, q] g12 sp := by
  intro A out z G us ws vs zs Q E ng room env r0 rz prom
  have ln := len _ _ _ _ prom
  match vs, us, zs, ws, r0, rz, ln, prom with
  | [_], [u], [_, _], [b, c], .cons r1 .nil, .cons r2 (.cons r3 .nil), _, prom => exact F A out z G ⟨[u], [(r, b), (q, c)]⟩ [u, c, b] _ Q E ng room env (.of_eq (h u b c)) rfl (.cons r1 (.cons r3 (.cons r2 .nil))) prom
  | [], [], _, _, .nil, _, ln, _ => cases ln
  | [_], [_], [], [], .cons _ .nil, .nil, ln, _ => cases ln
  | [_], [_], [_], [_], .cons _ .nil, .cons _ .nil, ln, _ => cases ln
  | [_], [_], _ :: _ :: _ :: _, _ :: _ :: _ :: _, .cons _ .nil, .cons _ (.cons _ (.cons _ _)), ln, _ => cases ln
  | _ :: _ :: _, _ :: _ :: _, _, _, .cons _ (.cons _ _), _, ln, _ => cases ln
end
end AZ

set_option Elab.async false
set_option maxRecDepth 100000
set_option maxHeartbeats 4000000
set_option linter.all false
/-! Own work: what stays of data; rows of errors. -/
namespace AZ
open PySem L2 PyProof.Rows
section
variable {K : PySem.W.Frag} {H H' : Hp}
theorem sqL_same {a : Addr} {xs : List V} (e : Same H H') (h : SqL K H a xs) : SqL K H' a xs := h.elim (fun h => Or.inl (h.elim (fun q => Or.inl (e _ _ q)) fun ⟨o, q⟩ => Or.inr ⟨o, e _ _ q⟩)) Or.inr
theorem sqT_same {a : Addr} {xs : List V} (e : Same H H') (h : SqT K H a xs) : SqT K H' a xs := h.elim (fun h => Or.inl (h.elim (fun q => Or.inl (e _ _ q)) fun ⟨o, q⟩ => Or.inr ⟨o, e _ _ q⟩)) Or.inr
mutual
theorem dp_same (e : Same H H') : ∀ {v : V} {d : PyData}, Dp K H v d → Dp K H' v d
  | _, _, .non => .non
  | _, _, .bl b => .bl b
  | _, _, .int i => .int i
  | _, _, .str x => .str x
  | _, _, .lst h r => .lst (sqL_same e h) (dpAll_same e r)
  | _, _, .tup h r => .tup (sqT_same e h) (dpAll_same e r)
theorem dpAll_same (e : Same H H') : ∀ {vs : List V} {ds : List PyData}, DpAll K H vs ds → DpAll K H' vs ds
  | _, _, .nil => .nil
  | _, _, .cons h r => .cons (dp_same e h) (dpAll_same e r)
end
theorem Sh.same {v : V} {d : PyData} (e : Same H H') (h : Sh K H v d) : Sh K H' v d := match h with
  | .dp h n => .dp (dp_same e h) n
  | .dict h => .dict (e _ _ h)
theorem ErrAt.same {a C : Addr} {fs : List (Str × V)} (e : Same H H') (h : ErrAt H a C fs) : ErrAt H' a C fs := let ⟨dx, x, y⟩ := h; ⟨dx, e _ _ x, e _ _ y⟩
end
/-- a pair of an error of c, with these fields, and v -/
def PairAt (v : V) (H : Hp) (p : V) (c : Addr × List (Str × V)) : Prop := ∃ t e, p = .ref t ∧ H t = some (.tup [.ref e, v]) ∧ ErrAt H e c.1 c.2
theorem PairAt.same {v p : V} {H H' : Hp} {c : Addr × List (Str × V)} (e : Same H H') (h : PairAt v H p c) : PairAt v H' p c := let ⟨t, a, x, y, z⟩ := h; ⟨t, a, x, e _ _ y, z.same e⟩
/-- a list of such pairs -/
def RowsAt (v : V) (H : Hp) (l : Addr) (cs : List (Addr × List (Str × V))) : Prop := ∃ ps, H l = some (.lst ps) ∧ Paired (PairAt v H) ps cs
theorem rows_same {v : V} {H H' : Hp} (e : Same H H') : ∀ {ps : List V} {cs : List (Addr × List (Str × V))}, Paired (PairAt v H) ps cs → Paired (PairAt v H') ps cs
  | _, _, .nil => .nil
  | _, _, .cons h r => .cons (h.same e) (rows_same e r)
theorem RowsAt.same {v : V} {H H' : Hp} {l : Addr} {cs : List (Addr × List (Str × V))} (e : Same H H') (h : RowsAt v H l cs) : RowsAt v H' l cs := let ⟨ps, x, y⟩ := h; ⟨ps, e _ _ x, rows_same e y⟩
theorem paired_append {α β : Type} {R : α → β → Prop} : ∀ {xs : List α} {ys : List β} {us : List α} {ws : List β}, Paired R xs ys → Paired R us ws → Paired R (xs ++ us) (ys ++ ws)
  | _, _, _, _, .nil, h => h
  | _, _, _, _, .cons a b, h => .cons a (paired_append b h)
/-- the reading R makes such a pair -/
def PR (K : PySem.W.Frag) (σ : L2.St) (v : V) (e : V → Hp → Prop) (R : TE) (c : Addr × List (Str × V)) : Prop := ∀ H Q, e v H → (∀ p H', Same H H' → PairAt v H' p c → Q p H') → R σ H Q
section
variable {K : PySem.W.Frag} {S C fI : Addr} {nm f g : Str} {σ : L2.St} {i j : Nat} {v u : V} {e e2 : PyData} {Q : VK} {H : Hp}
theorem same_made {a : Addr} {o : HO} {H' : Hp} (n : H a = none) (k : ∀ x o', upd H a o x = some o' → x ≠ a → H' x = some o') : Same H H' := fun b u h => by
  have nb := ne_of_none h n
  exact k b u (by rw [upd_ne nb]; exact h) nb
/-- C(v) -/
theorem mk1 (h0 : σ[i]? = some (some v)) (s : Sh K H v e) (n : Shn e) (k : ∀ a H', Same H H' → ErrAt H' a C [(f, v)] → Q (.ref a) H') : tMkE C (spErr1 K C f) (tCons (tVar i) tNil) σ H Q :=
  ⟨_, h0, (by show 1 ≤ 1000; decide), fun a ha => ⟨a, v, e, rfl, upd_same, s.same (sameNew ha), n, fun H' kp er => ⟨rfl, k a H' (same_made ha kp) er⟩⟩⟩
theorem mk1k (h0 : σ[i]? = some (some v)) (s : Sh K H v e) (n : Shn e) (k : ∀ a H', Same H H' → ErrAt H' a C [(f, v)] → Q (.ref a) H') : tMkEk C g11 (spErr1 K C f) (tCons (tVar i) tNil) σ H Q :=
  ⟨_, h0, fun a ha => ⟨a, v, e, rfl, upd_same, s.same (sameNew ha), n, fun H' kp er => ⟨rfl, k a H' (same_made ha kp) er⟩⟩⟩
theorem fld1 {te : TE} {w : V} {fs : List (Str × V)} (X : Ex K S C fI nm) (A : NoAttr K C f) (l : fs.lookup f = some w) (h : te σ H fun y H1 => ∃ a, y = .ref a ∧ ErrAt H1 a C fs ∧ Q w H1) (mono : ∀ {P P' : VK}, (∀ y H1, P y H1 → P' y H1) → te σ H P → te σ H P') : tXfA K f te σ H Q :=
  mono (fun y H1 ⟨a, e, x, q⟩ => ⟨a, C, fs, w, e, X.xf, A, x, l, q⟩) h
theorem pair1 (X : Ex K S C fI nm) (A : NoAttr K C f) (h0 : σ[i]? = some (some v)) (n : Shn e) :
    PR K σ v (fun v H => Sh K H v e) (tTup (tCons (tMkE C (spErr1 K C f) (tCons (tVar i) tNil)) (tCons (tXfA K f (tMkEk C g11 (spErr1 K C f) (tCons (tVar i) tNil))) tNil))) (C, [(f, v)]) := fun H Q s k => by
  have two : ∀ a H1, Same H H1 → ErrAt H1 a C [(f, v)] → tXfA K f (tMkEk C g11 (spErr1 K C f) (tCons (tVar i) tNil)) σ H1 fun y H2 => [V.ref a, y].length ≤ sizeLine ∧ ∀ p, H2 p = none → Q (.ref p) (upd H2 p (.tup [V.ref a, y])) := fun a H1 e1 x1 => by
    show tMkEk C g11 (spErr1 K C f) (tCons (tVar i) tNil) σ H1 _
    refine mk1k h0 (s.same e1) n fun b H2 e2 x2 => ⟨b, C, _, v, rfl, X.xf, A, x2, by simp [List.lookup], ?_⟩
    exact ⟨(by show 2 ≤ sizeLine; decide), fun t ht => k _ _ ((e1.trans e2).trans (sameNew ht)) ⟨t, a, rfl, upd_same, (x1.same e2).same (sameNew ht)⟩⟩
  have r : tMkE C (spErr1 K C f) (tCons (tVar i) tNil) σ H fun x H1 => tXfA K f (tMkEk C g11 (spErr1 K C f) (tCons (tVar i) tNil)) σ H1 fun y H2 => [x, y].length ≤ sizeLine ∧ ∀ p, H2 p = none → Q (.ref p) (upd H2 p (.tup [x, y])) := mk1 h0 s n two
  exact r
/-- a list of one or two of them -/
theorem lst1 {R : TE} {c : Addr × List (Str × V)} {I : V → Hp → Prop} (h : PR K σ v I R c) (q : I v H) (k : ∀ l H', Same H H' → RowsAt v H' l [c] → Q (.ref l) H') : tLst (tCons R tNil) σ H Q :=
  h H _ q fun p H1 e1 x => ⟨(by show 1 ≤ sizeLine; decide), fun l hl => k l _ (e1.trans (sameNew hl)) ⟨[p], upd_same, .cons (x.same (sameNew hl)) .nil⟩⟩
theorem lst2 {R R' : TE} {c c' : Addr × List (Str × V)} {I : V → Hp → Prop} (im : ∀ {H H'}, Same H H' → I v H → I v H') (h : PR K σ v I R c) (h' : PR K σ v I R' c') (q : I v H) (k : ∀ l H', Same H H' → RowsAt v H' l [c, c'] → Q (.ref l) H') : tLst (tCons R (tCons R' tNil)) σ H Q :=
  h H _ q fun p H1 e1 x => h' H1 _ (im e1 q) fun p' H2 e2 x' => ⟨(by show 2 ≤ sizeLine; decide), fun l hl => k l _ ((e1.trans e2).trans (sameNew hl)) ⟨[p, p'], upd_same, .cons ((x.same e2).same (sameNew hl)) (.cons (x'.same (sameNew hl)) .nil)⟩⟩
/-- list + list -/
theorem cat_rows {r1 r2 r4 : R2} {t1 t2 : TE} {c1 c2 : List (Addr × List (Str × V))} {l : Addr} (h1 : ∀ Q', (∀ H', H' = H → Q' (.ref l) H') → t1 σ H Q') (hl : RowsAt v H l c1) (hz : c1.length + c2.length ≤ 1000)
    (h2 : ∀ Q', (∀ b H', Same H H' → RowsAt v H' b c2 → Q' (.ref b) H') → t2 σ H Q') (k : ∀ p H', Same H H' → RowsAt v H' p (c1 ++ c2) → Q (.ref p) H') : tOp (orR r1 (orR r2 (orR rCat r4))) t1 t2 σ H Q := by
  refine h1 _ fun H' eH => ?_
  subst eH
  refine h2 _ fun b H1 e1 x => Or.inr (Or.inr (Or.inl ?_))
  obtain ⟨ps, hp, pr⟩ := hl.same e1
  obtain ⟨qs, hq, qr⟩ := x
  refine ⟨l, b, ps, qs, rfl, rfl, hp, hq, ?_, fun p hpn => k p _ (e1.trans (sameNew hpn)) ⟨ps ++ qs, upd_same, rows_same (sameNew hpn) (paired_append pr qr)⟩⟩
  rw [pr.length, qr.length]
  exact Nat.le_trans hz (by decide)
theorem PR.imp {R : TE} {c : Addr × List (Str × V)} {I I' : V → Hp → Prop} (h : PR K σ v I R c) (k : ∀ H, I' v H → I v H) : PR K σ v I' R c := fun H Q q => h H Q (k H q)
/-- C(v, u) -/
theorem mk2 (h0 : σ[i]? = some (some v)) (h1 : σ[j]? = some (some u)) (s : Sh K H v e) (n : Shn e) (s2 : Sh K H u e2) (n2 : Shn e2) (k : ∀ a H', Same H H' → ErrAt H' a C [(g, u), (f, v)] → Q (.ref a) H') : tMkE C (spErr2 K C f g) (tCons (tVar i) (tCons (tVar j) tNil)) σ H Q :=
  ⟨_, h0, _, h1, (by show 2 ≤ 1000; decide), fun a ha => ⟨a, v, u, e, e2, rfl, upd_same, s.same (sameNew ha), n, s2.same (sameNew ha), n2, fun H' kp er => ⟨rfl, k a H' (same_made ha kp) er⟩⟩⟩
theorem mk2k (h0 : σ[i]? = some (some v)) (h1 : σ[j]? = some (some u)) (s : Sh K H v e) (n : Shn e) (s2 : Sh K H u e2) (n2 : Shn e2) (k : ∀ a H', Same H H' → ErrAt H' a C [(g, u), (f, v)] → Q (.ref a) H') : tMkEk C g12 (spErr2 K C f g) (tCons (tVar j) (tCons (tVar i) tNil)) σ H Q :=
  ⟨_, h1, _, h0, fun a ha => ⟨a, v, u, e, e2, rfl, upd_same, s.same (sameNew ha), n, s2.same (sameNew ha), n2, fun H' kp er => ⟨rfl, k a H' (same_made ha kp) er⟩⟩⟩
/-- its field f or g -/
theorem fld2f {te : TE} (X : Ex K S C fI nm) (A : NoAttr K C f) (hfg : (f == g) = false) (h : ∀ Q' : VK, (∀ a H', Same H H' → ErrAt H' a C [(g, u), (f, v)] → Q' (.ref a) H') → te σ H Q') (k : ∀ H', Same H H' → Q v H') : tXfA K f te σ H Q :=
  h _ fun a H' e1 x => ⟨a, C, _, v, rfl, X.xf, A, x, by simp [List.lookup, hfg], k H' e1⟩
theorem fld2g {te : TE} (X : Ex K S C fI nm) (A : NoAttr K C g) (h : ∀ Q' : VK, (∀ a H', Same H H' → ErrAt H' a C [(g, u), (f, v)] → Q' (.ref a) H') → te σ H Q') (k : ∀ H', Same H H' → Q u H') : tXfA K g te σ H Q :=
  h _ fun a H' e1 x => ⟨a, C, _, u, rfl, X.xf, A, x, by simp [List.lookup], k H' e1⟩
theorem pair2 (X : Ex K S C fI nm) (A : NoAttr K C f) (hfg : (f == g) = false) (h0 : σ[i]? = some (some v)) (h1 : σ[j]? = some (some u)) (n : Shn e) (n2 : Shn e2) :
    PR K σ v (fun v H => Sh K H v e ∧ Sh K H u e2) (tTup (tCons (tMkE C (spErr2 K C f g) (tCons (tVar i) (tCons (tVar j) tNil))) (tCons (tXfA K f (tMkEk C g12 (spErr2 K C f g) (tCons (tVar j) (tCons (tVar i) tNil)))) tNil))) (C, [(g, u), (f, v)]) := fun H Q s k => by
  have r : tMkE C (spErr2 K C f g) (tCons (tVar i) (tCons (tVar j) tNil)) σ H fun x H1 => tXfA K f (tMkEk C g12 (spErr2 K C f g) (tCons (tVar j) (tCons (tVar i) tNil))) σ H1 fun y H2 => [x, y].length ≤ sizeLine ∧ ∀ p, H2 p = none → Q (.ref p) (upd H2 p (.tup [x, y])) :=
    mk2 h0 h1 s.1 n s.2 n2 fun a H1 e1 x1 => fld2f X A hfg (fun Q' k' => mk2k h0 h1 (s.1.same e1) n (s.2.same e1) n2 k') fun H2 e2 =>
      ⟨(by show 2 ≤ sizeLine; decide), fun t ht => k _ _ ((e1.trans e2).trans (sameNew ht)) ⟨t, a, rfl, upd_same, (x1.same e2).same (sameNew ht)⟩⟩
  exact r
end
theorem _root_.L2.Room.units70 {k : Nat} {A : Around} (r : Room k A) : A.units + 70 < cLine := by have := r.un; omega
section
variable {X : Cx} {K : PySem.W.Frag}
theorem ix_seqK (h : X.K = K) : IxR X (rIx K) := by
  subst h
  exact ix_seq
theorem call_reprSK (h : X.K = K) (ng : NoG X.A) (hu : X.A.units + 70 < cLine) : CallR X (.builtin "repr") (fun xs H Q => ∃ v d, xs = [v] ∧ Sh K H v d ∧ Shn d ∧ Q (.str d.shown) H) := by
  subst h
  exact call_reprS ng hu
theorem uIsEK (h : X.K = K) : CallR X (.builtin "isinstance") (fun xs H Q => rIsE1 K xs H Q ∨ rIsET K xs H Q) := by
  subst h
  exact uIsE
end
end AZ

set_option Elab.async false
set_option maxRecDepth 100000
set_option maxHeartbeats 4000000
set_option linter.all false
/-! Own work: errors that are raised, where no repr is under way. -/
namespace AZ
open PySem L2 PyProof.Rows
abbrev CXx (P : Program) (w : World) : CXT := L2.CX P w
/-- C(e, ..) to be raised -/
def tMkX (C : Addr) (sp : Sp) (ta : TA) : L2.St → Hp → XK → Prop := fun σ H Q => ta σ H fun vs H1 => vs.length ≤ 1000 ∧ ∀ a, H1 a = none → sp (.ref a :: vs) (upd H1 a (exo a C none))
  (fun v H2 => v = .non ∧ ∃ (d : Addr) (fs : List (Str × V)), H2 a = some (exo a C (some d)) ∧ H2 d = some (exd d fs) ∧ H1 d = none ∧ Q (.ref C) (some d) (upd (del H2 a) d (.xd fs))) (fun _ _ _ => False)
section
variable {X : Cx} {CX : CXT} {k : Nat} {C fI : Addr} {sp : Sp} {x : Str} {e : Expr} {es : List Expr} {p pos : Pos} {ta : TA}
theorem pmk_err (T : ErrC X.K C fI) (F : FnG X.prog X.w X.K X.mg X.base CX k fI sp) (ng : NoG X.A) (hr : Room (k + 1) X.A) (hx : Passes CX X (fun _ _ _ => False)) (hg : Gl X x) (hm : X.mg x = some (.ref C)) (ha : PA X (e :: es) ta)
    (hdb : (x == ("__debug__" : Str)) = false := by decide) (he : starEach (e :: es) X.env = (false, eval e X.env) :: starEach es X.env := by rfl) (hpl : (backTo pos (starEach es X.env)).any (·.1) = false := by rfl) :
    PMk X (.Call (.Name x p) (e :: es) [] pos) (tMkX C sp ta) := by
  intro pins s σ H Q I h
  obtain ⟨nm, qn, N, bs, bm, sn, sub, ab, col, dd, k0, k1, k2, k3, k5, hC, hbm⟩ := T.oex.cls
  refine wpAny_Call_Name_kw (ld_glob I hg hm ?_ hdb)
  refine PySem.W.callWith_K (h₀ := X.base) I.ok.mod.kin T.oex.kC (thn (ha.run pos pins s σ H _ I h) fun us s1 ⟨vs, H1, I1, r1, hz, q1⟩ => ⟨I1.kIn, ?_⟩) he hpl
  show wpAny _ _ (call (.ref C) us) _ _ _
  obtain ⟨hp, g, dr, tk, os⟩ := s1
  have hsz : hp.objs.size ≤ hp.objs.size + 1 := Nat.le_succ _
  have hq := q1 (hp.objs.size + 1) (I1.hok.fresh hsz)
  have kk : ∀ b o, hp.get? b = some o → ((hp.push (PySem.W.kdv_tup us)).push (PySem.HandSPX.excO C hp.objs.size)).get? b = some o := fun b o e => Heap.get?_push_of_some _ (Heap.get?_push_of_some _ e)
  have gx : ((hp.push (PySem.W.kdv_tup us)).push (PySem.HandSPX.excO C hp.objs.size)).get? (hp.objs.size + 1) = some (PySem.HandSPX.excO C hp.objs.size) := by heap_get
  have I2 : Inv X pins σ (upd H1 (hp.objs.size + 1) (exo (hp.objs.size + 1) C none)) ⟨(hp.push (PySem.W.kdv_tup us)).push (PySem.HandSPX.excO C hp.objs.size), g, dr, tk, os⟩ :=
    I1.laid (t' := tk) (a := hp.objs.size + 1) (o := exo (hp.objs.size + 1) C none) (h' := (hp.push (PySem.W.kdv_tup us)).push (PySem.HandSPX.excO C hp.objs.size)) kk hsz (exo_ok gx)
  have hus : us.length ≤ sizeLine := Nat.le_trans (by rw [← Paired.length r1]; exact hz) (show 1000 ≤ sizeLine by decide)
  refine wpAny_call (PySem.HandSPX.call_own PySem.F.excBase_ValueError (fun Y => PySem.HandSPX.refsVE_contains Y bm hbm) (I1.kIn _ _ hC) (PySem.W.looks_findIn I1.kIn T.init) (fun self => PySem.W.bind_fn I1.kIn self T.fn) hus ?_)
  refine codeAny_mono (F _ X.stack _ _ (.ref (hp.objs.size + 1) :: us) (.ref (hp.objs.size + 1) :: vs) _ _ ng (hr.make C us []) (I2.env0.make C us []) (.cons rfl r1) hq) fun r s' hq' => ?_
  match r, hq' with
  | .error er, hq' => exact hx pins σ _ _ er s' I2 hq'
  | .ok (.ret u), ⟨v, H2, os2, bare2, un2, hok2, rv, ev, d, fs, ea, ed, hd1, q2⟩ =>
    subst ev
    obtain ⟨h2, g2, d2, t2, os'⟩ := s'
    exact ⟨rv, mk_end (raises_own T.oex.exC T.oex.tyC) I1 hsz kk un2 hok2 os2 bare2 ea ed hd1 q2⟩
  | .ok .next, hq' => exact hq'.elim
  | .ok .brk, hq' => exact hq'.elim
  | .ok .cont, hq' => exact hq'.elim
end
/-- the promise of an __init__ with one field, to the letter -/
def spErrX (K : PySem.W.Frag) (C : Addr) (f : Str) : Sp := fun vs H Q _ => ∃ a v d, vs = [.ref a, v] ∧ H a = some (exo a C none) ∧ Sh K H v d ∧ Shn d ∧ ∀ dx, H dx = none → dx ≠ a → Q .non (upd (upd H dx (exd dx [(f, v)])) a (exo a C (some dx)))
section
variable {K : PySem.W.Frag} {S C fI a : Addr} {nm f g lit lit2 : Str} {H : Hp} {Q : VK} {σ : L2.St} {D : Ends} {v u : V} {e e2 : PyData} {i : Nat}
theorem err1x_body (X : Ex K S C fI nm) (A : NoAttr K C f) (ha : H a = some (exo a C none)) (s : Sh K H v e) (n : Shn e) (h0 : σ[0]? = some (some (.ref a))) (h1 : σ[1]? = some (some v)) (hl : lit.length ≤ 1000)
    (k : ∀ dx, H dx = none → dx ≠ a → D.nx σ (upd (upd H dx (exd dx [(f, v)])) a (exo a C (some dx)))) :
    tSeq (tDrop (tVeI K (tCons (tVar 0) (tCons (tText [tC (.str lit), tFmtA K (tVar 1)]) tNil)))) (tOst K f (tVar 0) (tVar 1)) D σ H := by
  refine ⟨_, h0, ⟨_, rfl, cat_len (m := 0) (n := 1000) (Nat.le_refl _) hl (by decide), _, h1, e, s, n, _, rfl, ?_, ?_⟩⟩
  · exact shn_len n (cat_len (m := 0) (n := 1000) (Nat.le_refl _) hl (by decide))
  · refine ⟨a, C, _, rfl, by simp, X.oex, ha, ?_⟩
    exact ⟨_, h1, _, h0, a, C, rfl, X.oex, A, Or.inl ⟨ha, fun dx hd ne => k dx hd ne⟩⟩
/-- what is raised: a new dict with the field -/
theorem mkX1 {Q : XK} {te : TE} (h : ∀ Q' : VK, Q' v H → te σ H Q') (s : Sh K H v e) (n : Shn e) (k : ∀ dx, H dx = none → Q (.ref C) (some dx) (upd H dx (.xd [(f, v)]))) : tMkX C (spErrX K C f) (tCons te tNil) σ H Q := by
  refine h _ ⟨(by show 1 ≤ 1000; decide), fun a ha => ⟨a, v, e, rfl, upd_same, s.same (sameNew ha), n, fun dx hd ne => ⟨rfl, dx, [(f, v)], upd_same, ?_, ?_, ?_⟩⟩⟩
  · rw [upd_ne ne, upd_same]
  · rw [upd_ne ne] at hd; exact hd
  · have hd' : H dx = none := by rw [upd_ne ne] at hd; exact hd
    have eq : upd (del (upd (upd (upd H a (exo a C none)) dx (exd dx [(f, v)])) a (exo a C (some dx))) a) dx (.xd [(f, v)]) = upd H dx (.xd [(f, v)]) := by
      funext b
      by_cases hb : b = dx
      · rw [hb, upd_same, upd_same]
      · rw [upd_ne hb, upd_ne hb]
        by_cases hba : b = a
        · rw [hba, del_same, ha]
        · rw [del_ne hba, upd_ne hba, upd_ne hb, upd_ne hba]
    rw [eq]
    exact k dx hd'
end
/-! ## static methods and methods that want no repr under way -/
section
variable {X : Cx} {CX : CXT} {k : Nat} {C g : Addr} {sp : Sp} {E : XK} {o e : Expr} {es : List Expr} {m x : Str} {p pos apos : Pos} {ta : TE} {t : TA}
theorem pe_smethG {pl : Sem Bool} (he : PE X o ta) (c : SMet X.K C m g) (F : FnG X.prog X.w X.K X.mg X.base CX k g sp) (ng : NoG X.A) (hr : Room k X.A) (hx : Passes CX X E) (ha : PA X (e :: es) t)
    (hst : starEach (e :: es) X.env = (false, eval e X.env) :: starEach es X.env := by rfl) (hpl : (backTo pos (starEach es X.env)).any (·.1) = false := by rfl)
    (ht : eval (.Call (.Attribute o m apos) (e :: es) [] pos) X.env = (eval o X.env >>= fun ov => standAt apos.atName >>= fun _ => holding [ov] (getMethod ov m pl) >>= fun r =>
      callWith pos r.1 r.2 (backTo pos (starEach (e :: es) X.env)) (backToKw pos (keywordEach [] X.env))) := by rfl) :
    PE X (.Call (.Attribute o m apos) (e :: es) [] pos) (tSM C sp E ta t) := by
  refine ⟨fun pins s σ H Q I h => ?_⟩
  refine PySem.W.methodCall_KW (pl := pl) (thn (he.run pins s σ H _ I h) fun u s1 ⟨x, H1, I1, rx, ex, q⟩ => ?_) ht
  subst ex
  obtain rfl : u = Value.ref C := rx
  obtain ⟨mc, p, rest, r, at_, rc⟩ := c.ex
  refine PySem.W.method_cls I1.kIn r.ga (PySem.W.cls_bind I1.kIn r.rd at_ (wpAny_call (PySem.W.sm_get (s := { s1 with toks := s1.toks + 1 }) I1.kIn rc (PySem.W.handed_on rfl ?_))))
  refine PySem.W.callWith_K (first := []) (h₀ := X.base) I1.ok.mod.kin c.kp (thn (ha.run pos pins _ σ H1 _ (I1.tok _) q) fun us s2 ⟨vs, H2, I2, r2, q2⟩ => ⟨I2.kIn, ?_⟩) hst hpl
  exact wpAny_call (run_fnG F ng hr hx I2 r2 q2)
/-- an own comparison beside a value of any built-in type; all that it stands on is told outside -/
def rOwnCX (K : PySem.W.Frag) (C : Addr) (sp : Sp) (E : XK) : R2 := fun x y H Q => ∃ (a dx : Addr) (fs : List (Str × V)) (T : String), x = .ref a ∧ H a = some (.ins C dx fs) ∧ TyX K H y (.type T) ∧ PySem.W.notFirst K C (.type T) = true ∧ sp [x, y] H Q E
theorem op_ownCX {f : Addr} (op : CmpOp) (hs : PySem.W.findIn X.K (.ref C) (cmpInfo op).2.1 = some (some (.ref f))) (hf : PySem.W.isFn X.K (.ref f) = true) (F : FnG X.prog X.w X.K X.mg X.base CX k f sp) (ng : NoG X.A) (hr : Room k X.A) (hx : Passes CX X E)
    (hop : ∀ a b, compareOp op a b = richCompare op a b := by intro _ _; rfl) : OpR X (compareOp op) (rOwnCX X.K C sp E) := by
  intro pins s σ H x y v u Q I rx ry h
  obtain ⟨a, dx, fs, T, rfl, ha, ty, nf, q⟩ := h
  obtain rfl : v = Value.ref a := rx
  have hc : wpAny (model X.prog X.w) X.A (call (.ref f) [.ref a, u]) (PySem.W.CmpBack (EP X pins σ Q)) X.xe s :=
    thn (wpAny_call (run_fnG (us := [.ref a, u]) (vs := [.ref a, y]) F ng hr hx I (.cons rfl (.cons ry .nil)) q)) fun _ _ z => cmpBack_of z
  obtain ⟨mA, J, _⟩ := ins_get I.hok ha
  obtain ⟨od, J, _⟩ := J.look
  obtain ⟨m, hF⟩ := I.fr
  rw [hop]
  obtain ⟨Pz, Z, pz, _⟩ := kit_of I ry ty
  exact PySem.W.cmp_K (tb := .type T) hr.units0 hF I.ok.mod.kin J (Z.ty _ _ I.kIn pz) nf hs hf hc
end
end AZ

set_option Elab.async false
set_option maxRecDepth 100000
set_option maxHeartbeats 4000000
set_option linter.all false
/-! Own work: lambdas handed to a def, where no repr is under way. -/
namespace AZ
open PySem L2 PyProof.Rows LamX
section
variable {X : Cx} {pins : List (Addr × Obj)} {σ : L2.St} {H HZ : Hp} {s s1 : Shared}
/-- the def that was handed the lambda f calls it by its name a -/
theorem act_G {CXg : CXT} {Eg : XK} {Ng : List Str} {qg : Str} {sg : Scope} {g f c' : Addr} {cdg pm ctv : Value} {params : Arguments} {body : Expr} {scope : Scope} {k i : Nat} {a : Str} {pn : List (Addr × Obj)} {xe : Value → Shared → Prop} {W : WX} {E : XK} {tb : TE} {p1 p2 : Pos}
    (ng : NoG X.A) (I : Inv X pins σ H s) (L : LamS X.env.scope scope) (hf : s.heap.get? f = some (PySem.W.kla_obj "<lambda>" (X.env.qual ++ "<lambda>") params body scope (cloFrom X.env.cells scope.names []) pm c' ctv)) (hfn : H f = none) (hfr : f ∉ frs X.stack)
    (hbind : bindArgs (PySem.W.kla_fn "<lambda>" (X.env.qual ++ "<lambda>") params body scope (cloFrom X.env.cells scope.names []) pm (.ref c') ctv) ⟨[], []⟩ = pure [])
    (tk : Takes ((cxOf CXg X.prog X.w X.K X.mg X.base Ng qg sg g cdg X.A X.stack s H Eg).tr pn xe) W) (hr : Room (k + 1) (X.A.deeper (envOfC qg sg s.heap.objs.size g cdg)))
    (hbody : ∀ (A : Around) (outer : List Env) (s : Shared) (H : Hp), NoG (A.deeper (lamEnv X scope s.heap.objs.size f c')) → Room k (A.deeper (lamEnv X scope s.heap.objs.size f c')) → PE (lamCx X A outer s H E scope f c') body tb)
    (hN : Ng[i]? = some a) (hv : Vis sg a) (hd : (a == ("__debug__" : Str)) = false := by decide) (hcd : (a == ("__classdict__" : Str)) = false := by decide) :
    PE ((cxOf CXg X.prog X.w X.K X.mg X.base Ng qg sg g cdg X.A X.stack s H Eg).tr pn xe) (.Call (.Name a p1) [] [] p2)
      (fun σZ HZ Q => σZ[i]? = some (some (.ref f)) ∧ HZ c' = some (CodeO c' (X.env.qual ++ "<lambda>")) ∧ (∀ cls d H', E cls d H' → W cls d σZ H') ∧ tb σ HZ Q) := by
  refine ⟨fun pz sz σz Hz Q Iz ⟨slot, code, hW, read⟩ => ?_⟩
  refine wpAny_Call_Name_kw (thn ((pe_var (pos := p1) (i := i) hN hv hd hcd).run pz sz σz Hz (fun v G => v = .ref f ∧ G = Hz) Iz ⟨.ref f, slot, rfl, rfl⟩) fun u s2 ⟨v, G, J, rel, ev, eG⟩ => ?_)
  subst ev
  rw [eG] at J
  obtain rfl : u = Value.ref f := rel
  have there : s2.heap.get? f = some (PySem.W.kla_obj "<lambda>" (X.env.qual ++ "<lambda>") params body scope (cloFrom X.env.cells scope.names []) pm c' ctv) := J.base.keep f _ hf hfn hfr (fun z => nomatch (show f ∈ ([] : List Addr) from z))
  refine PySem.W.callWith_F0 ⟨_, _, _, _, there⟩ ?_
  have un : Un (frs X.stack) [] H Hz s.heap s2.heap := J.base
  obtain ⟨⟨oc, vs, t, c1, c2, c3⟩, _, _⟩ := J.hok c' _ code
  have run : codeAny (model X.prog X.w) (X.A.deeper (envOfC qg sg s.heap.objs.size g cdg)) (.call (.ref f) ⟨[], []⟩) (CR (L2.CX X.prog X.w) (envOfC qg sg s.heap.objs.size g cdg :: X.stack) X.prog X.w Hz s2 Q E) s2 := by
    refine PySem.W.kla_callFunE hr.depth there rfl L.co L.gen rfl ⟨c', oc, vs, t, rfl, c1, c2, c3⟩ ?_
    rw [hbind]
    refine wpAny_pure (wpAny_newFunctionEnv (fun y hy => (L.own y hy).2) (fun y hy => absurd hy (by simp)) (fun h₁ hns hsb => ⟨J.nolimit.fresh _ hsb, ?_⟩) L.kind)
    show codeAny _ _ (.expr body (lamEnv X scope s2.heap.objs.size f c')) _ _
    have kp : ∀ b o, s2.heap.get? b = some o → h₁.get? b = some o := fun b o e => hsb.extBut b o (Nat.ne_of_lt (Heap.lt_size e)) (Heap.get?_push_of_some _ e)
    have start : Inv (lamCx X (X.A.deeper (envOfC qg sg s.heap.objs.size g cdg)) (envOfC qg sg s.heap.objs.size g cdg :: X.stack) s2 Hz E scope f c') [] σ Hz { s2 with heap := h₁, toks := s2.toks + ([] : List (Str × Value)).length } :=
      lam_start2 I L J.env0 hr.hd un hns kp
    exact PySem.W.kla_codeExpr (wpAny_mono ((hbody _ _ s2 Hz ((ng.deeper _).deeper _) (hr.deeper _)).run [] _ _ Hz Q start read) (fun v s' ⟨w', H', J', rv, q⟩ => ⟨w', H', J'.os, J'.bare, J'.base, J'.hok, rv, q⟩) fun e s' hq => hq)
  refine wpAny_call (codeAny_mono run fun r s' hq => ?_)
  match r, hq with
  | .error e, hq => exact tk e s' (XE.of_call J (fun cls d H' h => hW cls d H' h) hq)
  | .ok (.ret u), hq => exact J.after hq
  | .ok .next, hq => exact hq.elim
  | .ok .brk, hq => exact hq.elim
  | .ok .cont, hq => exact hq.elim
/-- what a def does with the lambda that it is handed as its only argument -/
def GivesG (X : Cx) (Ng : List Str) (x : Str) (sg : Scope) (g : Addr) (cdg : Value) (bg : List Stmt) (a : Str) (q : Str) (TT : (XK → Hp → VK → Prop) → Hp → VK → Prop) : Prop :=
  ∀ (f c' : Addr) (s : Shared) (H : Hp) (Q : VK) (tl : XK → Hp → VK → Prop), NoG (X.A.deeper (envOfC x sg s.heap.objs.size g cdg)) →
    (∀ (W : WX) (pn : List (Addr × Obj)) (xe : Value → Shared → Prop) (E : XK) (p1 p2 : Pos), Takes ((cxOf C8.CX0 X.prog X.w X.K X.mg X.base Ng x sg g cdg X.A X.stack s H C8.E0).tr pn xe) W →
      PE ((cxOf C8.CX0 X.prog X.w X.K X.mg X.base Ng x sg g cdg X.A X.stack s H C8.E0).tr pn xe) (.Call (.Name a p1) [] [] p2) (fun σZ HZ Q => σZ[0]? = some (some (.ref f)) ∧ HZ c' = some (CodeO c' q) ∧ (∀ cls d H', E cls d H' → W cls d σZ H') ∧ tl E HZ Q)) →
    Room 1 (X.A.deeper (envOfC x sg s.heap.objs.size g cdg)) → H c' = some (CodeO c' q) → TT tl H Q →
    ∃ t, PSs (cxOf C8.CX0 X.prog X.w X.K X.mg X.base Ng x sg g cdg X.A X.stack s H C8.E0).nox bg t ∧ t { nx := fun _ H' => Q .non H', rt := Q } (L2.start Ng [.ref f]) H
end
section
variable {X : Cx}
/-- x(lambda: body) -/
theorem pe_lamG {T : List (Addr × Str)} {TT : (XK → Hp → VK → Prop) → Hp → VK → Prop} {x a : Str} {g c P : Addr} {k : Nat} {pg : Arguments} {bg : List Stmt} {sg : Scope} {dV kV doc pm cdv ct oc : Value} {an od : Option Addr} {osl : Array (Option Value)} {Ng : List Str}
    {params : Arguments} {body : Expr} {scope : Scope} {t : XK → TE} {p lpos pos : Pos} (ng : NoG X.A) (hg : Gl X x) (hm : X.mg x = some (.ref g)) (hk : PySem.W.keepIn X.K (.ref g) = true)
    (lk : X.K.lookup g = some ⟨oc, od, .func (PySem.W.fnOf x x pg bg sg dV kV doc pm an cdv ct), osl⟩) (hcg : PySem.W.codeIn X.K cdv x = true) (hb : L2.Binds X.K (PySem.W.fnOf x x pg bg sg dV kV doc pm an cdv ct) [a] []) (Sg : FnScope Ng [a] sg) (hNg : Ng[0]? = some a) (hva : Vis sg a)
    (hG : GivesG X Ng x sg g cdv bg a (X.env.qual ++ "<lambda>") TT)
    (TB : TabB X.base X.mg c P) (hcode : X.env.code = .ref c) (hmT : (P, X.env.qual ++ "<lambda>") ∈ T) (hu : ∀ p ∈ T, p.1 = P → p.2 = X.env.qual ++ "<lambda>") (hr : Room (k + 2) X.A) (L : LamS X.env.scope scope) (hdef : defaultsOf params X.env = ([], []))
    (hbind : ∀ (q : Str) (cl : List (Str × Addr)) (pm cv ctv : Value), bindArgs (PySem.W.kla_fn "<lambda>" q params body scope cl pm cv ctv) ⟨[], []⟩ = pure [])
    (hbody : ∀ (A : Around) (outer : List Env) (s : Shared) (H : Hp) (E : XK) (f c' : Addr), NoG (A.deeper (lamEnv X scope s.heap.objs.size f c')) → Room k (A.deeper (lamEnv X scope s.heap.objs.size f c')) → PE (lamCx X A outer s H E scope f c') body (t E))
    (hdb : (x == ("__debug__" : Str)) = false := by decide) (hd : (a == ("__debug__" : Str)) = false := by decide) (hcd : (a == ("__classdict__" : Str)) = false := by decide) :
    PE X (.Call (.Name x p) [.Lambda params body scope lpos] [] pos) (tLam T TT t) := by
  refine ⟨fun pins s σ H Q I ⟨tabs, h⟩ => ?_⟩
  refine wpAny_Call_Name_kw (ld_glob I hg hm (PySem.W.callWith_K (h₀ := X.base) I.ok.mod.kin hk ?_ (by rfl) (by rfl)) hdb)
  show wpAny _ _ (spliced ((false, eval (.Lambda params body scope lpos) X.env) :: backTo pos (starEach [] X.env))) _ _ s
  refine Calls.spliced_cons (lam_make2 I TB hcode hmT hu tabs hdef (L.has I.ok) fun f c' pm' ctv H1 s' I1 eN T1 hf hfn hfr hco => Calls.spliced_nil ⟨I1.kIn, ?_⟩)
  have run : codeAny (model X.prog X.w) X.A (.call (.ref g) ⟨[.ref f], []⟩) (CR C8.CX0 X.stack X.prog X.w H1 s' Q C8.E0) s' := by
    refine run_ofS (N := Ng) (ps := [a]) (us := [.ref f]) (vs := [.ref f]) lk hcg Sg hr I1.env0 (hb s' [.ref f] I1.kIn rfl) (.cons rfl .nil) rfl fun hr' => ?_
    obtain ⟨t', ht', hq'⟩ := hG f c' s' H1 Q (fun E H' Q' => t E σ H' Q') (ng.deeper _) (fun W pn xe E p1 p2 tk => act_G (i := 0) ng I1 L hf hfn hfr (hbind _ _ _ _ _) tk hr' (fun A outer s H n hr2 => hbody A outer s H E f c' n hr2) hNg hva hd hcd) (hr'.mono (by omega)) hco (h H1 eN T1)
    exact ⟨t', ht'.nox, hq'⟩
  refine wpAny_call (codeAny_mono run fun r s2 hq => ?_)
  match r, hq with
  | .error e, hq => exact (show False from hq).elim
  | .ok (.ret u), hq => exact I1.after hq
  | .ok .next, hq => exact hq.elim
  | .ok .brk, hq => exact hq.elim
  | .ok .cont, hq => exact hq.elim
end
end AZ

set_option Elab.async false
set_option maxRecDepth 100000
set_option maxHeartbeats 4000000
set_option linter.all false
/-! Own work: a caught error that lives on behind its except clause. -/
namespace AZ
open PySem L2 PyProof.Rows
/-- at a: an error of the class cls that was caught, its dict at d -/
def exk (a : Addr) (cls : Value) (d : Option Addr) : HO := .ext fun h => ∃ oe vs, h.get? a = some oe ∧ Zc cls d oe ∧ oe.data = .fields vs
theorem exk_ok {P : Program} {w : World} {H : Hp} {h : Heap} {a : Addr} {cls : Value} {d : Option Addr} {oe : Obj} {vs : Array Value} (e : h.get? a = some oe) (z : Zc cls d oe) (f : oe.data = .fields vs) : ObjOk P w H h a (exk a cls d) :=
  ⟨⟨oe, vs, e, z, f⟩, ⟨oe, e⟩, fun _ _ ⟨o, v, q, r⟩ k => ⟨o, v, k o q, r⟩⟩
theorem exk_at {P : Program} {w : World} {H : Hp} {h : Heap} {a : Addr} {cls : Value} {d : Option Addr} (hok : HOk P w H h) (e : H a = some (exk a cls d)) : ∃ oe vs, h.get? a = some oe ∧ Zc cls d oe ∧ oe.data = .fields vs := by
  have x : ObjOk P w H h a (.ext fun h => ∃ oe vs, h.get? a = some oe ∧ Zc cls d oe ∧ oe.data = .fields vs) := hok a _ e
  exact x.1
section
variable {X : Cx} {pins : List (Addr × Obj)} {σ : L2.St} {H : Hp} {s : Shared}
/-- an object that was not there at the entry is told from now on -/
theorem track {a : Addr} {o : HO} {ob : Obj} (J : Inv X pins σ H s) (na : H a = none) (n0 : X.s_0.heap.get? a = none) (hob : s.heap.get? a = some ob) (ok : ObjOk X.prog X.w (upd H a o) s.heap a o) (nL : a ≠ X.env.locals) (nc : ∀ v, ob.data ≠ .cell v)
    (np : ∀ p ∈ X.pn ++ pins, p.1 ≠ a) : Inv X pins σ (upd H a o) s := by
  have ne : ∀ {b : Addr} {u : HO}, H b = some u → b ≠ a := fun e => ne_of_none e na
  refine ⟨J.ok, J.os, J.bare, ⟨J.base.keep, J.base.slot, fun b o' e n hx => ?_, J.base.there, fun b xs e => ?_, fun b o' u e => ?_, fun b ps e => ?_⟩, J.loc, J.cell, ?_, fun y c e => ?_, fun p hp => ?_, fun b u e => ?_, J.len⟩
  · have hb : b ≠ a := fun z => by rw [z, n0] at e; cases e
    rw [upd_ne hb]; exact J.base.free b o' e n hx
  · have q := J.base.tups b xs e
    rw [upd_ne (ne q)]; exact q
  · have q := J.base.frzs b o' u e
    rw [upd_ne (ne q)]; exact q
  · obtain ⟨more, q⟩ := J.base.tbls b ps e
    exact ⟨more, by rw [upd_ne (ne q)]; exact q⟩
  · rw [upd_ne (Ne.symm nL)]; exact J.free
  · have hc : c ≠ a := fun z => by
      obtain ⟨v, oc, e1, e2⟩ := J.cell y c e
      rw [z, hob] at e1
      cases e1
      exact nc v e2
    rw [upd_ne hc]; exact J.freeC y c e
  · obtain ⟨e, n, nl, nf, dd⟩ := J.pin p hp
    exact ⟨e, by rw [upd_ne (np p hp)]; exact n, nl, nf, dd⟩
  · by_cases hb : b = a
    · subst hb
      rw [upd_same] at e
      cases e
      exact ok
    · rw [upd_ne hb] at e
      exact (J.hok b u e).stay (fun c v _ q => q) (fun c q => by rw [upd_ne (ne q)]; exact q) fun c xs q => by rw [upd_ne (ne q)]; exact q
end
/-- what the clause wishes of an error of the body: slot i is the clause's name; the error is told behind it -/
def wKeep (K : PySem.W.Frag) (c : Value) (i : Nat) (ts : Addr → Value → Option Addr → TS) (Wout : WX) (D : Ends) : WX := fun cls d σ H =>
  ∃ b, PySem.W.exmOne K cls c = some b ∧ (b = true → ∀ a, H a = none → ts a cls d { nx := fun σ' H' => H' a = none → D.nx (σ'.set i none) (upd H' a (exk a cls d)), rt := D.rt, bk := fun σ' H' => D.bk (σ'.set i none) H', ct := fun σ' H' => D.ct (σ'.set i none) H' } (σ.set i (some (.ref a))) H) ∧
    (b = false → Wout cls d σ H)
section
variable {X : Cx} {x n : Str} {c : Value} {i : Nat} {body suite : List Stmt} {b₀ : Stmt} {np pos pos' : Pos} {tb : WX → TS} {ts : Addr → Value → Option Addr → TS} {Wout : WX}
theorem ps_try_keep (hs : X.stack = X.env :: X.outer) (hf : X.env.frame = some X.env.locals) (hex : X.ex = []) (hN : X.N.Nodup) (hi : X.N[i]? = some n) (hln : X.env.kindOf n = some .local) (hc : Names X x c) (tk : Takes X Wout)
    (hb : ∀ (W : WX) (pn : List (Addr × Obj)) (xe : Value → Shared → Prop), Takes (X.tr pn xe) W → PassesOwn (model X.prog X.w) X.A X.env xe → PSs (X.tr pn xe) body (tb W))
    (hsu : ∀ (a : Addr) (oe : Obj) (cls : Value) (d : Option Addr) (pn : List (Addr × Obj)), Zc cls d oe → (∃ vs, oe.data = .fields vs) → PSs (X.suite a ((a, oe) :: pn)) (b₀ :: suite) (ts a cls d)) :
    PS X (.Try body [.ExceptHandler (some (.Name x np)) (some n) (b₀ :: suite) pos'] [] [] pos) (fun D σ H => tb (wKeep X.K c i ts Wout D) D σ H) := by
  refine ⟨fun pins s σ H D I h => wpAny_Try_except ?_⟩
  have ok := I.ok
  have frA : X.A.frames = some (X.env :: X.outer) := by rw [ok.frames, hs]
  have isL : Loc X.env.scope n := .inl hln
  refine wpAny_mono ((hb (wKeep X.K c i ts Wout D) (X.pn ++ pins) (fun e s₁ => wpAny (model X.prog X.w) X.A (noteFrame e X.env) (fun _ s₂ => wpAny (model X.prog X.w) X.A (setFlight e none) (fun _ s₃ =>
    wpAny (model X.prog X.w) X.A (handleBy e X.env [.ExceptHandler (some (.Name x np)) (some n) (b₀ :: suite) pos']) (SP X pins D) X.xe s₃) X.xe s₂) X.xe s₁) (fun u s' caught => ?_) PassesOwn.looking).run [] s σ H D (I.toTry _) h) (fun f s1 ends => ?_) fun e s1 z => z
  · obtain ⟨a, B, sI, pins', σ', H', cls, d, rfl, J0, nb, up, sky, na, os, ag, b, hb1, yes, no⟩ := caught
    have J : Inv X pins σ' H' sI := J0.ofTry ok
    have sky' : Sky B (X.env :: X.outer) a (Zc cls d) X.env.locals s'.heap := by rw [← hs]; exact sky
    show wpAny _ _ (noteFrame (.ref a) X.env) _ _ _
    refine Sky.land Zc.steady frA hf sky' fun h3 fl3 up3 => ?_
    have J3 : Inv X pins σ' H' { s' with heap := h3 } := J.landed nb fl3.1 (up.trans up3) os ag
    obtain ⟨oe3, vs3, he3, hz3, hd3⟩ := fl3.there
    have inNo : ∀ {h : Heap} {o : Obj} {vs : Array Value}, h.FunFrames B (X.env :: X.outer) → h.get? a = some o → o.data = .fields vs → a ∉ frs (X.env :: X.outer) := fun {h o vs} ff e dd hm => by
      obtain ⟨_, o', e', hnf⟩ := ff.mem hm
      rw [e] at e'; cases e'
      exact hnf _ dd
    have nfr := inNo fl3.2.2.1 he3 hd3
    have nL : a ≠ X.env.locals := fun z => nfr (List.mem_filterMap.mpr ⟨X.env, List.mem_cons_self, by rw [hf, z]⟩)
    have nF : a ∉ X.fs := fun hm => by
      obtain ⟨e, he, q⟩ := List.mem_filterMap.mp hm
      exact nfr (List.mem_filterMap.mpr ⟨e, List.mem_cons_of_mem _ he, q⟩)
    -- what stood there at the entry, and what is pinned, stands in the ground: a does not
    have nB : B.get? a = none := fl3.2.1
    have inB : ∀ {b : Addr} {o : Obj}, sI.heap.get? b = some o → b ∉ frs X.stack → b ≠ a := fun {b o} e h1 z => by
      have q := nb b o e h1
      rw [z, nB] at q; cases q
    have aStk : a ∉ frs X.stack := by rw [hs]; exact nfr
    have n0 : X.s_0.heap.get? a = none := by
      cases e : X.s_0.heap.get? a with
      | none => rfl
      | some o =>
        obtain ⟨o', e'⟩ := J.base.there a o e (by rw [hex]; exact fun z => nomatch z)
        exact absurd rfl (inB e' aStk)
    have npin : ∀ p ∈ X.pn ++ pins, p.1 ≠ a := fun p hp => by
      obtain ⟨e, _, nl, nf, _⟩ := J.pin p hp
      refine inB e fun hm => ?_
      rcases List.mem_cons.mp (J.stkSub _ hm) with z | z
      · exact nl z
      · exact nf z
    have S3 := J3.suite he3 hd3 na nL nF
    refine wpAny_handleBy_cons (codeAny_handlers_test ?_) (by intro q; cases q)
    have LT : PySem.W.Looks (model X.prog X.w) h3 (typeOf (.ref a)) cls := fun A Q E s k q => wpAny_typeOf_ref (k _ _ he3) (by rw [hz3.1]; exact q)
    have LM := PySem.W.exm_one (M := model X.prog X.w) J3.kIn LT hb1
    have test : ∀ {Q : Value → Shared → Prop} {E : Value → Shared → Prop}, Q c { s' with heap := h3 } → wpAny (model X.prog X.w) (X.A.mark (some (.ref a))) (eval (.Name x np) X.env) Q E { s' with heap := h3 } := fun {Q E} q => by
      obtain ⟨hg, hdbg, hm | ⟨hm, hv, hnn⟩⟩ := hc
      · exact ld_glob (X := X.suite a ((a, oe3) :: (X.pn ++ pins))) S3 hg hm q hdbg
      · exact ld_blt (X := X.suite a ((a, oe3) :: (X.pn ++ pins))) S3 hg hm hv q hnn hdbg
    refine test (LM.here ?_)
    cases b with
    | true =>
      refine codeAny_handlers_suite_as (HandSPX.lands_againZ fl3 fun h4 fl4 up4 => ?_)
      have J4 : Inv X pins σ' H' { s' with heap := h4 } := J.landed nb fl4.1 ((up.trans up3).trans up4) os ag
      obtain ⟨oe4, vs4, he4, hz4, hd4⟩ := fl4.there
      have S4 := J4.suite he4 hd4 na nL nF
      refine store_ok (X := X.suite a ((a, oe4) :: (X.pn ++ pins))) (v := .ref a) S4 hN hi isL rfl (fun s5 S5 => ?_) (.inr hln)
      refine wpAny_mono ((hsu a oe4 cls d (X.pn ++ pins) hz4 ⟨_, hd4⟩).run [] s5 _ H' _ S5 (yes rfl a na)) (fun f s6 ends => ?_) fun _ _ z => False.elim z
      have fin : ∀ {σ6 : L2.St} {H6 : Hp} {Q : Shared → Prop}, Inv (X.suite a ((a, oe4) :: (X.pn ++ pins))) [] σ6 H6 s6 → (∀ s7, Inv X pins (σ6.set i none) H6 s7 → H6 a = none ∧ Inv X pins (σ6.set i none) (upd H6 a (exk a cls d)) s7 → Q s7) →
          wpAny (model X.prog X.w) X.A (do bindName X.env n .none; unbindBehindTheSuite X.env n pos') (fun _ s7 => Q s7) X.xe s6 := fun {σ6 H6 Q} S6 hq => gone_ok (X := X.suite a ((a, oe4) :: (X.pn ++ pins))) S6 hN hi hln fun s7 S7 => by
        obtain ⟨e7, n7, _, _, c7⟩ := S7.pin (a, oe4) (List.mem_append_left _ List.mem_cons_self)
        have J7 := S7.unsuite ok
        exact hq s7 J7 ⟨n7, track J7 n7 n0 e7 (exk_ok e7 hz4 hd4) nL (fun v z => by rw [hd4] at z; cases z) npin⟩
      cases f with
      | next =>
        obtain ⟨σ6, H6, S6, q6⟩ := ends
        exact fin S6 fun s7 J7 ⟨n7, t7⟩ => ⟨_, _, t7, q6 n7⟩
      | brk =>
        obtain ⟨σ6, H6, S6, q6⟩ := ends
        exact fin S6 fun s7 J7 _ => ⟨_, _, J7, q6⟩
      | cont =>
        obtain ⟨σ6, H6, S6, q6⟩ := ends
        exact fin S6 fun s7 J7 _ => ⟨_, _, J7, q6⟩
      | ret u =>
        obtain ⟨v6, σ6, H6, S6, r6, q6⟩ := ends
        exact fin S6 fun s7 J7 _ => ⟨_, _, _, J7, r6, q6⟩
    | false =>
      show wpAny _ X.A (handleBy (.ref a) X.env []) _ _ _
      refine wpAny_handleBy_nil ?_
      obtain ⟨_, _, _, oe, vs, T, oT, ts', he, hz, hd, h1, hr⟩ := id fl3
      unfold PySem.passOn
      refine wpAny_bind (wpAny_field he hd h1 ?_)
      rw [if_neg (show ¬ ((Value.ref T == Value.none) = true) from by simp)]
      have out : wpAny (model X.prog X.w) X.A (setFlight (.ref a) X.env.frame) (fun _ s4 => wpAny (model X.prog X.w) X.A (throw (.ref a) : Sem Flow) (SP X pins D) X.xe s4) X.xe { s' with heap := h3 } := by
        rw [hf]
        refine HandSPX.setFlight_upZ fl3 fun h4 hh4 up4 => wpAny_throw (tk _ _ ?_)
        exact ⟨a, B, sI, pins, σ', H', cls, d, rfl, J, nb, (up.trans up3).trans up4, .inr (.inr (by rw [hs]; exact hh4)), na, os, ag, no rfl⟩
      first
        | exact wpAny_bind (wpAny_pure (wpAny_bind out))
        | exact wpAny_bind out
  · cases f with
    | next =>
      obtain ⟨σ', H', J', q⟩ := ends
      exact wpAny_execs_nil ⟨σ', H', J'.ofTry ok, q⟩
    | brk =>
      obtain ⟨σ', H', J', q⟩ := ends
      exact ⟨σ', H', J'.ofTry ok, q⟩
    | cont =>
      obtain ⟨σ', H', J', q⟩ := ends
      exact ⟨σ', H', J'.ofTry ok, q⟩
    | ret u =>
      obtain ⟨v, σ', H', J', r, q⟩ := ends
      exact ⟨v, σ', H', J'.ofTry ok, r, q⟩
end
/-! ## the caught error is asked -/
def ErrK (H : Hp) (a C : Addr) (fs : List (Str × V)) : Prop := ∃ dx, H a = some (exk a (.ref C) (some dx)) ∧ H dx = some (.xd fs)
theorem ErrK.inst {X : Cx} {pins : List (Addr × Obj)} {σ : L2.St} {H : Hp} {s : Shared} {a C : Addr} {fs : List (Str × V)} (h : ErrK H a C fs) (I : Inv X pins σ H s) : ∃ (ox od : Obj) (mA : Str → Option Value), PySem.W.InstAt s.heap a ox C (some od) ∧ (∀ f, RelO (fs.lookup f) (mA f)) ∧ ∀ f, PySem.W.lookIn f od = some (mA f) := by
  obtain ⟨dx, ea, ed⟩ := h
  obtain ⟨oe, vs, ho, hz, hd⟩ := exk_at I.hok ea
  have hx : ObjOk X.prog X.w H s.heap dx (.xd fs) := I.hok dx _ ed
  obtain ⟨mA, hns, hr⟩ := hx
  obtain ⟨od, hod, hl⟩ := lookIn_ns hns
  exact ⟨oe, od, mA, ⟨ho, hz.1, by unfold PySem.W.notCls; rw [hd] <;> rfl, by rw [hz.2]; exact hod⟩, hr, hl⟩
section
variable {X : Cx} {e : Expr} {pos : Pos}
def tXfK (K : PySem.W.Frag) (f : Str) (te : TE) : TE := fun σ H Q => te σ H fun y H1 => ∃ a C fs v, y = .ref a ∧ XfC K C ∧ PySem.W.findIn K (.ref C) f = some none ∧ ErrK H1 a C fs ∧ fs.lookup f = some v ∧ Q v H1
theorem pe_xfK {n : Str} {te : TE} (he : PE X e te) (hb : attributeBase e n X.env (eval e X.env) = eval e X.env := by rfl) : PE X (.Attribute e n pos) (tXfK X.K n te) := by
  refine ⟨fun pins s σ H Q I h => attr_of hb (thn (he.run pins s σ H _ I h) fun u s1 hh => ?_)⟩
  obtain ⟨y, H1, I1, ry, a, C, fs, v, ey, T, no, ek, l, q⟩ := hh
  subst ey
  obtain rfl : u = Value.ref a := ry
  obtain ⟨ox, od, mA, J, hr, hl⟩ := ek.inst I1
  obtain ⟨u, hu, ru⟩ := RelO.some_of (v := v) (o := mA n) (by rw [← l]; exact hr n)
  exact HandSPX.exc_get I1.kIn J T.ga T.gg T.exC (PySem.W.findObj_own T.hdC no rfl (by rw [hl, hu])) (handed_of ru) ⟨v, H1, I1.tok _, ru, q⟩
def rIsEK (K : PySem.W.Frag) : List V → Hp → VK → Prop := fun xs H Q => ∃ (a S C fI : Addr) (nm : Str) (c : V) (u : Value) (b : Bool) (fs : List (Str × V)), xs = [.ref a, c] ∧ Gx K ∧ Ex K S C fI nm ∧ ErrK H a C fs ∧ ClsV c u ∧ PySem.W.kitOne K (.ref C) u = some b ∧ Q (.bl b) H
theorem call_isEK : CallR X (.builtin "isinstance") (rIsEK X.K) := by
  intro pins s σ H xs us Q I r h
  obtain ⟨a, S, C, fI, nm, c, u, b, fs, rfl, G, x, e, k, q, w⟩ := h
  obtain ⟨u1, u2, rfl, r1, r2⟩ := vals2 r
  obtain rfl : u1 = Value.ref a := r1
  have ec := k.eq r2
  subst ec
  obtain ⟨ox, od, mA, J, _, _⟩ := e.inst I
  obtain ⟨cd, hc, _⟩ := x.cls
  exact PySem.W.kia_one (PySem.W.kitx_exc (by rw [hc]; rfl) x.ga x.gg x.exc x.ca G.hn G.tk ((x.mro _).trans (by simp [PySem.HandSPX.veTail]))) I.kIn J q (fun z => nomatch z) fun tk => ⟨.bl b, H, I.tok _, rfl, w⟩
end
end AZ

set_option Elab.async false
set_option maxRecDepth 100000
set_option maxHeartbeats 4000000
set_option linter.all false
/-! Own work: the law's promise at the heap behind the top, with empty tables of code objects, no repr under way. -/
namespace AZ
open PySem L2 PyProof.Rows LamX
section
variable {P : Program} {w : World} {K : PySem.W.Frag} {mg mb : Str → Option Value} {k : Nat} {fa a : Addr} {cs : List (Addr × Addr)} {sp : Sp} {z : Shared} {vs : List Value} {ns : List Int}
/-- what the head knows of the tables -/
structure Tbs (K : PySem.W.Frag) (h : Heap) (cs : List (Addr × Addr)) : Prop where
  emp : ∀ p ∈ cs, h.get? p.2 = some { cls := .none, data := .fields #[] }
  out : ∀ p ∈ cs, K.lookup p.2 = none
  hd : ∀ p ∈ cs, PySem.W.CodeHd h p.1 p.2
theorem headT (kin : K.In z.heap) (hns : z.heap.Ns mainGlobals mg) (hmb : z.heap.Ns builtinsNs mb) (boot : ∀ x : Str, x ≠ "__name__" → mb x = bootBuiltins x) (lim : z.heap.NoLimit) (nogen : z.gens = #[]) (tb : Tbs K z.heap cs)
    (hbm : ∃ (bm : Addr) (ob : Obj), mg "__builtins__" = some (.ref bm) ∧ bm ≠ builtinsNs ∧ z.heap.get? bm = some ob ∧ ob.cls = .type "module" ∧ ob.dict = some builtinsNs ∧ ob.data = .plain)
    (room : Room k callerA) (F : ∀ base : Heap, K.In base → base.Ns mainGlobals mg → (∀ p ∈ cs, TabB base mg p.1 p.2) → FnG P w K mg base CX0 k fa sp)
    (prom : ∀ H : Hp, (∀ p ∈ cs, H p.2 = some (.tbl #[])) → SqL K H a (ns.map V.int) → sp [.ref a] H (fun v _ => v = .bl true) E0)
    (H : Hp) (at_ : ∀ p ∈ cs, H p.2 = some (.tbl #[])) (only : ∀ b, H b = none ∨ b ∈ cs.map (·.2) ∨ ∃ o xs, H b = some (.frz o (.lst xs))) (seq : SqL K H a (ns.map V.int)) (hok : HOk P w H z.heap)
    (just : ∀ b, H b ≠ none → (b = a ∧ K.lookup a = none) ∨ b ∈ cs.map (·.2)) (obj : z.heap.get? a = some { cls := .type "list", data := .seq vs.toArray }) :
    codeAny (model P w) callerA (.call (.ref fa) ⟨[.ref a], []⟩) (EndsTrue z) z := by
  have isT : ∀ {b : Addr}, b ∈ cs.map (·.2) → z.heap.get? b = some { cls := .none, data := .fields #[] } := fun {b} hb => by
    obtain ⟨p, hp, e⟩ := List.mem_map.mp hb
    rw [← e]; exact tb.emp p hp
  -- what is neither the script nor a table stands in the base
  have low : ∀ {b : Addr} {o : Obj}, z.heap.get? b = some o → (∀ us n, o.data ≠ .seq us n) → o.data ≠ .fields #[] → (hidT z.heap H).get? b = some o := fun {b o} e h1 h2 => hidT_get e (by
    cases q : H b with
    | none => rfl
    | some u =>
      rcases just b (by rw [q]; exact fun t => nomatch t) with ⟨rfl, _⟩ | hb
      · rw [obj] at e; cases e; exact (h1 _ _ rfl).elim
      · rw [isT hb] at e; cases e; exact (h2 rfl).elim)
  have names : ∀ b m, z.heap.Ns b m → (hidT z.heap H).Ns b m := fun b m ⟨o, es, ep, e, d, r⟩ => ⟨o, es, ep, low e (fun us n q => by rw [d] at q; cases q) (fun q => by rw [d] at q; cases q), d, r⟩
  have kinB : K.In (hidT z.heap H) := fun b o e => hidT_get (kin b o e) (by
    cases q : H b with
    | none => rfl
    | some u =>
      rcases just b (by rw [q]; exact fun t => nomatch t) with ⟨rfl, nk⟩ | hb
      · rw [nk] at e; cases e
      · obtain ⟨p, hp, ep⟩ := List.mem_map.mp hb
        rw [← ep, tb.out p hp] at e; cases e)
  obtain ⟨m2, l1, l2⟩ := lim
  have modB : L2.Mod K mg (hidT z.heap H) := ⟨kinB, names _ _ hns, ⟨mb, names _ _ hmb, boot⟩, ⟨m2, names _ _ l1, l2⟩⟩
  have tabs : ∀ p ∈ cs, TabB (hidT z.heap H) mg p.1 p.2 := fun p hp => by
    have empty := tb.emp p hp
    obtain ⟨oG, esG, epG, eG, dG, _⟩ := hns
    refine ⟨?_, ?_, fun q => ?_⟩
    · obtain ⟨o, us, file, tf, flags, tg, inF, text, tt, e1, r1, r2, r3, r4, r5, r6, r7, r8, hne⟩ := tb.hd p hp
      refine ⟨o, us, file, tf, flags, tg, inF, text, tt, low e1 (fun us' n q => ?_) (fun q => ?_), r1, r2, r3, r4, r5, r6, r7, r8, hne⟩
      · rw [r2] at q; cases q
      · rw [r2] at q
        cases q
        simp at r3
    · obtain ⟨bm, ob, b1, b2, b3, b4, b5, b6⟩ := hbm
      refine ⟨bm, ob, b1, b2, fun q => ?_, fun q => ?_, low b3 (fun us' n q => ?_) (fun q => ?_), b4, b5, b6⟩
      · rw [q, eG] at b3; cases b3; rw [dG] at b6; cases b6
      · rw [q, empty] at b3; cases b3; cases b6
      · rw [b6] at q; cases q
      · rw [b6] at q; cases q
    · rw [q, empty] at eG; cases eG; cases dG
  have env : Env0 P w K mg (hidT z.heap H) callerA [] z H := {
    frames := rfl
    mod := modB
    bs := fun _ _ e => of_hidT e
    bsz := Nat.le_of_eq (hidT_size ..)
    funs := trivial
    frf := fun _ t => nomatch t
    hok := hok
    bare := .of_eq nogen }
  refine codeAny_mono (F _ kinB (names _ _ hns) tabs callerA [] z H [.ref a] [.ref a] _ _ guards_caller room env (.cons rfl .nil) (prom H at_ seq)) fun r z' q => ?_
  match r, q with
  | .error _, q => exact q.elim
  | .ok .next, q => exact q.elim
  | .ok .brk, q => exact q.elim
  | .ok .cont, q => exact q.elim
  | .ok (.ret u), ⟨v, H2, os, bare, un, hok2, rel, tr⟩ =>
    subst tr
    obtain rfl : u = Value.bool true := rel
    have stays : ∀ b o, b ∉ cs.map (·.2) → z.heap.get? b = some o → z'.heap.get? b = some o := fun b o nb e => by
      rcases only b with n | n | ⟨ob, xs, n⟩
      · exact un.keep b o e n (fun t => nomatch t) (fun t => nomatch t)
      · exact absurd n nb
      · have g1 := (hok b _ n).1
        rw [e] at g1
        cases g1
        exact (hok2 b _ (un.frzs b _ _ n)).1
    have grown : ∀ p ∈ cs, ∃ more : Array Value, z'.heap.get? p.2 = some { cls := .none, data := .fields more } := fun p hp => by
      obtain ⟨more, q⟩ := un.tbls p.2 #[] (at_ p hp)
      exact ⟨_, hok2 p.2 _ q⟩
    refine ⟨rfl, ⟨fun b o e => ?_, fun b o e => ?_⟩, os, bare⟩
    · by_cases hb : b ∈ cs.map (·.2)
      · obtain ⟨p, hp, ep⟩ := List.mem_map.mp hb
        obtain ⟨more, hm⟩ := grown p hp
        have empty := tb.emp p hp
        rw [← ep] at e ⊢
        rw [empty] at e
        cases e
        exact .inr (.inl ⟨((tb.hd p hp).tab empty).isCodeTable, rfl, #[], more, rfl, by rw [Array.empty_append]; exact hm⟩)
      · exact .inl (stays b o hb e)
    · by_cases hb : b ∈ cs.map (·.2)
      · obtain ⟨p, hp, ep⟩ := List.mem_map.mp hb
        obtain ⟨more, hm⟩ := grown p hp
        rw [← ep]
        exact ⟨_, hm⟩
      · exact ⟨o, stays b o hb e⟩
theorem lawT (kin : K.In z.heap) (hns : z.heap.Ns mainGlobals mg) (hmb : z.heap.Ns builtinsNs mb) (boot : ∀ x : Str, x ≠ "__name__" → mb x = bootBuiltins x) (lim : z.heap.NoLimit) (nogen : z.gens = #[]) (tb : Tbs K z.heap cs)
    (hbm : ∃ (bm : Addr) (ob : Obj), mg "__builtins__" = some (.ref bm) ∧ bm ≠ builtinsNs ∧ z.heap.get? bm = some ob ∧ ob.cls = .type "module" ∧ ob.dict = some builtinsNs ∧ ob.data = .plain)
    (obj : z.heap.get? a = some { cls := .type "list", data := .seq vs.toArray }) (isI : IntsAre vs ns) (few : ns.length ≤ sizeLine)
    (room : Room k callerA) (F : ∀ base : Heap, K.In base → base.Ns mainGlobals mg → (∀ p ∈ cs, TabB base mg p.1 p.2) → FnG P w K mg base CX0 k fa sp)
    (prom : ∀ H : Hp, (∀ p ∈ cs, H p.2 = some (.tbl #[])) → SqL K H a (ns.map V.int) → sp [.ref a] H (fun v _ => v = .bl true) E0) :
    codeAny (model P w) callerA (.call (.ref fa) ⟨[.ref a], []⟩) (EndsTrue z) z := by
  have isT : ∀ {b : Addr}, b ∈ cs.map (·.2) → z.heap.get? b = some { cls := .none, data := .fields #[] } := fun {b} hb => by
    obtain ⟨p, hp, e⟩ := List.mem_map.mp hb
    rw [← e]; exact tb.emp p hp
  have aT : a ∉ cs.map (·.2) := fun h => by
    have q := isT h
    rw [obj] at q
    have q' : Data.seq vs.toArray _ = Data.fields #[] := congrArg Obj.data (Option.some.inj q)
    cases q'
  have mem : ∀ p ∈ cs, p.2 ∈ cs.map (·.2) := fun p hp => List.mem_map.mpr ⟨p, hp, rfl⟩
  cases own : K.lookup a with
  | some o =>
    have same := kin a o own
    rw [obj] at same
    cases same
    refine headT kin hns hmb boot lim nogen tb hbm room F prom (fun b => if b ∈ cs.map (·.2) then some (.tbl #[]) else none) (fun p hp => if_pos (mem p hp)) (fun b => ?_) (.inr ⟨_, vs.toArray, _, own, rfl, rfl, rfl, ?_, vals_ints isI⟩) (fun b u t => ?_) (fun b t => ?_) obj
    · by_cases hb : b ∈ cs.map (·.2)
      · exact .inr (.inl hb)
      · exact .inl (if_neg hb)
    · rw [List.size_toArray, isI.length]; exact few
    · by_cases hb : b ∈ cs.map (·.2)
      · have t' := (if_pos hb).symm.trans t
        cases t'
        exact isT hb
      · have t' := (if_neg hb).symm.trans t
        cases t'
    · by_cases hb : b ∈ cs.map (·.2)
      · exact .inr hb
      · exact absurd (if_neg hb) t
  | none =>
    refine headT kin hns hmb boot lim nogen tb hbm room F prom (fun b => if b = a then some (.frz { cls := .type "list", data := .seq vs.toArray } (.lst (ns.map V.int))) else if b ∈ cs.map (·.2) then some (.tbl #[]) else none)
      (fun p hp => (if_neg (show ¬ p.2 = a from fun q => aT (by rw [← q]; exact mem p hp))).trans (if_pos (mem p hp))) (fun b => ?_) (.inl (.inr ⟨_, if_pos rfl⟩)) (fun b u t => ?_) (fun b t => ?_) obj
    · by_cases h : b = a
      · exact .inr (.inr ⟨_, _, if_pos h⟩)
      · by_cases hb : b ∈ cs.map (·.2)
        · exact .inr (.inl hb)
        · exact .inl ((if_neg h).trans (if_neg hb))
    · by_cases h : b = a
      · have t' := (if_pos h).symm.trans t
        cases t'
        rw [h]
        exact ⟨obj, by rw [List.length_map]; exact few, vs, _, vals_ints isI, obj⟩
      · have t1 := (if_neg h).symm.trans t
        by_cases hb : b ∈ cs.map (·.2)
        · have t' := (if_pos hb).symm.trans t1
          cases t'
          exact isT hb
        · have t' := (if_neg hb).symm.trans t1
          cases t'
    · by_cases h : b = a
      · exact .inl ⟨h, own⟩
      · by_cases hb : b ∈ cs.map (·.2)
        · exact .inr hb
        · exact absurd ((if_neg h).trans (if_neg hb)) t
end
/-- the table of the def that stands at f (its code object at c, the table at P), by the written part -/
structure TabK (K : PySem.W.Frag) (f c P : Addr) : Prop where
  fn : ∃ (o : Obj) (fd : FuncData), K.lookup f = some o ∧ o.data = .func fd ∧ fd.code = .ref c
  code : ∃ (e : Value) (dd : Option Addr) (vs : Array Value) (sl : Array (Option Value)), K.lookup c = some ⟨e, dd, .fields vs, sl⟩ ∧ vs[11]? = some (.ref P)
  out : K.lookup P = none
  hd : PySem.W.codeHdIn K c P = true
/-- the goal of the head, from the law's promise; tn: the defs that make lambdas -/
theorem walkT {l : PySem.W.OpenLaw} {n k : Nat} {q : Program} {loose : List Str} {XP : (Str → Option Value) → Heap → Prop} {YP : World → Heap → Prop} {d : DefRec} {K : Params → PySem.W.Frag} {sp : PySem.W.Frag → List (Addr × Addr) → Sp}
    (hn : l.most = some n) (hn2 : n ≤ sizeLine) (hdf : d.params.defaults = []) (room : Room k callerA) (hY : ∀ (w : World) (h : Heap), YP w h → (K w.params).In h)
    (F : ∀ (w : World) (mg : Str → Option Value) (fa : Addr) (h : Heap), (K w.params).In h → h.Ns mainGlobals mg → mg d.name = some (.ref fa) →
      ∃ cs : List (Addr × Addr), (∀ p ∈ cs, ∃ (x : Str) (f : Addr), ((recsOf q).any fun e => e.name == x) = true ∧ mg x = some (.ref f) ∧ TabK (K w.params) f p.1 p.2) ∧
        (∀ base : Heap, (K w.params).In base → base.Ns mainGlobals mg → (∀ p ∈ cs, TabB base mg p.1 p.2) → FnG l.prog w (K w.params) mg base CX0 k fa (sp (K w.params) cs)))
    (prom : ∀ (K : PySem.W.Frag) (cs : List (Addr × Addr)) (H : Hp) (a : Addr) (ns : List Int), ns.length ≤ n → (∀ p ∈ cs, H p.2 = some (.tbl #[])) → SqL K H a (ns.map V.int) → sp K cs [.ref a] H (fun v _ => v = .bl true) E0) :
    PySem.W.WalkO q loose XP YP l.row.toRowW d [] (fun f vs => PySem.call f vs) := by
  refine Att.attach_callB hn hdf fun w s₀ z mg mb fa o pm cd doc a vs ns G Y ho hd hcd hmg obj isI few bits nogen => ?_
  have KX := hY w _ Y
  obtain ⟨cs, tc, hF⟩ := F w mg fa _ KX G.T.g hmg
  refine lawT KX G.T.g G.T.b G.T.builtins G.T.nolimit nogen ⟨fun p hp => ?_, fun p hp => ?_, fun p hp => ?_⟩ G.T.bmain obj isI (Nat.le_trans few hn2) room hF fun H at_ s => prom _ cs H a ns few at_ s
  · obtain ⟨x, f, hx, hm, t⟩ := tc p hp
    obtain ⟨o1, fd1, k1, k2, k3⟩ := t.fn
    obtain ⟨e1, dd1, vs1, sl1, k4, k5⟩ := t.code
    obtain ⟨dL, hmem, hn1⟩ := List.any_eq_true.mp hx
    have hn3 : dL.name = x := beq_iff_eq.mp hn1
    obtain ⟨a', o', fd', c', P', h1, h2, h3, h4, h5, h6⟩ := G.T.tab dL hmem
    rw [hn3, hm] at h1
    cases h1
    rw [KX _ _ k1] at h2
    cases h2
    rw [k2] at h3
    cases h3
    rw [k3] at h4
    cases h4
    obtain ⟨⟨oc, vc, e2, _, e3, e4⟩, hP⟩ := h6
    rw [KX _ _ k4] at e2
    cases e2
    cases e3
    rw [k5] at e4
    cases e4
    exact hP
  · obtain ⟨x, f, hx, hm, t⟩ := tc p hp
    exact t.out
  · obtain ⟨x, f, hx, hm, t⟩ := tc p hp
    exact PySem.W.codeHd_of_K KX t.hd
end AZ

set_option Elab.async false
set_option maxRecDepth 100000
set_option maxHeartbeats 4000000
set_option linter.all false
/-! Own work: promises of defs that raise; values that are no numbers. -/
namespace AZ
open PySem L2 PyProof.Rows LamX
section
variable {P : Program} {w : World} {K : PySem.W.Frag} {mg : Str → Option Value} {base : Heap} {k : Nat} {f : Addr} {sp : Sp} {x qual : Str} {st : Stmt} {fd : FuncData} {N ps : List Str}
/-- a def that may raise, by its body -/
theorem fnX_of (F : Fun K x qual st f fd) (S : FnScope N ps (defScope st)) (len : ∀ vs H Q E, sp vs H Q E → vs.length = ps.length)
    (bd : ∀ (cdv : Value) (A : Around) (out : List Env) (z : Shared) (G : Hp) (vs : List V) (Q : VK) (E : XK), NoG (A.deeper (envOfC qual (defScope st) z.heap.objs.size f cdv)) →
      Room k (A.deeper (envOfC qual (defScope st) z.heap.objs.size f cdv)) → Takes (cxOf (CXx P w) P w K mg base N qual (defScope st) f cdv A out z G E) (fun cls d _ H => E cls d H) → sp vs G Q E →
      ∃ t, PSs (cxOf (CXx P w) P w K mg base N qual (defScope st) f cdv A out z G E) (defBody st) t ∧ t { nx := fun _ H' => Q .non H', rt := Q } (start N vs) G) (hb : Binds K fd ps []) : FnG P w K mg base (CXx P w) (k + 1) f sp :=
  (fnOG (CX := CXx P w) F S len fun cdv A out z G vs Q E ng hr h => bd cdv A out z G vs Q E ng hr (takes_of rfl rfl rfl rfl) h).pos len hb
end
/-- what a call hands on of what its callee raises -/
theorem on {X : Cx} {E : XK} (tk : Takes X (fun cls d _ H => E cls d H)) : Passes (CXx X.prog X.w) X E := passes_call tk fun _ _ _ _ h => h
/-- no number: its type is not the class at C, it is no integer, and it is shown -/
structure Odd (K : PySem.W.Frag) (C : Addr) (H : Hp) (v : V) (e : PyData) : Prop where
  ty : ∃ T, TyX K H v (.type T) ∧ PySem.W.kitOne K (.type T) (.ref C) = some false ∧ PySem.W.notFirst K C (.type T) = true ∧ ∃ b1 b2, PySem.W.kitOne K (.type T) (.type "int") = some b1 ∧ PySem.W.kitOne K (.type T) (.type "bool") = some b2 ∧ (b1 && !b2) = false
  sh : Sh K H v e
  shn : Shn e
/-- what is raised for v -/
def Rai (CB : Addr) (v : V) (H : Hp) (E : XK) : Prop := ∀ dx, H dx = none → E (.ref CB) (some dx) (upd H dx (.xd [("value", v)]))
def spOfX (K : PySem.W.Frag) (C CB : Addr) : Sp := fun vs H _ E => ∃ v e, vs = [v] ∧ Odd K C H v e ∧ Rai CB v H E
def spCmpX (K : PySem.W.Frag) (C CB : Addr) : Sp := fun vs H _ E => ∃ a v e dx fs, vs = [.ref a, v] ∧ H a = some (.ins C dx fs) ∧ Odd K C H v e ∧ Rai CB v H E
end AZ

set_option Elab.async false
set_option maxRecDepth 100000
set_option maxHeartbeats 4000000
set_option linter.all false
/-! Own work: an int compared with an instance: the instance's own comparison, turned about; == and != beside values of other types; is True, is False. -/
namespace AZ
open PySem PySem.Spec PySem.W PySem.Calls PyProof.Rows
section
variable {prog : Program} {w : World} {A : Around} {E : Value → Shared → Prop} {s : Shared} {K : Frag} {x C L f g dx : Addr} {h₀ : Heap} {m : Str → Option Value} {ox : Obj} {od : Option Obj} {name : Str} {b tb : Value} {i : Int} {t : Tok}
/-- what an int's comparison does beside an instance: it declines -/
def IntDecC (op : CmpOp) : Prop := ∀ {prog : Program} {w : World} {A : Around} {E : Value → Shared → Prop} {s : Shared} {x C dx : Addr} {i : Int} {t : Tok} {Q : Option Value → Shared → Prop}, s.heap.get? x = some (instObj C dx) → Q none s →
  wpAny (model prog w) A (tryCompare (.int i t) (cmpInfo op).2.1 (.ref x)) Q E s
theorem decC_lt : IntDecC .Lt := fun {prog w A E s x C dx i t Q} hx q => by
  refine wpAny_tryCompare_declines (T := "int") (id := "int.__lt__") (typeIs_int s i t) PySem.F.slot_int_lt (wpAny_call_entry PySem.F.slot_int_lt (typeIs_int s i t) PySem.F.entry_int_lt ?_ (PySem.F.args_int_lt_2 _ _))
  unfold Builtin.«int.__lt__»
  exact intBin_dec hx ⟨_, rfl, rfl, q⟩
theorem decC_le : IntDecC .LtE := fun {prog w A E s x C dx i t Q} hx q => by
  refine wpAny_tryCompare_declines (T := "int") (id := "int.__le__") (typeIs_int s i t) PySem.F.slot_int_le (wpAny_call_entry PySem.F.slot_int_le (typeIs_int s i t) PySem.F.entry_int_le ?_ (PySem.F.args_int_le_2 _ _))
  unfold Builtin.«int.__le__»
  exact intBin_dec hx ⟨_, rfl, rfl, q⟩
theorem decC_gt : IntDecC .Gt := fun {prog w A E s x C dx i t Q} hx q => by
  refine wpAny_tryCompare_declines (T := "int") (id := "int.__gt__") (typeIs_int s i t) PySem.F.slot_int_gt (wpAny_call_entry PySem.F.slot_int_gt (typeIs_int s i t) PySem.F.entry_int_gt ?_ (PySem.F.args_int_gt_2 _ _))
  unfold Builtin.«int.__gt__»
  exact intBin_dec hx ⟨_, rfl, rfl, q⟩
theorem decC_ge : IntDecC .GtE := fun {prog w A E s x C dx i t Q} hx q => by
  refine wpAny_tryCompare_declines (T := "int") (id := "int.__ge__") (typeIs_int s i t) PySem.F.slot_int_ge (wpAny_call_entry PySem.F.slot_int_ge (typeIs_int s i t) PySem.F.entry_int_ge ?_ (PySem.F.args_int_ge_2 _ _))
  unfold Builtin.«int.__ge__»
  exact intBin_dec hx ⟨_, rfl, rfl, q⟩
theorem decC_eq : IntDecC .Eq := fun {prog w A E s x C dx i t Q} hx q => by
  refine wpAny_tryCompare_declines (T := "int") (id := "int.__eq__") (typeIs_int s i t) PySem.F.slot_int_eq (wpAny_call_entry PySem.F.slot_int_eq (typeIs_int s i t) PySem.F.entry_int_eq ?_ (PySem.F.args_int_eq_2 _ _))
  unfold Builtin.«int.__eq__»
  exact intBin_dec hx ⟨_, rfl, rfl, q⟩
theorem decC_ne : IntDecC .NotEq := fun {prog w A E s x C dx i t Q} hx q => by
  refine wpAny_tryCompare_declines (T := "int") (id := "int.__ne__") (typeIs_int s i t) PySem.F.slot_int_ne (wpAny_call_entry PySem.F.slot_int_ne (typeIs_int s i t) PySem.F.entry_int_ne ?_ (PySem.F.args_int_ne_2 _ _))
  unfold Builtin.«int.__ne__»
  exact intBin_dec hx ⟨_, rfl, rfl, q⟩
/-- int, comparison, instance -/
theorem cmp_refl {op : CmpOp} {Q : Value → Shared → Prop} (D : IntDecC op) (hu : A.units < cLine) (F : Fr h₀ L s.heap m) (X₀ : K.In h₀) (I : InstAt s.heap x ox C od) (hx : s.heap.get? x = some (instObj C dx)) (hs2 : subIn K (.ref C) (.type "int") = some false)
    (one : wpAny (model prog w) A (tryCompare (.ref x) (cmpInfo op).2.2 (.int i t)) (fun r s' => ∃ v, r = some v ∧ Q v s') E s) (hth : oneThing? op (.int i t) (.ref x) = none := by rfl) : wpAny (model prog w) A (richCompare op (.int i t) (.ref x)) Q E s := by
  have X := X₀.keeps F.keep
  have L1 : Looks (model prog w) s.heap (typeOf (.int i t)) (.type "int") := Looks.of_pure rfl
  unfold richCompare
  rw [hth]
  refine wpAny_holding (wpAny_bind (wpAny_cRoomFor hu ?_))
  refine wpAny_bind (L1.here (wpAny_bind (I.type.here ?_)))
  have hne : (Value.type "int" != Value.ref C) = true := by
    show (!(Value.type "int" == Value.ref C)) = true
    rw [show (Value.type "int" == Value.ref C) = false from Bool.eq_false_iff.mpr fun q => by cases beq_iff_eq.mp q]
    rfl
  rw [if_pos hne]
  refine wpAny_bind ((looks_subIn X hs2).here ?_)
  simp only [Bool.false_eq_true, if_false]
  refine wpAny_bind (D hx ?_)
  simp only [Bool.not_false, if_true]
  refine wpAny_bind (wpAny_mono one (fun r s' z => ?_) fun _ _ e => e)
  obtain ⟨v, rfl, hq⟩ := z
  exact wpAny_pure hq
end
end AZ
namespace AZ
open PySem L2 PyProof.Rows
theorem sub_of_kit {K : PySem.W.Frag} {C : Addr} (h : PySem.W.kitOne K (.ref C) (.type "int") = some false) : PySem.W.subIn K (.ref C) (.type "int") = some false := by
  unfold PySem.W.kitOne PySem.W.kitCls at h
  rw [if_neg (by intro q; cases (beq_iff_eq.mp q))] at h
  dsimp only at h
  rw [if_pos (by decide +kernel)] at h
  exact h
section
variable {X : Cx}
/-- int < own and the like: the own one, turned about; opr: the own operator that is asked -/
def rReflC (X : Cx) (opr : CmpOp) : R2 := fun x y H Q => ∃ (j : Int) (a C dx : Addr) (fs : List (Str × V)) (f : Addr) (CX : CXT) (k : Nat) (sp : Sp) (E : XK),
  x = .int j ∧ y = .ref a ∧ H a = some (.ins C dx fs) ∧ CmpM X.K C opr f ∧ PySem.W.kitOne X.K (.ref C) (.type "int") = some false ∧ FnR X.prog X.w X.K X.mg X.base CX k f sp ∧ Room k X.A ∧ Passes CX X E ∧ sp [y, x] H Q E
theorem op_reflC {op : CmpOp} (opr : CmpOp) (he : (cmpInfo op).2.2 = (cmpInfo opr).2.1) (D : IntDecC op) (hop : ∀ a b, compareOp op a b = richCompare op a b := by intro _ _; rfl) (hth : ∀ (i : Int) (t : Tok) (x : Addr), oneThing? op (.int i t) (.ref x) = none := by intro _ _ _; rfl) : OpR X (compareOp op) (rReflC X opr) := by
  intro pins s σ H x y v u Q I rx ry h
  obtain ⟨j, a, C, dx, fs, f, CX, k, sp, E, rfl, rfl, ha, hM, ki, F, hr, hx, hs⟩ := h
  obtain ⟨t, rfl⟩ := id rx
  obtain rfl : u = Value.ref a := ry
  have hc : wpAny (model X.prog X.w) X.A (call (.ref f) [.ref a, .int j t]) (PySem.W.CmpBack (EP X pins σ Q)) X.xe s :=
    thn (wpAny_call (run_fnR (us := [.ref a, .int j t]) (vs := [.ref a, .int j]) F hr hx I (.cons rfl (.cons rx .nil)) hs)) fun _ _ z => cmpBack_of z
  obtain ⟨mA, J, _⟩ := ins_get I.hok ha
  have hobj := J.obj
  obtain ⟨od, J, _⟩ := J.look
  obtain ⟨m, hF⟩ := I.fr
  rw [hop]
  refine cmp_refl D hr.units0 hF I.ok.mod.kin J hobj (sub_of_kit ki) ?_ (hth j t a)
  rw [he]
  unfold tryCompare
  refine wpAny_bind (PySem.W.ifBound_K I.kIn J hM.hs hM.hf (wpAny_mono hc (fun v s' hv => ?_) fun _ _ e => e))
  cases v <;> first | exact hv.elim | exact wpAny_pure ⟨_, rfl, hv⟩
/-- int != own -/
def rReflN (X : Cx) : R2 := fun x y H Q => ∃ (j : Int) (a C dx : Addr) (fs : List (Str × V)) (f : Addr) (CX : CXT) (k : Nat) (sp : Sp) (E : XK),
  x = .int j ∧ y = .ref a ∧ H a = some (.ins C dx fs) ∧ NeM X.K C f ∧ PySem.W.kitOne X.K (.ref C) (.type "int") = some false ∧ FnR X.prog X.w X.K X.mg X.base CX k f sp ∧ Room (k + 1) X.A ∧ Passes CX X E ∧ sp [y, x] H (fun v H1 => ∃ r, v = .bl r ∧ Q (.bl (!r)) H1) E
theorem op_reflN : OpR X (compareOp .NotEq) (rReflN X) := by
  intro pins s σ H x y v u Q I rx ry h
  obtain ⟨j, a, C, dx, fs, f, CX, k, sp, E, rfl, rfl, ha, hM, ki, F, hr, hx, hs⟩ := h
  obtain ⟨t, rfl⟩ := id rx
  obtain rfl : u = Value.ref a := ry
  have hc : wpAny (model X.prog X.w) X.A.in1 (call (.ref f) [.ref a, .int j t]) (fun v s' => ∃ r, v = .bool r ∧ EP X pins σ Q (.bool (!r)) s') X.xe s :=
    thn (wpAny_call (run_fnS (us := [.ref a, .int j t]) (vs := [.ref a, .int j]) ⟨hr.in1, rfl⟩ F hx I (.cons rfl (.cons rx .nil)) hs)) fun v s1 z => by
      obtain ⟨z, H1, I1, rz, r, rfl, q⟩ := z
      obtain rfl : v = Value.bool r := rz
      exact ⟨r, rfl, .bl (!r), H1, I1, rfl, q⟩
  obtain ⟨mA, J, _⟩ := ins_get I.hok ha
  have hobj := J.obj
  obtain ⟨od, J, _⟩ := J.look
  obtain ⟨m, hF⟩ := I.fr
  have hu : X.A.units + 1 < cLine := by have := hr.units; omega
  show wpAny (model X.prog X.w) X.A (richCompare .NotEq (.int j t) (.ref a)) (EP X pins σ Q) X.xe s
  exact cmp_refl (op := .NotEq) decC_ne (by omega) hF I.ok.mod.kin J hobj (sub_of_kit ki) (one_ne hu I.kIn J hM.hne hM.hs hM.hf hM.hm hc) (by rfl)
/-- own != a value of another built-in type -/
def rOwnNX (K : PySem.W.Frag) (C : Addr) (sp : Sp) (E : XK) : R2 := fun x y H Q => ∃ (a dx : Addr) (fs : List (Str × V)) (T : String), x = .ref a ∧ H a = some (.ins C dx fs) ∧ TyX K H y (.type T) ∧ PySem.W.notFirst K C (.type T) = true ∧ sp [x, y] H (fun v H1 => ∃ r, v = .bl r ∧ Q (.bl (!r)) H1) E
theorem op_ownNX {C f : Addr} {CX : CXT} {k : Nat} {sp : Sp} {E : XK} (hM : NeM X.K C f) (F : FnR X.prog X.w X.K X.mg X.base CX k f sp) (hr : Room (k + 1) X.A) (hx : Passes CX X E) : OpR X (compareOp .NotEq) (rOwnNX X.K C sp E) := by
  intro pins s σ H x y v u Q I rx ry h
  obtain ⟨a, dx, fs, T, rfl, ha, ty, nf, hs⟩ := h
  obtain rfl : v = Value.ref a := rx
  have hc : wpAny (model X.prog X.w) X.A.in1 (call (.ref f) [.ref a, u]) (fun v s' => ∃ r, v = .bool r ∧ EP X pins σ Q (.bool (!r)) s') X.xe s :=
    thn (wpAny_call (run_fnS (us := [.ref a, u]) (vs := [.ref a, y]) ⟨hr.in1, rfl⟩ F hx I (.cons rfl (.cons ry .nil)) hs)) fun v s1 z => by
      obtain ⟨z, H1, I1, rz, r, rfl, q⟩ := z
      obtain rfl : v = Value.bool r := rz
      exact ⟨r, rfl, .bl (!r), H1, I1, rfl, q⟩
  obtain ⟨mA, J, _⟩ := ins_get I.hok ha
  obtain ⟨od, J, _⟩ := J.look
  obtain ⟨m, hF⟩ := I.fr
  obtain ⟨Pz, Z, pz, _⟩ := kit_of I ry ty
  have hu : X.A.units + 1 < cLine := by have := hr.units; omega
  show wpAny (model X.prog X.w) X.A (richCompare .NotEq (.ref a) u) (EP X pins σ Q) X.xe s
  exact ne_K (tb := .type T) hu hF I.ok.mod.kin J (Z.ty _ _ I.kIn pz) nf hM.hne hM.hs hM.hf hM.hm hc
/-- e is True, e is False -/
theorem op_isB : OpR X (compareOp .Is) (fun x y H Q => ∃ a b, x = .bl a ∧ y = .bl b ∧ Q (.bl (a == b)) H) := by
  intro pins s σ H x y v u Q I rx ry h
  obtain ⟨a, b, rfl, rfl, q⟩ := h
  obtain rfl : v = Value.bool a := rx
  obtain rfl : u = Value.bool b := ry
  have e : compareOp .Is (.bool a) (.bool b) = (do return .bool (← isSame (.bool a) (.bool b))) := rfl
  rw [e]
  refine wpAny_bind ?_
  have e2 : isSame (.bool a) (.bool b) = pure (a == b) := by cases a <;> cases b <;> rfl
  rw [e2]
  exact wpAny_pure (wpAny_pure ⟨.bl (a == b), H, I, rfl, q⟩)
end
end AZ

set_option Elab.async false
set_option maxRecDepth 100000
set_option maxHeartbeats 4000000
set_option linter.all false
/-! Own work: defs that make lambdas; comparisons of all kinds. -/
namespace AZ
open PySem L2 PyProof.Rows LamX
section
variable {P : Program} {w : World} {K : PySem.W.Frag} {mg : Str → Option Value} {base : Heap} {k : Nat} {f : Addr} {sp : Sp} {x qual : Str} {st : Stmt} {fd : FuncData} {N ps : List Str}
/-- a def by its body, its code object known -/
theorem fnC_of (F : Fun K x qual st f fd) (S : FnScope N ps (defScope st)) (len : ∀ vs H Q E, sp vs H Q E → vs.length = ps.length)
    (bd : ∀ (cdv : Value) (A : Around) (out : List Env) (z : Shared) (G : Hp) (vs : List V) (Q : VK) (E : XK), (∀ o fd', K.lookup f = some o → o.data = .func fd' → fd'.code = cdv) → NoG (A.deeper (envOfC qual (defScope st) z.heap.objs.size f cdv)) →
      Room k (A.deeper (envOfC qual (defScope st) z.heap.objs.size f cdv)) → sp vs G Q E →
      ∃ t, PSs (cxOf CX0 P w K mg base N qual (defScope st) f cdv A out z G E).nox (defBody st) t ∧ t { nx := fun _ H' => Q .non H', rt := Q } (start N vs) G)
    (hb : Binds K fd ps []) : FnG P w K mg base CX0 (k + 1) f sp := by
  obtain ⟨oc, od, kV, doc, pm, an, cdv, ct, osl, rfl, look, rec⟩ := F.ex
  intro A out z G us vs Q E ng room env vals prom
  have keep : ∀ b o, base.get? b = some o → z.heap.get? b = some o := fun b o e => (env.bs b o e).1
  have kin := kin0 env
  have many : us.length = ps.length := vals.length.symm.trans (len _ _ _ _ prom)
  have bnd := hb z us kin (by rw [List.append_nil]; exact many)
  rw [List.append_nil] at bnd
  have kinds : ∀ y ∈ ps.zip us, (defScope st).names.lookup y.1 = some .local ∨
      ((defScope st).names.lookup y.1 = some .cell ∧ ((cellsFrom (z.heap.objs.size + 1) (defScope st).names []).lookup y.1).isSome = true) := by
    rintro ⟨n, v⟩ there
    exact (S.par n (List.of_mem_zip there).1).imp id fun c => ⟨c, PySem.W.cellsFrom_some _ _ _ (.inl c)⟩
  refine codeAny_call_function room.depth (kin _ _ look) rfl S.co S.gen rfl (PySem.W.codeRec_of kin rec) (bnd _ _ _ _ (wpAny_newFunctionEnv_cells S.kind kinds ?_))
  rintro env2 rfl z1 made
  refine ⟨(env.mod.nolimit.keeps keep).keeps made.toInCall.keep, codeAny_func ?_⟩
  obtain ⟨t, body, run⟩ := bd cdv A out z G vs Q E (fun o fd' h1 h2 => by rw [look] at h1; cases h1; cases h2; rfl) (ng.deeper _) (room.deeper _) prom
  exact wpAny_mono (body.nox.run [] z1 (start N vs) G _ (inv_start S room.hd env (len _ _ _ _ prom) vals made) run) (fun fl z2 q => ends_CR q) fun e z2 q => q
end
theorem TabK.code_eq {K : PySem.W.Frag} {f c P : Addr} {cdv : Value} (t : TabK K f c P) (h : ∀ o fd', K.lookup f = some o → o.data = .func fd' → fd'.code = cdv) : cdv = .ref c := by
  obtain ⟨o, fd', h1, h2, h3⟩ := t.fn
  rw [← h o fd' h1 h2, h3]
/-! ## what stays beside a growing table -/
theorem Tabs.up {T : List (Addr × Str)} {H H' : Hp} {p : Addr} (t : Tabs T H) (e : Up p H H') : Tabs T H' := fun q hq => by
  obtain ⟨ps, h1, h2, h3⟩ := t q hq
  refine ⟨ps, e _ _ h1 fun _ => rfl, h2, fun pos cv hc => ?_⟩
  obtain ⟨c, e1, e2⟩ := h3 pos cv hc
  exact ⟨c, e1, e _ _ e2 fun _ => rfl⟩
theorem ExtN.same {H H' : Hp} (e : Same H H') : ExtN H H' := fun b o h _ => e b o h
section
variable {K : PySem.W.Frag} {H H' : Hp}
theorem sqL_ext {a : Addr} {xs : List V} (e : ExtN H H') (h : SqL K H a xs) : SqL K H' a xs := h.elim (fun h => Or.inl (h.elim (fun q => Or.inl (e _ _ q fun _ z => nomatch z)) fun ⟨o, q⟩ => Or.inr ⟨o, e _ _ q fun _ z => nomatch z⟩)) Or.inr
theorem sqT_ext {a : Addr} {xs : List V} (e : ExtN H H') (h : SqT K H a xs) : SqT K H' a xs := h.elim (fun h => Or.inl (h.elim (fun q => Or.inl (e _ _ q fun _ z => nomatch z)) fun ⟨o, q⟩ => Or.inr ⟨o, e _ _ q fun _ z => nomatch z⟩)) Or.inr
mutual
theorem dp_ext (e : ExtN H H') : ∀ {v : V} {d : PyData}, Dp K H v d → Dp K H' v d
  | _, _, .non => .non
  | _, _, .bl b => .bl b
  | _, _, .int i => .int i
  | _, _, .str x => .str x
  | _, _, .lst h r => .lst (sqL_ext e h) (dpAll_ext e r)
  | _, _, .tup h r => .tup (sqT_ext e h) (dpAll_ext e r)
theorem dpAll_ext (e : ExtN H H') : ∀ {vs : List V} {ds : List PyData}, DpAll K H vs ds → DpAll K H' vs ds
  | _, _, .nil => .nil
  | _, _, .cons h r => .cons (dp_ext e h) (dpAll_ext e r)
end
theorem Sh.ext {v : V} {d : PyData} (e : ExtN H H') (h : Sh K H v d) : Sh K H' v d := match h with
  | .dp h n => .dp (dp_ext e h) n
  | .dict h => .dict (e _ _ h fun _ z => nomatch z)
end
/-- the promise of a def that tells what its argument, a call, raises: ("ratio", repr of the value) -/
def TTh (K : PySem.W.Frag) (CB : Addr) : (XK → Hp → VK → Prop) → Hp → VK → Prop := fun tl H Q => ∃ v e, Sh K H v e ∧ Shn e ∧ (∀ Q', tl (fun cls dd H' => cls = .ref CB ∧ ∃ dx, dd = some dx ∧ H dx = none ∧ H' = upd H dx (.xd [("value", v)])) H Q') ∧
  ∀ t H', Same H H' → H' t = some (.tup [.str "ratio", .str e.shown]) → Q (.ref t) H'
theorem Sx.hd {K : PySem.W.Frag} {S : Addr} {nm : Str} (x : Sx K S nm) : PySem.W.hasDictIn K S = true := by
  obtain ⟨q, N, bs, sn, sub, ab, col, dd, k0, k1, k2, k3, k5, h⟩ := x.lk
  have e : PySem.W.clsIn K S = some { name := nm, bases := bs, mro := .ref S :: PySem.HandSPX.veTail, ns := N, qualname := q, hasDict := true, slotNames := sn, subclasses := sub, abstract := ab, collection := col, hasDel := false } := by
    unfold PySem.W.clsIn; rw [h]
  unfold PySem.W.hasDictIn
  rw [e]
  simp
theorem Sx.mro {K : PySem.W.Frag} {S : Addr} {nm : Str} (x : Sx K S nm) (b : Value) : PySem.W.mroIn K S b = some ((.ref S :: PySem.HandSPX.veTail).contains b) := by
  obtain ⟨cd, h, m, _⟩ := x.cls
  unfold PySem.W.mroIn
  rw [h, Option.bind_some, m]; rfl
/-- an except clause of the base lets all below it in -/
theorem Ex.exm {K : PySem.W.Frag} {S C fI : Addr} {nm ns : Str} (x : Ex K S C fI nm) (s : Sx K S ns) : PySem.W.exmOne K (.ref C) (.ref S) = some true :=
  PySem.W.exm_ref ((s.mro _).trans (by simp [PySem.HandSPX.veTail])) s.hd s.ty ((x.mro _).trans (by simp [PySem.HandSPX.veTail]))
end AZ

set_option Elab.async false
set_option maxRecDepth 100000
set_option maxHeartbeats 4000000
set_option linter.all false
/-! Own work: the truth of own values; comparisons with an int on either side. -/
namespace AZ
open PySem PySem.Spec PySem.W PySem.Calls PyProof.Rows
section
variable {prog : Program} {w : World} {A : Around} {E : Value → Shared → Prop} {s : Shared} {K : Frag} {x C L f : Addr} {h₀ : Heap} {m : Str → Option Value} {ox : Obj} {od : Option Obj}
theorem bool_own {Q : Value → Shared → Prop} (F : Fr h₀ L s.heap m) (X₀ : K.In h₀) (I : InstAt s.heap x ox C od) (hs : findIn K (.ref C) "__bool__" = some (some (.ref f))) (hf : isFn K (.ref f) = true)
    (h : wpAny (model prog w) A.in1.in1 (call (.ref f) [.ref x]) (PySem.W.BoolBack fun b => Q (.bool b)) E s) : wpAny (model prog w) A (call (.type "bool") [.ref x]) Q E s := by
  refine callType_codes (T := "bool") (Bi := Builtin.«object.__init__») (Q₁ := fun r s₁ => ∃ b, r = .bool b ∧ Q r s₁) PySem.F.called_bool (PySem.F.typeCall_bool_1 _) PySem.F.entry_object_init ?_ ?_
  · refine codeAny_of_tree ?_
    show wpAny _ A.in1.in1 (do checkBuiltinCall "bool.__new__" ⟨[.type "bool", .ref x], []⟩; again (.builtin "bool.__new__" ⟨[.type "bool", .ref x], []⟩)) _ _ s
    refine wpAny_bind (wpAny_of_eq (PySem.F.newCall_bool_1 _) (wpAny_pure ⟨plainId_quiet (by decide +kernel) _, codeAny_builtin PySem.F.entry_bool_new ?_⟩))
    rw [Around.under_plainId (by decide +kernel) _]
    have tr : wpAny (model prog w) A.in1.in1 (truthy (.ref x)) (fun b s₁ => Q (.bool b) s₁) E s := truthy_K F X₀ I hs hf h
    have f1 := PySem.F.conv_sub_bool
    unfold Builtin.«bool.__new__»
    refine wpAny_bind (wpAny_pure ?_)
    refine wpAny_bind (wpAny_of_eq f1 ?_)
    refine wpAny_bind (wpAny_pure ?_)
    exact wpAny_bind (wpAny_mono tr (fun b s₁ hb => wpAny_pure ⟨_, rfl, hb⟩) fun _ _ y => y)
  · rintro obj s₁ ⟨b, rfl, hq⟩
    exact ⟨PySem.typeIs_bool _ _, PySem.F.args_object_init_2 _ _, object_init_meets PySem.F.called_bool.init.lookup PySem.F.called_bool.made (by decide) prog w A.in1 _ s₁ ⟨PySem.typeIs_bool _ _, rfl, hq⟩⟩
end
end AZ
namespace AZ
open PySem L2 PyProof.Rows
/-- what the truth of an instance asks of the class at C: its own __bool__ at f -/
structure BoolM (K : PySem.W.Frag) (C f : Addr) : Prop where
  hs : PySem.W.findIn K (.ref C) "__bool__" = some (some (.ref f))
  hf : PySem.W.isFn K (.ref f) = true
section
variable {X : Cx} {a : Expr} {ta : TE} {pos : Pos}
theorem boolBack_of {pins : List (Addr × Obj)} {σ : L2.St} {Q : Bool → Hp → Prop} {v : Value} {s : Shared} {R : Bool → Shared → Prop} (k : ∀ b s' H', Inv X pins σ H' s' → Q b H' → R b s') (h : EP X pins σ (fun v H1 => ∃ z, v = .bl z ∧ Q z H1) v s) : PySem.W.BoolBack R v s := by
  obtain ⟨z, H1, I1, rz, y, rfl, q⟩ := h
  obtain rfl : v = Value.bool y := rz
  exact k _ _ _ I1 q
def rBoolO (X : Cx) (d : Nat) (x : V) (H : Hp) (Q : Bool → Hp → Prop) : Prop := ∃ (a C dx : Addr) (fs : List (Str × V)) (f : Addr) (CX : CXT) (k : Nat) (sp : Sp) (E : XK),
  x = .ref a ∧ H a = some (.ins C dx fs) ∧ BoolM X.K C f ∧ FnR X.prog X.w X.K X.mg X.base CX k f sp ∧ Room (k + d) X.A ∧ Passes CX X E ∧ sp [x] H (fun v H1 => ∃ z, v = .bl z ∧ Q z H1) E
/-- bool(x) -/
theorem call_boolO : CallR X (.type "bool") (fun xs H Q => ∃ x, xs = [x] ∧ rBoolO X 2 x H fun b H1 => Q (.bl b) H1) := by
  intro pins s σ H xs us Q I rv q
  obtain ⟨x, rfl, a, C, dx, fs, f, CX, k, sp, E, rfl, ha, hM, F, hr, hx, hs⟩ := q
  cases rv with
  | cons r1 r2 =>
    cases r2
    cases r1
    have hc : wpAny (model X.prog X.w) X.A.in1.in1 (call (.ref f) [.ref a]) (PySem.W.BoolBack fun b => EP X pins σ Q (.bool b)) X.xe s :=
      thn (wpAny_call (run_fnS (us := [.ref a]) (vs := [.ref a]) ⟨hr.in1.in1, rfl⟩ F hx I (.cons rfl .nil) hs)) fun v s3 z => boolBack_of (fun b s' H' I' q => ⟨.bl b, H', I', rfl, q⟩) z
    obtain ⟨mA, J, _⟩ := ins_get I.hok ha
    obtain ⟨od, J, _⟩ := J.look
    obtain ⟨m, hF⟩ := I.fr
    exact bool_own hF I.ok.mod.kin J hM.hs hM.hf hc
theorem uBool : CallR X (.type "bool") (fun xs H Q => ((∃ i, xs = [.int i] ∧ Q (.bl (i != 0)) H) ∨ ∃ k, xs = [.bl k] ∧ Q (.bl k) H) ∨ ∃ x, xs = [x] ∧ rBoolO X 2 x H fun b H1 => Q (.bl b) H1) := CallR.or' call_bool1 call_boolO
/-- not x, x an own value -/
theorem pe_notO (ha : PE X a ta) : PE X (.UnaryOp .Not a pos) (fun σ H Q => ta σ H fun x H1 => rBoolO X 0 x H1 fun b H2 => Q (.bl (!b)) H2) := by
  refine ⟨fun pins s σ H Q I h => ?_⟩
  refine UnaryOp_ (thn (ha.run pins s σ H _ I h) fun v s1 ⟨x, H1, I1, r1, a, C, dx, fs, f, CX, k, sp, E, ex, e, hM, F, hr, hx, hs⟩ => ?_)
  subst ex
  obtain rfl : v = Value.ref a := r1
  have hc : wpAny (model X.prog X.w) X.A (call (.ref f) [.ref a]) (PySem.W.BoolBack fun b => EP X pins σ Q (.bool (!b))) X.xe s1 :=
    thn (wpAny_call (run_fnR (us := [.ref a]) (vs := [.ref a]) F hr hx I1 (.cons rfl .nil) hs)) fun v s3 z => boolBack_of (fun b s' H' I' q => ⟨.bl (!b), H', I', rfl, q⟩) z
  obtain ⟨mA, J, _⟩ := ins_get I1.hok e
  obtain ⟨od, J, _⟩ := J.look
  obtain ⟨m, hF⟩ := I1.fr
  exact not_of (PySem.W.truthy_K hF I1.ok.mod.kin J hM.hs hM.hf hc)
theorem uLtR : OpR X (compareOp .Lt) (orR (rI0 fun i j => .bl (decide (i < j))) (orR (rOwnC X .Lt) (rReflC X .Gt))) := op_or2 op_lt (op_or2 (op_ownC _) (op_reflC .Gt rfl decC_lt))
theorem uLeR : OpR X (compareOp .LtE) (orR (rI0 fun i j => .bl (decide (i ≤ j))) (orR (rOwnC X .LtE) (rReflC X .GtE))) := op_or2 op_le (op_or2 (op_ownC _) (op_reflC .GtE rfl decC_le))
theorem uGtR : OpR X (compareOp .Gt) (orR (rI0 fun i j => .bl (decide (j < i))) (orR (rOwnC X .Gt) (rReflC X .Lt))) := op_or2 op_gt (op_or2 (op_ownC _) (op_reflC .Lt rfl decC_gt))
theorem uGeR : OpR X (compareOp .GtE) (orR (rI0 fun i j => .bl (decide (j ≤ i))) (orR (rOwnC X .GtE) (rReflC X .LtE))) := op_or2 op_ge (op_or2 (op_ownC _) (op_reflC .LtE rfl decC_ge))
end
end AZ

set_option Elab.async false
set_option maxRecDepth 100000
set_option maxHeartbeats 4000000
set_option linter.all false
/-! Own work: list comprehensions out of which errors come. -/
namespace AZ
open PySem L2 PySem.Spec PyProof.Rows
section
variable {M : Model} {A : Around} {E : Value → Shared → Prop} {s : Shared} {env : Env}
/-- what must hold behind a block that may raise, its environment told -/
def xPost (M : Model) (A : Around) (E : Value → Shared → Prop) (use : Option (Value → Sem Unit)) (Q : Value → Shared → Prop) (L : Value) (ce : Env) : Result → Shared → Prop
  | .ok f, t => compPost M A E use Q L ce.locals (.ok f) t
  | .error u, t => ∃ m, t.heap.Ns ce.locals m ∧ ∀ g, Heap.SameBut ce.locals t.heap g → wpAny M A (passOn "comprehension.variables-let-go" u ce : Sem Value) (fun _ _ => False) E { t with heap := g }
theorem compr_x {ex : Expr} {sc : Scope} {pos : Pos} {mk fst : Sem Value} {g : Comprehension} {gs : List Comprehension} {cl : List (Str × Addr)} {use : Option (Value → Sem Unit)} {Q : Value → Shared → Prop}
    (e1 : clausesOf ex = g :: gs) (e2 : ∀ x, foldedSetIterable g.iter env x = pure x) (e3 : closureFor sc env = pure cl) (e4 : sc.kind = .function) (e5 : ∀ x ∈ sc.names, x.2 = .local → sc.names.lookup x.1 = some .local)
    (run : wpAny M A fst (fun x t1 => wpAny M A (pyIter x) (fun it t2 => wpAny M A mk (fun L t3 =>
      wpAny M A (newFunctionEnv sc env.globals cl [] env.qual none .none (some env))
        (fun ce t4 => codeAny M A (.compStart ex 0 it L { ce with scope := relabel sc env }) (xPost M A E use Q L { ce with scope := relabel sc env }) t4) E t3) E t2) E t1) E s) :
    wpAny M A (comprehension ex sc env pos mk false fst use) Q E s := by
  unfold comprehension
  rw [e3, e1]
  refine wpAny_bind (thn run fun x t1 r1 => wpAny_bind (wpAny_standAt (wpAny_bind (wpAny_of_eq (e2 x) (wpAny_bind (wpAny_holding (thn r1 fun it t2 r2 => ?_)))))))
  refine wpAny_standIf (wpAny_bind (thn r2 fun L t3 r3 => wpAny_bind (wpAny_pure (wpAny_bind (thn r3 fun ce t4 r4 => ?_)))))
  have kind : Scope.kind (Env.scope { ce with scope := relabel sc env }) = .function := e4
  have loc : ∀ x ∈ (sc.names.filter fun x => (x.2 == .local || x.2 == .cell) && x.1 != (".0" : Str)).reverse, x.2 = .local → Env.kindOf { ce with scope := relabel sc env } x.1 = some .local :=
    fun x hx hl => lookup_relabel_local (e5 x (List.mem_filter.mp (List.mem_reverse.mp hx)).1 hl)
  have loc' : ∀ x ∈ (sc.names.filter fun x => (x.2 == .local || x.2 == .cell) && x.1 != (".0" : Str)).reverse.drop 1 ++ (sc.names.filter fun x => (x.2 == .local || x.2 == .cell) && x.1 != (".0" : Str)).reverse.take 1,
      x.2 = .local → Env.kindOf { ce with scope := relabel sc env } x.1 = some .local :=
    fun x hx hl => (List.mem_append.mp hx).elim (fun z => loc x (List.mem_of_mem_drop z) hl) fun z => loc x (List.mem_of_mem_take z) hl
  dsimp only
  refine wpAny_holding (wpAny_bind (wpAny_attempt (wpAny_holding (wpAny_run (codeAny_mono r4 fun r t5 hr => ?_)))))
  match r, hr with
  | .error u, hr =>
    obtain ⟨m, hn, hr⟩ := hr
    exact wpAny_bind (wpAny_holding (wpAny_comp_letGo (cenv := { ce with scope := relabel sc env }) kind _ t5 m loc hn fun h' _ _ sb => wpAny_mono (hr h' sb) (fun _ _ z => z.elim) fun _ _ z => z))
  | .ok f, hr =>
    cases use with
    | none =>
      obtain ⟨m, hn, hr⟩ := hr
      exact wpAny_bind (wpAny_holding (wpAny_comp_letGo (cenv := { ce with scope := relabel sc env }) kind _ t5 m loc hn fun h' _ _ sb => wpAny_pure (hr h' sb)))
    | some u =>
      refine wpAny_bind (wpAny_rule (wpAny_bind (wpAny_holding (thn hr fun _ t6 hr' => ?_))))
      obtain ⟨m, hn, hr'⟩ := hr'
      exact wpAny_bind (wpAny_comp_letGo (cenv := { ce with scope := relabel sc env }) kind _ t6 m loc' hn fun h' _ _ sb => wpAny_pure (hr' h' sb))
end
theorem note_frame {x : Value} {e1 e2 : Env} (h : e1.frame = e2.frame) : noteFrame x e1 = noteFrame x e2 := by
  unfold noteFrame PySem.frameOf
  rw [h]
theorem ff_but {B B' h h' : Heap} {C : Addr} (k : ∀ b, b ≠ C → h'.get? b = h.get? b) (n : ∀ b, B.get? b = none → B'.get? b = none) : ∀ {l : List Env}, h.FunFrames B l → C ∉ frs l → h'.FunFrames B' l
  | [], _, _ => trivial
  | env :: l, ⟨k1, ⟨L, o, hf, hB, ho, hd⟩, r⟩, nc => by
    have q : ∀ b, b ∈ frs (env :: l) → b ≠ C := fun b hb z => nc (z ▸ hb)
    refine ⟨k1, ⟨L, o, hf, n L hB, ?_, hd⟩, ff_but k n r fun z => ?_⟩
    · rw [k L (q L (List.mem_filterMap.mpr ⟨env, List.mem_cons_self, hf⟩))]; exact ho
    · obtain ⟨e, he, z⟩ := List.mem_filterMap.mp z
      exact nc (List.mem_filterMap.mpr ⟨e, List.mem_cons_of_mem _ he, z⟩)
/-- the block's context, with a wish about errors -/
abbrev blkX (X : Cx) (s : Shared) (H : Hp) (scope : Scope) (ce : Env) (fp : List Addr) (xe : Value → Shared → Prop) : Cx := { X.blk s H scope ce fp with xe := xe }
section
variable {X : Cx} {pins : List (Addr × Obj)} {σ : L2.St} {H3 : Hp} {s3 : Shared} {E : XK}
/-- what a call in the block lets out goes out of the def, too -/
theorem blk_passes (tk : L2.Takes X (fun cls d _ H => E cls d H)) (hs : X.stack = X.env :: X.outer) (hf : X.env.frame = some X.env.locals) {scope : Scope} {ce : Env} {fp : List Addr} {L : Value} {use : Option (Value → Sem Unit)} {Qf : Value → Shared → Prop}
    (I3 : Inv X pins σ H3 s3) (f3 : ∀ b ∈ fp, FpOk X pins H3 b) (cL : ce.locals = s3.heap.objs.size) (cF : ce.frame = X.env.frame) :
    Passes (CXx X.prog X.w) (blkX X s3 H3 scope ce fp (notedBy (model X.prog X.w) X.A ce fun e s' => xPost (model X.prog X.w) X.A X.xe use Qf L ce (.error e) s')) E := by
  intro pins' σ' H s u s' I c
  have J : Inv X pins σ H s := I3.call' (ch := fp) I.os I.base I.hok I.bare fun b hb => ⟨(f3 b hb).2.2.2.1, (f3 b hb).2.1, (f3 b hb).2.2.2.2.1, (f3 b hb).2.2.2.2.2⟩
  obtain ⟨a, B, H', cls, d, rfl, fl, hok, ub, na, os, ag, hE⟩ := c
  obtain ⟨m, hn, _⟩ := I.loc
  have nC : H ce.locals = none := I.free
  have hn : s.heap.Ns ce.locals m := hn
  obtain ⟨oC, esC, epC, gC, rC⟩ := hn
  generalize hC : ce.locals = C at *
  have cle : s3.heap.objs.size ≤ C := Nat.le_of_eq cL.symm
  have nfC : C ∉ frs X.stack := fun z => by
    rcases List.mem_cons.mp (I3.stkSub C z) with z | z
    · exact Nat.lt_irrefl _ (Nat.lt_of_lt_of_le I3.lt (z ▸ cle))
    · exact I3.nofs cle z
  have BC : B.get? C = some oC := ub.keep C oC gC nC nfC
  have nC' : H' C = none := ub.free C oC gC nC
  have hfr : X.A.frames = some (X.env :: X.outer) := by rw [J.ok.frames, hs]
  show wpAny (model X.prog X.w) X.A (noteFrame (.ref a) ce) _ _ s'
  rw [note_frame cF]
  have fl' := fl
  rw [hs] at fl'
  refine HandSPX.looks_onZ L2.Zc.steady hfr hf fl' fun h1 hld up1 => ?_
  rw [← hs] at hld
  obtain ⟨k1, k2, k3, oe, vs, T, oT, ts, he, hz, hd, g1, hnT, hTe, hT, hdT, g3⟩ := hld
  show ∃ m, Heap.Ns h1 ce.locals m ∧ _
  rw [hC]
  refine ⟨m, ⟨oC, esC, epC, k1 C oC BC, rC⟩, fun h2 sb => ?_⟩
  have aC : a ≠ C := fun z => by rw [z, BC] at k2; cases k2
  have TC : T ≠ C := fun z => by rw [z, BC] at hnT; cases hnT
  have e2 : ∀ b, b ≠ C → h2.get? b = h1.get? b := fun b hb => sb.2 b hb
  -- the ground without the block's variables
  generalize hB : PySem.W.hideAll B [C] = B'
  have ofB : ∀ b o, B'.get? b = some o → B.get? b = some o := fun b o e => by rw [← hB] at e; exact PySem.W.of_hideAll _ e
  have toB : ∀ b o, b ≠ C → B.get? b = some o → B'.get? b = some o := fun b o hb e => by rw [← hB]; exact PySem.W.hideAll_get _ e (by simp [hb])
  have noC : B'.get? C = none := by rw [← hB]; exact PySem.W.hideAll_none _ (by simp)
  have nB : ∀ b, B.get? b = none → B'.get? b = none := fun b e => by
    cases q : B'.get? b with
    | none => rfl
    | some o => rw [ofB b o q] at e; cases e
  have st2 : B'.StaysIn h2 := fun b o e => by
    have hb : b ≠ C := fun z => by rw [z, noC] at e; cases e
    rw [e2 b hb]
    exact k1 b o (ofB b o e)
  have ff2 : h2.FunFrames B' X.stack := ff_but e2 nB k3 nfC
  have tz : HandSPX.TracedZ h2 B' a (L2.Zc cls d) (rawInt X.env.locals) := ⟨oe, vs, T, oT, ts, (e2 a aC).trans he, hz, hd, g1, nB T hnT, hTe, (e2 T TC).trans hT, hdT, g3⟩
  unfold PySem.passOn
  refine wpAny_bind (wpAny_field ((e2 a aC).trans he) hd g1 ?_)
  rw [if_neg (by simp)]
  refine wpAny_bind ?_
  refine HandSPX.setFlight_anyZ (base := B') (l := X.stack) (fl := rawInt X.env.locals) (fr := ce.frame) st2 ff2 tz fun h4 q1 q2 q3 up4 => wpAny_throw (tk _ _ ?_)
  have ef : ce.frame = some X.env.locals := cF.trans hf
  rw [ef] at q3
  have slots : ∀ b ∈ frs X.stack, ∀ o, s.heap.get? b = some o → ∃ sl, h4.get? b = some { o with slots := sl } := fun b hb o e => by
    obtain ⟨_, o', e', hnd⟩ := J.stack.mem hb
    rw [e] at e'; cases e'
    obtain ⟨sl, x1⟩ := ub.slot b o e hb
    obtain ⟨sl2, x2⟩ := up1 b _ x1 hnd
    have x3 : h2.get? b = some _ := (e2 b fun z => nfC (z ▸ hb)).trans x2
    obtain ⟨sl3, x4⟩ := up4 b _ x3 hnd
    exact ⟨sl3, x4⟩
  obtain ⟨G, G1, G2⟩ := L2.restrict h4 fun b => (B'.get? b).isSome || decide (b ∈ frs X.stack)
  have gB : ∀ b o, B'.get? b = some o → G.get? b = some o := fun b o e => by
    rw [G1 b (by simp [e])]
    exact q1 b o e
  have gF : ∀ b, b ∈ frs X.stack → G.get? b = h4.get? b := fun b hb => G1 b (by simp [hb])
  have og : ∀ b o, G.get? b = some o → h4.get? b = some o ∧ ((B'.get? b).isSome = true ∨ b ∈ frs X.stack) := fun b o e => by
    cases q : ((B'.get? b).isSome || decide (b ∈ frs X.stack)) with
    | false => rw [G2 b q] at e; cases e
    | true =>
      rw [G1 b q] at e
      exact ⟨e, by simpa [Bool.or_eq_true] using q⟩
  have ne1 : ∀ b, b ∉ [C] → b ≠ C := fun b hb z => hb (by simp [z])
  have fo := I3.fpOk (b := C) (H' := H) cle nC
  refine ⟨a, B', { s with heap := G, gens := s'.gens, drawn := s'.drawn, toks := s'.toks }, pins, σ, H', cls, d, rfl, ?_, fun b o e hb => ?_, Heap.UpToSlots.of_keeps fun b o e => (og b o e).1, .inr (.inr ⟨q1, nB a k2, q2, q3⟩), na, os, ag, hE⟩
  · refine J.call (ch := [C]) ⟨fun b o e n hb hc => gB b o (toB b o (ne1 b hc) (ub.keep b o e n hb)), fun b o e n hb hc => ?_, fun b o e n _ => ub.free b o e n, fun b o e hc => ?_, ub.tups, ub.frzs, ub.tbls⟩ ?_ ag fun b hb => ?_
    · rw [gF b hb]
      exact slots b hb o e
    · by_cases hb : b ∈ frs X.stack
      · obtain ⟨sl, q⟩ := slots b hb o e
        exact ⟨_, by rw [gF b hb]; exact q⟩
      · obtain ⟨o', q⟩ := ub.there b o e hb
        exact ⟨o', gB b o' (toB b o' (ne1 b hc) q)⟩
    · exact fun b v e => (hok b v e).stay (fun c x hc r => gB c x (toB c x (fun z => by
        rw [z] at hc
        rcases hc with hc | hc
        · rw [← hc, nC'] at e; cases e
        · rw [nC'] at hc; cases hc) r)) (fun _ r => r) fun _ _ r => r
    · have : b = C := by simpa using hb
      subst this
      exact ⟨fo.2.2.2.1, fo.2.1, fo.2.2.2.2.1, fo.2.2.2.2.2⟩
  · obtain ⟨e', h⟩ := og b o e
    rcases h with h | h
    · obtain ⟨o', q⟩ := Option.isSome_iff_exists.mp h
      have z := q1 b o' q
      rw [e'] at z; cases z
      exact q
    · exact absurd h hb
end
section
variable {X : Cx}
/-- the promise about a part of the block: wherever what calls let out is let out -/
def BlkPE (X : Cx) (E : XK) (scope : Scope) (elt : Expr) (te : TE) : Prop := ∀ (s : Shared) (H : Hp) (C : Addr) (cl : List (Str × Addr)) (fp : List Addr) (xe : Value → Shared → Prop),
  Passes (CXx X.prog X.w) (blkX X s H scope (compEnvC scope cl C X.env) fp xe) E → PE (blkX X s H scope (compEnvC scope cl C X.env) fp xe) elt te
theorem lcx_core {E : XK} {pins : List (Addr × Obj)} {s : Shared} {σ : L2.St} {H : Hp} {Q : VK} {elt tg iter : Expr} {scope : Scope} {own : List (Str × Nat)} {pos pos' : Pos} {wi : TI} {g : TG} {te : TE} {use : Option (Value → Sem Unit)} {Qf : Value → Shared → Prop}
    (tk : L2.Takes X (fun cls d _ H => E cls d H)) (hst : X.stack = X.env :: X.outer) (hfl : X.env.frame = some X.env.locals)
    (hc : X.calm = true) (hN : X.N.Nodup) (I : Inv X pins σ H s) (hi : PI X tg iter wi) (ok : BlkOk X.N X.env.scope scope own)
    (hg : ∀ (s : Shared) (H : Hp) (C : Addr) (cl : List (Str × Addr)) (fp : List Addr) (xe : Value → Shared → Prop), PG (blkX X s H scope (compEnvC scope cl C X.env) fp xe) tg g)
    (he : BlkPE X E scope elt te) (hs : ∀ x, foldedSetIterable iter X.env x = pure x)
    (h : tLc wi g tYes te (own.map (·.2)) σ H Q)
    (hRR : ∀ D C t m H', Inv X pins σ H' t → Q (.ref D) H' → t.heap.Ns C m → FpOk X pins H' C → compPost (model X.prog X.w) X.A X.xe use Qf (.ref D) C (.ok .next) t) :
    wpAny (model X.prog X.w) X.A (comprehension (.ListComp elt [⟨tg, iter, [], 0⟩] scope pos) scope X.env pos' (newList []) false (eval iter X.env) use) Qf X.xe s := by
  have cells : ∀ y ∈ scope.names, y.2 = .free → ∃ c, X.env.cells.lookup y.1 = some c := fun y hy e => (ok.free y hy e).elim (fun k => I.ok.has _ (.inl k)) fun k => I.ok.has _ (.inr k)
  refine compr_x (use := use) rfl hs (closure_ok cells) ok.kind (fun y hy e => by rw [ok.uniq y hy, e]) (thn (hi.run pins s σ H _ I h) fun xv s1 hx => thn hx fun itv s2 h2 => ?_)
  obtain ⟨it, fp, tn, J, H2, rfl, I2, T, st2, f2, q⟩ := h2
  refine wpAny_newObj_type (newEnv_comp ?_) (by show 0 ≤ sizeLine; decide)
  generalize hD : s2.heap.objs.size = D
  obtain ⟨W, ⟨m0, w0⟩, turn⟩ := q D (I2.hok.fresh (Nat.le_of_eq hD))
  generalize hs3 : ({ s2 with heap := s2.heap.push { cls := .type "list", data := .seq ([] : List Value).toArray } } : Shared) = s3
  have heap3 : s3.heap = s2.heap.push { cls := .type "list", data := .seq ([] : List Value).toArray } := by rw [← hs3]
  have I3 : Inv X pins σ (upd H2 D (.lst [])) s3 := by
    rw [← hs3]
    refine I2.laid (t' := s2.toks) (fun b o e => Heap.get?_push_of_some _ e) (Nat.le_of_eq hD) ⟨Nat.zero_le _, [], 0, .nil, ?_⟩
    rw [← hD]; exact Heap.get?_push_size _ rfl
  have f3 : ∀ b ∈ fp, FpOk X pins (upd H2 D (.lst [])) b ∧ b < s3.heap.objs.size := fun b hb => by
    obtain ⟨o, e, _⟩ := T.obj _ _ st2 b hb
    have hlt := Heap.lt_size e
    refine ⟨⟨?_, (f2 b hb).2⟩, by rw [heap3, Heap.size_push]; exact Nat.lt_succ_of_lt hlt⟩
    rw [upd_ne (by rw [← hD]; exact Nat.ne_of_lt hlt)]; exact (f2 b hb).1
  have st3 : tn 0 s3.heap := T.keep _ _ _ st2 fun b _ o e => by rw [heap3]; exact Heap.get?_push_of_some _ e
  have I4 := block_start I3 ok hN f3
  have pg := hg s3 (upd H2 D (.lst [])) s3.heap.objs.size (cellsFrom (s3.heap.objs.size + 1) scope.names (cloFrom X.env.cells scope.names [])) fp
  have pe := he s3 (upd H2 D (.lst [])) s3.heap.objs.size (cellsFrom (s3.heap.objs.size + 1) scope.names (cloFrom X.env.cells scope.names [])) fp
  generalize hce : compEnvC scope (cellsFrom (s3.heap.objs.size + 1) scope.names (cloFrom X.env.cells scope.names [])) s3.heap.objs.size X.env = ce at I4 pg pe
  have cL : ce.locals = s3.heap.objs.size := by subst hce; rfl
  have cF : ce.frame = X.env.frame := by subst hce; rfl
  have ps := blk_passes (scope := scope) (L := .ref D) (use := use) (Qf := Qf) tk hst hfl I3 (fun b hb => (f3 b hb).1) cL cF
  generalize hxe : (notedBy (model X.prog X.w) X.A ce fun e s' => xPost (model X.prog X.w) X.A X.xe use Qf (.ref D) ce (.error e) s') = xe at ps
  have pg := pg xe
  have pe := pe xe ps
  generalize hH3 : upd H2 D (.lst []) = H3 at I3 I4 pg pe w0 f3 ps
  generalize hs4 : ({ s3 with heap := pushCells (s3.heap.push { cls := .type "dict", data := .dict #[] }) scope.names } : Shared) = s4 at I4
  have I4 : Inv (blkX X s3 H3 scope ce fp xe) [] (wipe σ (own.map (·.2))) H3 s4 := ⟨⟨I4.ok.mod, I4.ok.kind, I4.ok.glob, I4.ok.blt, I4.ok.above, I4.ok.inj, I4.ok.has, I4.ok.cab, I4.ok.hd, I4.ok.frames, I4.ok.stk, I4.ok.exf, I4.ok.bs, I4.ok.bsz, I4.ok.noex, I4.ok.exfs, I4.ok.funs, I4.ok.frf⟩, I4.os, I4.bare, I4.base, I4.loc, I4.cell, I4.free, I4.freeC, I4.pin, I4.hok, I4.len⟩
  have st4 : tn 0 s4.heap := T.keep _ _ _ st3 fun b _ o e => by rw [← hs4]; exact pushCells_keeps _ _ _ _ (Heap.get?_push_of_some _ e)
  have stat : ∀ {σ' : L2.St} {H' : Hp} {s' : Shared}, Inv (blkX X s3 H3 scope ce fp xe) [] σ' H' s' → (∀ b ∈ fp, H' b = none) → ∀ b ∈ fp, FpOk (blkX X s3 H3 scope ce fp xe) [] H' b := fun I' hn b hb =>
    ⟨hn b hb, (I'.ok.exf b hb).1, I'.ok.exfs b hb, .inl hb, fun x c e => (I'.ok.exf b hb).2 x c e, fun p hp => absurd (show p ∈ ([] : List (Addr × Obj)) ++ [] from hp) (by simp)⟩
  have loop : codeAny (model X.prog X.w) X.A (.compLoop (.ListComp elt [⟨tg, iter, [], 0⟩] scope pos) 0 (.ref it) (.ref D) ce) (xPost (model X.prog X.w) X.A X.xe use Qf (.ref D) ce) s4 := by
    refine compLoop_any (fun n s' => ∃ i H', Inv (blkX X s3 H3 scope ce fp xe) [] (wipe σ (own.map (·.2))) H' s' ∧ tn i s'.heap ∧ (∀ b ∈ fp, H' b = none) ∧ W i n H') ?_ m0 ⟨0, H3, I4, st4, fun b hb => (f3 b hb).1.1, w0⟩
    rintro n s5 ⟨i, H5, I5, st5, n5, w5⟩
    rw [hxe]
    rcases turn i n H5 w5 with ⟨stop, qq⟩ | ⟨go, Nx, hNx, step⟩
    · refine thnF (T.done (blkX X s3 H3 scope ce fp xe) rfl rfl rfl hc i [] s5 _ H5 (fun _ _ => False) I5 (stat I5 n5) st5 stop) fun r s6 ⟨hr, I6⟩ => ?_
      subst hr
      have I7 : Inv X pins σ H5 s6 := I3.call' (ch := fp) I6.os I6.base I6.hok I6.bare fun b hb => ⟨(f3 b hb).1.2.2.2.1, (f3 b hb).1.2.1, (f3 b hb).1.2.2.2.2.1, (f3 b hb).1.2.2.2.2.2⟩
      have nC : H5 ce.locals = none := I6.free
      obtain ⟨m, hn, _⟩ := I6.loc
      exact hRR D ce.locals s6 m H5 I7 qq hn (I3.fpOk (Nat.le_of_eq cL.symm) nC)
    · refine thnF (T.item (blkX X s3 H3 scope ce fp xe) rfl rfl rfl hc i [] s5 _ H5 (fun _ _ => False) I5 (stat I5 n5) st5 go) fun r s6 ⟨u, hr, h6⟩ => ?_
      subst hr
      refine thnF h6 fun _ s7 ⟨x, H7, I7, r7, y7, st7, n7⟩ => ?_
      have I7' := I7.pinned (stat I7 n7) (T.obj _ _ st7)
      refine thn (pg.run _ s7 _ H7 x u _ I7' r7 (step x H7 y7)) fun _ s8 ⟨σ8, H8, I8, hw8, q8⟩ => ?_
      refine thn ((pts_nil (X := blkX X s3 H3 scope ce fp xe)).run _ s8 σ8 H8 _ I8 q8) fun b s9 ⟨H9, I9, q9⟩ => ?_
      have fin : ∀ {s' : Shared} {H' : Hp}, Inv (blkX X s3 H3 scope ce fp xe) ([] ++ pinsAt fp s7.heap) σ8 H' s' → Nx H' → ∃ m, m < n ∧ ∃ i H', Inv (blkX X s3 H3 scope ce fp xe) [] (wipe σ (own.map (·.2))) H' s' ∧ tn i s'.heap ∧ (∀ b ∈ fp, H' b = none) ∧ W i m H' := fun {s' H'} I' nx => by
        obtain ⟨m', hm, w'⟩ := hNx H' nx
        have pin' : ∀ b ∈ fp, ∀ o, s7.heap.get? b = some o → s'.heap.get? b = some o ∧ H' b = none := fun b hb o e =>
          (fun z => ⟨z.1, z.2.1⟩) (I'.pin (b, o) (List.mem_append_right _ (List.mem_append_right _ (mem_pinsAt hb e))))
        refine ⟨m', hm, i + 1, H', (I'.unpinned (pins := [])).weak (by rw [← hw8, wipe_length]) (fun j v e => (wipe_some (hw8 ▸ e)).1), T.keep _ _ _ st7 fun b hb o e => (pin' b hb o e).1, fun b hb => ?_, w'⟩
        obtain ⟨o, e, _⟩ := T.obj _ _ st7 b hb
        exact (pin' b hb o e).2
      match b, q9 with
      | false, q9 => exact fin I9 q9
      | true, q9 =>
        refine thn (pe.run _ s9 σ8 H9 _ I9 q9) fun z s10 ⟨yv, H10, I10, r10, acc, hD10, hz10, nx⟩ => ?_
        exact app_ok (X := blkX X s3 H3 scope ce fp xe) I10 hD10 hz10 r10 fun s11 I11 => fin I11 nx
  have fst := codeAny_compStart_list loop (T.self X.A 0 _ _ _ st4 loop)
  rw [← hce] at fst
  exact fst
/-- as a value -/
theorem pe_lcx {E : XK} {elt tg iter : Expr} {scope : Scope} {own : List (Str × Nat)} {pos : Pos} {wi : TI} {g : TG} {te : TE} (tk : L2.Takes X (fun cls d _ H => E cls d H)) (hst : X.stack = X.env :: X.outer) (hfl : X.env.frame = some X.env.locals)
    (hc : X.calm = true) (hN : X.N.Nodup) (hi : PI X tg iter wi) (ok : BlkOk X.N X.env.scope scope own)
    (hg : ∀ (s : Shared) (H : Hp) (C : Addr) (cl : List (Str × Addr)) (fp : List Addr) (xe : Value → Shared → Prop), PG (blkX X s H scope (compEnvC scope cl C X.env) fp xe) tg g)
    (he : BlkPE X E scope elt te) (hs : ∀ x, foldedSetIterable iter X.env x = pure x := by intro _; rfl) :
    PE X (.ListComp elt [⟨tg, iter, [], 0⟩] scope pos) (tLc wi g tYes te (own.map (·.2))) := by
  refine ⟨fun pins s σ H Q I h => ?_⟩
  rw [eval_ListComp]
  refine lcx_core tk hst hfl hc hN I hi ok hg he hs h fun D C t m H' I' q hn ⟨f0, f1, f2, f3, f4, f5⟩ => ⟨m, hn, fun h'' sb => ?_⟩
  exact ⟨.ref D, H', I'.turned (t' := t.toks) (fun b o hb e => (sb.2 b hb).trans e) f0 f1 f3 f4 f5, rfl, q⟩
end
end AZ
/-! ## more of promises that may raise -/
namespace AZ
open PySem L2 PyProof.Rows
section
variable {P : Program} {w : World} {K : PySem.W.Frag} {mg : Str → Option Value} {base : Heap} {CX : CXT} {k j : Nat} {f : Addr} {sp sp' : Sp} {x qual : Str} {st : Stmt} {fd : FuncData} {N ps : List Str}
theorem FnG.toX (F : FnG P w K mg base CX0 k f sp) : FnG P w K mg base CX k f sp := fun A out z G us vs Q E ng room env vals prom =>
  codeAny_mono (F A out z G us vs Q E ng room env vals prom) fun r s' q => match r, q with
    | .error _, q => q.elim
    | .ok (.ret _), q => q
    | .ok .next, q => q.elim
    | .ok .brk, q => q.elim
    | .ok .cont, q => q.elim
theorem FnG.up (F : FnG P w K mg base CX j f sp) (h : j ≤ k) : FnG P w K mg base CX k f sp := fun A out z G us vs Q E ng room env vals prom => F A out z G us vs Q E ng (room.mono h) env vals prom
theorem FnG.or (F : FnG P w K mg base CX k f sp) (F' : FnG P w K mg base CX k f sp') : FnG P w K mg base CX k f (fun vs H Q E => sp vs H Q E ∨ sp' vs H Q E) := fun A out z G us vs Q E ng room env vals prom =>
  prom.elim (F A out z G us vs Q E ng room env vals) (F' A out z G us vs Q E ng room env vals)
/-- a def that may raise, by its body, for any binding -/
theorem fnXO_of (F : Fun K x qual st f fd) (S : FnScope N ps (defScope st)) (len : ∀ vs H Q E, sp vs H Q E → vs.length = ps.length)
    (bd : ∀ (cdv : Value) (A : Around) (out : List Env) (z : Shared) (G : Hp) (vs : List V) (Q : VK) (E : XK), NoG (A.deeper (envOfC qual (defScope st) z.heap.objs.size f cdv)) →
      Room k (A.deeper (envOfC qual (defScope st) z.heap.objs.size f cdv)) → Takes (cxOf (CXx P w) P w K mg base N qual (defScope st) f cdv A out z G E) (fun cls d _ H => E cls d H) → sp vs G Q E →
      ∃ t, PSs (cxOf (CXx P w) P w K mg base N qual (defScope st) f cdv A out z G E) (defBody st) t ∧ t { nx := fun _ H' => Q .non H', rt := Q } (start N vs) G) : FnOG P w K mg base (CXx P w) (k + 1) f fd ps sp :=
  fnOG (CX := CXx P w) F S len fun cdv A out z G vs Q E ng hr h => bd cdv A out z G vs Q E ng hr (takes_of rfl rfl rfl rfl) h
def g01 : List V → List V → List V
  | [], zs => zs
  | _ :: _, _ => []
theorem FnOG.key01 {p : Str} (F : FnOG P w K mg base CX k f fd [p] sp) (len : ∀ vs H Q E, sp vs H Q E → vs.length = 1) (h : ∀ a : Value, bindArgs fd ⟨[], [(p, a)]⟩ = pure [(p, a)]) : FnGk P w K mg base CX k f [p] g01 sp := by
  intro A out z G us ws vs zs Q E ng room env r rz prom
  have ln := len _ _ _ _ prom
  match vs, us, zs, ws, r, rz, ln, prom with
  | [], [], [_], [b], .nil, .cons r2 .nil, _, prom => exact F A out z G ⟨[], [(p, b)]⟩ [b] _ Q E ng room env (.of_eq (h b)) rfl (.cons r2 .nil) prom
  | [], [], [], [], .nil, .nil, ln, _ => cases ln
  | [], [], _ :: _ :: _, _ :: _ :: _, .nil, .cons _ (.cons _ _), ln, _ => cases ln
  | _ :: _, _ :: _, _, _, .cons _ _, _, ln, _ => cases ln
end
/-- where nothing is let out, whatever is called -/
theorem passF {X : Cx} : Passes (CXx X.prog X.w) X (fun _ _ _ => False) := fun _ _ _ _ _ _ _ c => by
  obtain ⟨a, B, H', cls, d, _, _, _, _, _, _, _, z⟩ := c
  exact z.elim
section
variable {X : Cx} {tg e : Expr} {w1 w2 : TI}
theorem PI.or (h1 : PI X tg e w1) (h2 : PI X tg e w2) : PI X tg e (fun σ H R => w1 σ H R ∨ w2 σ H R) := ⟨fun pins s σ H R I h => h.elim (h1.run pins s σ H R I) (h2.run pins s σ H R I)⟩
theorem pi_seq {tl : TE} (h : PE X e tl) : PI X tg e (fun σ H R => iList X.K tl σ H R ∨ iTup X.K tl σ H R) := PI.or (pi_list h) (pi_tup h)
end
section
variable {X : Cx} {CX : CXT} {k : Nat} {C g : Addr} {sp : Sp} {E : XK} {o : Expr} {kws : List Keyword} {m : Str} {ks : List Str} {pos apos : Pos} {ta : TE} {t : TA} {gV : List V → List V → List V}
/-- C.m(k = e), m a static method -/
def tSMk (C : Addr) (gV : List V → List V → List V) (sp : Sp) (E : XK) (ta : TE) (t : TA) : TE := fun σ H Q => ta σ H fun x H1 => x = .ref C ∧ t σ H1 fun zs H2 => sp (gV [] zs) H2 Q E
theorem pe_smethGk {pl : Sem Bool} (he : PE X o ta) (c : SMet X.K C m g) (F : FnGk X.prog X.w X.K X.mg X.base CX k g ks gV sp) (ng : NoG X.A) (hr : Room k X.A) (hx : Passes CX X E) (hkw : PK X kws t)
    (hall : (backToKw pos (keywordEach kws X.env)).all (·.1.isSome) = true := by rfl) (hks : (backToKw pos (keywordEach kws X.env)).filterMap (·.1) = ks := by rfl)
    (hpl : ((backTo pos (starEach [] X.env)).any (·.1) || (backToKw pos (keywordEach kws X.env)).any (·.1.isNone)) = false := by rfl)
    (ht : eval (.Call (.Attribute o m apos) [] kws pos) X.env = (eval o X.env >>= fun ov => standAt apos.atName >>= fun _ => holding [ov] (getMethod ov m pl) >>= fun r =>
      callWith pos r.1 r.2 (backTo pos (starEach [] X.env)) (backToKw pos (keywordEach kws X.env))) := by rfl) :
    PE X (.Call (.Attribute o m apos) [] kws pos) (tSMk C gV sp E ta t) := by
  refine ⟨fun pins s σ H Q I h => ?_⟩
  refine PySem.W.methodCall_KW (pl := pl) (thn (he.run pins s σ H _ I h) fun u s1 ⟨x, H1, I1, rx, ex, q⟩ => ?_) ht
  subst ex
  obtain rfl : u = Value.ref C := rx
  obtain ⟨mc, p, rest, r, at_, rc⟩ := c.ex
  refine PySem.W.method_cls I1.kIn r.ga (PySem.W.cls_bind I1.kIn r.rd at_ (wpAny_call (PySem.W.sm_get (s := { s1 with toks := s1.toks + 1 }) I1.kIn rc (PySem.W.handed_on rfl ?_))))
  refine PySem.W.callWith_KW0 (first := []) (h₀ := X.base) I1.ok.mod.kin c.kp hall (thn (hkw.run pos pins _ σ H1 _ (I1.tok _) q) fun ws s2 ⟨zs, H2, I2, rz, q2⟩ => ⟨I2.kIn, ?_⟩) hpl
  rw [hks]
  refine wpAny_call (codeAny_mono (F X.A X.stack s2 H2 [] ws [] zs Q E ng hr I2.env0 .nil rz q2) fun r s' hq => ?_)
  match r, hq with
  | .error e, hq => exact hx pins σ H2 s2 e s' I2 hq
  | .ok (.ret _), hq => exact I2.after hq
  | .ok .next, hq => exact hq.elim
  | .ok .brk, hq => exact hq.elim
  | .ok .cont, hq => exact hq.elim
end
end AZ

set_option Elab.async false
set_option maxRecDepth 100000
set_option maxHeartbeats 4000000
set_option linter.all false
/-! Own work: tests that are conditional expressions. -/
namespace AZ
open PySem L2 PyProof.Rows
section
variable {X : Cx} {c a b : Expr} {pos : Pos} {tA ta tb : TT}
def tIfT (tc ta tb : TT) : TT := fun σ H Q => tc σ H fun d H1 => if d = true then ta σ H1 Q else tb σ H1 Q
theorem pt_ifE (hc : PT X c tA) (ha : PT X a ta) (hb : PT X b tb) : PT X (.IfExp c a b pos) (tIfT tA ta tb) := by
  refine ⟨fun pins s σ H Q I h => ?_⟩
  show wpAny (model X.prog X.w) X.A (PySem.isTrue (.IfExp c a b pos) X.env _) _ _ _
  rw [PySem.isTrue]
  refine wpAny_bind (thn (hc.run pins s σ H _ I h) fun d s1 ⟨H1, I1, q1⟩ => ?_)
  cases d with
  | true => exact ha.run pins s1 σ H1 Q I1 q1
  | false => exact hb.run pins s1 σ H1 Q I1 q1
end
end AZ

set_option Elab.async false
set_option maxRecDepth 100000
set_option maxHeartbeats 4000000
set_option linter.all false
/-! Own work: own comparisons and fields within a comprehension's block, told without the context. -/
namespace GQ
open PySem PySem.SeqAt
open AutoSeq1 (wpAny_loadPart')
open MeetsSeq MeetsSeq2 MeetsSeq3 SeqRoads2
section
variable {prog : Program} {w : World} {A : Around} {R : Result → Shared → Prop}
theorem list_eq_diff {l b : Addr} {xs ys : Array Value} {n1 n2 : Nat} {d1 d2 : Option Addr} {s1 s2 : Array (Option Value)} {z : Shared} (g1 : z.heap.get? l = some { cls := .type "list", dict := d1, data := .seq xs n1, slots := s1 }) (g2 : z.heap.get? b = some { cls := .type "list", dict := d2, data := .seq ys n2, slots := s2 })
    (ne : xs.size ≠ ys.size) (last : R (.ok (.ret (.bool false))) z) : wpAny (model prog w) A.in1 (Builtin.«list.__eq__» ⟨[.ref l, .ref b], []⟩) (FinOf prog w A R) (fun x z' => R (.error x) z') z := by
  obtain ⟨hp, gs, dr, tk, os⟩ := z
  have isList := AutoSeq1.sub_list_list
  have diff : (xs.size != ys.size) = true := by simp [ne]
  wp_walk using wpAny_loadPart' g1, wpAny_loadPart' g2
  exact last
end
section
variable {prog : Program} {w : World} {A : Around} {R : Result → Shared → Prop}
theorem list_ne_diff {l b : Addr} {xs ys : Array Value} {n1 n2 : Nat} {d1 d2 : Option Addr} {s1 s2 : Array (Option Value)} {z : Shared} (g1 : z.heap.get? l = some { cls := .type "list", dict := d1, data := .seq xs n1, slots := s1 }) (g2 : z.heap.get? b = some { cls := .type "list", dict := d2, data := .seq ys n2, slots := s2 })
    (ne : xs.size ≠ ys.size) (last : R (.ok (.ret (.bool true))) z) : wpAny (model prog w) A.in1 (Builtin.«list.__ne__» ⟨[.ref l, .ref b], []⟩) (FinOf prog w A R) (fun x z' => R (.error x) z') z := by
  obtain ⟨hp, gs, dr, tk, os⟩ := z
  have isList := AutoSeq1.sub_list_list
  have diff : (xs.size != ys.size) = true := by simp [ne]
  wp_walk using wpAny_loadPart' g1, wpAny_loadPart' g2
  exact last
end
section
variable {prog : Program} {w : World} {A : Around} {X : Value → Shared → Prop} {z : Shared}
theorem ne_lists_diff {l b : Addr} {xs ys : Array Value} {n1 n2 : Nat} {d1 d2 : Option Addr} {s1 s2 : Array (Option Value)} {Q : Value → Shared → Prop} (room : A.units < cLine) (g1 : z.heap.get? l = some { cls := .type "list", dict := d1, data := .seq xs n1, slots := s1 }) (g2 : z.heap.get? b = some { cls := .type "list", dict := d2, data := .seq ys n2, slots := s2 })
    (ne : xs.size ≠ ys.size) (last : Q (.bool true) z) : wpAny (model prog w) A (richCompare .NotEq (.ref l) (.ref b)) Q X z :=
  wpAny_richCompare_same_room (op := .NotEq) ⟨_, g1, rfl⟩ ⟨_, g2, rfl⟩ F.slot_list_ne (call_here F.slot_list_ne ⟨_, g1, rfl⟩ F.entry_list_ne (F.args_list_ne_2 _ _)
    (list_ne_diff (R := wants (fun v s' => v ≠ .notImplemented ∧ Q v s') X) g1 g2 ne ⟨(fun x => nomatch x), last⟩)) room
theorem eq_lists_diff {l b : Addr} {xs ys : Array Value} {n1 n2 : Nat} {d1 d2 : Option Addr} {s1 s2 : Array (Option Value)} {Q : Value → Shared → Prop} (room : A.units < cLine) (g1 : z.heap.get? l = some { cls := .type "list", dict := d1, data := .seq xs n1, slots := s1 }) (g2 : z.heap.get? b = some { cls := .type "list", dict := d2, data := .seq ys n2, slots := s2 })
    (ne : xs.size ≠ ys.size) (last : Q (.bool false) z) : wpAny (model prog w) A (richCompare .Eq (.ref l) (.ref b)) Q X z :=
  wpAny_richCompare_same_room (op := .Eq) ⟨_, g1, rfl⟩ ⟨_, g2, rfl⟩ F.slot_list_eq (call_here F.slot_list_eq ⟨_, g1, rfl⟩ F.entry_list_eq (F.args_list_eq_2 _ _)
    (list_eq_diff (R := wants (fun v s' => v ≠ .notImplemented ∧ Q v s') X) g1 g2 ne ⟨(fun x => nomatch x), last⟩)) room
end
end GQ
namespace AZ
open PySem L2 PyProof.Rows
section
variable {X : Cx}
/-- two lists of unlike lengths are not equal, whatever they hold -/
def rEqDiff : R2 := fun x y H Q => ∃ (a b : Addr) (xs ys : List V), x = .ref a ∧ y = .ref b ∧ H a = some (.lst xs) ∧ H b = some (.lst ys) ∧ xs.length ≠ ys.length ∧ Q (.bl false) H
theorem op_eqDiff (hu : X.A.units < cLine) : OpR X (compareOp .Eq) rEqDiff := by
  intro pins s σ H x y v u Q I rx ry h
  obtain ⟨a, b, xs, ys, rfl, rfl, ha, hb, ne, q⟩ := h
  cases rx
  cases ry
  obtain ⟨z, its, k, r, e⟩ := I.hok a _ ha
  obtain ⟨z2, its2, k2, r2, e2⟩ := I.hok b _ hb
  exact GQ.eq_lists_diff hu e e2 (by rw [List.size_toArray, List.size_toArray, ← r.length, ← r2.length]; exact ne) ⟨.bl false, H, I, rfl, q⟩
def rNeDiff : R2 := fun x y H Q => ∃ (a b : Addr) (xs ys : List V), x = .ref a ∧ y = .ref b ∧ H a = some (.lst xs) ∧ H b = some (.lst ys) ∧ xs.length ≠ ys.length ∧ Q (.bl true) H
theorem op_neDiff (hu : X.A.units < cLine) : OpR X (compareOp .NotEq) rNeDiff := by
  intro pins s σ H x y v u Q I rx ry h
  obtain ⟨a, b, xs, ys, rfl, rfl, ha, hb, ne, q⟩ := h
  cases rx
  cases ry
  obtain ⟨z, its, k, r, e⟩ := I.hok a _ ha
  obtain ⟨z2, its2, k2, r2, e2⟩ := I.hok b _ hb
  exact GQ.ne_lists_diff hu e e2 (by rw [List.size_toArray, List.size_toArray, ← r.length, ← r2.length]; exact ne) ⟨.bl true, H, I, rfl, q⟩
end
section
variable {X : Cx} {K : PySem.W.Frag}
/-- tuple(x), told without the context -/
def rTupK (K : PySem.W.Frag) : List V → Hp → VK → Prop := fun xs H Q => ∃ p ys, xs = [.ref p] ∧ ((SqL K H p ys ∧ ∀ l, H l = none → Q (.ref l) (upd H l (.tup ys))) ∨ (SqT K H p ys ∧ Q (.ref p) H))
theorem call_tupleK (h : X.K = K) : CallR X (.type "tuple") (rTupK K) := by
  subst h
  exact call_tuple_of
end
section
variable {X : Cx} {K : PySem.W.Frag} {C f : Addr} {k : Nat} {CX : CXT} {sp : Sp} {E : XK}
theorem opBy {F : Value → Value → Sem Value} {r r' : R2} (h : OpR X F r) (e : ∀ x y H Q, r' x y H Q → r x y H Q) : OpR X F r' := fun pins s σ H x y v u Q I rx ry q => h pins s σ H x y v u Q I rx ry (e _ _ _ _ q)
def rCF (C : Addr) (sp : Sp) (E : XK) : R2 := fun x y H Q => ∃ (a dx : Addr) (fs : List (Str × V)), x = .ref a ∧ H a = some (.ins C dx fs) ∧ RightI C H y ∧ sp [x, y] H Q E
def rRF (C : Addr) (sp : Sp) (E : XK) : R2 := fun x y H Q => ∃ (j : Int) (a dx : Addr) (fs : List (Str × V)), x = .int j ∧ y = .ref a ∧ H a = some (.ins C dx fs) ∧ sp [y, x] H Q E
def rNF (C : Addr) (sp : Sp) (E : XK) : R2 := fun x y H Q => ∃ (a dx : Addr) (fs : List (Str × V)), x = .ref a ∧ H a = some (.ins C dx fs) ∧ RightI C H y ∧ sp [x, y] H (fun v H1 => ∃ r, v = .bl r ∧ Q (.bl (!r)) H1) E
theorem op_ownCF {op : CmpOp} (M : CmpM X.K C op f) (F : FnR X.prog X.w X.K X.mg X.base CX k f sp) (hr : Room k X.A) (hx : Passes CX X E) (hop : ∀ a b, compareOp op a b = richCompare op a b := by intro _ _; rfl) : OpR X (compareOp op) (rCF C sp E) :=
  opBy (op_ownC op hop) fun _ _ _ _ ⟨a, dx, fs, h1, h2, h3, h4⟩ => ⟨a, C, dx, fs, f, CX, k, sp, E, h1, h2, h3, M, F, hr, hx, h4⟩
theorem op_reflCF {op : CmpOp} (opr : CmpOp) (he : (cmpInfo op).2.2 = (cmpInfo opr).2.1) (D : IntDecC op) (M : CmpM X.K C opr f) (ki : PySem.W.kitOne X.K (.ref C) (.type "int") = some false) (F : FnR X.prog X.w X.K X.mg X.base CX k f sp) (hr : Room k X.A) (hx : Passes CX X E)
    (hop : ∀ a b, compareOp op a b = richCompare op a b := by intro _ _; rfl) (hth : ∀ (i : Int) (t : Tok) (x : Addr), oneThing? op (.int i t) (.ref x) = none := by intro _ _ _; rfl) : OpR X (compareOp op) (rRF C sp E) :=
  opBy (op_reflC opr he D hop hth) fun _ _ _ _ ⟨j, a, dx, fs, h1, h2, h3, h4⟩ => ⟨j, a, C, dx, fs, f, CX, k, sp, E, h1, h2, h3, M, ki, F, hr, hx, h4⟩
theorem op_ownNF (M : NeM X.K C f) (F : FnR X.prog X.w X.K X.mg X.base CX k f sp) (hr : Room (k + 1) X.A) (hx : Passes CX X E) : OpR X (compareOp .NotEq) (rNF C sp E) :=
  opBy op_ownN fun _ _ _ _ ⟨a, dx, fs, h1, h2, h3, h4⟩ => ⟨a, C, dx, fs, f, CX, k, sp, E, h1, h2, h3, M, F, hr, hx, h4⟩
end
section
variable {X : Cx} {K : PySem.W.Frag} {o : Expr} {to : TE} {f : Str} {pos : Pos}
theorem pe_fldK (h : X.K = K) (ho : PE X o to) (hb : attributeBase o f X.env (eval o X.env) = eval o X.env) : PE X (.Attribute o f pos) (tFld K to f) := by
  subst h
  exact pe_fld ho hb
end
end AZ

set_option Elab.async false
set_option maxRecDepth 100000
set_option maxHeartbeats 4000000
set_option linter.all false
/-! Own work: x in c, c of a class with __contains__. -/
namespace AZ
open PySem L2 PyProof.Rows
section
variable {X : Cx} {C f : Addr} {k : Nat} {CX : CXT} {sp : Sp} {E : XK}
structure InM (K : PySem.W.Frag) (C f : Addr) : Prop where
  hs : PySem.W.findIn K (.ref C) "__contains__" = some (some (.ref f))
  hf : PySem.W.isFn K (.ref f) = true
def rInO (C : Addr) (sp : Sp) (E : XK) : R2 := fun x y H Q => ∃ (a dx : Addr) (fs : List (Str × V)), y = .ref a ∧ H a = some (.ins C dx fs) ∧ sp [y, x] H (fun v H1 => ∃ b, v = .bl b ∧ Q (.bl b) H1) E
theorem op_inO (M : InM X.K C f) (F : FnG X.prog X.w X.K X.mg X.base CX k f sp) (ng : NoG X.A) (hr : Room k X.A) (hx : Passes CX X E) : OpR X (compareOp .In) (rInO C sp E) := by
  intro pins s σ H x y v u Q I rx ry h
  obtain ⟨a, dx, fs, rfl, ha, q⟩ := h
  obtain rfl : u = Value.ref a := ry
  have hc : wpAny (model X.prog X.w) X.A (call (.ref f) [.ref a, v]) (fun r s' => wpAny (model X.prog X.w) X.A (truthy r) (fun b s2 => EP X pins σ Q (.bool b) s2) X.xe s') X.xe s :=
    thn (wpAny_call (run_fnG (us := [.ref a, v]) (vs := [.ref a, x]) F ng hr hx I (.cons rfl (.cons rx .nil)) q)) fun r s1 z => by
      obtain ⟨z, H1, I1, rz, b, rfl, q⟩ := z
      obtain rfl : r = Value.bool b := rz
      exact wpAny_truthy_bool ⟨.bl b, H1, I1, rfl, q⟩
  obtain ⟨mA, J, _⟩ := ins_get I.hok ha
  obtain ⟨od, J, _⟩ := J.look
  obtain ⟨m, hF⟩ := I.fr
  exact PySem.W.in_K hF I.ok.mod.kin J M.hs M.hf hc
end
end AZ

set_option Elab.async false
set_option maxRecDepth 100000
set_option maxHeartbeats 4000000
set_option linter.all false
/-! Own work: promises of defs with defaults, called by place, with some left out, or by name. -/
namespace AZ
open PySem L2 PyProof.Rows
theorem binds_seq {K : PySem.W.Frag} {T : Addr} {o : Obj} {its : List Value} {n : Nat} {s : Shared} {fd : FuncData} {as : Args} {bs : List (Str × Value)} {k : Option (Array Value) → Sem (List (Str × Value))}
    (kin : K.In s.heap) (l : List.lookup T K = some o) (hd : o.data = .seq its.toArray n) (h1 : bindArgs fd as = seqItems? (.ref T) >>= k) (h2 : k (some its.toArray) = pure bs) : BindsTo s fd as bs := by
  intro M A E Q q
  rw [h1]
  have g := kin _ _ l
  show wpAny M A (seqItems? (.ref T) >>= k) Q E s
  unfold seqItems?
  refine wpAny_bind (wpAny_bind (wpAny_load g ?_))
  rw [hd]
  refine wpAny_pure ?_
  show wpAny M A (k (some its.toArray)) Q E s
  rw [h2]
  exact wpAny_pure q
section
variable {P : Program} {w : World} {K : PySem.W.Frag} {mg : Str → Option Value} {base : Heap} {CX : CXT} {k : Nat} {f : Addr} {sp : Sp} {x qual : Str} {pa : Arguments} {body : List Stmt} {sc : Scope} {dvs : List V} {kws : List (Str × V)} {fd : FuncData} {N ps ks : List Str}
theorem kbnD {n : Nat} {g : List Value → List Value → List Value} {gV : List V → List V → List V} (F : FunD K x qual pa body sc dvs kws f fd) (nd : dvs ≠ [])
    (h : ∀ (T : Addr) (kV doc pm : Value) (an : Option Addr) (cdv ct : Value) (us ws its : List Value), us.length = n → ws.length = ks.length → its.length = dvs.length →
      ∃ k, bindArgs (PySem.W.fnOf x qual pa body sc (.ref T) kV doc pm an cdv ct) ⟨us, ks.zip ws⟩ = seqItems? (.ref T) >>= k ∧ k (some its.toArray) = pure (ps.zip (g us ws)))
    (rel : ∀ {vs us zs ws}, Vals vs us → Vals zs ws → Vals (gV vs zs) (g us ws)) : KBn K fd ps n ks g gV where
  to := fun s us ws kin l1 l2 => by
    obtain ⟨oc, od, dV, kV, doc, pm, an, cdv, ct, osl, rfl, look, rec, dv, kw⟩ := F.ex
    rcases dv with ⟨e, _⟩ | ⟨_, T, o, its, m, rfl, lt, hd, vi⟩
    · exact absurd e nd
    · obtain ⟨k, e1, e2⟩ := h T kV doc pm an cdv ct us ws its l1 l2 vi.length.symm
      exact binds_seq kin lt hd e1 e2
  rel := rel
theorem fnOGD (F : FunD K x qual pa body sc dvs kws f fd) (S : FnScope N ps sc) (len : ∀ vs H Q E, sp vs H Q E → vs.length = ps.length)
    (bd : ∀ (cdv : Value) (A : Around) (out : List Env) (z : Shared) (G : Hp) (vs : List V) (Q : VK) (E : XK), NoG (A.deeper (envOfC qual sc z.heap.objs.size f cdv)) →
      Room k (A.deeper (envOfC qual sc z.heap.objs.size f cdv)) → sp vs G Q E →
      ∃ t, PSs (cxOf CX P w K mg base N qual sc f cdv A out z G E) body t ∧ t { nx := fun _ H' => Q .non H', rt := Q } (start N vs) G) : FnOG P w K mg base CX (k + 1) f fd ps sp := by
  obtain ⟨oc, od, dV, kV, doc, pm, an, cdv, ct, osl, rfl, look, rec, _, _⟩ := F.ex
  intro A out z G as us vs Q E ng room env bnd many vals prom
  have keep : ∀ b o, base.get? b = some o → z.heap.get? b = some o := fun b o e => (env.bs b o e).1
  have kin := kin0 env
  have kinds : ∀ y ∈ ps.zip us, sc.names.lookup y.1 = some .local ∨
      (sc.names.lookup y.1 = some .cell ∧ ((cellsFrom (z.heap.objs.size + 1) sc.names []).lookup y.1).isSome = true) := by
    rintro ⟨n, v⟩ there
    exact (S.par n (List.of_mem_zip there).1).imp id fun c => ⟨c, PySem.W.cellsFrom_some _ _ _ (.inl c)⟩
  refine codeAny_call_function room.depth (kin _ _ look) rfl S.co S.gen rfl (PySem.W.codeRec_of kin rec) (bnd _ _ _ _ (wpAny_newFunctionEnv_cells S.kind kinds ?_))
  rintro env2 rfl z1 made
  refine ⟨(env.mod.nolimit.keeps keep).keeps made.toInCall.keep, codeAny_func ?_⟩
  obtain ⟨t, body, run⟩ := bd cdv A out z G vs Q E (ng.deeper _) (room.deeper _) prom
  exact wpAny_mono (body.run [] z1 (start N vs) G _ (inv_start S room.hd env (len _ _ _ _ prom) vals made) run) (fun fl z2 q => by
    cases fl with
    | ret v => obtain ⟨y, σ, G2, J, rel, q⟩ := q; exact ⟨y, G2, J.os, J.bare, J.base, J.hok, rel, q⟩
    | next => obtain ⟨σ, G2, J, q⟩ := q; exact ⟨.non, G2, J.os, J.bare, J.base, J.hok, rfl, q⟩
    | brk => obtain ⟨σ, G2, J, q⟩ := q; exact q.elim
    | cont => obtain ⟨σ, G2, J, q⟩ := q; exact q.elim) fun e z2 q => q
/-- .. that may raise -/
theorem fnXD (F : FunD K x qual pa body sc dvs kws f fd) (S : FnScope N ps sc) (len : ∀ vs H Q E, sp vs H Q E → vs.length = ps.length)
    (bd : ∀ (cdv : Value) (A : Around) (out : List Env) (z : Shared) (G : Hp) (vs : List V) (Q : VK) (E : XK), NoG (A.deeper (envOfC qual sc z.heap.objs.size f cdv)) →
      Room k (A.deeper (envOfC qual sc z.heap.objs.size f cdv)) → Takes (cxOf (CXx P w) P w K mg base N qual sc f cdv A out z G E) (fun cls d _ H => E cls d H) → sp vs G Q E →
      ∃ t, PSs (cxOf (CXx P w) P w K mg base N qual sc f cdv A out z G E) body t ∧ t { nx := fun _ H' => Q .non H', rt := Q } (start N vs) G) : FnOG P w K mg base (CXx P w) (k + 1) f fd ps sp :=
  fnOGD (CX := CXx P w) F S len fun cdv A out z G vs Q E ng hr h => bd cdv A out z G vs Q E ng hr (takes_of rfl rfl rfl rfl) h
/-- where the last ones are left out -/
theorem FnOG.posD {ds : List Value} {dv : List V} (F : FnOG P w K mg base CX k f fd ps sp) (len : ∀ vs H Q E, sp vs H Q E → vs.length = ps.length) (hb : Binds K fd ps ds) (hd : Vals dv ds) : FnG P w K mg base CX k f (fun vs H Q E => sp (vs ++ dv) H Q E) := by
  intro A out z G us vs Q E ng room env vals prom
  have va := vals.append hd
  have many : (us ++ ds).length = ps.length := va.length.symm.trans (len _ _ _ _ prom)
  exact F A out z G ⟨us, []⟩ (us ++ ds) (vs ++ dv) Q E ng room env (hb z us (kin0 env) many) many va prom
end
/-- two by their names, the other way round -/
def g02 {α : Type} : List α → List α → List α
  | [], [b, a] => [a, b]
  | _, _ => []
theorem vals_g02 : ∀ {vs zs : List V} {us ws : List Value}, Vals vs us → Vals zs ws → Vals (g02 vs zs) (g02 us ws)
  | _, _, _, _, .nil, .cons a (.cons b .nil) => .cons b (.cons a .nil)
  | _, _, _, _, .nil, .nil => .nil
  | _, _, _, _, .nil, .cons _ .nil => .nil
  | _, _, _, _, .nil, .cons _ (.cons _ (.cons _ _)) => .nil
  | _, _, _, _, .cons _ _, _ => .nil
/-- four by their names, the other way round -/
def g04 {α : Type} : List α → List α → List α
  | [], [d, c, b, a] => [a, b, c, d]
  | _, _ => []
theorem vals_g04 : ∀ {vs zs : List V} {us ws : List Value}, Vals vs us → Vals zs ws → Vals (g04 vs zs) (g04 us ws)
  | _, _, _, _, .nil, .cons a (.cons b (.cons c (.cons e .nil))) => .cons e (.cons c (.cons b (.cons a .nil)))
  | _, _, _, _, .nil, .nil => .nil
  | _, _, _, _, .nil, .cons _ .nil => .nil
  | _, _, _, _, .nil, .cons _ (.cons _ .nil) => .nil
  | _, _, _, _, .nil, .cons _ (.cons _ (.cons _ .nil)) => .nil
  | _, _, _, _, .nil, .cons _ (.cons _ (.cons _ (.cons _ (.cons _ _)))) => .nil
  | _, _, _, _, .cons _ _, _ => .nil
end AZ

set_option Elab.async false
set_option maxRecDepth 100000
set_option maxHeartbeats 4000000
set_option linter.all false
/-! Own work: bool(x) of a tuple. -/
namespace AZ
open PySem PySem.Spec PySem.W PySem.Calls PyProof.Rows
section
variable {prog : Program} {w : World} {A : Around} {E : Value → Shared → Prop} {s : Shared} {v : Value}
theorem bool_tr {Q : Value → Shared → Prop} (tr : wpAny (model prog w) A.in1.in1 (truthy v) (fun b s₁ => Q (.bool b) s₁) E s) : wpAny (model prog w) A (call (.type "bool") [v]) Q E s := by
  refine callType_codes (T := "bool") (Bi := Builtin.«object.__init__») (Q₁ := fun r s₁ => ∃ b, r = .bool b ∧ Q r s₁) PySem.F.called_bool (PySem.F.typeCall_bool_1 _) PySem.F.entry_object_init ?_ ?_
  · refine codeAny_of_tree ?_
    show wpAny _ A.in1.in1 (do checkBuiltinCall "bool.__new__" ⟨[.type "bool", v], []⟩; again (.builtin "bool.__new__" ⟨[.type "bool", v], []⟩)) _ _ s
    refine wpAny_bind (wpAny_of_eq (PySem.F.newCall_bool_1 _) (wpAny_pure ⟨plainId_quiet (by decide +kernel) _, codeAny_builtin PySem.F.entry_bool_new ?_⟩))
    rw [Around.under_plainId (by decide +kernel) _]
    have f1 := PySem.F.conv_sub_bool
    unfold Builtin.«bool.__new__»
    refine wpAny_bind (wpAny_pure ?_)
    refine wpAny_bind (wpAny_of_eq f1 ?_)
    refine wpAny_bind (wpAny_pure ?_)
    exact wpAny_bind (wpAny_mono tr (fun b s₁ hb => wpAny_pure ⟨_, rfl, hb⟩) fun _ _ y => y)
  · rintro obj s₁ ⟨b, rfl, hq⟩
    exact ⟨PySem.typeIs_bool _ _, PySem.F.args_object_init_2 _ _, object_init_meets PySem.F.called_bool.init.lookup PySem.F.called_bool.made (by decide) prog w A.in1 _ s₁ ⟨PySem.typeIs_bool _ _, rfl, hq⟩⟩
end
end AZ
namespace AZ
open PySem L2 PyProof.Rows
section
variable {X : Cx}
theorem call_boolT : CallR X (.type "bool") (fun xs H Q => ∃ p ys, xs = [.ref p] ∧ SqT X.K H p ys ∧ Q (.bl (!ys.isEmpty)) H) := by
  intro pins s σ H xs us Q I rv q
  obtain ⟨p, ys, rfl, ht, q⟩ := q
  cases rv with
  | cons r1 r2 =>
    cases r2
    cases r1
    obtain ⟨its, vi, it, hl⟩ := I.tuple ht
    have e : (!its.toArray.isEmpty) = !ys.isEmpty := by cases vi <;> rfl
    have n : ((its.toArray.size : Nat) : Int) < 2 ^ 63 := by
      have h1 := vi.length
      have h2 : its.toArray.size = its.length := List.size_toArray
      have h3 : sizeLine < 2 ^ 63 := by decide +kernel
      omega
    refine bool_tr (truthy_tuple it n ?_)
    rw [e]
    exact ⟨.bl _, H, I.tok _, rfl, q⟩
theorem uBoolT : CallR X (.type "bool") (fun xs H Q => ((∃ i, xs = [.int i] ∧ Q (.bl (i != 0)) H) ∨ ∃ k, xs = [.bl k] ∧ Q (.bl k) H) ∨ ∃ p ys, xs = [.ref p] ∧ SqT X.K H p ys ∧ Q (.bl (!ys.isEmpty)) H) := CallR.or' call_bool1 call_boolT
end
end AZ

set_option Elab.async false
set_option maxRecDepth 100000
set_option maxHeartbeats 4000000
set_option linter.all false
/-! Own work: == and != of lists and tuples of anything, whatever comes out. -/
namespace GQ
open PySem PySem.SeqAt
open AutoSeq1 (wpAny_loadPart')
open MeetsSeq MeetsSeq2 MeetsSeq3 SeqRoads2
/-- all of the answers from the k-th on -/
def allT (g : Nat → Bool) (N k : Nat) : Bool := ((List.range N).drop k).all g
theorem allT_end {g : Nat → Bool} {N : Nat} : allT g N N = true := by
  unfold allT
  rw [List.drop_of_length_le (by simp)]
  rfl
theorem allT_step {g : Nat → Bool} {N k : Nat} (h : k < N) : allT g N k = (g k && allT g N (k + 1)) := by
  unfold allT
  rw [List.drop_eq_getElem_cons (by simpa using h)]
  simp
theorem allT_zero {g : Nat → Bool} {N : Nat} : allT g N 0 = (List.range N).all g := rfl
section
variable {prog : Program} {w : World} {A : Around} {R : Result → Shared → Prop}
/-- two lists of N items each, at every turn: the i-th ones are compared to g i -/
def ListB (prog : Program) (w : World) (A : Around) (E : Value → Shared → Prop) (l b : Addr) (N : Nat) (g : Nat → Bool) (I : Shared → Prop) : Prop :=
  ∀ i s, I s → ∃ (xs ys : Array Value) (n n2 : Nat), s.heap.get? l = some { cls := .type "list", data := .seq xs n } ∧ s.heap.get? b = some { cls := .type "list", data := .seq ys n2 } ∧ xs.size = N ∧ ys.size = N ∧
    ∀ (h1 : i < xs.size) (h2 : i < ys.size), wpAny (model prog w) A.in1 (eqBool xs[i] ys[i]) (fun r s' => r = g i ∧ I s') E s
theorem loop_eqB (l b : Addr) (N : Nat) (g : Nat → Bool) (I : Shared → Prop) (hl : ListB prog w A (fun e s' => R (.error e) s') l b N g I) (bit : Bool)
    (fin : ∀ s, I s → R (.ok (.ret (.bool bit))) s) (k : Nat) :
    ∀ i : Nat, N - i = k → i ≤ N → bit = allT g N i → ∀ s, I s →
      wpAny (model prog w) A.in1 (Builtin.«list.__eq__.loop» ⟨[.ref l, .ref b, rawInt i, rawInt 2], []⟩) (FinOf prog w A R) (fun e s' => R (.error e) s') s := by
  induction k with
  | zero =>
    intro i hk hi hbit s h
    obtain ⟨xs, ys, n, n2, hl1, hb1, hs1, hs2, _⟩ := hl i _ h
    have hi' : i = N := by omega
    subst hi'
    rw [allT_end] at hbit
    subst hbit
    have hR : R (.ok (.ret (.bool true))) s := fin s h
    obtain ⟨hp, gs, d, tk, os⟩ := s
    wp_walk using wpAny_loadPart' hl1, wpAny_loadPart' hb1
    have hi1 : xs[((i : Nat) : Int).toNat]? = none := by simp; omega
    have hi2 : ys[((i : Nat) : Int).toNat]? = none := by simp; omega
    rw [hi1, hi2]
    wp_walk using wpAny_loadPart' hl1, wpAny_loadPart' hb1
    show R (.ok (.ret (.bool (xs.size == ys.size)))) _
    rw [hs1, hs2]
    simpa using hR
  | succ k ih =>
    intro i hk hi hbit s h
    obtain ⟨xs, ys, n, n2, hl1, hb1, hs1, hs2, turn⟩ := hl i _ h
    have hlt : i < xs.size := by omega
    have hlt2 : i < ys.size := by omega
    have ht := turn hlt hlt2
    rw [allT_step (by omega)] at hbit
    obtain ⟨hp, gs, d, tk, os⟩ := s
    wp_walk using wpAny_loadPart' hl1, wpAny_loadPart' hb1
    have hi1 : xs[((i : Nat) : Int).toNat]? = some xs[i] := by simp [hlt]
    have hi2 : ys[((i : Nat) : Int).toNat]? = some ys[i] := by simp [hlt2]
    have hc : ((i : Int) + 1) = ((i + 1 : Nat) : Int) := by omega
    rw [hi1, hi2]
    refine wpAny_bind (wpAny_mono ht (fun r s2 h2 => ?_) fun _ _ x => x)
    obtain ⟨hr, h2⟩ := h2
    subst hr
    cases hg : g i with
    | true =>
      have hrec := ih (i + 1) (by omega) (by omega) (by rw [hbit, hg]; rfl) s2 h2
      obtain ⟨hp2, g2, d2, tk2, os2⟩ := s2
      wp_walk
      rw [hc]
      exact ⟨plainId_quiet plain_eq_loop _, codeAny_builtin entry_eq_loop (by
        rw [Around.under_plainId plain_eq_loop _]
        exact hrec)⟩
    | false =>
      rw [hg] at hbit
      subst hbit
      have hR := fin s2 h2
      obtain ⟨ys1, ys2, m1, m2, hl2, hb2, hs3, hs4, _⟩ := hl i _ h2
      obtain ⟨hp2, g2, d2, tk2, os2⟩ := s2
      wp_walk using wpAny_loadPart' hl2, wpAny_loadPart' hb2
      have hi3 : ys1[((i : Nat) : Int).toNat]? = some ys1[i] := by simp
      have hi4 : ys2[((i : Nat) : Int).toNat]? = some ys2[i] := by simp
      rw [hi3, hi4]
      wp_walk
      exact hR
theorem loop_neB (l b : Addr) (N : Nat) (g : Nat → Bool) (I : Shared → Prop) (hl : ListB prog w A (fun e s' => R (.error e) s') l b N g I) (bit : Bool)
    (fin : ∀ s, I s → R (.ok (.ret (.bool (!bit)))) s) (k : Nat) :
    ∀ i : Nat, N - i = k → i ≤ N → bit = allT g N i → ∀ s, I s →
      wpAny (model prog w) A.in1 (Builtin.«list.__eq__.loop» ⟨[.ref l, .ref b, rawInt i, rawInt 3], []⟩) (FinOf prog w A R) (fun e s' => R (.error e) s') s := by
  induction k with
  | zero =>
    intro i hk hi hbit s h
    obtain ⟨xs, ys, n, n2, hl1, hb1, hs1, hs2, _⟩ := hl i _ h
    have hi' : i = N := by omega
    subst hi'
    rw [allT_end] at hbit
    subst hbit
    have hR : R (.ok (.ret (.bool false))) s := fin s h
    obtain ⟨hp, gs, d, tk, os⟩ := s
    wp_walk using wpAny_loadPart' hl1, wpAny_loadPart' hb1
    have hi1 : xs[((i : Nat) : Int).toNat]? = none := by simp; omega
    have hi2 : ys[((i : Nat) : Int).toNat]? = none := by simp; omega
    rw [hi1, hi2]
    wp_walk using wpAny_loadPart' hl1, wpAny_loadPart' hb1
    show R (.ok (.ret (.bool (xs.size != ys.size)))) _
    rw [hs1, hs2]
    simpa using hR
  | succ k ih =>
    intro i hk hi hbit s h
    obtain ⟨xs, ys, n, n2, hl1, hb1, hs1, hs2, turn⟩ := hl i _ h
    have hlt : i < xs.size := by omega
    have hlt2 : i < ys.size := by omega
    have ht := turn hlt hlt2
    rw [allT_step (by omega)] at hbit
    obtain ⟨hp, gs, d, tk, os⟩ := s
    wp_walk using wpAny_loadPart' hl1, wpAny_loadPart' hb1
    have hi1 : xs[((i : Nat) : Int).toNat]? = some xs[i] := by simp [hlt]
    have hi2 : ys[((i : Nat) : Int).toNat]? = some ys[i] := by simp [hlt2]
    have hc : ((i : Int) + 1) = ((i + 1 : Nat) : Int) := by omega
    rw [hi1, hi2]
    refine wpAny_bind (wpAny_mono ht (fun r s2 h2 => ?_) fun _ _ x => x)
    obtain ⟨hr, h2⟩ := h2
    subst hr
    cases hg : g i with
    | true =>
      have hrec := ih (i + 1) (by omega) (by omega) (by rw [hbit, hg]; rfl) s2 h2
      obtain ⟨hp2, g2, d2, tk2, os2⟩ := s2
      wp_walk
      rw [hc]
      exact ⟨plainId_quiet plain_eq_loop _, codeAny_builtin entry_eq_loop (by
        rw [Around.under_plainId plain_eq_loop _]
        exact hrec)⟩
    | false =>
      rw [hg] at hbit
      subst hbit
      have hR := fin s2 h2
      obtain ⟨ys1, ys2, m1, m2, hl2, hb2, hs3, hs4, _⟩ := hl i _ h2
      obtain ⟨hp2, g2, d2, tk2, os2⟩ := s2
      wp_walk using wpAny_loadPart' hl2, wpAny_loadPart' hb2
      have hi3 : ys1[((i : Nat) : Int).toNat]? = some ys1[i] := by simp
      have hi4 : ys2[((i : Nat) : Int).toNat]? = some ys2[i] := by simp
      rw [hi3, hi4]
      wp_walk
      exact hR
theorem list_eqB (l b : Addr) (N : Nat) (g : Nat → Bool) (I : Shared → Prop) (hl : ListB prog w A (fun e s' => R (.error e) s') l b N g I)
    (fin : ∀ s, I s → R (.ok (.ret (.bool (allT g N 0)))) s) {s : Shared} (h : I s) :
    wpAny (model prog w) A.in1 (Builtin.«list.__eq__» ⟨[.ref l, .ref b], []⟩) (FinOf prog w A R) (fun e s' => R (.error e) s') s := by
  obtain ⟨xs, ys, n, n2, hl1, hb1, hs1, hs2, _⟩ := hl 0 _ h
  have hrec := loop_eqB (A := A) (R := R) l b N g I hl _ fin _ 0 rfl (Nat.zero_le _) rfl s h
  obtain ⟨hp, gs, d, tk, os⟩ := s
  have f3 := AutoSeq1.sub_list_list
  have hne : ¬ (xs.size != ys.size) = true := by simp [hs1, hs2]
  wp_walk using wpAny_loadPart' hl1, wpAny_loadPart' hb1
  exact ⟨plainId_quiet plain_eq_loop _, codeAny_builtin entry_eq_loop (by
    rw [Around.under_plainId plain_eq_loop _]
    exact hrec)⟩
theorem list_neB (l b : Addr) (N : Nat) (g : Nat → Bool) (I : Shared → Prop) (hl : ListB prog w A (fun e s' => R (.error e) s') l b N g I)
    (fin : ∀ s, I s → R (.ok (.ret (.bool (!allT g N 0)))) s) {s : Shared} (h : I s) :
    wpAny (model prog w) A.in1 (Builtin.«list.__ne__» ⟨[.ref l, .ref b], []⟩) (FinOf prog w A R) (fun e s' => R (.error e) s') s := by
  obtain ⟨xs, ys, n, n2, hl1, hb1, hs1, hs2, _⟩ := hl 0 _ h
  have hrec := loop_neB (A := A) (R := R) l b N g I hl _ fin _ 0 rfl (Nat.zero_le _) rfl s h
  obtain ⟨hp, gs, d, tk, os⟩ := s
  have f3 := AutoSeq1.sub_list_list
  have hne : ¬ (xs.size != ys.size) = true := by simp [hs1, hs2]
  wp_walk using wpAny_loadPart' hl1, wpAny_loadPart' hb1
  exact ⟨plainId_quiet plain_eq_loop _, codeAny_builtin entry_eq_loop (by
    rw [Around.under_plainId plain_eq_loop _]
    exact hrec)⟩
/-- where a walk over two tuples stands, of any lengths -/
def ZipAt (as bs : Array Value) (left : List (Value × Value)) (k : Nat) : Prop := left = (as.toList.zip bs.toList).drop k ∧ k ≤ min as.size bs.size
theorem zip_next {as bs : Array Value} {p q : Value} {left : List (Value × Value)} {k : Nat} (h : ZipAt as bs ((p, q) :: left) k) :
    ∃ (k1 : k < as.size) (k2 : k < bs.size), p = as[k] ∧ q = bs[k] ∧ ZipAt as bs left (k + 1) := by
  obtain ⟨el, _⟩ := h
  have len : (as.toList.zip bs.toList).length = min as.size bs.size := by simp
  by_cases hk : k < (as.toList.zip bs.toList).length
  · have k1 : k < as.size := by omega
    have k2 : k < bs.size := by omega
    rw [List.drop_eq_getElem_cons hk] at el
    obtain ⟨e1, e2⟩ := List.cons.inj el
    have e3 := Prod.mk.inj (e1.trans (show _ = (as[k], bs[k]) by simp))
    exact ⟨k1, k2, e3.1, e3.2, e2, by omega⟩
  · rw [List.drop_of_length_le (Nat.le_of_not_lt hk)] at el
    cases el
theorem zip_done {as bs : Array Value} {k : Nat} (h : ZipAt as bs [] k) : k = min as.size bs.size := by
  obtain ⟨el, hk⟩ := h
  have len : (as.toList.zip bs.toList).length = min as.size bs.size := by simp
  have : (as.toList.zip bs.toList).length ≤ k := by simpa using el.symm
  omega
theorem tup_eqB {u v : Addr} {as bs : Array Value} {n1 n2 : Nat} {d1 d2 : Option Addr} {s1 s2 : Array (Option Value)} (g : Nat → Bool) (I : Shared → Prop) (bit : Bool) (hbit : bit = (allT g (min as.size bs.size) 0 && as.size == bs.size))
    (step : ∀ k (k1 : k < as.size) (k2 : k < bs.size) z, I z → wpAny (model prog w) A.in1 (eqBool as[k] bs[k]) (fun r z' => r = g k ∧ I z') (fun x z' => R (.error x) z') z)
    (last : ∀ z, I z → R (.ok (.ret (.bool bit))) z) {z : Shared} (hu : z.heap.get? u = some { cls := .type "tuple", dict := d1, data := .seq as n1, slots := s1 }) (hv : z.heap.get? v = some { cls := .type "tuple", dict := d2, data := .seq bs n2, slots := s2 }) (h : I z) :
    wpAny (model prog w) A.in1 (Builtin.«tuple.__eq__» ⟨[.ref u, .ref v], []⟩) (FinOf prog w A R) (fun x z' => R (.error x) z') z := by
  have isTup := AutoSeq1.sub_tuple_tuple
  have start : ZipAt as bs (as.toList.zip bs.toList) 0 := ⟨rfl, Nat.zero_le _⟩
  obtain ⟨hp, gs, dr, tk, os⟩ := z
  wp_walk using wpAny_loadPart' hu, wpAny_loadPart' hv, wpAny_forIn_list _ (fun left b z' => b.1 = none ∧ ∃ k, ZipAt as bs left k ∧ bit = (allT g (min as.size bs.size) k && as.size == bs.size) ∧ I z') _
  case turn =>
    rintro ⟨p, q⟩ left b z' ⟨_, k, at_, hb, hI⟩
    obtain ⟨k1, k2, rfl, rfl, el⟩ := zip_next at_
    rw [allT_step (by omega)] at hb
    refine wpAny_bind (wpAny_mono (step k k1 k2 z' hI) (fun r z2 hz => ?_) fun _ _ x => x)
    obtain ⟨rfl, hI2⟩ := hz
    cases hg : g k with
    | true =>
      wp_walk
      exact ⟨rfl, k + 1, el, by rw [hb, hg]; rfl, hI2⟩
    | false =>
      have := last z2 hI2
      rw [hb, hg] at this
      wp_walk
      exact this
  case fin =>
    rintro ⟨b1, b2⟩ z' ⟨hb, k, at_, hb2, hI⟩
    obtain rfl : b1 = none := hb
    have hl := last z' hI
    rw [zip_done at_, allT_end] at hb2
    wp_walk
    rw [hb2] at hl
    simpa [Builtin.Tuple.tupleCompareSizes] using hl
  case h => exact ⟨rfl, 0, start, hbit, h⟩
theorem tup_neB {u v : Addr} {as bs : Array Value} {n1 n2 : Nat} {d1 d2 : Option Addr} {s1 s2 : Array (Option Value)} (g : Nat → Bool) (I : Shared → Prop) (bit : Bool) (hbit : bit = (allT g (min as.size bs.size) 0 && as.size == bs.size))
    (step : ∀ k (k1 : k < as.size) (k2 : k < bs.size) z, I z → wpAny (model prog w) A.in1 (eqBool as[k] bs[k]) (fun r z' => r = g k ∧ I z') (fun x z' => R (.error x) z') z)
    (last : ∀ z, I z → R (.ok (.ret (.bool (!bit)))) z) {z : Shared} (hu : z.heap.get? u = some { cls := .type "tuple", dict := d1, data := .seq as n1, slots := s1 }) (hv : z.heap.get? v = some { cls := .type "tuple", dict := d2, data := .seq bs n2, slots := s2 }) (h : I z) :
    wpAny (model prog w) A.in1 (Builtin.«tuple.__ne__» ⟨[.ref u, .ref v], []⟩) (FinOf prog w A R) (fun x z' => R (.error x) z') z := by
  have isTup := AutoSeq1.sub_tuple_tuple
  have start : ZipAt as bs (as.toList.zip bs.toList) 0 := ⟨rfl, Nat.zero_le _⟩
  obtain ⟨hp, gs, dr, tk, os⟩ := z
  wp_walk using wpAny_loadPart' hu, wpAny_loadPart' hv, wpAny_forIn_list _ (fun left b z' => b.1 = none ∧ ∃ k, ZipAt as bs left k ∧ bit = (allT g (min as.size bs.size) k && as.size == bs.size) ∧ I z') _
  case turn =>
    rintro ⟨p, q⟩ left b z' ⟨_, k, at_, hb, hI⟩
    obtain ⟨k1, k2, rfl, rfl, el⟩ := zip_next at_
    rw [allT_step (by omega)] at hb
    refine wpAny_bind (wpAny_mono (step k k1 k2 z' hI) (fun r z2 hz => ?_) fun _ _ x => x)
    obtain ⟨rfl, hI2⟩ := hz
    cases hg : g k with
    | true =>
      wp_walk
      exact ⟨rfl, k + 1, el, by rw [hb, hg]; rfl, hI2⟩
    | false =>
      have := last z2 hI2
      rw [hb, hg] at this
      wp_walk
      exact this
  case fin =>
    rintro ⟨b1, b2⟩ z' ⟨hb, k, at_, hb2, hI⟩
    obtain rfl : b1 = none := hb
    have hl := last z' hI
    rw [zip_done at_, allT_end] at hb2
    wp_walk
    rw [hb2] at hl
    simpa [Builtin.Tuple.tupleCompareSizes, bne] using hl
  case h => exact ⟨rfl, 0, start, hbit, h⟩
end
section
variable {prog : Program} {w : World} {A : Around} {X : Value → Shared → Prop} {z : Shared}
theorem rc_listB {l b : Addr} {N : Nat} {g : Nat → Bool} {Q : Value → Shared → Prop} (hu : A.units < cLine) (I : Shared → Prop) (hl : ListB prog w A X l b N g I)
    (fin : ∀ s, I s → Q (.bool (allT g N 0)) s) (h : I z) : wpAny (model prog w) A (richCompare .Eq (.ref l) (.ref b)) Q X z := by
  obtain ⟨xs, ys, n, n2, hl1, hb1, _, _, _⟩ := hl 0 _ h
  refine wpAny_richCompare_same_room (op := .Eq) ⟨_, hl1, rfl⟩ ⟨_, hb1, rfl⟩ F.slot_list_eq (call_here F.slot_list_eq ⟨_, hl1, rfl⟩ F.entry_list_eq (F.args_list_eq_2 _ _) ?_) hu
  exact list_eqB (R := wants (fun v s' => v ≠ .notImplemented ∧ Q v s') X) l b N g I hl (fun s' q => ⟨(fun x => nomatch x), fin s' q⟩) h
theorem nc_listB {l b : Addr} {N : Nat} {g : Nat → Bool} {Q : Value → Shared → Prop} (hu : A.units < cLine) (I : Shared → Prop) (hl : ListB prog w A X l b N g I)
    (fin : ∀ s, I s → Q (.bool (!allT g N 0)) s) (h : I z) : wpAny (model prog w) A (richCompare .NotEq (.ref l) (.ref b)) Q X z := by
  obtain ⟨xs, ys, n, n2, hl1, hb1, _, _, _⟩ := hl 0 _ h
  refine wpAny_richCompare_same_room (op := .NotEq) ⟨_, hl1, rfl⟩ ⟨_, hb1, rfl⟩ F.slot_list_ne (call_here F.slot_list_ne ⟨_, hl1, rfl⟩ F.entry_list_ne (F.args_list_ne_2 _ _) ?_) hu
  exact list_neB (R := wants (fun v s' => v ≠ .notImplemented ∧ Q v s') X) l b N g I hl (fun s' q => ⟨(fun x => nomatch x), fin s' q⟩) h
theorem rc_tupB {u v : Addr} {as bs : Array Value} {g : Nat → Bool} {Q : Value → Shared → Prop} (room : A.units < cLine) (I : Shared → Prop) (hu : z.heap.IsTuple u as) (hv : z.heap.IsTuple v bs)
    (step : ∀ k (k1 : k < as.size) (k2 : k < bs.size) z, I z → wpAny (model prog w) A.in1 (eqBool as[k] bs[k]) (fun r z' => r = g k ∧ I z') X z)
    (last : ∀ z, I z → Q (.bool (allT g (min as.size bs.size) 0 && as.size == bs.size)) z) (h : I z) : wpAny (model prog w) A (richCompare .Eq (.ref u) (.ref v)) Q X z := by
  obtain ⟨⟨c1, d1, a1, s1⟩, g1, rfl, n1, rfl⟩ := id hu
  obtain ⟨⟨c2, d2, a2, s2⟩, g2, rfl, n2, rfl⟩ := id hv
  exact wpAny_richCompare_same_room (op := .Eq) ⟨_, g1, rfl⟩ ⟨_, g2, rfl⟩ F.slot_tuple_eq (call_here F.slot_tuple_eq ⟨_, g1, rfl⟩ F.entry_tuple_eq (F.args_tuple_eq_2 _ _)
    (tup_eqB (R := wants (fun v s' => v ≠ .notImplemented ∧ Q v s') X) g I _ rfl step (fun z' q => ⟨(fun x => nomatch x), last z' q⟩) g1 g2 h)) room
theorem nc_tupB {u v : Addr} {as bs : Array Value} {g : Nat → Bool} {Q : Value → Shared → Prop} (room : A.units < cLine) (I : Shared → Prop) (hu : z.heap.IsTuple u as) (hv : z.heap.IsTuple v bs)
    (step : ∀ k (k1 : k < as.size) (k2 : k < bs.size) z, I z → wpAny (model prog w) A.in1 (eqBool as[k] bs[k]) (fun r z' => r = g k ∧ I z') X z)
    (last : ∀ z, I z → Q (.bool (!(allT g (min as.size bs.size) 0 && as.size == bs.size))) z) (h : I z) : wpAny (model prog w) A (richCompare .NotEq (.ref u) (.ref v)) Q X z := by
  obtain ⟨⟨c1, d1, a1, s1⟩, g1, rfl, n1, rfl⟩ := id hu
  obtain ⟨⟨c2, d2, a2, s2⟩, g2, rfl, n2, rfl⟩ := id hv
  exact wpAny_richCompare_same_room (op := .NotEq) ⟨_, g1, rfl⟩ ⟨_, g2, rfl⟩ F.slot_tuple_ne (call_here F.slot_tuple_ne ⟨_, g1, rfl⟩ F.entry_tuple_ne (F.args_tuple_ne_2 _ _)
    (tup_neB (R := wants (fun v s' => v ≠ .notImplemented ∧ Q v s') X) g I _ rfl step (fun z' q => ⟨(fun x => nomatch x), last z' q⟩) g1 g2 h)) room
end
end GQ

namespace AZ
open PySem L2 GQ PyProof.Rows
/-- == of two values gives this answer, by the abstract heap -/
abbrev Eqw := V → V → Hp → Bool → Prop
def MonB (D : Eqw) : Prop := ∀ x y H H' r, Ext H H' → D x y H r → D x y H' r
/-- one object is equal to itself -/
def RflB (D : Eqw) : Prop := ∀ a H r, D (.ref a) (.ref a) H r → r = true
def EqB (X : Cx) (n : Nat) (D : Eqw) : Prop :=
  ∀ (A : Around) (pins : List (Addr × Obj)) (s : Shared) (σ : L2.St) (H : Hp) (x y : V) (u v : Value) (r : Bool), Sub X n A → Inv X pins σ H s → RelV x u → RelV y v → D x y H r →
    wpAny (model X.prog X.w) A (eqBool u v) (fun b s' => b = r ∧ LoopI X pins σ H s') X.xe s
def RcB (X : Cx) (n : Nat) (op : CmpOp) (f : Bool → Bool) (D : Eqw) : Prop :=
  ∀ (A : Around) (pins : List (Addr × Obj)) (s : Shared) (σ : L2.St) (H : Hp) (x y : V) (u v : Value) (r : Bool), Sub X n A → Inv X pins σ H s → RelV x u → RelV y v → D x y H r →
    wpAny (model X.prog X.w) A (richCompare op u v) (fun b s' => b = .bool (f r) ∧ LoopI X pins σ H s') X.xe s
section
variable {X : Cx} {n m : Nat} {D D' : Eqw}
theorem EqB.mono (h : EqB X n D) (hn : n ≤ m) : EqB X m D := fun A pins s σ H x y u v r sb => h A pins s σ H x y u v r (sb.mono hn)
theorem EqB.or (h : EqB X n D) (h' : EqB X n D') : EqB X n (fun x y H r => D x y H r ∨ D' x y H r) := fun A pins s σ H x y u v r sb I rx ry d => by
  rcases d with d | d
  · exact h A pins s σ H x y u v r sb I rx ry d
  · exact h' A pins s σ H x y u v r sb I rx ry d
theorem MonB.or (h : MonB D) (h' : MonB D') : MonB (fun x y H r => D x y H r ∨ D' x y H r) := fun x y H H' r e d => d.elim (fun d => .inl (h x y H H' r e d)) fun d => .inr (h' x y H H' r e d)
theorem RflB.or (h : RflB D) (h' : RflB D') : RflB (fun x y H r => D x y H r ∨ D' x y H r) := fun a H r d => d.elim (h a H r) (h' a H r)
/-- flat values -/
def BFlat : Eqw := fun x y _ r => flatV x = true ∧ flatV y = true ∧ eqV x y = r
theorem monB_flat : MonB BFlat := fun _ _ _ _ _ _ d => d
theorem rflB_flat : RflB BFlat := fun a H r d => by
  have := d.1
  cases this
theorem eqB_flat : EqB X 0 BFlat := by
  intro A pins s σ H x y u v r sb I rx ry d
  obtain ⟨fx, fy, e⟩ := d
  have q := eqAt_V (A := A) (s := s) rx ry fx fy
  rw [e] at q
  exact q X.prog X.w X.xe _ ⟨rfl, H, I, Ext.rfl'⟩
/-- item by item, up to the shorter end -/
def PrB (D : Eqw) (xs ys : List V) (H : Hp) (g : Nat → Bool) : Prop := ∀ (i : Nat) x y, xs[i]? = some x → ys[i]? = some y → D x y H (g i)
theorem PrB.mon (hD : MonB D) {xs ys : List V} {H H' : Hp} {g : Nat → Bool} (e : Ext H H') (p : PrB D xs ys H g) : PrB D xs ys H' g := fun i x y h1 h2 => hD x y H H' _ e (p i x y h1 h2)
def BList (D : Eqw) : Eqw := fun x y H r => ∃ a b xs ys, x = .ref a ∧ y = .ref b ∧ H a = some (.lst xs) ∧ H b = some (.lst ys) ∧ ((xs.length ≠ ys.length ∧ r = false) ∨ (xs.length = ys.length ∧ ∃ g, PrB D xs ys H g ∧ r = allT g xs.length 0))
def BTup (K : PySem.W.Frag) (D : Eqw) : Eqw := fun x y H r => ∃ a b xs ys, x = .ref a ∧ y = .ref b ∧ SqT K H a xs ∧ SqT K H b ys ∧ ∃ g, PrB D xs ys H g ∧ r = (allT g (min xs.length ys.length) 0 && xs.length == ys.length)
theorem monB_list (hD : MonB D) : MonB (BList D) := fun x y H H' r e d => by
  obtain ⟨a, b, xs, ys, hx, hy, h1, h2, p⟩ := d
  exact ⟨a, b, xs, ys, hx, hy, e _ _ h1, e _ _ h2, p.elim .inl fun ⟨l, g, p, q⟩ => .inr ⟨l, g, p.mon hD e, q⟩⟩
theorem monB_tup {K : PySem.W.Frag} (hD : MonB D) : MonB (BTup K D) := fun x y H H' r e d => by
  obtain ⟨a, b, xs, ys, hx, hy, h1, h2, g, p, q⟩ := d
  exact ⟨a, b, xs, ys, hx, hy, h1.ext e, h2.ext e, g, p.mon hD e, q⟩
theorem turnB (hD : MonB D) (h : EqB X n D) {A : Around} (sb : Sub X (n + 1) A) {pins : List (Addr × Obj)} {σ : L2.St} {H : Hp} {xs ys : List V} {its its2 : List Value} {g : Nat → Bool} (p : PrB D xs ys H g) (r : Vals xs its) (r2 : Vals ys its2)
    (i : Nat) (h1 : i < its.toArray.size) (h2 : i < its2.toArray.size) (s' : Shared) (l : LoopI X pins σ H s') :
    wpAny (model X.prog X.w) A.in1 (eqBool its.toArray[i] its2.toArray[i]) (fun r s2 => r = g i ∧ LoopI X pins σ H s2) X.xe s' := by
  obtain ⟨H1, I1, e1⟩ := l
  have g1 : its[i]? = some its.toArray[i] := by
    have h1' : i < its.length := by simpa using h1
    rw [List.getElem?_eq_getElem h1'] <;> simp
  have g2 : its2[i]? = some its2.toArray[i] := by
    have h2' : i < its2.length := by simpa using h2
    rw [List.getElem?_eq_getElem h2'] <;> simp
  have k1 : i < xs.length := by rw [r.length]; simpa using h1
  have k2 : i < ys.length := by rw [r2.length]; simpa using h2
  obtain ⟨u, hu, ru⟩ := r.get (List.getElem?_eq_getElem k1)
  obtain ⟨v, hv, rv⟩ := r2.get (List.getElem?_eq_getElem k2)
  rw [g1] at hu
  rw [g2] at hv
  rw [Option.some.inj hu, Option.some.inj hv]
  refine wpAny_mono (h A.in1 pins s' σ H1 _ _ u v _ sb.in1 I1 ru rv (hD _ _ _ _ _ e1 (p i _ _ (List.getElem?_eq_getElem k1) (List.getElem?_eq_getElem k2)))) (fun r s2 q => ?_) fun _ _ x => x
  obtain ⟨hr, H2, I2, e2⟩ := q
  exact ⟨hr, H2, I2, e1.trans e2⟩
theorem listB (hD : MonB D) (h : EqB X n D) {A : Around} (sb : Sub X (n + 1) A) {pins : List (Addr × Obj)} {σ : L2.St} {H : Hp} {a b : Addr} {xs ys : List V} {g : Nat → Bool} (ha : H a = some (.lst xs)) (hb : H b = some (.lst ys)) (hl : xs.length = ys.length) (p : PrB D xs ys H g) :
    ListB X.prog X.w A X.xe a b xs.length g (fun s' => LoopI X pins σ H s') := by
  intro i s' q
  obtain ⟨H1, I1, e1⟩ := id q
  obtain ⟨z, its, k, r, e⟩ := I1.hok a _ (e1 _ _ ha)
  obtain ⟨z2, its2, k2, r2, e2⟩ := I1.hok b _ (e1 _ _ hb)
  refine ⟨its.toArray, its2.toArray, k, k2, e, e2, by rw [List.size_toArray, ← r.length], by rw [List.size_toArray, ← r2.length, ← hl], fun h1 h2 => ?_⟩
  exact turnB hD h sb p r r2 i h1 h2 s' q
theorem rcB_list (hD : MonB D) (h : EqB X n D) : RcB X (n + 1) .Eq id (BList D) := by
  intro A pins s σ H x y u v r sb I rx ry d
  obtain ⟨a, b, xs, ys, rfl, rfl, ha, hb, p⟩ := d
  cases rx
  cases ry
  rcases p with ⟨ne, rfl⟩ | ⟨hl, g, p, rfl⟩
  · obtain ⟨z, its, k, r, e⟩ := I.hok a _ ha
    obtain ⟨z2, its2, k2, r2, e2⟩ := I.hok b _ hb
    exact GQ.eq_lists_diff sb.room.units0 e e2 (by rw [List.size_toArray, List.size_toArray, ← r.length, ← r2.length]; exact ne) ⟨rfl, H, I, Ext.rfl'⟩
  · exact GQ.rc_listB (g := g) sb.room.units0 (fun s' => LoopI X pins σ H s') (listB hD h sb ha hb hl p) (fun s' q => ⟨rfl, q⟩) ⟨H, I, Ext.rfl'⟩
theorem ncB_list (hD : MonB D) (h : EqB X n D) : RcB X (n + 1) .NotEq not (BList D) := by
  intro A pins s σ H x y u v r sb I rx ry d
  obtain ⟨a, b, xs, ys, rfl, rfl, ha, hb, p⟩ := d
  cases rx
  cases ry
  rcases p with ⟨ne, rfl⟩ | ⟨hl, g, p, rfl⟩
  · obtain ⟨z, its, k, r, e⟩ := I.hok a _ ha
    obtain ⟨z2, its2, k2, r2, e2⟩ := I.hok b _ hb
    exact GQ.ne_lists_diff sb.room.units0 e e2 (by rw [List.size_toArray, List.size_toArray, ← r.length, ← r2.length]; exact ne) ⟨rfl, H, I, Ext.rfl'⟩
  · exact GQ.nc_listB (g := g) sb.room.units0 (fun s' => LoopI X pins σ H s') (listB hD h sb ha hb hl p) (fun s' q => ⟨rfl, q⟩) ⟨H, I, Ext.rfl'⟩
theorem rcB_tup (hD : MonB D) (h : EqB X n D) : RcB X (n + 1) .Eq id (BTup X.K D) := by
  intro A pins s σ H x y u v r sb I rx ry d
  obtain ⟨a, b, xs, ys, rfl, rfl, ha, hb, g, p, rfl⟩ := d
  cases rx
  cases ry
  obtain ⟨its, r, e, z⟩ := I.tuple ha
  obtain ⟨its2, r2, e2, z2⟩ := I.tuple hb
  have s1 : its.toArray.size = xs.length := by rw [List.size_toArray, ← r.length]
  have s2 : its2.toArray.size = ys.length := by rw [List.size_toArray, ← r2.length]
  refine GQ.rc_tupB (g := g) sb.room.units0 (fun s' => LoopI X pins σ H s') e e2 (fun i h1 h2 s' q => turnB hD h sb p r r2 i h1 h2 s' q) (fun s' q => ⟨?_, q⟩) ⟨H, I, Ext.rfl'⟩
  rw [s1, s2]
  rfl
theorem ncB_tup (hD : MonB D) (h : EqB X n D) : RcB X (n + 1) .NotEq not (BTup X.K D) := by
  intro A pins s σ H x y u v r sb I rx ry d
  obtain ⟨a, b, xs, ys, rfl, rfl, ha, hb, g, p, rfl⟩ := d
  cases rx
  cases ry
  obtain ⟨its, r, e, z⟩ := I.tuple ha
  obtain ⟨its2, r2, e2, z2⟩ := I.tuple hb
  have s1 : its.toArray.size = xs.length := by rw [List.size_toArray, ← r.length]
  have s2 : its2.toArray.size = ys.length := by rw [List.size_toArray, ← r2.length]
  refine GQ.nc_tupB (g := g) sb.room.units0 (fun s' => LoopI X pins σ H s') e e2 (fun i h1 h2 s' q => turnB hD h sb p r r2 i h1 h2 s' q) (fun s' q => ⟨?_, q⟩) ⟨H, I, Ext.rfl'⟩
  rw [s1, s2]
theorem RcB.eqB (h : RcB X n .Eq id D) (hr : ∀ x y H r, D x y H r → ∃ a b, x = .ref a ∧ y = .ref b) (rf : RflB D) : EqB X n D := by
  intro A pins s σ H x y u v r sb I rx ry d
  obtain ⟨a, b, rfl, rfl⟩ := hr _ _ _ _ d
  cases rx
  cases ry
  by_cases hab : a = b
  · subst hab
    rw [rf _ _ _ d]
    exact SeqAt.EqAt.same (A := A) (s := s) (.ref a) X.prog X.w X.xe _ ⟨rfl, H, I, Ext.rfl'⟩
  · refine GQ.eqBool_refG hab (wpAny_mono (h A pins s σ H (.ref a) (.ref b) _ _ r sb I rfl rfl d) (fun b' s' q => ?_) fun _ _ x => x)
    obtain ⟨hr', q⟩ := q
    exact ⟨r, hr', rfl, q⟩
theorem allT_true {g : Nat → Bool} {N : Nat} (h : ∀ i, i < N → g i = true) : allT g N 0 = true := by
  unfold allT
  rw [List.drop_zero, List.all_eq_true]
  intro i hi
  exact h i (List.mem_range.mp hi)
/-- flat or one object -/
def RflF (D : Eqw) : Prop := ∀ x H r, D x x H r → r = true
theorem rflF_flat : RflF BFlat := fun x H r d => by
  obtain ⟨h1, h2, h3⟩ := d
  rw [← h3]
  cases x with
  | non => rfl
  | bl b => cases b <;> rfl
  | int i => show (i == i) = true; simp
  | str s => show (s == s) = true; simp
  | ref a => cases h1
  | _ => cases h1
theorem RflF.b (h : RflF D) : RflB D := fun a H r d => h _ _ _ d
theorem RflF.or (h : RflF D) (h' : RflF D') : RflF (fun x y H r => D x y H r ∨ D' x y H r) := fun x H r d => d.elim (h x H r) (h' x H r)
theorem rflF_list (h : RflF D) : RflF (BList D) := fun x H r d => by
  obtain ⟨a, b, xs, ys, e1, e2, h1, h2, p⟩ := d
  rw [e1] at e2
  injection e2 with e2
  subst e2
  rw [h1] at h2
  injection h2 with h2
  injection h2 with h2
  subst h2
  rcases p with ⟨ne, _⟩ | ⟨_, g, p, rfl⟩
  · exact absurd rfl ne
  · exact allT_true fun i hi => h _ _ _ (p i _ _ (List.getElem?_eq_getElem hi) (List.getElem?_eq_getElem hi))
theorem sqT_uniq {K : PySem.W.Frag} {H : Hp} {a : Addr} {xs ys : List V} (h1 : H a = some (.tup xs)) (h2 : SqT K H a ys) : xs = ys ∨ H a ≠ some (.tup ys) := by
  by_cases h : xs = ys
  · exact .inl h
  · refine .inr fun e => h ?_
    rw [h1] at e
    injection e with e
    injection e
/-- tuples that the abstract heap knows -/
def BTu (D : Eqw) : Eqw := fun x y H r => ∃ a b xs ys, x = .ref a ∧ y = .ref b ∧ H a = some (.tup xs) ∧ H b = some (.tup ys) ∧ ∃ g, PrB D xs ys H g ∧ r = (allT g (min xs.length ys.length) 0 && xs.length == ys.length)
theorem monB_tu (hD : MonB D) : MonB (BTu D) := fun x y H H' r e d => by
  obtain ⟨a, b, xs, ys, hx, hy, h1, h2, g, p, q⟩ := d
  exact ⟨a, b, xs, ys, hx, hy, e _ _ h1, e _ _ h2, g, p.mon hD e, q⟩
theorem BTu.tup {x y : V} {H : Hp} {r : Bool} {K : PySem.W.Frag} (h : BTu D x y H r) : BTup K D x y H r := by
  obtain ⟨a, b, xs, ys, hx, hy, h1, h2, g, p, q⟩ := h
  exact ⟨a, b, xs, ys, hx, hy, SqT.of h1, SqT.of h2, g, p, q⟩
theorem rflF_tu (h : RflF D) : RflF (BTu D) := fun x H r d => by
  obtain ⟨a, b, xs, ys, e1, e2, h1, h2, g, p, rfl⟩ := d
  rw [e1] at e2
  injection e2 with e2
  subst e2
  rw [h1] at h2
  injection h2 with h2
  injection h2 with h2
  subst h2
  rw [Nat.min_self, allT_true fun i hi => h _ _ _ (p i _ _ (List.getElem?_eq_getElem hi) (List.getElem?_eq_getElem hi))]
  simp
theorem rcB_tu (hD : MonB D) (h : EqB X n D) : RcB X (n + 1) .Eq id (BTu D) := fun A pins s σ H x y u v r sb I rx ry d => rcB_tup hD h A pins s σ H x y u v r sb I rx ry d.tup
theorem ncB_tu (hD : MonB D) (h : EqB X n D) : RcB X (n + 1) .NotEq not (BTu D) := fun A pins s σ H x y u v r sb I rx ry d => ncB_tup hD h A pins s σ H x y u v r sb I rx ry d.tup
theorem eqB_list (hD : MonB D) (h : EqB X n D) (rf : RflF D) : EqB X (n + 1) (BList D) := (rcB_list hD h).eqB (fun _ _ _ _ d => let ⟨a, b, _, _, hx, hy, _⟩ := d; ⟨a, b, hx, hy⟩) (rflF_list rf).b
theorem eqB_tu (hD : MonB D) (h : EqB X n D) (rf : RflF D) : EqB X (n + 1) (BTu D) := (rcB_tu hD h).eqB (fun _ _ _ _ d => let ⟨a, b, _, _, hx, hy, _⟩ := d; ⟨a, b, hx, hy⟩) (rflF_tu rf).b
/-- x == y, x != y as expressions -/
def rEqB (D : Eqw) : R2 := fun x y H Q => ∃ r, D x y H r ∧ ∀ H', Ext H H' → Q (.bl r) H'
def rNeB (D : Eqw) : R2 := fun x y H Q => ∃ r, D x y H r ∧ ∀ H', Ext H H' → Q (.bl (!r)) H'
theorem op_eqB (h : RcB X n .Eq id D) (hr : Room n X.A) : OpR X (compareOp .Eq) (rEqB D) := by
  intro pins s σ H x y v u Q I rx ry hq
  obtain ⟨r, d, q⟩ := hq
  show wpAny (model X.prog X.w) X.A (richCompare .Eq v u) (EP X pins σ Q) X.xe s
  refine wpAny_mono (h X.A pins s σ H x y v u r ⟨hr, rfl⟩ I rx ry d) (fun b s' z => ?_) fun _ _ x => x
  obtain ⟨hr', H', I', e⟩ := z
  subst hr'
  exact ⟨.bl r, H', I', rfl, q H' e⟩
theorem op_neB (h : RcB X n .NotEq not D) (hr : Room n X.A) : OpR X (compareOp .NotEq) (rNeB D) := by
  intro pins s σ H x y v u Q I rx ry hq
  obtain ⟨r, d, q⟩ := hq
  show wpAny (model X.prog X.w) X.A (richCompare .NotEq v u) (EP X pins σ Q) X.xe s
  refine wpAny_mono (h X.A pins s σ H x y v u r ⟨hr, rfl⟩ I rx ry d) (fun b s' z => ?_) fun _ _ x => x
  obtain ⟨hr', H', I', e⟩ := z
  subst hr'
  exact ⟨.bl (!r), H', I', rfl, q H' e⟩
/-- an own == , whatever it answers -/
def BOwn (C : Addr) (R : Addr → V → Hp → Bool → Prop) : Eqw := fun x y H r => ∃ a dx fs, x = .ref a ∧ H a = some (.ins C dx fs) ∧ RightI C H y ∧ R a y H r
def spEqB (R : Addr → V → Hp → Bool → Prop) : Sp := fun vs H Q _ => ∃ a y r, vs = [.ref a, y] ∧ R a y H r ∧ ∀ H', Ext H H' → Q (.bl r) H'
theorem monB_own {C : Addr} {R : Addr → V → Hp → Bool → Prop} (hR : ∀ a b H H' r, Ext H H' → R a b H r → R a b H' r) : MonB (BOwn C R) := fun x y H H' r e d => by
  obtain ⟨a, dx, fs, hx, h1, h2, z⟩ := d
  exact ⟨a, dx, fs, hx, e _ _ h1, h2.elim .inl fun ⟨b, dy, gs, hy, h⟩ => .inr ⟨b, dy, gs, hy, e _ _ h⟩, hR a y H H' r e z⟩
theorem rflF_own {C : Addr} {R : Addr → V → Hp → Bool → Prop} (hR : ∀ a H r, R a (.ref a) H r → r = true) : RflF (BOwn C R) := fun x H r d => by
  obtain ⟨a, dx, fs, rfl, h1, h2, z⟩ := d
  exact hR a H r z
theorem eqB_own {CX : CXT} {C f : Addr} {R : Addr → V → Hp → Bool → Prop} {E : XK} (F : FnR X.prog X.w X.K X.mg X.base CX n f (spEqB R)) (M : CmpM X.K C .Eq f) (hx : Passes CX X E) (hR : ∀ a H r, R a (.ref a) H r → r = true) : EqB X n (BOwn C R) := by
  intro A pins s σ H x y u v r sb I rx ry d
  obtain ⟨a, dx, fs, rfl, ha, hRI, hr⟩ := d
  obtain rfl : u = Value.ref a := rx
  have hsp : spEqB R [.ref a, y] H (fun v H' => v = .bl r ∧ Ext H H') E := ⟨a, y, r, rfl, hr, fun H' e => ⟨rfl, e⟩⟩
  have hc : wpAny (model X.prog X.w) A (call (.ref f) [.ref a, v]) (PySem.W.CmpBack (fun v s' => ∃ b, v = .bool b ∧ (fun b s' => b = r ∧ ∃ H', Inv X pins σ H' s' ∧ Ext H H') b s')) X.xe s :=
    thn (wpAny_call (run_fnS (us := [.ref a, v]) (vs := [.ref a, y]) sb F hx I (.cons rfl (.cons ry .nil)) hsp)) fun v s1 z => by
      obtain ⟨z, H1, I1, rz, rfl, e⟩ := z
      obtain rfl : v = Value.bool r := rz
      exact ⟨r, rfl, rfl, H1, I1, e⟩
  by_cases hab : Value.ref a = v
  · subst hab
    obtain rfl : y = .ref a := by
      cases y with
      | ref b => exact congrArg V.ref (by injection (show Value.ref a = Value.ref b from ry) with e; exact e.symm)
      | _ => first | (obtain ⟨t, e⟩ := (show ∃ t, _ from ry); cases e) | cases ry
    rw [hR a H r hr]
    exact SeqAt.EqAt.same (A := A) (s := s) (.ref a) X.prog X.w X.xe _ ⟨rfl, H, I, Ext.rfl'⟩
  refine eqBool_refV hab ?_
  obtain ⟨mA, J, _⟩ := ins_get I.hok ha
  obtain ⟨od, J, _⟩ := J.look
  obtain ⟨m, hF⟩ := I.fr
  rcases hRI with ⟨j, rfl⟩ | ⟨b, dy, gs, rfl, hb⟩
  · obtain ⟨t, rfl⟩ := ry
    exact PySem.W.cmp_K (op := .Eq) (tb := .type "int") sb.room.units0 hF I.ok.mod.kin J (PySem.W.Looks.of_pure rfl) M.hn M.hs M.hf hc
  · obtain rfl : v = Value.ref b := ry
    obtain ⟨mB, J2, _⟩ := ins_get I.hok hb
    obtain ⟨od2, J2, _⟩ := J2.look
    exact PySem.W.cmp_K (op := .Eq) (tb := .ref C) sb.room.units0 hF I.ok.mod.kin J J2.type (by simp [PySem.W.notFirst]) M.hs M.hf hc
end
theorem pz_at {α β : Type} {R : α → β → Prop} : ∀ {xs : List α} {ys : List β} {i : Nat} {x : α}, Paired R xs ys → xs[i]? = some x → ∃ y, ys[i]? = some y ∧ R x y
  | _, _, 0, _, .cons h _, e => ⟨_, rfl, by simp at e; subst e; exact h⟩
  | _, _, i + 1, _, .cons _ r, e => by
    obtain ⟨y, e', h⟩ := pz_at (i := i) r (by simpa using e)
    exact ⟨y, by simpa using e', h⟩
theorem pz_len {α β : Type} {R : α → β → Prop} : ∀ {xs : List α} {ys : List β}, Paired R xs ys → xs.length = ys.length
  | _, _, .nil => rfl
  | _, _, .cons _ r => by simp [pz_len r]
/-- two lists that stand for two lists: equal if these are -/
theorem prB_of {α : Type} [DecidableEq α] {D : Eqw} {R S : V → α → Prop} {H : Hp} (f : ∀ x y m n, R x m → S y n → D x y H (decide (m = n))) {xs ys : List V} {ms ns : List α} (h1 : Paired R xs ms) (h2 : Paired S ys ns) :
    PrB D xs ys H (fun i => decide (ms[i]? = ns[i]?)) := by
  intro i x y hx hy
  obtain ⟨m, hm, rm⟩ := pz_at h1 hx
  obtain ⟨n, hn, rn⟩ := pz_at h2 hy
  have := f x y m n rm rn
  show D x y H (decide (ms[i]? = ns[i]?))
  rw [hm, hn]
  simpa using this
theorem allT_eq {α : Type} [DecidableEq α] {ms ns : List α} (hl : ms.length = ns.length) : allT (fun i => decide (ms[i]? = ns[i]?)) ms.length 0 = decide (ms = ns) := by
  by_cases h : ms = ns
  · subst h
    rw [decide_eq_true rfl]
    exact allT_true fun i _ => decide_eq_true rfl
  · rw [decide_eq_false h]
    refine (Bool.not_eq_true _).mp fun e => h (List.ext_getElem? fun i => ?_)
    by_cases hi : i < ms.length
    · unfold allT at e
      rw [List.drop_zero, List.all_eq_true] at e
      exact of_decide_eq_true (e i (List.mem_range.mpr hi))
    · rw [List.getElem?_eq_none (by omega), List.getElem?_eq_none (by omega)]
theorem bList_of {α : Type} [DecidableEq α] {D : Eqw} {R S : V → α → Prop} {H : Hp} (f : ∀ x y m n, R x m → S y n → D x y H (decide (m = n))) {a b : Addr} {xs ys : List V} {ms ns : List α} (ha : H a = some (.lst xs)) (hb : H b = some (.lst ys)) (h1 : Paired R xs ms) (h2 : Paired S ys ns) :
    BList D (.ref a) (.ref b) H (decide (ms = ns)) := by
  refine ⟨a, b, xs, ys, rfl, rfl, ha, hb, ?_⟩
  by_cases hl : xs.length = ys.length
  · refine .inr ⟨hl, _, prB_of f h1 h2, ?_⟩
    rw [pz_len h1, allT_eq (by rw [← pz_len h1, ← pz_len h2]; exact hl)]
  · refine .inl ⟨hl, decide_eq_false fun e => hl ?_⟩
    rw [pz_len h1, pz_len h2, e]
theorem bTu_of {α : Type} [DecidableEq α] {D : Eqw} {R S : V → α → Prop} {H : Hp} (f : ∀ x y m n, R x m → S y n → D x y H (decide (m = n))) {a b : Addr} {xs ys : List V} {ms ns : List α} (ha : H a = some (.tup xs)) (hb : H b = some (.tup ys)) (h1 : Paired R xs ms) (h2 : Paired S ys ns) :
    BTu D (.ref a) (.ref b) H (decide (ms = ns)) := by
  refine ⟨a, b, xs, ys, rfl, rfl, ha, hb, _, prB_of f h1 h2, ?_⟩
  by_cases hl : xs.length = ys.length
  · rw [← hl, Nat.min_self, pz_len h1, allT_eq (by rw [← pz_len h1, ← pz_len h2]; exact hl)]
    simp
  · rw [show (xs.length == ys.length) = false from by simpa using hl, Bool.and_false]
    exact decide_eq_false fun e => hl (by rw [pz_len h1, pz_len h2, e])
end AZ

set_option Elab.async false
set_option maxRecDepth 100000
set_option maxHeartbeats 4000000
set_option linter.all false
/-! Own work: texts of own values within comprehensions, str of a text. -/
namespace AZ
open PySem L2
section
variable {X : Cx}
/-- {x} of a text or an own value; all that it stands on is told outside -/
def tFmtF (C : Addr) (sp : Sp) (E : XK) (te : TE) : TE := fun σ H Q => te σ H fun x H1 => (∃ y : Str, x = .str y ∧ y.length ≤ sizeLine ∧ Q (.str y) H1) ∨ ∃ (a dx : Addr) (fs : List (Str × V)), x = .ref a ∧ H1 a = some (.ins C dx fs) ∧ sp [x] H1 (fun v H2 => ∃ z, v = .str z ∧ Q (.str z) H2) E
theorem pe_fmtF {C f : Addr} {CX : CXT} {k : Nat} {sp : Sp} {E : XK} {e : Expr} {te : TE} {pos : Pos} (M : StrM X.K C f) (F : FnR X.prog X.w X.K X.mg X.base CX k f sp) (hr : Room (k + 1) X.A) (hx : Passes CX X E) (he : PE X e te) : PE X (.FormattedValue e (-1) none pos) (tFmtF C sp E te) := by
  refine ⟨fun pins s σ H Q I h => ?_⟩
  refine wpAny_FormattedValue_plain (thn (he.run pins s σ H _ I h) fun v s1 hv => ?_)
  obtain ⟨x, H1, I1, r1, q⟩ := hv
  rcases q with ⟨y, rfl, hz, q⟩ | ⟨a, dx, fs, rfl, ha, hs⟩
  · obtain ⟨t, rfl⟩ := r1
    exact wpAny_formatField_str ⟨.str y, H1, I1, ⟨t, rfl⟩, q⟩ ⟨.str y, H1, I1.tok _, ⟨_, rfl⟩, q⟩ hz
  · obtain rfl : v = Value.ref a := r1
    have I2 := I1.tok (s1.toks + 1)
    have hc : wpAny (model X.prog X.w) X.A.in1 (call (.ref f) [.ref a]) (PySem.W.StrBack (EP X pins σ Q)) X.xe { s1 with toks := s1.toks + 1 } :=
      thn (wpAny_call (run_fnS (us := [.ref a]) (vs := [.ref a]) ⟨hr.in1, rfl⟩ F hx I2 (.cons rfl .nil) hs)) fun v s3 z => strBack_of z
    obtain ⟨mA, J, _⟩ := ins_get I1.hok ha
    obtain ⟨od, J, _⟩ := J.look
    exact PySem.W.kfo_fieldS hr.in1.units0 I1.kIn J M.hfm M.hm M.hs M.hf hc
theorem uStrS : CallR X (.type "str") (fun xs H Q => ((∃ i, xs = [.int i] ∧ i.natAbs.log2 < 1920 ∧ Q (.str (toString i)) H) ∨ ∃ x, xs = [x] ∧ rStrO X 2 x H Q) ∨ ∃ a, xs = [.str a] ∧ Q (.str a) H) := CallR.or' uStr SkE.call_str_str
end
/-- a comprehension over two lists of one length -/
theorem lc_zipL {K : PySem.W.Frag} {a b : Addr} {xs ys : List V} {g : TG} {tt : TT} {te : TE} {vs : List Nat} {σ : L2.St} {H1 : Hp} {D : Addr} {Qd : Hp → Prop} (hl : xs.length = ys.length) (Pv : Nat → Hp → Prop) (h0 : Pv 0 (upd H1 D (.lst []))) (hq : ∀ i H, Pv i H → SqL K H a xs ∧ SqL K H b ys)
    (hs : ∀ i x y T H, xs[i]? = some x → ys[i]? = some y → H T = none → Pv i H → g (.ref T) (wipe σ vs) (upd H T (.tup [x, y])) fun σ2 H2 => wipe σ2 vs = wipe σ vs ∧ tt σ2 H2 fun b H3 =>
      if b = true then te σ2 H3 fun y H4 => ∃ acc, H4 D = some (.lst acc) ∧ acc.length < sizeLine ∧ Pv (i + 1) (upd H4 D (.lst (acc ++ [y]))) else Pv (i + 1) H3) (hd : ∀ H, Pv xs.length H → Qd H) :
    ∃ W : Nat → Nat → Hp → Prop, (∃ m, W 0 m (upd H1 D (.lst []))) ∧ ∀ i m H, W i m H →
      ((Itz K a b).stop i H ∧ Qd H) ∨ ((Itz K a b).go i H ∧ ∃ Nx : Hp → Prop, (∀ H', Nx H' → ∃ m', m' < m ∧ W (i + 1) m' H') ∧ ∀ x H', (Itz K a b).yld i H x H' → g x (wipe σ vs) H' fun σ2 H2 => wipe σ2 vs = wipe σ vs ∧ tt σ2 H2 fun b H3 =>
        if b = true then te σ2 H3 fun y H4 => ∃ acc, H4 D = some (.lst acc) ∧ acc.length < sizeLine ∧ Nx (upd H4 D (.lst (acc ++ [y]))) else Nx H3) := by
  refine ⟨fun i m H => m = xs.length - i ∧ i ≤ xs.length ∧ Pv i H, ⟨xs.length, by simp, Nat.zero_le _, h0⟩, ?_⟩
  rintro i m H ⟨rfl, hi, p⟩
  obtain ⟨qx, qy⟩ := hq i H p
  by_cases hlt : i < xs.length
  · refine .inr ⟨⟨xs, ys, xs[i], ys[i]'(by omega), qx, qy, by simp [hlt], by simp [show i < ys.length by omega]⟩, Pv (i + 1), fun H' p' => ⟨xs.length - (i + 1), by omega, rfl, hlt, p'⟩, fun v H' z => ?_⟩
    obtain ⟨T, x, y, rfl, hT, rfl, hx, hy⟩ := z
    exact hs i x y T H (hx xs qx) (hy ys qy) hT p
  · have e : i = xs.length := by omega
    subst e
    exact .inl ⟨⟨xs, ys, qx, qy, Or.inl (Nat.le_refl _)⟩, hd H p⟩
theorem kit_vr {K : PySem.W.Frag} {v : Value} {C : Addr} {b : Bool} (n : (v == Value.ref C) = false) (c : PySem.W.isClsIn K C = true) (t : PySem.W.typeIn K (.ref C) = some (.type "type")) (h : PySem.W.subIn K v (.ref C) = some b) : PySem.W.kitOne K v (.ref C) = some b := by
  unfold PySem.W.kitOne PySem.W.kitCls
  rw [n, if_neg (by decide)]
  dsimp only
  rw [if_pos (by rw [show (PySem.W.clsIn K C).isSome = true from c, t]; rfl)]
  exact h
end AZ

set_option Elab.async false
set_option maxRecDepth 100000
set_option maxHeartbeats 4000000
set_option linter.all false
/-! Own work: lists of ranges; own instances walked. -/
namespace AZ
open PySem L2
theorem rgV_nat (a n : Nat) : rgV (a : Int) ((a + n : Nat) : Int) = (List.range' a n).map fun i => V.int ((i : Nat) : Int) := by
  unfold rgV
  rw [show (((a + n : Nat) : Int) - (a : Int)).toNat = n by omega, List.range'_eq_map_range, List.map_map]
  refine List.map_congr_left fun i _ => ?_
  show V.int ((a : Int) + (i : Int)) = V.int ((a + i : Nat) : Int)
  rw [Int.natCast_add]
section
variable {X : Cx} {C f : Addr} {k : Nat} {CX : CXT} {sp : Sp} {E : XK}
/-- an own binary operator, told without the context -/
def rBF (C : Addr) (sp : Sp) (E : XK) : R2 := fun x y H Q => ∃ (a dx : Addr) (fs : List (Str × V)), x = .ref a ∧ H a = some (.ins C dx fs) ∧ RightI C H y ∧ sp [x, y] H Q E
theorem op_ownBF {op : Operator} (M : BinM X.K C op f) (F : FnR X.prog X.w X.K X.mg X.base CX k f sp) (hr : Room k X.A) (hx : Passes CX X E) : OpR X (binaryOp op) (rBF C sp E) :=
  opBy (op_ownB op) fun _ _ _ _ ⟨a, dx, fs, h1, h2, h3, h4⟩ => ⟨a, C, dx, fs, f, CX, k, sp, E, h1, h2, h3, M, F, hr, hx, h4⟩
end
section
variable {X : Cx} {K : PySem.W.Frag}
theorem sl_tupK (h : X.K = K) : SlR X (rSlT K) := by
  subst h
  exact sl_tup
end
end AZ

set_option Elab.async false
set_option maxRecDepth 100000
set_option maxHeartbeats 4000000
set_option linter.all false
/-! Own work: iter(a tuple) as a value; a walk over an own instance whose __iter__ returns a tuple's iterator. -/
namespace AZ
open PySem L2 PySem.Spec PyProof.Rows
abbrev tuIt (t : Addr) : Obj := { cls := .type "tuple_iterator", data := .fields #[.ref t, .int 0 0] }
def ItT (t it : Addr) : HO := .ext fun h => h.get? it = some (tuIt t)
theorem itT_ok {P : Program} {w : World} {H : Hp} {h : Heap} {t it : Addr} (e : h.get? it = some (tuIt t)) : ObjOk P w H h it (ItT t it) := ⟨e, ⟨_, e⟩, fun h1 h2 q k => k _ q⟩
/-- iter(t) of a tuple -/
def rIterT (K : PySem.W.Frag) (n : Nat) : List V → Hp → VK → Prop := fun xs H Q => ∃ (t : Addr) (zs : List V), xs = [.ref t] ∧ SqT K H t zs ∧ ∀ it, H it = Option.none → n ≤ it → Q (.ref it) (upd H it (ItT t it))
section
variable {prog : Program} {w : World} {A : Around} {E : Value → Shared → Prop} {s : Shared} {l : Addr} {items : Array Value}
theorem iter_tuple {Q : Value → Shared → Prop} (hl : s.heap.IsTuple l items) (h : Q (.ref s.heap.objs.size) { s with heap := s.heap.push (tuIt l) }) : wpAny (model prog w) A (call (.builtin "iter") [.ref l]) Q E s := by
  refine Calls.call_function_entry (by decide +kernel) (by decide +kernel) PySem.W.kdk_entry_iter (PySem.W.kdk_args_iter _) ?_
  unfold Builtin.«iter»
  refine wpAny_bind (m := someArgs "iter" 1 2 _) (wpAny_of_eq (a := [Value.ref l]) (by first | rfl | kernel_rfl!) ?_)
  show wpAny _ _ (pyIter (.ref l) >>= _) _ _ _
  refine wpAny_bind (wpAny_pyIter_tuple hl ?_)
  exact wpAny_pure ⟨_, rfl, h⟩
end
section
variable {X : Cx}
theorem call_iterT : CallR X (.builtin "iter") (rIterT X.K X.s_0.heap.objs.size) := by
  intro pins s σ H xs us Q I r h
  obtain ⟨t, zs, rfl, hq, q⟩ := h
  obtain ⟨u, rfl, ru⟩ := vals1 r
  cases ru
  obtain ⟨its, rv, p, hz⟩ := I.tuple hq
  refine iter_tuple (show s.heap.IsTuple t its.toArray from p) ?_
  exact ⟨.ref s.heap.objs.size, _, I.laid (t' := s.toks) (fun b u e => Heap.get?_push_of_some _ e) (Nat.le_refl _) (itT_ok (Heap.get?_push_size _ rfl)), rfl, q _ (I.hok.fresh (Nat.le_refl _)) I.sz⟩
end
/-! ### defs whose promise speaks of the size of the heap at the call -/
def FnN (P : Program) (w : World) (K : PySem.W.Frag) (mg : Str → Option Value) (base : Heap) (CX : CXT) (k : Nat) (f : Addr) (sp : Nat → Sp) : Prop := ∀ (A : Around) (out : List Env) (z : Shared) (G : Hp) (us : List Value) (vs : List V) (Q : VK) (E : XK), Room k A → Env0 P w K mg base A out z G → Vals vs us → sp z.heap.objs.size vs G Q E →
  codeAny (model P w) A (.call (.ref f) ⟨us, []⟩) (CR CX out P w G z Q E) z
section
variable {P : Program} {w : World} {K : PySem.W.Frag} {mg : Str → Option Value} {base : Heap} {x qual : Str} {st : Stmt} {f : Addr} {fd : FuncData} {N ps : List Str} {k : Nat} {sp : Nat → Sp}
theorem fnN_of (F : Fun K x qual st f fd) (S : FnScope N ps (defScope st)) (len : ∀ n vs H Q E, sp n vs H Q E → vs.length = ps.length)
    (bd : ∀ (cdv : Value) (A : Around) (out : List Env) (z : Shared) (G : Hp) (vs : List V) (Q : VK) (E : XK), Room k (A.deeper (envOfC qual (defScope st) z.heap.objs.size f cdv)) → sp z.heap.objs.size vs G Q E →
      ∃ t, PSs (cxOf CX0 P w K mg base N qual (defScope st) f cdv A out z G E).nox (defBody st) t ∧ t { nx := fun _ H' => Q .non H', rt := Q } (start N vs) G)
    (hb : Binds K fd ps []) : FnN P w K mg base CX0 (k + 1) f sp := by
  obtain ⟨oc, od, kV, doc, pm, an, cdv, ct, osl, rfl, look, rec⟩ := F.ex
  intro A out z G us vs Q E room env vals prom
  have keep : ∀ b o, base.get? b = some o → z.heap.get? b = some o := fun b o e => (env.bs b o e).1
  have kin := env.mod.kin.keeps keep
  have many : us.length = ps.length := vals.length.symm.trans (len _ _ _ _ _ prom)
  have bnd := hb z us kin (by rw [List.append_nil]; exact many)
  rw [List.append_nil] at bnd
  have kinds : ∀ y ∈ ps.zip us, (defScope st).names.lookup y.1 = some .local ∨
      ((defScope st).names.lookup y.1 = some .cell ∧ ((cellsFrom (z.heap.objs.size + 1) (defScope st).names []).lookup y.1).isSome = true) := by
    rintro ⟨n, v⟩ there
    exact (S.par n (List.of_mem_zip there).1).imp id fun c => ⟨c, PySem.W.cellsFrom_some _ _ _ (.inl c)⟩
  refine codeAny_call_function room.depth (kin _ _ look) rfl S.co S.gen rfl (PySem.W.codeRec_of kin rec) (bnd _ _ _ _ (wpAny_newFunctionEnv_cells S.kind kinds ?_))
  rintro env2 rfl z1 made
  refine ⟨(env.mod.nolimit.keeps keep).keeps made.toInCall.keep, codeAny_func ?_⟩
  obtain ⟨t, body, run⟩ := bd cdv A out z G vs Q E (room.deeper _) prom
  exact wpAny_mono (body.nox.run [] z1 (start N vs) G _ (inv_start S room.hd env (len _ _ _ _ _ prom) vals made) run) (fun fl z2 q => ends_CR q) fun e z2 q => q
end
/-- a class with an own __iter__ -/
structure IterM (K : PySem.W.Frag) (C f : Addr) : Prop where
  s : PySem.W.findIn K (.ref C) "__iter__" = some (some (.ref f))
  f : PySem.W.isFn K (.ref f) = true
/-- an own instance whose __iter__ gives a new iterator of a tuple; behind it the iterator is forgotten -/
def iOwnT (K : PySem.W.Frag) (C : Addr) (sp : Nat → Sp) (E : XK) (te : TE) : TI := fun σ H R => te σ H fun x H1 => ∃ (a dx : Addr) (fs : List (Str × V)), x = .ref a ∧ H1 a = some (.ins C dx fs) ∧
  ∀ n, sp n [x] H1 (fun v H2 => ∃ it t, v = .ref it ∧ n ≤ it ∧ H2 it = some (ItT t it) ∧ R (Itt K t) (ItX.dropH H2 it)) E
section
variable {X : Cx} {tg e : Expr} {te : TE} {C f : Addr} {CX : CXT} {k : Nat} {sp : Nat → Sp} {E : XK}
theorem pi_ownT (M : IterM X.K C f) (F : FnN X.prog X.w X.K X.mg X.base CX k f sp) (hr : Room k X.A) (hx : Passes CX X E) (he : PE X e te) : PI X tg e (iOwnT X.K C sp E te) := by
  refine ⟨fun pins s σ H R I h => ?_⟩
  refine thn (he.run pins s σ H _ I h) fun v s1 ⟨x, H1, I1, r1, q1⟩ => ?_
  obtain ⟨a, dx, fs, rfl, ha, hs⟩ := q1
  obtain rfl : v = Value.ref a := r1
  obtain ⟨mA, J, _⟩ := ins_get I1.hok ha
  obtain ⟨od, J, _⟩ := J.look
  obtain ⟨m, hF⟩ := I1.fr
  refine PySem.W.owit_iter hF I1.ok.mod.kin J M.s M.f ?_
  refine wpAny_call (codeAny_mono (F X.A X.stack s1 H1 [.ref a] [.ref a] _ E hr I1.env0 (.cons rfl .nil) (hs _)) fun r s2 hq => ?_)
  cases r with
  | error e => exact hx pins σ H1 s1 e s2 I1 hq
  | ok fl =>
    cases fl with
    | next => exact False.elim hq
    | brk => exact False.elim hq
    | cont => exact False.elim hq
    | ret u =>
      obtain ⟨v, H2, os, bare, un, hok, rv, it, t, rfl, old, hi, q⟩ := hq
      obtain rfl : u = Value.ref it := rv
      have I2 : Inv X pins σ H2 s2 := I1.call' (ch := []) os un hok bare fun b z => absurd z (by simp)
      have eo : s2.heap.get? it = some (tuIt t) := (I2.hok it _ hi).1
      unfold PySem.W.OwitIt
      have hT : s2.TypeIs (.ref it) "tuple_iterator" := ⟨_, eo, rfl⟩
      refine wpAny_specialOf (name := Str.ofString "__next__") hT PySem.F.slot_tuple_iterator_next.lookup ?_
      have st : s2.heap.IsTupleIter it t 0 := ⟨_, eo, rfl, rfl⟩
      have hi' := hi
      unfold ItT at hi'
      refine ⟨it, [it], _, _, ItX.dropH H2 it, rfl, ItX.inv_drop I2 hi', turn_tuple t it, st, fun b hb => ?_, q⟩
      have e : b = it := by simpa using hb
      rw [e]
      exact ItX.inv_fp I2 hi (Nat.le_trans I1.sz old)
end
theorem sqT_drop {K : PySem.W.Frag} {H : Hp} {a it : Addr} {xs : List V} (h : SqT K H a xs) (n : it ≠ a) : SqT K (ItX.dropH H it) a xs := by
  have e : ItX.dropH H it a = H a := ItX.dropH_ne (Ne.symm n)
  unfold SqT Rd at h ⊢
  simp only [e]
  exact h
section
variable {X : Cx} {C f : Addr} {k : Nat} {CX : CXT} {sp : Sp} {E : XK}
/-- x not in c, c of a class with __contains__ -/
def rNotInO (C : Addr) (sp : Sp) (E : XK) : R2 := fun x y H Q => ∃ (a dx : Addr) (fs : List (Str × V)), y = .ref a ∧ H a = some (.ins C dx fs) ∧ sp [y, x] H (fun v H1 => ∃ b, v = .bl b ∧ Q (.bl (!b)) H1) E
theorem op_notInO (M : InM X.K C f) (F : FnG X.prog X.w X.K X.mg X.base CX k f sp) (ng : NoG X.A) (hr : Room k X.A) (hx : Passes CX X E) : OpR X (compareOp .NotIn) (rNotInO C sp E) := by
  intro pins s σ H x y v u Q I rx ry h
  obtain ⟨a, dx, fs, rfl, ha, q⟩ := h
  obtain rfl : u = Value.ref a := ry
  have hc : wpAny (model X.prog X.w) X.A (call (.ref f) [.ref a, v]) (fun r s' => wpAny (model X.prog X.w) X.A (truthy r) (fun b s2 => EP X pins σ Q (.bool (!b)) s2) X.xe s') X.xe s :=
    thn (wpAny_call (run_fnG (us := [.ref a, v]) (vs := [.ref a, x]) F ng hr hx I (.cons rfl (.cons rx .nil)) q)) fun r s1 z => by
      obtain ⟨z, H1, I1, rz, b, rfl, q⟩ := z
      obtain rfl : r = Value.bool b := rz
      exact wpAny_truthy_bool ⟨.bl (!b), H1, I1, rfl, q⟩
  obtain ⟨mA, J, _⟩ := ins_get I.hok ha
  obtain ⟨od, J, _⟩ := J.look
  obtain ⟨m, hF⟩ := I.fr
  exact PySem.W.notIn_K hF I.ok.mod.kin J M.hs M.hf hc
end
end AZ

set_option Elab.async false
set_option maxRecDepth 100000
set_option maxHeartbeats 4000000
set_option linter.all false
/-! Own work: a op= b of own instances of a class that knows the binary operator alone; walks over texts. -/
namespace AZ
open PySem L2 PySem.Spec PyProof.Rows
/-- the class at C has nothing of its own for op=, and no other class above it than object -/
structure IpM (K : PySem.W.Frag) (C : Addr) (op : Operator) : Prop where
  cls : ∃ cd, PySem.W.clsIn K C = some cd ∧ cd.mro = [.ref C, .type "object"]
  no : PySem.W.findIn K (.ref C) (dunderI op.info.2) = some none
section
variable {M : Model} {A : Around} {E : Value → Shared → Prop} {s : Shared} {K : PySem.W.Frag} {h₀ : Heap} {L x C f : Addr} {m : Str → Option Value} {ox : Obj} {od : Option Obj}
theorem noInp {h : Heap} {nm : String} {add : Bool} {cd : ClassData} (X : K.In h) (hc : PySem.W.clsIn K C = some cd) (hm : cd.mro = [.ref C, .type "object"]) (hs : PySem.W.findIn K (.ref C) (dunderI nm) = some none) (ho : typeLookup (.type "object") (dunderI nm) = pure none) :
    PySem.W.Looks M h (fillsInplaceSlot (.ref C) nm add) false := by
  intro A Q E s k q
  have Lm : PySem.W.Looks M s.heap (mroOf (.ref C)) cd.mro := ((PySem.W.looks_clsIn X hc).andThen (f := fun cd => pure cd.mro) .now).keeps k
  have L1 : PySem.W.Looks M s.heap (typeLookup (.ref C) (dunderI nm)) none := PySem.W.looks_findIn (X.keeps k) hs
  have L2 : PySem.W.Looks M s.heap (typeLookup (.type "object") (dunderI nm)) none := .of_pure ho
  unfold fillsInplaceSlot
  refine wpAny_bind (Lm.here ?_)
  rw [hm, List.anyM_cons]
  refine wpAny_bind (wpAny_bind (L1.here (wpAny_pure ?_)))
  rw [if_neg Bool.false_ne_true, List.anyM_cons]
  refine wpAny_bind (wpAny_bind (L2.here (wpAny_pure ?_)))
  rw [if_neg Bool.false_ne_true]
  exact wpAny_pure q
theorem inpl_K {prog : Program} {w : World} {op : Operator} {b : Value} {Q : Value → Shared → Prop} (F : Fr h₀ L s.heap m) (X₀ : K.In h₀) (I : PySem.W.InstAt s.heap x ox C od) (hb : PySem.W.Looks (model prog w) s.heap (typeOf b) (.ref C)) (ip : IpM K C op)
    (ho : typeLookup (.type "object") (dunderI op.info.2) = pure none) (hs : PySem.W.findIn K (.ref C) (PySem.dunder op.info.2) = some (some (.ref f))) (hf : PySem.W.isFn K (.ref f) = true)
    (h : wpAny (model prog w) A (call (.ref f) [.ref x, b]) (PySem.W.CmpBack Q) E s) : wpAny (model prog w) A (inplaceOp op (.ref x) b) Q E s := by
  have X := X₀.keeps F.keep
  obtain ⟨cd, hcd, hm⟩ := ip.cls
  unfold inplaceOp
  refine wpAny_holding (wpAny_bind (I.type.here (wpAny_bind ((noInp X hcd hm ip.no ho).here ?_))))
  simp only [Bool.false_eq_true, if_false]
  refine wpAny_bind ?_
  unfold binaryOp1
  refine wpAny_bind (I.type.here (wpAny_bind (hb.here (wpAny_bind ((PySem.W.fills_K X hcd hm hs).here ?_)))))
  simp only [beq_self_eq_true, if_true]
  refine wpAny_bind (wpAny_pure ?_)
  simp only [Bool.and_false, Bool.false_eq_true, if_false, Bool.false_and]
  refine wpAny_bind (wpAny_pure ?_)
  simp only [Bool.false_eq_true, if_false]
  refine wpAny_bind (m := tryMethod (.ref x) _ b) ?_
  unfold tryMethod
  refine wpAny_bind (PySem.W.special_fn X I hs (beq_iff_eq.mp hf) (wpAny_mono h (fun v s' hv => ?_) fun _ _ e => e))
  cases v <;> first | exact hv.elim | exact wpAny_pure (wpAny_pure (wpAny_pure hv))
end
section
variable {X : Cx} {C f : Addr} {k : Nat} {CX : CXT} {sp : Sp} {E : XK}
/-- a op= b: both of the class at C -/
def ipOwn (C : Addr) (sp : Sp) (E : XK) : TIp := fun x y H Q => ∃ (a dx : Addr) (fs : List (Str × V)) (b dy : Addr) (gs : List (Str × V)), x = .ref a ∧ H a = some (.ins C dx fs) ∧ y = .ref b ∧ H b = some (.ins C dy gs) ∧ sp [x, y] H Q E
theorem ip_own {op : Operator} (ip : IpM X.K C op) (ho : typeLookup (.type "object") (dunderI op.info.2) = pure none) (hM : BinM X.K C op f) (F : FnR X.prog X.w X.K X.mg X.base CX k f sp) (hr : Room k X.A) (hx : Passes CX X E) : PIp X op (ipOwn C sp E) := by
  intro pins s σ H x y v u Q I rx ry h
  obtain ⟨a, dx, fs, b, dy, gs, rfl, ha, rfl, hb, hs⟩ := h
  obtain rfl : v = Value.ref a := rx
  obtain rfl : u = Value.ref b := ry
  have hc : wpAny (model X.prog X.w) X.A (call (.ref f) [.ref a, .ref b]) (PySem.W.CmpBack (EP X pins σ Q)) X.xe s :=
    thn (wpAny_call (run_fnR (us := [.ref a, .ref b]) (vs := [.ref a, .ref b]) F hr hx I (.cons rfl (.cons rfl .nil)) hs)) fun _ _ z => cmpBack_of z
  obtain ⟨mA, J, _⟩ := ins_get I.hok ha
  obtain ⟨od, J, _⟩ := J.look
  obtain ⟨mB, J2, _⟩ := ins_get I.hok hb
  obtain ⟨od2, J2, _⟩ := J2.look
  obtain ⟨m, hF⟩ := I.fr
  exact inpl_K hF I.ok.mod.kin J J2.type ip ho hM.hs hM.hf hc
end
theorem obj_noior : typeLookup (.type "object") (dunderI (Operator.info .BitOr).2) = pure none := by rw [typeLookup_type, builtinLookup_eq_fast]; kernel_rfl
theorem obj_noiand : typeLookup (.type "object") (dunderI (Operator.info .BitAnd).2) = pure none := by rw [typeLookup_type, builtinLookup_eq_fast]; kernel_rfl
theorem obj_noixor : typeLookup (.type "object") (dunderI (Operator.info .BitXor).2) = pure none := by rw [typeLookup_type, builtinLookup_eq_fast]; kernel_rfl
/-- a loop over a text: one word a turn -/
theorem for_text {x : Str} {g : TG} {tb : TS} {D : Ends} {σ : L2.St} {H : Hp} (Pv : Nat → L2.St → Hp → Prop) (h0 : Pv 0 σ H)
    (hs : ∀ i c σ H, x.cps[i]? = some c → Pv i σ H → g (.str ⟨#[c]⟩) σ H fun σ2 H2 => tb { D with nx := Pv (i + 1), ct := Pv (i + 1), bk := D.nx } σ2 H2) (hd : ∀ σ H, Pv x.cps.size σ H → D.nx σ H) :
    ∃ W : Nat → Nat → L2.St → Hp → Prop, (∃ m, W 0 m σ H) ∧ ∀ i m σ H, W i m σ H →
      ((Its x).stop i H ∧ D.nx σ H) ∨ ((Its x).go i H ∧ ∃ N : L2.St → Hp → Prop, (∀ σ' H', N σ' H' → ∃ m', m' < m ∧ W (i + 1) m' σ' H') ∧ ∀ y H', (Its x).yld i H y H' → g y σ H' fun σ2 H2 => tb { D with nx := N, ct := N, bk := D.nx } σ2 H2) := by
  refine ⟨fun i m σ H => m = x.cps.size - i ∧ i ≤ x.cps.size ∧ Pv i σ H, ⟨x.cps.size, by simp, Nat.zero_le _, h0⟩, ?_⟩
  rintro i m σ H ⟨rfl, hi, p⟩
  by_cases hlt : i < x.cps.size
  · refine .inr ⟨hlt, Pv (i + 1), fun σ' H' p' => ⟨x.cps.size - (i + 1), by omega, rfl, hlt, p'⟩, fun y H' z => ?_⟩
    obtain ⟨rfl, c, hc, rfl⟩ := z
    exact hs i c σ _ hc p
  · have e : i = x.cps.size := by omega
    subst e
    exact .inl ⟨Nat.le_refl _, hd σ H p⟩
end AZ

set_option Elab.async false
set_option maxRecDepth 100000
set_option maxHeartbeats 4000000
set_option linter.all false
/-! Own work: a property read, by its getter's promise. -/
namespace AZ
open PySem L2 PySem.Spec PyProof.Rows
section
variable {X : Cx} {CX : CXT} {k : Nat} {C g : Addr} {f : Str} {sp : Sp} {E : XK} {e : Expr} {pos : Pos} {ta : TE}
theorem pe_propR (he : PE X e ta) (c : Cls X.K C) (hp : ∃ p, PropOf X.K C f p g) (F : FnR X.prog X.w X.K X.mg X.base CX k g sp) (hr : Room (k + 1) X.A) (hx : Passes CX X.nox E)
    (hab : attributeBase e f X.env (eval e X.env) = eval e X.env := by rfl) : PE X (.Attribute e f pos) (tProp C sp [] E ta) := by
  refine ⟨fun pins s σ H Q I h => ?_⟩
  refine attr_of hab (thn (he.run pins s σ H _ I h) fun u s1 ⟨x, H1, I1, rx, a, dx, fs, ex, ea, q⟩ => ?_)
  subst ex
  obtain rfl : u = Value.ref a := rx
  obtain ⟨p, hp⟩ := hp
  obtain ⟨mA, O, _, _, _, _⟩ := ins_get I1.hok ea
  obtain ⟨od, J, _⟩ := O.look
  obtain ⟨rest, hrec⟩ := hp.rec_
  have I2 := I1.tok (s1.toks + 1)
  have hc : (PySem.W.clsIn X.K C).isSome = true := by
    obtain ⟨cd, hc, _⟩ := PySem.W.any_some c.hd
    rw [hc]
    rfl
  refine PySem.W.get_bind I1.kIn J (PySem.W.plainGet_of (c.get f)).1 (PySem.W.findObj_data hc hp.at_ hp.get hp.tak) (PySem.W.plainGet_of (c.get f)).2 (wpAny_call (PySem.W.prop_get (s := { s1 with toks := s1.toks + 1 }) I1.kIn hrec ?_))
  refine codeAny_mono (F X.A.in1 X.stack { s1 with toks := s1.toks + 1 } H1 [.ref a] [.ref a] Q E hr.in1 I2.env0.in1 (.cons rfl .nil) q) fun r s' hq => ?_
  cases r with
  | error er => exact False.elim (hx pins σ H1 { s1 with toks := s1.toks + 1 } er s' (I2.wish _) hq)
  | ok fl =>
    cases fl with
    | ret u =>
      obtain ⟨v, H', I3, rv, q3⟩ := I2.after hq
      show wpAny _ _ (handedOut u) _ _ _
      rw [PySem.W.handedOut_of (handed_of rv)]
      exact wpAny_pure ⟨v, H', I3, rv, q3⟩
    | next => exact False.elim hq
    | brk => exact False.elim hq
    | cont => exact False.elim hq
end
end AZ

set_option Elab.async false
set_option maxRecDepth 100000
set_option maxHeartbeats 4000000
set_option linter.all false
/-! Own work: own operators that may raise; errors of two fields that are raised. -/
namespace AZ
open PySem L2 PyProof.Rows
section
variable {X : Cx} {C f : Addr} {k : Nat} {CX : CXT} {sp : Sp} {E : XK}
theorem op_ownBX {op : Operator} (M : BinM X.K C op f) (F : FnG X.prog X.w X.K X.mg X.base CX k f sp) (ng : NoG X.A) (hr : Room k X.A) (hx : Passes CX X E) : OpR X (binaryOp op) (rBF C sp E) := by
  intro pins s σ H x y v u Q I rx ry h
  obtain ⟨a, dx, fs, rfl, ha, hR, hs⟩ := h
  obtain rfl : v = Value.ref a := rx
  have hc : wpAny (model X.prog X.w) X.A (call (.ref f) [.ref a, u]) (PySem.W.CmpBack (EP X pins σ Q)) X.xe s :=
    thn (wpAny_call (run_fnG (us := [.ref a, u]) (vs := [.ref a, y]) F ng hr hx I (.cons rfl (.cons ry .nil)) hs)) fun _ _ z => cmpBack_of z
  obtain ⟨mA, J, _⟩ := ins_get I.hok ha
  obtain ⟨od, J, _⟩ := J.look
  obtain ⟨m, hF⟩ := I.fr
  rcases hR with ⟨j, rfl⟩ | ⟨b, dy, gs, rfl, hb⟩
  · obtain ⟨t, rfl⟩ := ry
    obtain ⟨rc, hrc, hp⟩ := M.hr
    obtain ⟨fo, ro, h1, h2⟩ := M.ht
    exact PySem.W.ksp_binT hF I.ok.mod.kin J rfl M.hc M.hs M.hf hrc hp h1 h2 M.hu hc
  · obtain rfl : u = Value.ref b := ry
    obtain ⟨mB, J2, _⟩ := ins_get I.hok hb
    obtain ⟨od2, J2, _⟩ := J2.look
    exact PySem.W.binop_K hF I.ok.mod.kin J J2.type M.hc M.hs M.hf hc
theorem op_ownCG {op : CmpOp} (M : CmpM X.K C op f) (F : FnG X.prog X.w X.K X.mg X.base CX k f sp) (ng : NoG X.A) (hr : Room k X.A) (hx : Passes CX X E) (hop : ∀ a b, compareOp op a b = richCompare op a b := by intro _ _; rfl) : OpR X (compareOp op) (rCF C sp E) := by
  intro pins s σ H x y v u Q I rx ry h
  obtain ⟨a, dx, fs, rfl, ha, hR, hs⟩ := h
  obtain rfl : v = Value.ref a := rx
  have hc : wpAny (model X.prog X.w) X.A (call (.ref f) [.ref a, u]) (PySem.W.CmpBack (EP X pins σ Q)) X.xe s :=
    thn (wpAny_call (run_fnG (us := [.ref a, u]) (vs := [.ref a, y]) F ng hr hx I (.cons rfl (.cons ry .nil)) hs)) fun _ _ z => cmpBack_of z
  obtain ⟨mA, J, _⟩ := ins_get I.hok ha
  obtain ⟨od, J, _⟩ := J.look
  obtain ⟨m, hF⟩ := I.fr
  rw [hop]
  rcases hR with ⟨j, rfl⟩ | ⟨b, dy, gs, rfl, hb⟩
  · obtain ⟨t, rfl⟩ := ry
    exact PySem.W.cmp_K (tb := .type "int") hr.units0 hF I.ok.mod.kin J (PySem.W.Looks.of_pure rfl) M.hn M.hs M.hf hc
  · obtain rfl : u = Value.ref b := ry
    obtain ⟨mB, J2, _⟩ := ins_get I.hok hb
    obtain ⟨od2, J2, _⟩ := J2.look
    exact PySem.W.cmp_K (tb := .ref C) hr.units0 hF I.ok.mod.kin J J2.type (by simp [PySem.W.notFirst]) M.hs M.hf hc
end
section
variable {X : Cx} {CX : CXT} {k : Nat} {C g : Addr} {sp : Sp} {E : XK} {o e : Expr} {es : List Expr} {m : Str} {pos apos : Pos} {ta : TE} {t : TA}
/-- o.m(e, ..), m may raise -/
theorem pe_mG {pl : Sem Bool} (he : PE X o ta) (c : Cls X.K C) (hm : Meth X.K C m g) (F : FnG X.prog X.w X.K X.mg X.base CX k g sp) (ng : NoG X.A) (hr : Room k X.A) (hx : Passes CX X E) (ha : PA X (e :: es) t)
    (hst : starEach (e :: es) X.env = (false, eval e X.env) :: starEach es X.env := by rfl) (hpl : (backTo pos (starEach es X.env)).any (·.1) = false := by rfl)
    (ht : eval (.Call (.Attribute o m apos) (e :: es) [] pos) X.env = (eval o X.env >>= fun ov => standAt apos.atName >>= fun _ => holding [ov] (getMethod ov m pl) >>= fun r =>
      callWith pos r.1 r.2 (backTo pos (starEach (e :: es) X.env)) (backToKw pos (keywordEach [] X.env))) := by rfl) :
    PE X (.Call (.Attribute o m apos) (e :: es) [] pos) (tMR C m sp E ta t) := by
  refine ⟨fun pins s σ H Q I h => ?_⟩
  refine PySem.W.methodCall_KW (pl := pl) (thn (he.run pins s σ H _ I h) fun u s1 ⟨x, H1, I1, rx, a, dx, fs, ex, ea, l, q⟩ => ?_) ht
  subst ex
  obtain rfl : u = Value.ref a := rx
  refine getmeth_ok I1 ea c hm l ?_
  refine PySem.W.callWith_K (first := [.ref a]) (h₀ := X.base) I.ok.mod.kin hm.kp (thn (ha.run pos pins s1 σ H1 _ I1 q) fun us s2 ⟨vs, H2, I2, r, q2⟩ => ⟨I2.kIn, ?_⟩) hst hpl
  exact wpAny_call (run_fnG (us := .ref a :: us) (vs := .ref a :: vs) F ng hr hx I2 (.cons rfl r) q2)
end
/-- the promise of an __init__ with two fields, to the letter -/
def spErrX2 (K : PySem.W.Frag) (C : Addr) (f g : Str) : Sp := fun vs H Q _ => ∃ a v u d e, vs = [.ref a, v, u] ∧ H a = some (exo a C none) ∧ Sh K H v d ∧ Shn d ∧ Sh K H u e ∧ Shn e ∧
  ∀ dx, H dx = none → dx ≠ a → Q .non (upd (upd (upd H dx (exd dx [(f, v)])) a (exo a C (some dx))) dx (exd dx [(g, u), (f, v)]))
section
variable {K : PySem.W.Frag} {S C fI a : Addr} {nm f g lit lit2 : Str} {H : Hp} {σ : L2.St} {D : Ends} {v u : V} {e e2 : PyData}
theorem err2x_body (X : Ex K S C fI nm) (A : NoAttr K C f) (B : NoAttr K C g) (ha : H a = some (exo a C none)) (s : Sh K H v e) (n : Shn e) (s2 : Sh K H u e2) (n2 : Shn e2) (h0 : σ[0]? = some (some (.ref a))) (h1 : σ[1]? = some (some v)) (h2 : σ[2]? = some (some u))
    (hl : lit.length ≤ 1000) (hl2 : lit2.length ≤ 900) (k : ∀ dx, H dx = none → dx ≠ a → D.nx σ (upd (upd (upd H dx (exd dx [(f, v)])) a (exo a C (some dx))) dx (exd dx [(g, u), (f, v)]))) :
    tSeq (tDrop (tVeI K (tCons (tVar 0) (tCons (tText [tC (.str lit), tFmtA K (tVar 1), tC (.str lit2), tFmtA K (tVar 2)]) tNil)))) (tSeq (tOst K f (tVar 0) (tVar 1)) (tOst K g (tVar 0) (tVar 2))) D σ H := by
  have z1 : (Str.empty ++ lit).length ≤ 1000 := cat_len (m := 0) (n := 1000) (Nat.le_refl _) hl (by decide)
  have z2 : (Str.empty ++ lit ++ e.shown).length ≤ 3000 := cat_len z1 n.sz (by decide)
  have z3 : (Str.empty ++ lit ++ e.shown ++ lit2).length ≤ 3900 := cat_len z2 hl2 (by decide)
  refine ⟨_, h0, ⟨_, rfl, Nat.le_trans z1 (by decide), _, h1, e, s, n, _, rfl, Nat.le_trans z2 (by decide), ⟨_, rfl, Nat.le_trans z3 (by decide), _, h2, e2, s2, n2, _, rfl, shn_len n2 (Nat.le_trans z3 (by decide)), ?_⟩⟩⟩
  refine ⟨a, C, _, rfl, by simp, X.oex, ha, ?_⟩
  refine ⟨_, h1, _, h0, a, C, rfl, X.oex, A, Or.inl ⟨ha, fun dx hd ne => ?_⟩⟩
  exact ⟨_, h2, _, h0, a, C, rfl, X.oex, B, Or.inr ⟨dx, [(f, v)], upd_same, by rw [upd_ne ne, upd_same], by simp, k dx hd ne⟩⟩
/-- what is raised: a new dict with the fields -/
theorem mkX2 {Q : XK} {te te2 : TE} (h : ∀ Q' : VK, Q' v H → te σ H Q') (h2 : ∀ Q' : VK, Q' u H → te2 σ H Q') (s : Sh K H v e) (n : Shn e) (s2 : Sh K H u e2) (n2 : Shn e2) (k : ∀ dx, H dx = none → Q (.ref C) (some dx) (upd H dx (.xd [(g, u), (f, v)]))) : tMkX C (spErrX2 K C f g) (tCons te (tCons te2 tNil)) σ H Q := by
  refine h _ (h2 _ ⟨(by show 2 ≤ 1000; decide), fun a ha => ⟨a, v, u, e, e2, rfl, upd_same, s.same (sameNew ha), n, s2.same (sameNew ha), n2, fun dx hd ne => ⟨rfl, dx, [(g, u), (f, v)], ?_, upd_same, ?_, ?_⟩⟩⟩)
  · rw [upd_ne (Ne.symm ne), upd_same]
  · rw [upd_ne ne] at hd; exact hd
  · have hd' : H dx = none := by rw [upd_ne ne] at hd; exact hd
    have eq : upd (del (upd (upd (upd (upd H a (exo a C none)) dx (exd dx [(f, v)])) a (exo a C (some dx))) dx (exd dx [(g, u), (f, v)])) a) dx (.xd [(g, u), (f, v)]) = upd H dx (.xd [(g, u), (f, v)]) := by
      funext b
      by_cases hb : b = dx
      · rw [hb, upd_same, upd_same]
      · rw [upd_ne hb, upd_ne hb]
        by_cases hba : b = a
        · rw [hba, del_same, ha]
        · rw [del_ne hba, upd_ne hb, upd_ne hba, upd_ne hb, upd_ne hba]
    rw [eq]
    exact k dx hd'
end
end AZ

set_option Elab.async false
set_option maxRecDepth 100000
set_option maxHeartbeats 4000000
set_option linter.all false
/-! Own work: own instances made of starred arguments, and of none. -/
namespace AZ
open PySem L2 PyProof.Rows
section
variable {X : Cx} {CX : CXT} {k i : Nat} {f C : Addr} {sp : Sp} {E : XK} {x : Str} {e : Expr} {es : List Expr} {te : TE} {t : TA} {p sp_ pos : Pos}
/-- C(e, .., *y) -/
theorem pe_makeS2 (M : Mk X.K C f) (F : FnR X.prog X.w X.K X.mg X.base CX k f sp) (hr : Room (k + 1) X.A) (hg : Gl X x) (hm : X.mg x = some (.ref C)) (hx : Passes CX X E) (ha : PA X (e :: es) t) (hdb : (x == ("__debug__" : Str)) = false := by decide)
    (he : starEach (e :: es) X.env = (false, eval e X.env) :: starEach es X.env := by rfl) (hst : (backTo pos (starEach es X.env)).any (·.1) = true := by rfl) : PE X (.Call (.Name x p) (e :: es) [] pos) (StX.tMakeR C sp E t) := by
  refine ⟨fun pins s σ H Q I h => ?_⟩
  refine wpAny_Call_Name_kw (ld_glob I hg hm ?_ hdb)
  refine PySem.W.callWith_S2 (h₀ := X.base) I.ok.mod.kin M.kp (thn (ha.run pos pins s σ H _ I h) fun us s1 ⟨vs, H1, I1, r, q⟩ => ⟨I1.kIn, ?_⟩) he hst
  exact StX.run_makeR M F hr hx I1 r q
/-- C(*y) -/
theorem pe_makeS1 (M : Mk X.K C f) (F : FnR X.prog X.w X.K X.mg X.base CX k f sp) (hr : Room (k + 1) X.A) (hg : Gl X x) (hm : X.mg x = some (.ref C)) (hx : Passes CX X E) (he : PE X e te) (hdb : (x == ("__debug__" : Str)) = false := by decide)
    (hst : starEach [.Starred e sp_] X.env = [(true, eval e X.env)] := by rfl) :
    PE X (.Call (.Name x p) [.Starred e sp_] [] pos) (StX.tMakeR C sp E (StX.tStar X.K te tNil)) := by
  refine ⟨fun pins s σ H Q I h => ?_⟩
  refine wpAny_Call_Name_kw (ld_glob I hg hm ?_ hdb)
  refine PySem.W.callWith_S (h₀ := X.base) I.ok.mod.kin M.kp (thn (he.run pins s σ H _ I h) fun v s1 ⟨y, H1, I1, ry, a, xs, ey, hxs, q⟩ => ?_) hst
  subst ey
  obtain rfl : v = Value.ref a := ry
  have q : ∀ x dx, H1 x = Option.none → H1 dx = Option.none → dx ≠ x → sp (V.ref x :: (xs ++ [])) (upd (upd H1 dx (.own x)) x (.ins C dx [])) (fun v H2 => v = .non ∧ Q (.ref x) H2) E := q
  rw [List.append_nil] at q
  exact StX.star_any I1 hxs fun us s2 I2 rv => ⟨I2.kIn, StX.run_makeR M F hr hx I2 rv q⟩
/-- C() -/
theorem pe_makeR0 (M : Mk X.K C f) (F : FnR X.prog X.w X.K X.mg X.base CX k f sp) (hr : Room (k + 1) X.A) (hg : Gl X x) (hm : X.mg x = some (.ref C)) (hx : Passes CX X E) (hdb : (x == ("__debug__" : Str)) = false := by decide) :
    PE X (.Call (.Name x p) [] [] pos) (StX.tMakeR C sp E tNil) := by
  refine ⟨fun pins s σ H Q I h => ?_⟩
  refine wpAny_Call_Name_kw (ld_glob I hg hm ?_ hdb)
  exact PySem.W.callWith_K0 (first := []) I.kIn M.kp (StX.run_makeR (us := []) (vs := []) M F hr hx I .nil h)
end
section
variable {X : Cx} {C f : Addr} {CX : CXT} {k : Nat} {sp : Sp} {E : XK}
/-- str(x) of an own value, told without the context -/
def rStrF (C : Addr) (sp : Sp) (E : XK) : List V → Hp → VK → Prop := fun xs H Q => ∃ (a dx : Addr) (fs : List (Str × V)), xs = [.ref a] ∧ H a = some (.ins C dx fs) ∧ sp [.ref a] H (fun v H1 => ∃ z, v = .str z ∧ Q (.str z) H1) E
theorem uStrF (M : StrM X.K C f) (F : FnR X.prog X.w X.K X.mg X.base CX k f sp) (hr : Room (k + 2) X.A) (hx : Passes CX X E) : CallR X (.type "str") (rStrF C sp E) :=
  fun pins s σ H xs us Q I rv ⟨a, dx, fs, e, ha, hs⟩ => by
    subst e
    exact call_strO pins s σ H _ us Q I rv ⟨.ref a, rfl, a, C, dx, fs, f, CX, k, sp, E, rfl, ha, M, F, hr, hx, hs⟩
theorem pi_tupK {K : PySem.W.Frag} {tg l : Expr} {tl : TE} (h : X.K = K) (hl : PE X l tl) : PI X tg l (iTup K tl) := by
  subst h
  exact pi_tup hl
end
theorem bind_star4 {B : List Value → Sem (List (Str × Value))} {p1 p2 p3 p4 pv : Str} (h0 : ∀ a b c e, B [a, b, c, e] = (newTuple [] >>= fun t => pure [(p1, a), (p2, b), (p3, c), (p4, e), (pv, t)]))
    (h1 : ∀ a b c e r rs, B (a :: b :: c :: e :: r :: rs) = (newTuple (r :: rs) >>= fun t => pure [(p1, a), (p2, b), (p3, c), (p4, e), (pv, t)])) :
    ∀ us rest : List Value, us.length = [p1, p2, p3, p4].length → B (us ++ rest) = (newTuple rest >>= fun t => pure ([p1, p2, p3, p4].zip us ++ [(pv, t)]))
  | [a, b, c, e], [], _ => h0 a b c e
  | [a, b, c, e], r :: rs, _ => h1 a b c e r rs
/-- THE RULE for a def with a star parameter -/
theorem Fun.okS {P : Program} {w : World} {K : PySem.W.Frag} {mg : Str → Option Value} {base : Heap} {x qual : Str} {st : Stmt} {f : Addr} {fd : FuncData} {N ps : List Str} {pv : Str} {k : Nat} {sp : Sp} (F : L2.Fun K x qual st f fd) (S : FnScope N (ps ++ [pv]) (defScope st))
    (hb : ∀ (kV doc pm : Value) (an : Option Addr) (cdv ct : Value) (us rest : List Value), us.length = ps.length → bindArgs (PySem.W.fnOf x qual (defArgs st) (defBody st) (defScope st) .none kV doc pm an cdv ct) ⟨us ++ rest, []⟩ = (newTuple rest >>= fun t => pure (ps.zip us ++ [(pv, t)])))
    (hbody : ∀ (cdv : Value) (A : Around) (outer : List Env) (s : Shared) (H : Hp) (vs : List V) (Q : VK) (E : XK), Room k (A.deeper (envOfC qual (defScope st) s.heap.objs.size f cdv)) → sp vs H Q E →
      ∃ t, PSs (cxOf CX0 P w K mg base N qual (defScope st) f cdv A outer s H E).nox (defBody st) t ∧ t { nx := fun _ H' => Q .non H', rt := Q } (L2.start N vs) H) :
    FnR P w K mg base CX0 (k + 1) f (fun vs H Q E => ∃ ws rest, vs = ws ++ rest ∧ ws.length = ps.length ∧ rest.length ≤ sizeLine ∧ ∀ p, H p = Option.none → sp (ws ++ [V.ref p]) (upd H p (.tup rest)) Q E) := by
  obtain ⟨oc, od, kV, doc, pm, an, cdv, ct, osl, rfl, lk, hcd⟩ := F.ex
  refine StX.fn_star lk hcd S StX.cxUp_none (hb kV doc pm an cdv ct) fun A outer s H vs Q E hr hsp => ?_
  obtain ⟨t, h, q⟩ := hbody cdv A outer s H vs Q E hr hsp
  exact ⟨t, h.nox, q⟩
end AZ

set_option Elab.async false
set_option maxRecDepth 100000
set_option maxHeartbeats 4000000
set_option linter.all false
/-! Own work: enumerate over a tuple. -/
namespace AZ
open PySem L2 PyProof.Rows
theorem meets_enumerate_newB1 {v : Value} {o : Obj} {H : Heap → Prop} (B : Begins v o H) :
    Meets (Builtin.«enumerate.__new__» ⟨[.type "enumerate", v], []⟩) (fun _ R s => H s.heap ∧
      R (.ok (.ret (.ref (s.heap.push o).objs.size))) { s with heap := (s.heap.push o).push { cls := .type "enumerate", data := .fields #[.none, .bool false, .ref s.heap.objs.size, rawInt 0, .none, .none] } }) :=
  .of_wp fun prog w A R s h => by
    obtain ⟨hp, g, d, tk, os⟩ := s; obtain ⟨h1, h⟩ := h
    have hsub := sub_enumerate
    have q1 : ∀ {A' : Around} {E : Value → Shared → Prop} {Q : Value → Shared → Prop}, Q (.ref hp.objs.size) ⟨hp.push o, g, d, tk, os⟩ → wpAny (model prog w) A' (pyIter v) Q E ⟨hp, g, d, tk, os⟩ :=
      fun q => B.iter prog w _ _ ⟨hp, g, d, tk, os⟩ _ h1 q
    wp_walk using q1
    refine wpAny_stack_any fun st => wpAny_pure ?_
    split
    · rename_i c _ _ _ _ _
      cases (c == Value.type "enumerate")
      · wp_walk using q1
        exact ⟨_, rfl, h⟩
      · wp_walk using q1
        exact ⟨_, rfl, h⟩
    · wp_walk using q1
      exact ⟨_, rfl, h⟩
theorem enum_begins1 {prog : Program} {w : World} {A : Around} {E : Value → Shared → Prop} {s : Shared} {v : Value} {o : Obj} {H : Heap → Prop} {Q : Value → Shared → Prop} (B : Begins v o H) (h1 : H s.heap)
    (h : ∀ h', IsEnum h' (s.heap.objs.size + 1) s.heap.objs.size 0 .none → h'.get? s.heap.objs.size = some o → h'.objs.size = s.heap.objs.size + 2 →
      (∀ b o, s.heap.get? b = some o → h'.get? b = some o) → Q (.ref (s.heap.objs.size + 1)) { s with heap := h' }) :
    wpAny (model prog w) A (call (.type "enumerate") [v]) Q E s := by
  refine callType_new F.called_enumerate (by decide) (F.typeCall_enumerate_1 _) (F.newCall_enumerate_1 _) (fun obj => F.args_object_init_2 obj _) F.entry_enumerate_new
    (meets_enumerate_newB1 B) ⟨h1, ?_⟩
  have hz : (s.heap.push o).objs.size = s.heap.objs.size + 1 := Heap.size_push ..
  show _ ∧ _
  rw [hz]
  have he : IsEnum ((s.heap.push o).push { cls := .type "enumerate", data := .fields #[.none, .bool false, .ref s.heap.objs.size, rawInt 0, .none, .none] }) (s.heap.objs.size + 1) s.heap.objs.size 0 .none := by
    have := Heap.get?_push_size (s.heap.push o) (o := { cls := .type "enumerate", data := .fields #[.none, .bool false, .ref s.heap.objs.size, rawInt 0, .none, .none] }) rfl
    rw [hz] at this; exact this
  refine ⟨⟨_, he, rfl⟩, h _ he (Heap.get?_push_of_some _ (Heap.get?_push_size _ B.free)) (by rw [Heap.size_push, hz]) fun b o x => Heap.get?_push_of_some _ (Heap.get?_push_of_some _ x)⟩
/-- the tuple at a, each item in a new pair -/
def IteT (K : PySem.W.Frag) (a : Addr) : It :=
  ⟨fun i H => ∃ (xs : List V) (x : V), SqT K H a xs ∧ xs[i]? = some x, fun i H v H' => ∃ T x, v = .ref T ∧ H T = none ∧ H' = upd H T (.tup [.int (i : Nat), x]) ∧ ∀ xs, SqT K H a xs → xs[i]? = some x, fun i H => ∃ xs : List V, SqT K H a xs ∧ xs.length ≤ i⟩
theorem turn_enumT {P : Program} {w : World} {K : PySem.W.Frag} {elts : List Expr} {kk : Nat} {tpos : Pos} (a e it : Addr) :
    Turn P w K (.Tuple elts kk tpos) (IteT K a) [e, it] e (fun i h => (∃ old, IsEnum h e it ((i : Nat) : Int) old) ∧ h.IsTupleIter it a i ∧ e ≠ it) where
  mem := by simp
  obj := fun i h st b hb => by
    obtain ⟨⟨old, he⟩, ⟨o, ho, hc, hd⟩, _⟩ := st
    have e' : b = e ∨ b = it := by simpa using hb
    rcases e' with z | z
    · rw [z]; exact ⟨_, he, fun v q => nomatch q⟩
    · rw [z]; exact ⟨o, ho, fun v q => by rw [hd] at q; cases q⟩
  keep := fun i h h' st k => let ⟨⟨old, he⟩, hi, hne⟩ := st; ⟨⟨old, k e (by simp) _ he⟩, hi.at fun o q => k it (by simp) o q, hne⟩
  item := by
    intro X hP hw hK hc i pins s σ H E I hf st hg
    subst hP hw hK
    obtain ⟨⟨old, he⟩, hit, hne⟩ := st
    obtain ⟨xs, x, hq, hx⟩ := hg
    obtain ⟨its, rv, p, hz⟩ := I.tuple hq
    obtain ⟨u, hu, ru⟩ := rv.get hx
    have hel : e < s.heap.objs.size := Heap.lt_size he
    have hil : it < s.heap.objs.size := by obtain ⟨_, q, _⟩ := hit; exact Heap.lt_size q
    have p : s.heap.IsTuple a its.toArray := p
    have ea : e ≠ a := fun z => by
      obtain ⟨o, ho, hc2, _⟩ := p
      rw [← z, he] at ho
      injection ho with ho
      rw [← ho] at hc2
      exact absurd (show Value.type "enumerate" = .type "tuple" from hc2) (by decide)
    have ai : a ≠ it := fun z => by
      obtain ⟨o, ho, hc2, _⟩ := p
      obtain ⟨o2, ho2, hc3, _⟩ := hit
      rw [z, ho2] at ho
      injection ho with ho
      rw [← ho, hc3] at hc2
      exact absurd hc2 (by decide)
    refine wpAny_pyNext_enum_itemD (Draws.tuple (A := X.A.in1) (show X.A.in1.handled = none from I.ok.hd hc) it a ai its.toArray) he ⟨hit, p⟩ (show i < its.toArray.size by simpa using (List.getElem?_eq_some_iff.mp hu).1) hne (by simp [hne, ea]) fun y h' tk hy ho hit' hT hsz hk => ?_
    obtain rfl : y = u := by
      have hy : its.toArray[i]? = some y := hy
      rw [List.getElem?_toArray, hu] at hy
      injection hy with hy
      exact hy.symm
    refine ⟨_, rfl, wpAny_letOwnedTupleGo_enum (s := { s with heap := h', toks := tk + 1 }) ho fun h'' he' sb => ?_⟩
    have hT2 : h''.get? s.heap.objs.size = some { cls := .type "tuple", data := .seq #[.int i tk, y] } := (sb.2 _ (Nat.ne_of_gt hel)).trans hT
    have new : ObjOk X.prog X.w (upd H s.heap.objs.size (.tup [.int (i : Nat), x])) h'' s.heap.objs.size (.tup [.int (i : Nat), x]) :=
      ⟨by show 2 ≤ sizeLine; decide, [.int i tk, y], .cons ⟨_, rfl⟩ (.cons ru .nil), ⟨_, hT2, rfl, _, rfl⟩⟩
    have I1 : Inv X pins σ (upd H s.heap.objs.size (.tup [.int (i : Nat), x])) { s with heap := h'', toks := tk + 1 } :=
      I.turnedNew (ch := [e, it]) (fun b ob hb q => (sb.2 b (fun z => hb (by simp [z]))).trans (hk b ob (fun z => hb (by simp [z])) (fun z => hb (by simp [z])) q)) hf (Nat.le_refl _) new
    refine ⟨.ref s.heap.objs.size, _, I1, rfl, ⟨_, x, rfl, I.hok.fresh (Nat.le_refl _), rfl, fun ys hy => by rw [I.tuple_inj hy hq]; exact hx⟩, ⟨⟨y, ?_⟩, hit'.1.at fun o q => (sb.2 it (Ne.symm hne)).trans q, hne⟩, fun b hb => ?_⟩
    · have e1 : ((i + 1 : Nat) : Int) = (i : Int) + 1 := by omega
      rw [e1]; exact he'
    · have hb' : b < s.heap.objs.size := by
        have e' : b = e ∨ b = it := by simpa using hb
        rcases e' with z | z
        · rw [z]; exact hel
        · rw [z]; exact hil
      rw [upd_ne (Nat.ne_of_lt hb')]
      exact (hf b hb).1
  done := by
    intro X hP hw hK hc i pins s σ H E I hf st hg
    subst hP hw hK
    obtain ⟨⟨old, he⟩, hit, hne⟩ := st
    obtain ⟨xs, hq, hx⟩ := hg
    obtain ⟨its, rv, p, hz⟩ := I.tuple hq
    obtain ⟨f0, f1, f2, f3, f4, f5⟩ := hf it (by simp)
    have hl := rv.length
    have p : s.heap.IsTuple a its.toArray := p
    have ai : a ≠ it := fun z => by
      obtain ⟨o, ho, hc2, _⟩ := p
      obtain ⟨o2, ho2, hc3, _⟩ := hit
      rw [z, ho2] at ho
      injection ho with ho
      rw [← ho, hc3] at hc2
      exact absurd hc2 (by decide)
    -- the iterator may stand behind the end: then it says so too
    have hT : s.TypeIs (.ref e) "enumerate" := ⟨_, he, rfl⟩
    unfold pyNext
    refine wpAny_bind (wpAny_attempt (wpAny_callSpecial?_slot (name := Str.ofString "__next__") hT F.slot_enumerate_next
      (wpAny_call_entry F.slot_enumerate_next hT F.entry_enumerate_next ?_ (F.args_enumerate_next_1 _))))
    show wpAny _ _ (field (.ref e) 2 >>= _) _ _ _
    refine wpAny_bind (wpAny_field he rfl (x := .ref it) rfl ?_)
    refine wpAny_bind (wpAny_nextOf_tuple_end (show X.A.in1.handled = none from I.ok.hd hc) hit p (by simp; omega) fun h' y he' hy => ?_)
    obtain ⟨o, ho, hc2⟩ := hy
    refine wpAny_bind (wpAny_isInstance (T := "StopIteration") (b := true) ⟨o, ho, hc2⟩ isSubtype_stop ?_)
    exact wpAny_pure ⟨rfl, I.turned (t' := s.toks) (fun b o hb q => he' b o hb q) f0 f1 f3 f4 f5⟩
  self := fun A i s Q E st h => let ⟨⟨_, he⟩, _⟩ := st; wpAny_pyIter_enum he h
def iEnumT (K : PySem.W.Frag) (ta : TA) : TI := fun σ H R => ta σ H fun vs H1 => ∃ a xs, vs = [.ref a] ∧ SqT K H1 a xs ∧ R (IteT K a) H1
theorem pi_enumT {X : Cx} {e : Expr} {ta : TA} {p pos tpos : Pos} {elts : List Expr} {kk : Nat} (hg : Gl X "enumerate") (hm : X.mg "enumerate" = none) (ha : PA X [e] ta) (hs : starEach [e] X.env = [(false, eval e X.env)] := by rfl) :
    PI X (.Tuple elts kk tpos) (.Call (.Name "enumerate" p) [e] [] pos) (iEnumT X.K ta) := by
  refine ⟨fun pins s σ H R I h => ?_⟩
  refine Call_ (ld_blt I hg hm boot_enumerate (PyProof.Rows.callWith_type1 (thn (ha.run pos pins s σ H _ I h) fun us s1 ⟨vs, H1, I1, r1, q1⟩ => ?_) hs rfl))
  obtain ⟨a, xs, ex, hq, q⟩ := q1
  subst ex
  cases r1 with
  | cons r rr =>
    cases rr
    cases r
    obtain ⟨its, rv, p', hz⟩ := I1.tuple hq
    refine enum_begins1 (begins_tuple a its.toArray) (show s1.heap.IsTuple a its.toArray from p') fun h' he hit hsz hk => wpAny_pyIter_enum he ?_
    have I2 : Inv X pins σ H1 { s1 with heap := h' } := I1.kept (t' := s1.toks) hk
    refine ⟨s1.heap.objs.size + 1, [s1.heap.objs.size + 1, s1.heap.objs.size], _, _, H1, rfl, I2, turn_enumT a (s1.heap.objs.size + 1) s1.heap.objs.size, ⟨⟨.none, he⟩, ⟨_, hit, rfl, rfl⟩, Nat.succ_ne_self _⟩, fun b hb => ?_, q⟩
    have e' : b = s1.heap.objs.size + 1 ∨ b = s1.heap.objs.size := by simpa using hb
    have hle : s1.heap.objs.size ≤ b := by
      rcases e' with z | z
      · rw [z]; exact Nat.le_add_right _ _
      · rw [z]; exact Nat.le_refl _
    exact I1.fpOk hle (I1.hok.fresh hle)
theorem for_enumT {K : PySem.W.Frag} {a : Addr} {xs : List V} {g : TG} {tb : TS} {D : Ends} {σ : L2.St} {H : Hp} (Pv : Nat → L2.St → Hp → Prop) (h0 : Pv 0 σ H) (hl : ∀ i σ H, i ≤ xs.length → Pv i σ H → SqT K H a xs)
    (hs : ∀ i x T σ H, xs[i]? = some x → Pv i σ H → H T = none → g (.ref T) σ (upd H T (.tup [.int (i : Nat), x])) fun σ2 H2 => tb { D with nx := Pv (i + 1), ct := Pv (i + 1), bk := D.nx } σ2 H2) (hd : ∀ σ H, Pv xs.length σ H → D.nx σ H) :
    ∃ W : Nat → Nat → L2.St → Hp → Prop, (∃ m, W 0 m σ H) ∧ ∀ i m σ H, W i m σ H →
      ((IteT K a).stop i H ∧ D.nx σ H) ∨ ((IteT K a).go i H ∧ ∃ N : L2.St → Hp → Prop, (∀ σ' H', N σ' H' → ∃ m', m' < m ∧ W (i + 1) m' σ' H') ∧ ∀ x H', (IteT K a).yld i H x H' → g x σ H' fun σ2 H2 => tb { D with nx := N, ct := N, bk := D.nx } σ2 H2) := by
  refine ⟨fun i m σ H => m = xs.length - i ∧ i ≤ xs.length ∧ Pv i σ H, ⟨xs.length, by simp, Nat.zero_le _, h0⟩, ?_⟩
  rintro i m σ H ⟨rfl, hi, p⟩
  have q := hl i σ H hi p
  by_cases hlt : i < xs.length
  · refine .inr ⟨⟨xs, xs[i], q, by simp [hlt]⟩, Pv (i + 1), fun σ' H' p' => ⟨xs.length - (i + 1), by omega, rfl, hlt, p'⟩, fun x H' y => ?_⟩
    obtain ⟨T, z, rfl, hT, rfl, y⟩ := y
    exact hs i z T σ _ (y xs q) p hT
  · have e : i = xs.length := by omega
    subst e
    exact .inl ⟨⟨xs, q, Nat.le_refl _⟩, hd σ H p⟩
section
variable {X : Cx} {C f : Addr} {k : Nat} {CX : CXT} {sp : Sp} {E : XK}
/-- x not in c, c of a class with __contains__, its def told without a guard -/
theorem op_notInR (M : InM X.K C f) (F : FnR X.prog X.w X.K X.mg X.base CX k f sp) (hr : Room k X.A) (hx : Passes CX X E) : OpR X (compareOp .NotIn) (rNotInO C sp E) := by
  intro pins s σ H x y v u Q I rx ry h
  obtain ⟨a, dx, fs, rfl, ha, q⟩ := h
  obtain rfl : u = Value.ref a := ry
  have hc : wpAny (model X.prog X.w) X.A (call (.ref f) [.ref a, v]) (fun r s' => wpAny (model X.prog X.w) X.A (truthy r) (fun b s2 => EP X pins σ Q (.bool (!b)) s2) X.xe s') X.xe s :=
    thn (wpAny_call (run_fnR (us := [.ref a, v]) (vs := [.ref a, x]) F hr hx I (.cons rfl (.cons rx .nil)) q)) fun r s1 z => by
      obtain ⟨z, H1, I1, rz, b, rfl, q⟩ := z
      obtain rfl : r = Value.bool b := rz
      exact wpAny_truthy_bool ⟨.bl (!b), H1, I1, rfl, q⟩
  obtain ⟨mA, J, _⟩ := ins_get I.hok ha
  obtain ⟨od, J, _⟩ := J.look
  obtain ⟨m, hF⟩ := I.fr
  exact PySem.W.notIn_K hF I.ok.mod.kin J M.hs M.hf hc
end
end AZ

set_option Elab.async false
set_option maxRecDepth 100000
set_option maxHeartbeats 4000000
set_option linter.all false
/-! Own work: a tuple made of a list, its object kept in view, so that its methods can be asked. -/
namespace AZ
open PySem L2 PyProof.Rows
/-- a tuple whose object is known -/
def TupF (H : Hp) (a : Addr) (xs : List V) : Prop := ∃ o : Obj, H a = some (.frz o (.tup xs)) ∧ o.cls = .type "tuple" ∧ o.dict = none
theorem TupF.same {H H' : Hp} {a : Addr} {xs : List V} (h : TupF H a xs) (e : Same H H') : TupF H' a xs := by
  obtain ⟨o, h1, h2⟩ := h
  exact ⟨o, e _ _ h1, h2⟩
theorem TupF.sq {K : PySem.W.Frag} {H : Hp} {a : Addr} {xs : List V} (h : TupF H a xs) : SqT K H a xs := by
  obtain ⟨o, h1, _⟩ := h
  exact Or.inl (Or.inr ⟨o, h1⟩)
section
variable {X : Cx}
def rTupF (K : PySem.W.Frag) : List V → Hp → VK → Prop := fun xs H Q => ∃ p ys, xs = [.ref p] ∧ SqL K H p ys ∧ ∀ l (o : Obj), H l = none → o.cls = .type "tuple" → o.dict = none → Q (.ref l) (upd H l (.frz o (.tup ys)))
theorem call_tupleF : CallR X (.type "tuple") (rTupF X.K) := by
  intro pins s σ H xs us Q I r h
  obtain ⟨p, ys, rfl, hq, q⟩ := h
  obtain ⟨u, rfl, rx⟩ := vals1 r
  cases rx
  obtain ⟨its, r', pl, hz⟩ := I.list hq
  have hlen := r'.length
  refine call_tuple_list pl.isList (fun h' kp => ?_) (by simp only [List.size_toArray] <;> omega)
  have I1 : Inv X pins σ H { s with heap := h' } := I.kept (t' := s.toks) kp
  have I2 : Inv X pins σ (upd H h'.objs.size (.frz { cls := .type "tuple", data := .seq its.toArray } (.tup ys))) { s with heap := h'.push { cls := .type "tuple", data := .seq its.toArray } } :=
    I1.laid (t' := s.toks) (fun b o e => Heap.get?_push_of_some _ e) (Nat.le_refl _) (show ObjOk X.prog X.w _ _ _ (.frz _ (.tup ys)) from ⟨Heap.get?_push_size _ rfl, hz, its, r', IsTup.new _ _⟩)
  exact ⟨.ref h'.objs.size, _, I2, rfl, q _ _ (I1.hok.fresh (Nat.le_refl _)) rfl rfl⟩
variable {o e : Expr} {es : List Expr} {to : TE} {t : TA} {name : Str} {apos cpos : Pos} {id : String} {r : V → List V → Hp → VK → Prop}
def tBMF (r : V → List V → Hp → VK → Prop) (to : TE) (t : TA) : TE := fun σ H Q => to σ H fun x H1 => (∃ p xs, x = .ref p ∧ TupF H1 p xs) ∧ t σ H1 fun xs H2 => r x xs H2 Q
theorem pe_bmF (pa : PlainAttrs "tuple") (slot : Slot "tuple" name id) (hty : typeOf (.builtin id) = pure (.type "method_descriptor")) (hm : MtR X id r) (ho : PE X o to) (ha : PA X (e :: es) t)
    (hbase : attributeBase o name X.env (eval o X.env) = eval o X.env := by rfl)
    (hfew : ((backTo cpos (starEach (e :: es) X.env)).all (fun x => !x.1) && (backToKw cpos (keywordEach [] X.env)).all (fun x => x.1.isSome)
      && decide ((e :: es).length + ([] : List Keyword).length + (if ([] : List Keyword).isEmpty then 0 else 1) < 30)) = true := by rfl)
    (hline : (apos.endLine == cpos.line) = true := by rfl) (hs : starEach (e :: es) X.env = (false, eval e X.env) :: starEach es X.env := by rfl) (hplain : (backTo cpos (starEach es X.env)).any (·.1) = false := by rfl) :
    PE X (.Call (.Attribute o name apos) (e :: es) [] cpos) (tBMF r to t) := by
  refine ⟨fun pins s σ H Q I h => ?_⟩
  refine wpAny_Call_method_late hbase hfew hline rfl (thn (ho.run pins s σ H _ I h) fun v s1 ⟨x, H1, I1, r1, ty, q1⟩ => ?_)
  obtain ⟨p, xs, rfl, ob, hp, hc, hd⟩ := ty
  obtain rfl : v = Value.ref p := r1
  have g := (I1.hok p _ hp).1
  have h1 : s1.TypeIs (.ref p) "tuple" := ⟨ob, g, hc⟩
  have h2 : ∀ a, Value.ref p = .ref a → ∃ ob, s1.heap.get? a = some ob ∧ ob.dict = none := fun a ea => by
    cases ea
    exact ⟨ob, g, hd⟩
  refine ⟨"tuple", id, pa, slot, hty, h1, h2, ?_⟩
  have hA := ha.run cpos pins s1 σ H1 _ I1 q1
  rw [hs] at hA ⊢
  refine Calls.callWith_builtin (by show (false || (backTo cpos (starEach es X.env)).any (·.1)) = false; rw [hplain] <;> rfl) (Calls.evalArgs_plain ?_)
  exact thn hA fun us s2 ⟨vs, H2, I2, r2, q2⟩ => hm pins s2 σ H2 (.ref p) vs (.ref p) us Q I2 rfl r2 q2
end
end AZ

set_option Elab.async false
set_option maxRecDepth 100000
set_option maxHeartbeats 4000000
set_option linter.all false
/-! Own work: own operators whose right side is a text. -/
namespace AZ
open PySem L2 PyProof.Rows
structure BinMT (K : PySem.W.Frag) (T : String) (C : Addr) (op : Operator) (f : Addr) : Prop where
  hs : PySem.W.findIn K (.ref C) (PySem.dunder op.info.2) = some (some (.ref f))
  hf : PySem.W.isFn K (.ref f) = true
  hc : PySem.W.selfFirst K C = true
  hr : ∃ rc, PySem.W.findIn K (.ref C) (dunderR op.info.2) = some rc ∧ (rc = none ∨ ∃ g : Addr, rc = some (.ref g))
  ht : ∃ fo ro, PySem.W.findIn K (.type T) (PySem.dunder op.info.2) = some fo ∧ PySem.W.findIn K (.type T) (dunderR op.info.2) = some ro
  hu : PySem.W.subIn K (.type T) (.ref C) = some false
end AZ
namespace PySem.W
open PySem PySem.Spec PyProof.Rows PySem.Calls
section
variable {prog : Program} {w : World} {A : Around} {E : Value → Shared → Prop} {s : Shared} {K : Frag} {h₀ : Heap} {L x C f : Addr} {m : Str → Option Value} {ox : Obj} {od : Option Obj} {T : String}
theorem inpl_KT {op : Operator} {b : Value} {fo ro rc : Option Value} {Q : Value → Shared → Prop} (F : Fr h₀ L s.heap m) (X₀ : K.In h₀) (I : InstAt s.heap x ox C od) (hb : typeOf b = pure (.type T)) (ip : AZ.IpM K C op) (ho : typeLookup (.type "object") (dunderI op.info.2) = pure none) (hc : selfFirst K C = true)
    (hs : findIn K (.ref C) (PySem.dunder op.info.2) = some (some (.ref f))) (hf : isFn K (.ref f) = true) (hr : findIn K (.ref C) (dunderR op.info.2) = some rc) (hp : rc = none ∨ ∃ g : Addr, rc = some (.ref g))
    (h1 : findIn K (.type T) (PySem.dunder op.info.2) = some fo) (h2 : findIn K (.type T) (dunderR op.info.2) = some ro) (hsub : subIn K (.type T) (.ref C) = some false)
    (h : wpAny (model prog w) A (call (.ref f) [.ref x, b]) (CmpBack Q) E s) : wpAny (model prog w) A (inplaceOp op (.ref x) b) Q E s := by
  have X := X₀.keeps F.keep
  obtain ⟨cd, hcd, hm⟩ := ip.cls
  have one := ksp_try X I hs hf h
  unfold inplaceOp
  refine wpAny_holding (wpAny_bind (I.type.here (wpAny_bind ((AZ.noInp X hcd hm ip.no ho).here ?_))))
  simp only [Bool.false_eq_true, if_false]
  refine wpAny_bind ?_
  rcases hi : op.info with ⟨sym, nm'⟩
  rw [hi] at hs hr h1 h2
  dsimp only at hs hr h1 h2
  obtain ⟨hh, g, d, tt, os⟩ := s
  have L1 : Looks (model prog w) hh (typeOf (.ref x)) (.ref C) := I.type
  have L2 : Looks (model prog w) hh (typeOf b) (.type T) := Looks.of_pure hb
  have L3 : Looks (model prog w) hh (fillsNumberSlot (.ref C) nm') true := fills_K X hcd hm hs
  have L4 : Looks (model prog w) hh (fillsNumberSlot (.type T) nm') ((fo.isSome && !isSeqSlot fo) || (ro.isSome && !isSeqSlot ro)) := ksp_fillsT X h1 h2
  have L5 : Looks (model prog w) hh (isSubtype (.type T) (.ref C)) false := looks_subIn X hsub
  have L6 : Looks (model prog w) hh (numberSlotInPython (.ref C) nm') true := ksp_inPy X hs hr hp
  have L7 : Looks (model prog w) hh (numberSlotInPython (.type T) nm') false := Looks.of_pure rfl
  have L8 : Looks (model prog w) hh (typeLookup (.type T) (dunderR nm')) ro := looks_findIn X h2
  generalize ((fo.isSome && !isSeqSlot fo) || (ro.isSome && !isSeqSlot ro)) = right at L4
  have hne : (Value.ref C == Value.type T) = false := Bool.eq_false_iff.mpr fun q => by cases beq_iff_eq.mp q
  rw [hi] at one
  dsimp only at one
  dsimp only
  unfold binaryOp1
  refine wpAny_bind (L1.at (wpAny_bind (L2.at (wpAny_bind (L3.at ?_)))))
  simp only [hne, Bool.false_eq_true, if_false]
  cases right with
  | false =>
    ksp_lk
    refine wpAny_mono one (fun r s' hr' => ?_) fun _ _ e => e
    obtain ⟨v, rfl, hq⟩ := hr'
    ksp_lk
    exact hq
  | true =>
    ksp_lk
    refine wpAny_mono one (fun r s' hr' => ?_) fun _ _ e => e
    obtain ⟨v, rfl, hq⟩ := hr'
    ksp_lk
    exact hq
end
end PySem.W
namespace AZ
open PySem L2 PyProof.Rows
section
variable {X : Cx} {C f : Addr} {k : Nat} {CX : CXT} {sp : Sp} {E : XK}
/-- a op x, x a text -/
def rBS (C : Addr) (sp : Sp) (E : XK) : R2 := fun x y H Q => ∃ (a dx : Addr) (fs : List (Str × V)) (z : Str), x = .ref a ∧ H a = some (.ins C dx fs) ∧ y = .str z ∧ sp [x, y] H Q E
theorem op_ownBS {op : Operator} (M : BinMT X.K "str" C op f) (F : FnR X.prog X.w X.K X.mg X.base CX k f sp) (hr : Room k X.A) (hx : Passes CX X E) : OpR X (binaryOp op) (rBS C sp E) := by
  intro pins s σ H x y v u Q I rx ry h
  obtain ⟨a, dx, fs, z, rfl, ha, rfl, hs⟩ := h
  obtain rfl : v = Value.ref a := rx
  have hc : wpAny (model X.prog X.w) X.A (call (.ref f) [.ref a, u]) (PySem.W.CmpBack (EP X pins σ Q)) X.xe s :=
    thn (wpAny_call (run_fnR (us := [.ref a, u]) (vs := [.ref a, .str z]) F hr hx I (.cons rfl (.cons ry .nil)) hs)) fun _ _ z => cmpBack_of z
  obtain ⟨mA, J, _⟩ := ins_get I.hok ha
  obtain ⟨od, J, _⟩ := J.look
  obtain ⟨m, hF⟩ := I.fr
  obtain ⟨t, rfl⟩ := ry
  obtain ⟨rc, hrc, hp⟩ := M.hr
  obtain ⟨fo, ro, h1, h2⟩ := M.ht
  exact PySem.W.ksp_binT hF I.ok.mod.kin J rfl M.hc M.hs M.hf hrc hp h1 h2 M.hu hc
theorem ip_ownS {op : Operator} (ip : IpM X.K C op) (ho : typeLookup (.type "object") (dunderI op.info.2) = pure none) (M : BinMT X.K "str" C op f) (F : FnR X.prog X.w X.K X.mg X.base CX k f sp) (hr : Room k X.A) (hx : Passes CX X E) : PIp X op (rBS C sp E) := by
  intro pins s σ H x y v u Q I rx ry h
  obtain ⟨a, dx, fs, z, rfl, ha, rfl, hs⟩ := h
  obtain rfl : v = Value.ref a := rx
  have hc : wpAny (model X.prog X.w) X.A (call (.ref f) [.ref a, u]) (PySem.W.CmpBack (EP X pins σ Q)) X.xe s :=
    thn (wpAny_call (run_fnR (us := [.ref a, u]) (vs := [.ref a, .str z]) F hr hx I (.cons rfl (.cons ry .nil)) hs)) fun _ _ z => cmpBack_of z
  obtain ⟨mA, J, _⟩ := ins_get I.hok ha
  obtain ⟨od, J, _⟩ := J.look
  obtain ⟨m, hF⟩ := I.fr
  obtain ⟨t, rfl⟩ := ry
  obtain ⟨rc, hrc, hp⟩ := M.hr
  obtain ⟨fo, ro, h1, h2⟩ := M.ht
  exact PySem.W.inpl_KT hF I.ok.mod.kin J rfl ip ho M.hc M.hs M.hf hrc hp h1 h2 M.hu hc
end
theorem obj_noisub : typeLookup (.type "object") (dunderI (Operator.info .Sub).2) = pure none := by rw [typeLookup_type, builtinLookup_eq_fast]; kernel_rfl
end AZ

set_option Elab.async false
set_option maxRecDepth 100000
set_option maxHeartbeats 4000000
set_option linter.all false
/-! Own work: len, bool and [] of own values; a def with a star parameter called by keywords. -/
namespace PySem.W
open PySem PySem.Calls PyProof.Rows Builtin
section
variable {prog : Program} {w : World} {A : Around} {E : Value → Shared → Prop} {s : Shared} {K : Frag} {x C L f : Addr} {h₀ : Heap} {m : Str → Option Value} {ox : Obj} {od : Option Obj}
/-- the truth of an instance that has no __bool__ but a __len__ -/
theorem truthy_KL {Q : Bool → Shared → Prop} (F : Fr h₀ L s.heap m) (X₀ : K.In h₀) (I : InstAt s.heap x ox C od) (hb : findIn K (.ref C) "__bool__" = some none) (hs : findIn K (.ref C) "__len__" = some (some (.ref f))) (hf : isFn K (.ref f) = true)
    (h : wpAny (model prog w) A.in1 (call (.ref f) [.ref x]) (LenBack fun v s' => ∃ n t, v = .int n t ∧ Q (n != 0) s') E s) : wpAny (model prog w) A (truthy (.ref x)) Q E s := by
  have X := X₀.keeps F.keep
  unfold truthy
  refine wpAny_bind (m := callSpecial? (.ref x) (Str.ofString "__bool__")) (wpAny_bind (wpAny_bind (I.type.here ((looks_findIn X hb).here (wpAny_pure ?_)))))
  refine wpAny_bind (wpAny_bind (I.type.here ((looks_findIn X hs).here ?_)))
  show wpAny _ _ (runValue (.builtin "len" ⟨[.ref x], []⟩) >>= _) _ _ _
  refine wpAny_bind (wpAny_runValue (codeAny_builtin entry_len ?_))
  unfold Builtin.«len»
  refine wpAny_bind (m := oneArg "len" _) (wpAny_pure ?_)
  refine wpAny_bind (m := callSpecial? (.ref x) (Str.ofString "__len__")) (special_fn X I hs (beq_iff_eq.mp hf) (wpAny_mono h (fun r s' hr => ?_) fun _ _ y => y))
  cases r <;> first | exact hr.elim | skip
  rename_i n u
  obtain ⟨⟨h0, h1⟩, n2, t2, e, hq⟩ := hr
  injection e with e1 e2
  subst e1
  have lo : ¬ n < 0 := by omega
  have hi : ¬ n ≥ 2 ^ 63 := by omega
  refine wpAny_bind (wpAny_holding (wpAny_pure (wpAny_bind (wpAny_letGo ?_))))
  show wpAny _ _ (if n < 0 then _ else if n ≥ 2 ^ 63 then _ else _) _ _ _
  rw [if_neg lo, if_neg hi]
  exact wpAny_bind (wpAny_mkInt (wpAny_pure (wpAny_pure hq)))
end
end PySem.W
namespace AZ
open PySem PySem.Spec PySem.W PySem.Calls PyProof.Rows
section
variable {prog : Program} {w : World} {A : Around} {E : Value → Shared → Prop} {s : Shared} {x : Addr}
/-- bool(x), its truth known -/
theorem bool_by {Q : Value → Shared → Prop} (tr : wpAny (model prog w) A.in1.in1 (truthy (.ref x)) (fun b s₁ => Q (.bool b) s₁) E s) : wpAny (model prog w) A (call (.type "bool") [.ref x]) Q E s := by
  refine callType_codes (T := "bool") (Bi := Builtin.«object.__init__») (Q₁ := fun r s₁ => ∃ b, r = .bool b ∧ Q r s₁) PySem.F.called_bool (PySem.F.typeCall_bool_1 _) PySem.F.entry_object_init (codeAny_of_tree ?_) ?_
  · show wpAny _ A.in1.in1 (do checkBuiltinCall "bool.__new__" ⟨[.type "bool", .ref x], []⟩; again (.builtin "bool.__new__" ⟨[.type "bool", .ref x], []⟩)) _ _ s
    have pl : plainId "bool.__new__" = true := by decide +kernel
    refine wpAny_bind (wpAny_of_eq (PySem.F.newCall_bool_1 _) (wpAny_pure ⟨plainId_quiet pl _, codeAny_builtin PySem.F.entry_bool_new ?_⟩))
    rw [Around.under_plainId pl _]
    unfold Builtin.«bool.__new__»
    exact wpAny_bind (wpAny_pure (wpAny_bind (wpAny_of_eq PySem.F.conv_sub_bool (wpAny_bind (wpAny_pure (wpAny_bind (wpAny_mono tr (fun b s₁ hb => wpAny_pure ⟨_, rfl, hb⟩) fun _ _ y => y)))))))
  · rintro obj s₁ ⟨b, rfl, hq⟩
    exact ⟨PySem.typeIs_bool _ _, PySem.F.args_object_init_2 _ _, object_init_meets PySem.F.called_bool.init.lookup PySem.F.called_bool.made (by decide) prog w A.in1 _ s₁ ⟨PySem.typeIs_bool _ _, rfl, hq⟩⟩
end
end AZ
namespace AZ
open PySem L2 PyProof.Rows
/-- own __len__ at f -/
structure LenM (K : PySem.W.Frag) (C f : Addr) : Prop where
  hs : PySem.W.findIn K (.ref C) "__len__" = some (some (.ref f))
  hf : PySem.W.isFn K (.ref f) = true
section
variable {X : Cx} {C f : Addr} {k : Nat} {CX : CXT} {sp : Sp} {E : XK}
theorem lenBack_of {pins : List (Addr × Obj)} {σ : L2.St} {Q : Int → Hp → Prop} {v : Value} {s : Shared} {R : Value → Shared → Prop} (g : ∀ n t s' H', Inv X pins σ H' s' → Q n H' → R (.int n t) s') (h : EP X pins σ (fun v H1 => ∃ n : Nat, v = .int (n : Int) ∧ n < 2 ^ 62 ∧ Q (n : Int) H1) v s) : PySem.W.LenBack R v s := by
  obtain ⟨z, H1, I1, rz, n, rfl, hn, q⟩ := h
  obtain ⟨t, rfl⟩ := id rz
  exact ⟨⟨by omega, by omega⟩, g _ _ _ _ (I1.tok _) q⟩
/-- len(x) -/
def rLenF (C : Addr) (sp : Sp) (E : XK) : List V → Hp → VK → Prop := fun xs H Q => ∃ (a dx : Addr) (fs : List (Str × V)), xs = [.ref a] ∧ H a = some (.ins C dx fs) ∧ sp [.ref a] H (fun v H1 => ∃ n : Nat, v = .int (n : Int) ∧ n < 2 ^ 62 ∧ Q (.int (n : Int)) H1) E
theorem call_lenF (M : LenM X.K C f) (F : FnR X.prog X.w X.K X.mg X.base CX k f sp) (hr : Room (k + 1) X.A) (hx : Passes CX X E) : CallR X (.builtin "len") (rLenF C sp E) := by
  intro pins s σ H xs us Q I rv q
  obtain ⟨a, dx, fs, rfl, ha, hs⟩ := q
  cases rv with
  | cons r1 r2 =>
    cases r2
    cases r1
    have hc : wpAny (model X.prog X.w) X.A.in1 (call (.ref f) [.ref a]) (PySem.W.LenBack (EP X pins σ Q)) X.xe s :=
      thn (wpAny_call (run_fnS (us := [.ref a]) (vs := [.ref a]) ⟨hr.in1, rfl⟩ F hx I (.cons rfl .nil) hs)) fun v s3 z => lenBack_of (Q := fun n H' => Q (.int n) H') (fun n t s' H' I' q => ⟨.int n, H', I', ⟨t, rfl⟩, q⟩) z
    obtain ⟨mA, J, _⟩ := ins_get I.hok ha
    obtain ⟨od, J, _⟩ := J.look
    obtain ⟨m, hF⟩ := I.fr
    exact PySem.W.len_K hF I.ok.mod.kin J M.hs M.hf hc
/-- bool(x) by its length -/
def rBoolL (C : Addr) (sp : Sp) (E : XK) : List V → Hp → VK → Prop := fun xs H Q => ∃ (a dx : Addr) (fs : List (Str × V)), xs = [.ref a] ∧ H a = some (.ins C dx fs) ∧ sp [.ref a] H (fun v H1 => ∃ n : Nat, v = .int (n : Int) ∧ n < 2 ^ 62 ∧ Q (.bl ((n : Int) != 0)) H1) E
theorem call_boolL (M : LenM X.K C f) (hb : PySem.W.findIn X.K (.ref C) "__bool__" = some none) (F : FnR X.prog X.w X.K X.mg X.base CX k f sp) (hr : Room (k + 3) X.A) (hx : Passes CX X E) : CallR X (.type "bool") (rBoolL C sp E) := by
  intro pins s σ H xs us Q I rv q
  obtain ⟨a, dx, fs, rfl, ha, hs⟩ := q
  cases rv with
  | cons r1 r2 =>
    cases r2
    cases r1
    have hc : wpAny (model X.prog X.w) X.A.in1.in1.in1 (call (.ref f) [.ref a]) (PySem.W.LenBack fun v s' => ∃ n t, v = .int n t ∧ EP X pins σ Q (.bool (n != 0)) s') X.xe s :=
      thn (wpAny_call (run_fnS (us := [.ref a]) (vs := [.ref a]) ⟨hr.in1.in1.in1, rfl⟩ F hx I (.cons rfl .nil) hs)) fun v s3 z => lenBack_of (Q := fun n H' => Q (.bl (n != 0)) H') (fun n t s' H' I' q => ⟨n, t, rfl, .bl (n != 0), H', I', rfl, q⟩) z
    obtain ⟨mA, J, _⟩ := ins_get I.hok ha
    obtain ⟨od, J, _⟩ := J.look
    obtain ⟨m, hF⟩ := I.fr
    exact bool_by (PySem.W.truthy_KL hF I.ok.mod.kin J hb M.hs M.hf hc)
/-- own __getitem__ at f -/
structure GetM (K : PySem.W.Frag) (C f : Addr) : Prop where
  hs : PySem.W.findIn K (.ref C) "__getitem__" = some (some (.ref f))
  hf : PySem.W.isFn K (.ref f) = true
  hi : PySem.W.fnIn K f = true
def rIxO (C : Addr) (sp : Sp) (E : XK) : R2 := fun x y H Q => ∃ (a dx : Addr) (fs : List (Str × V)), x = .ref a ∧ H a = some (.ins C dx fs) ∧ sp [x, y] H Q E
/-- x[y], the index no slice -/
theorem pe_ixO {a b : Expr} {ta tb : TE} {pos : Pos} (M : GetM X.K C f) (F : FnR X.prog X.w X.K X.mg X.base CX k f sp) (hr : Room (k + 1) X.A) (hx : Passes CX X E) (ha : PE X a ta) (hb : PE X b tb) (hs : ∀ v u : Value, subscripted b true v u = runValue (.builtin "lifetime.subscript" ⟨[v, u], []⟩)) : PE X (.Subscript a b pos) (tOp (rIxO C sp E) ta tb) := by
  refine ⟨fun pins s σ H Q I h => Subscript_ (binT ha hb I h fun v u s2 x y H2 I2 rx ry q => ?_)⟩
  obtain ⟨c, dx, fs, rfl, hc, hq⟩ := q
  obtain rfl : v = Value.ref c := rx
  have run : wpAny (model X.prog X.w) X.A.in1 (call (.ref f) [.ref c, u]) (EP X pins σ Q) X.xe s2 :=
    wpAny_call (run_fnS (us := [.ref c, u]) (vs := [.ref c, y]) ⟨hr.in1, rfl⟩ F hx I2 (.cons rfl (.cons ry .nil)) hq)
  obtain ⟨mA, J, _⟩ := ins_get I2.hok hc
  obtain ⟨od, J, _⟩ := J.look
  obtain ⟨m, hF⟩ := I2.fr
  exact PySem.W.sub_K hF I2.ok.mod.kin J M.hs M.hi M.hf run (hs _ _)
end
/-! a def with a star parameter, called by keywords: nothing is left over -/
section
variable {P : Program} {w : World} {K : PySem.W.Frag} {mg : Str → Option Value} {base : Heap} {x qual : Str} {st : Stmt} {f : Addr} {fd : FuncData} {N ps ks : List Str} {pv : Str} {k : Nat} {sp : Sp}
theorem Fun.okSK {g : List Value → List Value → List Value} {gV : List V → List V → List V} (F : L2.Fun K x qual st f fd) (S : FnScope N (ps ++ [pv]) (defScope st)) (rel : ∀ {vs zs : List V} {us ws : List Value}, Vals vs us → Vals zs ws → Vals (gV vs zs) (g us ws))
    (hb : ∀ (kV doc pm : Value) (an : Option Addr) (cdv ct : Value) (us ws : List Value), (g us ws).length = ps.length → bindArgs (PySem.W.fnOf x qual (defArgs st) (defBody st) (defScope st) .none kV doc pm an cdv ct) ⟨us, ks.zip ws⟩ = (newTuple [] >>= fun t => pure (ps.zip (g us ws) ++ [(pv, t)])))
    (hbody : ∀ (cdv : Value) (A : Around) (outer : List Env) (s : Shared) (H : Hp) (vs : List V) (Q : VK) (E : XK), Room k (A.deeper (envOfC qual (defScope st) s.heap.objs.size f cdv)) → sp vs H Q E →
      ∃ t, PSs (cxOf CX0 P w K mg base N qual (defScope st) f cdv A outer s H E).nox (defBody st) t ∧ t { nx := fun _ H' => Q .non H', rt := Q } (L2.start N vs) H) :
    FnRk P w K mg base CX0 (k + 1) f ks gV (fun vs H Q E => vs.length = ps.length ∧ ∀ p, H p = Option.none → sp (vs ++ [V.ref p]) (upd H p (.tup [])) Q E) := by
  obtain ⟨oc, od, kV, doc, pm, an, cdv, ct, osl, rfl, lk, hcd⟩ := F.ex
  intro A outer s H us ws vs zs Q E hr e0 r rz h
  obtain ⟨hl, hq⟩ := h
  have rg := rel r rz
  have hlg : (g us ws).length = ps.length := by rw [← rg.length]; exact hl
  have hn : H s.heap.objs.size = Option.none := e0.hok.fresh (Nat.le_refl _)
  have up0 : StX.CXUp CX0 := StX.cxUp_none
  refine StX.run_bnd lk hcd S hr e0 (G := fun xs H2 => ∃ p, H p = Option.none ∧ xs = gV vs zs ++ [V.ref p] ∧ H2 = upd H p (.tup [])) (fun A' Ex Q' go => ?_) fun s2 H2 xs ⟨p, hp, ex, eH⟩ hr' => ?_
  · rw [hb _ _ _ _ _ _ us ws hlg]
    refine wpAny_bind (wpAny_newTuple (wpAny_pure ?_) (Nat.zero_le _))
    have new : ObjOk P w (upd H s.heap.objs.size (.tup [])) (s.heap.push ({ cls := .type "tuple", data := .seq #[] } : Obj)) s.heap.objs.size (.tup []) := ⟨Nat.zero_le _, [], .nil, ⟨_, Heap.get?_push_size _ rfl, rfl, _, rfl⟩⟩
    have un := StX.un_laid (fs := frs outer) (s := s) (o := ({ cls := .type "tuple", data := .seq #[] } : Obj)) (u := .tup []) hn
    have z := go _ _ (gV vs zs ++ [V.ref s.heap.objs.size]) (g us ws ++ [Value.ref s.heap.objs.size]) (StX.env0_laid e0 new) un rfl (fun e s' => up0 outer s H _ _ E e s' un (fun b o q => Heap.get?_push_of_some _ q) rfl) (rg.append (.cons rfl .nil))
      (by rw [List.length_append, List.length_append, hl] <;> rfl) ⟨_, hn, rfl, rfl⟩
    rw [List.zip_append hlg.symm] at z
    exact z
  · subst ex eH
    obtain ⟨t, ht, q⟩ := hbody cdv A outer s2 _ _ Q E hr' (hq p hp)
    exact ⟨t, ht.nox, q⟩
end
end AZ

set_option Elab.async false
set_option maxRecDepth 100000
set_option maxHeartbeats 4000000
set_option linter.all false
/-! Own work: zip of a tuple and a list. -/
namespace AZ
open PySem PySem.Spec PyProof.Rows
open PySem.Sem (wp)
/-! the heap as the zip is made: the two iterators, their pair, the pair handed out, the zip -/
abbrev zmA (h : Heap) (a : Addr) : Heap := h.push { cls := .type "tuple_iterator", data := .fields #[.ref a, .int 0 0] }
abbrev zmB (h : Heap) (a b : Addr) : Heap := (zmA h a).push { cls := .type "list_iterator", data := .fields #[.ref b, .int 0 0] }
abbrev zmC (h : Heap) (a b : Addr) : Heap := (zmB h a b).push { cls := .type "tuple", data := .seq #[.ref h.objs.size, .ref (zmA h a).objs.size] }
abbrev zmD (h : Heap) (a b : Addr) : Heap := (zmC h a b).push { cls := .type "tuple", data := .seq #[.none, .none] }
abbrev zmE (h : Heap) (a b : Addr) : Heap := (zmD h a b).push { cls := .type "zip", data := .fields #[.none, .bool false, .bool false, .ref (zmB h a b).objs.size, .ref (zmC h a b).objs.size] }
theorem new_zipM (a b : Addr) (xs ys : Array Value) : Meets (Builtin.«zip.__new__» ⟨[.type "zip", .ref a, .ref b], []⟩) (fun _ R s => s.heap.IsTuple a xs ∧ s.heap.IsList b ys ∧ R (.ok (.ret (.ref (zmD s.heap a b).objs.size))) { s with heap := zmE s.heap a b }) :=
  .of_wp fun prog w A R s q => by
    obtain ⟨hp, g, d, tk, os⟩ := s
    obtain ⟨ta, lb, fin⟩ := q
    have sz := sub_zip
    have ta' : Heap.IsTuple (Shared.heap ⟨hp, g, d, tk, os⟩) a xs := ta
    have lb' : Heap.IsList (Shared.heap ⟨zmA hp a, g, d, tk, os⟩) b ys := Heap.IsList.push lb _
    wp_walk using wpAny_pyIter_tuple ta', wpAny_pyIter_list lb'
    exact ⟨_, rfl, fin⟩
section
variable {prog : Program} {w : World} {A : Around} {E : Value → Shared → Prop} {s : Shared}
theorem call_zipM {a b : Addr} {xs ys : Array Value} {Q : Value → Shared → Prop} (ta : s.heap.IsTuple a xs) (lb : s.heap.IsList b ys)
    (go : ∀ h' : Heap, IsZip h' (s.heap.objs.size + 4) (s.heap.objs.size + 2) (s.heap.objs.size + 3) .none → IsTupOf2 h' (s.heap.objs.size + 2) (.ref s.heap.objs.size) (.ref (s.heap.objs.size + 1)) → IsTupOf2 h' (s.heap.objs.size + 3) .none .none →
      h'.IsTupleIter s.heap.objs.size a 0 → h'.IsListIter (s.heap.objs.size + 1) b 0 → (∀ c o, s.heap.get? c = some o → h'.get? c = some o) → Q (.ref (s.heap.objs.size + 4)) { s with heap := h' }) :
    wpAny (model prog w) A (call (.type "zip") [.ref a, .ref b]) Q E s := by
  have nA : (zmA s.heap a).objs.size = s.heap.objs.size + 1 := Heap.size_push ..
  have nB : (zmB s.heap a b).objs.size = s.heap.objs.size + 2 := (Heap.size_push ..).trans (by rw [nA])
  have nC : (zmC s.heap a b).objs.size = s.heap.objs.size + 3 := (Heap.size_push ..).trans (by rw [nB])
  have nD : (zmD s.heap a b).objs.size = s.heap.objs.size + 4 := (Heap.size_push ..).trans (by rw [nC])
  refine callType_new F.called_zip (by decide) (F.typeCall_zip_2 _ _) (F.newCall_zip_2 _ _) (fun obj => F.args_object_init_3 obj _ _) F.entry_zip_new (new_zipM a b xs ys) ⟨ta, lb, ?_⟩
  have up : ∀ {h : Heap} {o : Obj} {c : Addr} {u : Obj}, h.get? c = some u → (h.push o).get? c = some u := fun q => Heap.get?_push_of_some _ q
  have ez : (zmE s.heap a b).get? (zmD s.heap a b).objs.size = some _ := Heap.get?_push_size _ rfl
  have eo : (zmE s.heap a b).get? (zmC s.heap a b).objs.size = some _ := up (Heap.get?_push_size _ rfl)
  have ei : (zmE s.heap a b).get? (zmB s.heap a b).objs.size = some _ := up (up (Heap.get?_push_size _ rfl))
  have e2 : (zmE s.heap a b).get? (zmA s.heap a).objs.size = some _ := up (up (up (Heap.get?_push_size _ rfl)))
  have e1 : (zmE s.heap a b).get? s.heap.objs.size = some _ := up (up (up (up (Heap.get?_push_size _ rfl))))
  rw [nB, nC, nD] at ez
  rw [nA, nB] at ei
  rw [nC] at eo
  rw [nA] at e2
  show _ ∧ _
  rw [nD]
  exact ⟨⟨_, ez, rfl⟩, go _ ez ei eo ⟨_, e1, rfl, rfl⟩ ⟨_, e2, rfl, rfl⟩ fun c o q => up (up (up (up (up q))))⟩
end
end AZ
namespace AZ
open PySem PySem.Spec PyProof.Rows L2
/-- a tuple and a list, item by item, in new pairs -/
def ItzM (K : PySem.W.Frag) (a b : Addr) : It :=
  ⟨fun i H => ∃ (xs ys : List V) (x y : V), SqT K H a xs ∧ SqL K H b ys ∧ xs[i]? = some x ∧ ys[i]? = some y,
    fun i H v H' => ∃ T x y, v = .ref T ∧ H T = none ∧ H' = upd H T (.tup [x, y]) ∧ (∀ xs, SqT K H a xs → xs[i]? = some x) ∧ ∀ ys, SqL K H b ys → ys[i]? = some y,
    fun i H => ∃ xs ys : List V, SqT K H a xs ∧ SqL K H b ys ∧ i ≤ xs.length ∧ i ≤ ys.length ∧ (i = xs.length ∨ i = ys.length)⟩
/-- the cells of the zip lie apart -/
structure Apart (z TI TO i1 i2 a b : Addr) : Prop where
  n1 : TI ≠ z
  n2 : TO ≠ z
  n3 : TI ≠ TO
  n4 : TI ≠ i1
  n5 : TI ≠ i2
  n6 : z ≠ i1
  n7 : z ≠ i2
  n8 : TO ≠ i1
  n9 : TO ≠ i2
  m1 : i1 ≠ i2
  m2 : z ≠ a
  m3 : TO ≠ a
  m4 : z ≠ b
  m5 : TO ≠ b
  m6 : i1 ≠ b
  m7 : i2 ≠ a
  m8 : a ≠ i1
  m9 : b ≠ i2
theorem Apart.sep {z TI TO i1 i2 a b : Addr} (D : Apart z TI TO i1 i2 a b) : ZipSep2 z TI TO i1 i2 [i1, a] [i2, b] :=
  ⟨D.n1, D.n2, D.n3, D.n4, by simp, by simp [D.n6, D.m2], by simp [D.n8, D.m3], D.n5, by simp, by simp [D.n7, D.m4], by simp [D.n9, D.m5], by simp [D.m1, D.m6], by simp [D.m1.symm, D.m7]⟩
theorem turn_zipM {P : Program} {w : World} {K : PySem.W.Frag} {elts : List Expr} {kk : Nat} {tpos : Pos} {a b z TI TO i1 i2 : Addr} (D : Apart z TI TO i1 i2 a b) :
    Turn P w K (.Tuple elts kk tpos) (ItzM K a b) [z, TI, TO, i1, i2] z (fun i h => IsZip h z TI TO .none ∧ IsTupOf2 h TI (.ref i1) (.ref i2) ∧ (∃ x y, IsTupOf2 h TO x y) ∧ h.IsTupleIter i1 a i ∧ h.IsListIter i2 b i) where
  mem := List.mem_cons_self ..
  obj := fun i h st c hc => by
    obtain ⟨cz, cI, ⟨x, y, cO⟩, ⟨o1, e1, _, d1⟩, ⟨o2, e2, _, d2⟩⟩ := st
    simp only [List.mem_cons, List.not_mem_nil, or_false] at hc
    rcases hc with rfl | rfl | rfl | rfl | rfl
    · exact ⟨_, cz, fun v q => by cases q⟩
    · exact ⟨_, cI, fun v q => by cases q⟩
    · exact ⟨_, cO, fun v q => by cases q⟩
    · exact ⟨o1, e1, fun v q => by rw [d1] at q; cases q⟩
    · exact ⟨o2, e2, fun v q => by rw [d2] at q; cases q⟩
  keep := fun i h h' st k => by
    obtain ⟨cz, cI, ⟨x, y, cO⟩, j1, j2⟩ := st
    exact ⟨k z (by simp) _ cz, k TI (by simp) _ cI, ⟨x, y, k TO (by simp) _ cO⟩, j1.at fun o q => k i1 (by simp) o q, j2.at fun o q => k i2 (by simp) o q⟩
  item := by
    intro X hP hw hK hc i pins s σ H E I hf st hg
    subst hP hw hK
    obtain ⟨cz, cI, ⟨x0, y0, cO⟩, j1, j2⟩ := st
    obtain ⟨xs, ys, x, y, qx, qy, hx, hy⟩ := hg
    obtain ⟨us, ru, pu, _⟩ := I.tuple qx
    obtain ⟨vs, rv, pv, _⟩ := I.list qy
    obtain ⟨u, hu, xu⟩ := ru.get hx
    obtain ⟨v, hv, yv⟩ := rv.get hy
    have lu : i < us.toArray.size := by rw [List.size_toArray]; exact (List.getElem?_eq_some_iff.mp hu).1
    have lv : i < vs.toArray.size := by rw [List.size_toArray]; exact (List.getElem?_eq_some_iff.mp hv).1
    have hd := I.ok.hd hc
    have zl : z < s.heap.objs.size := Heap.lt_size cz
    refine wpAny_pyNext_zipD2_item D.sep (Draws.tuple (A := X.A.in1) hd i1 a D.m8 us.toArray) (Draws.list (A := X.A.in1) hd i2 b D.m9 vs.toArray) cz cI cO ⟨j1, pu⟩ ⟨j2, pv.isList⟩ lu lv fun x1 x2 h' tk p1 p2 cz' cO' st1 st2 hT hsz hk => ?_
    obtain rfl : x1 = u := by
      have p1 : us.toArray[i]? = some x1 := p1
      rw [List.getElem?_toArray, hu] at p1
      exact (Option.some.inj p1).symm
    obtain rfl : x2 = v := by
      have p2 : vs.toArray[i]? = some x2 := p2
      rw [List.getElem?_toArray, hv] at p2
      exact (Option.some.inj p2).symm
    have kz : ∀ c o, c ∉ [z, TI, TO, i1, i2] → s.heap.get? c = some o → h'.get? c = some o := fun c o n q => by
      simp only [List.mem_cons, List.not_mem_nil, or_false, not_or] at n
      exact hk c o n.1 n.2.2.1 n.2.2.2.1 n.2.2.2.2 q
    refine ⟨_, rfl, wpAny_letOwnedTupleGo_zip (s := { s with heap := h', toks := tk }) cz' fun h'' cz'' sb => ?_⟩
    have ov : ∀ c o, c ≠ z → h'.get? c = some o → h''.get? c = some o := fun c o n q => (sb.2 c n).trans q
    have tT : h''.get? s.heap.objs.size = some { cls := .type "tuple", data := .seq #[x1, x2] } := ov _ _ (Nat.ne_of_gt zl) hT
    have new : ObjOk X.prog X.w (upd H s.heap.objs.size (.tup [x, y])) h'' s.heap.objs.size (.tup [x, y]) := ⟨by show 2 ≤ sizeLine; decide, [x1, x2], .cons xu (.cons yv .nil), ⟨_, tT, rfl, _, rfl⟩⟩
    have J : Inv X pins σ (upd H s.heap.objs.size (.tup [x, y])) { s with heap := h'', toks := tk } := I.turnedNew (ch := [z, TI, TO, i1, i2]) (fun c o n q => ov c o (fun e => n (by simp [e])) (kz c o n q)) hf (Nat.le_refl _) new
    have cI2 := hk TI _ D.n1 D.n3 D.n4 D.n5 cI
    refine ⟨.ref s.heap.objs.size, _, J, rfl, ⟨_, x, y, rfl, I.hok.fresh (Nat.le_refl _), rfl, fun l hl => by rw [I.tuple_inj hl qx]; exact hx, fun l hl => by rw [I.list_inj hl qy]; exact hy⟩, ⟨cz'', ov _ _ D.n1 cI2, ⟨_, _, ov _ _ D.n2 cO'⟩, st1.1.at fun o q => ov _ o D.n6.symm q, st2.1.at fun o q => ov _ o D.n7.symm q⟩, fun c hcm => ?_⟩
    · have lt : c < s.heap.objs.size := by
        simp only [List.mem_cons, List.not_mem_nil, or_false] at hcm
        rcases hcm with rfl | rfl | rfl | rfl | rfl
        · exact zl
        · exact Heap.lt_size cI
        · exact Heap.lt_size cO
        · obtain ⟨_, e1, _⟩ := j1; exact Heap.lt_size e1
        · obtain ⟨_, e2, _⟩ := j2; exact Heap.lt_size e2
      rw [upd_ne (Nat.ne_of_lt lt)]
      exact (hf c hcm).1
  done := by
    intro X hP hw hK hc i pins s σ H E I hf st hg
    subst hP hw hK
    obtain ⟨cz, cI, ⟨x0, y0, cO⟩, j1, j2⟩ := st
    obtain ⟨xs, ys, qx, qy, lx, ly, hend⟩ := hg
    obtain ⟨us, ru, pu, _⟩ := I.tuple qx
    obtain ⟨vs, rv, pv, _⟩ := I.list qy
    have l1 := ru.length
    have l2 := rv.length
    have hd := I.ok.hd hc
    refine wpAny_pyNext_zipD2_end D.sep (Draws.tuple (A := X.A.in1) hd i1 a D.m8 us.toArray) (Draws.list (A := X.A.in1) hd i2 b D.m9 vs.toArray) cz cI cO ⟨j1, pu⟩ ⟨j2, pv.isList⟩ (by rw [List.size_toArray]; omega) (by rw [List.size_toArray]; omega) (by rw [List.size_toArray, List.size_toArray]; omega) fun h' tk hk => ⟨rfl, ?_⟩
    exact I.turnedL (ch := [z, TI, TO, i1, i2]) (fun c o n q => by
      simp only [List.mem_cons, List.not_mem_nil, or_false, not_or] at n
      exact hk c o n.1 n.2.2.1 n.2.2.2.1 n.2.2.2.2 q) hf
  self := fun A i s Q E st q => wpAny_pyIter_zip st.1 q
end AZ
namespace AZ
open PySem PySem.Spec PyProof.Rows L2
def iZipM (K : PySem.W.Frag) (ta : TA) : TI := fun σ H R => ta σ H fun vs H1 => ∃ a b xs ys, vs = [.ref a, .ref b] ∧ SqT K H1 a xs ∧ SqL K H1 b ys ∧ R (ItzM K a b) H1
theorem apart_new {a b n : Nat} (la : a < n) (lb : b < n) : Apart (n + 4) (n + 2) (n + 3) n (n + 1) a b := by
  constructor <;> intro e <;> (have e : (_ : Nat) = _ := e) <;> omega
theorem pi_zipM {X : Cx} {e e2 : Expr} {ta : TA} {p pos tpos : Pos} {elts : List Expr} {kk : Nat} (hg : Gl X "zip") (hm : X.mg "zip" = none) (ha : PA X [e, e2] ta)
    (hs : starEach [e, e2] X.env = (false, eval e X.env) :: starEach [e2] X.env := by rfl) (hpl : (backTo pos (starEach [e2] X.env)).any (·.1) = false := by rfl) : PI X (.Tuple elts kk tpos) (.Call (.Name "zip" p) [e, e2] [] pos) (iZipM X.K ta) := by
  refine ⟨fun pins s σ H R I h => ?_⟩
  refine Call_ (ld_blt I hg hm PyProof.Rows.boot_zip (PyProof.Rows.callWith_type1 (thn (ha.run pos pins s σ H _ I h) fun us s1 ⟨vs, H1, J, r, q⟩ => ?_) hs hpl))
  obtain ⟨a, b, xs, ys, ev, qx, qy, q⟩ := q
  subst ev
  cases r with
  | cons ra rr =>
    cases rr with
    | cons rb rr =>
      cases rr
      cases ra
      cases rb
      obtain ⟨ua, ru, pu, _⟩ := J.tuple qx
      obtain ⟨ub, rw', pw, _⟩ := J.list qy
      obtain ⟨oa, ha1, _⟩ := id pu
      have la : a < s1.heap.objs.size := Heap.lt_size ha1
      have lb : b < s1.heap.objs.size := pw.lt
      refine call_zipM pu pw.isList fun h' cz cI cO j1 j2 hk => wpAny_pyIter_zip cz ?_
      have big : ∀ c, c ∈ [s1.heap.objs.size + 4, s1.heap.objs.size + 2, s1.heap.objs.size + 3, s1.heap.objs.size, s1.heap.objs.size + 1] → s1.heap.objs.size ≤ c := fun c hc => by
        simp only [List.mem_cons, List.not_mem_nil, or_false] at hc
        rcases hc with rfl | rfl | rfl | rfl | rfl
        · exact Nat.le_add_right _ _
        · exact Nat.le_add_right _ _
        · exact Nat.le_add_right _ _
        · exact Nat.le_refl _
        · exact Nat.le_add_right _ _
      have ap := apart_new la lb
      exact ⟨s1.heap.objs.size + 4, [s1.heap.objs.size + 4, s1.heap.objs.size + 2, s1.heap.objs.size + 3, s1.heap.objs.size, s1.heap.objs.size + 1], _, _, H1, rfl, J.kept (t' := s1.toks) hk, turn_zipM ap, ⟨cz, cI, ⟨_, _, cO⟩, j1, j2⟩, fun c hc => J.fpOk (big c hc) (J.hok.fresh (big c hc)), q⟩
/-- a comprehension over zip of a tuple and a list of one length -/
theorem lc_zipM {K : PySem.W.Frag} {a b : Addr} {xs ys : List V} {g : TG} {tt : TT} {te : TE} {vs : List Nat} {σ : L2.St} {H1 : Hp} {D : Addr} {Qd : Hp → Prop} (hl : xs.length = ys.length) (Pv : Nat → Hp → Prop) (h0 : Pv 0 (upd H1 D (.lst []))) (hq : ∀ i H, Pv i H → SqT K H a xs ∧ SqL K H b ys)
    (hs : ∀ i x y T H, xs[i]? = some x → ys[i]? = some y → H T = none → Pv i H → g (.ref T) (wipe σ vs) (upd H T (.tup [x, y])) fun σ2 H2 => wipe σ2 vs = wipe σ vs ∧ tt σ2 H2 fun b H3 =>
      if b = true then te σ2 H3 fun y H4 => ∃ acc, H4 D = some (.lst acc) ∧ acc.length < sizeLine ∧ Pv (i + 1) (upd H4 D (.lst (acc ++ [y]))) else Pv (i + 1) H3) (hd : ∀ H, Pv xs.length H → Qd H) :
    ∃ W : Nat → Nat → Hp → Prop, (∃ m, W 0 m (upd H1 D (.lst []))) ∧ ∀ i m H, W i m H →
      ((ItzM K a b).stop i H ∧ Qd H) ∨ ((ItzM K a b).go i H ∧ ∃ Nx : Hp → Prop, (∀ H', Nx H' → ∃ m', m' < m ∧ W (i + 1) m' H') ∧ ∀ x H', (ItzM K a b).yld i H x H' → g x (wipe σ vs) H' fun σ2 H2 => wipe σ2 vs = wipe σ vs ∧ tt σ2 H2 fun b H3 =>
        if b = true then te σ2 H3 fun y H4 => ∃ acc, H4 D = some (.lst acc) ∧ acc.length < sizeLine ∧ Nx (upd H4 D (.lst (acc ++ [y]))) else Nx H3) := by
  refine ⟨fun i m H => m = xs.length - i ∧ i ≤ xs.length ∧ Pv i H, ⟨xs.length, by simp, Nat.zero_le _, h0⟩, ?_⟩
  rintro i m H ⟨rfl, hi, p⟩
  obtain ⟨qx, qy⟩ := hq i H p
  by_cases hlt : i < xs.length
  · refine .inr ⟨⟨xs, ys, xs[i], ys[i]'(by omega), qx, qy, by simp [hlt], by simp [show i < ys.length by omega]⟩, Pv (i + 1), fun H' p' => ⟨xs.length - (i + 1), by omega, rfl, hlt, p'⟩, fun v H' z => ?_⟩
    obtain ⟨T, x, y, rfl, hT, rfl, hx, hy⟩ := z
    exact hs i x y T H (hx xs qx) (hy ys qy) hT p
  · obtain rfl : i = xs.length := by omega
    exact .inl ⟨⟨xs, ys, qx, qy, Nat.le_refl _, by omega, Or.inl rfl⟩, hd H p⟩
end AZ

set_option Elab.async false
set_option maxRecDepth 100000
set_option maxHeartbeats 4000000
set_option linter.all false
/-! Own work: the texts of integers, told apart. -/
namespace AZ
open PySem PyProof.Rows
theorem itx_sp (i : Int) : 32 ∉ (toString i : Str).cps.toList := int_text_free' 32 ⟨by decide, by decide⟩ i
theorem toNat_inj {a b : Char} (h : a.toNat = b.toNat) : a = b := by
  apply Char.ext
  exact UInt32.toNat_inj.mp h
theorem map_inj {α β : Type} {f : α → β} (hf : ∀ {a b : α}, f a = f b → a = b) : ∀ {xs ys : List α}, xs.map f = ys.map f → xs = ys
  | [], [], _ => rfl
  | [], _ :: _, h => by cases h
  | _ :: _, [], h => by cases h
  | x :: xs, y :: ys, h => by
    rw [List.map_cons, List.map_cons] at h
    injection h with h1 h2
    rw [hf h1, map_inj hf h2]
theorem ofString_inj {a b : String} (h : Str.ofString a = Str.ofString b) : a = b := by
  have e : (Str.ofString a).cps.toList = (Str.ofString b).cps.toList := by rw [h]
  rw [signs_ofString, signs_ofString] at e
  exact String.toList_inj.mp (map_inj toNat_inj e)
theorem nrep_inj {a b : Nat} (h : a.repr = b.repr) : a = b := by
  have e : Nat.toDigits 10 a = Nat.toDigits 10 b := by
    have := congrArg String.toList h
    simpa [Nat.repr] using this
  rw [← @Nat.ofDigitChars_ten_toDigits a, ← @Nat.ofDigitChars_ten_toDigits b, e]
theorem nrep_neg {a b : Nat} (h : a.repr = "-" ++ b.repr) : False := by
  have e : a.repr.toList = '-' :: b.repr.toList := by
    have := congrArg String.toList h
    simpa using this
  have m : '-' ∈ Nat.toDigits 10 a := by
    have : '-' ∈ a.repr.toList := by rw [e]; exact List.mem_cons_self
    simpa [Nat.repr] using this
  exact absurd (Nat.isDigit_of_mem_toDigits (by decide) (by decide) m) (by decide)
theorem irep_inj : ∀ {a b : Int}, a.repr = b.repr → a = b
  | .ofNat a, .ofNat b, h => by
    have := nrep_inj (a := a) (b := b) h
    rw [this]
  | .ofNat a, .negSucc b, h => (nrep_neg (a := a) (b := b + 1) h).elim
  | .negSucc a, .ofNat b, h => (nrep_neg (a := b) (b := a + 1) h.symm).elim
  | .negSucc a, .negSucc b, h => by
    have h' : "-" ++ (a + 1).repr = "-" ++ (b + 1).repr := h
    have e : (a + 1).repr.toList = (b + 1).repr.toList := by
      have := congrArg String.toList h'
      simpa using this
    have := nrep_inj (String.toList_inj.mp e)
    have : a = b := by omega
    rw [this]
theorem itx_inj {a b : Int} (h : (toString a : Str) = (toString b : Str)) : a = b := irep_inj (ofString_inj h)
end AZ

set_option Elab.async false
set_option maxRecDepth 100000
set_option maxHeartbeats 4000000
set_option linter.all false
namespace AZ
open PySem L2
theorem sc__law_pen : FnScope ["_law_script"] ["_law_script"] (defScope s__law_pen) := ⟨rfl, rfl, rfl, by decide +kernel, rfl, by decide +kernel, by decide +kernel⟩
theorem sc__law_draw : FnScope ["_law_pen_here", "_law_many", "_law_digit", "_law_lap", "_law_cell", "_law_great", "_law_stir"] ["_law_pen_here", "_law_many"] (defScope s__law_draw) := ⟨rfl, rfl, rfl, by decide +kernel, rfl, by decide +kernel, by decide +kernel⟩
theorem sc__law_pick : FnScope ["_law_pen_here", "_law_some"] ["_law_pen_here", "_law_some"] (defScope s__law_pick) := ⟨rfl, rfl, rfl, by decide +kernel, rfl, by decide +kernel, by decide +kernel⟩
theorem sc_is_integer : FnScope ["value"] ["value"] (defScope s_is_integer) := ⟨rfl, rfl, rfl, by decide +kernel, rfl, by decide +kernel, by decide +kernel⟩
theorem sc_is_name : FnScope ["value"] ["value"] (defScope s_is_name) := ⟨rfl, rfl, rfl, by decide +kernel, rfl, by decide +kernel, by decide +kernel⟩
theorem sc_check_unlike : FnScope ["names", "told", "name"] ["names"] (defScope s_check_unlike) := ⟨rfl, rfl, rfl, by decide +kernel, rfl, by decide +kernel, by decide +kernel⟩
theorem sc_names_of : FnScope ["boxes", "box", "name"] ["boxes"] (defScope s_names_of) := ⟨rfl, rfl, rfl, by decide +kernel, rfl, by decide +kernel, by decide +kernel⟩
theorem sc_Box___str__ : FnScope ["self"] ["self"] (defScope s_Box___str__) := ⟨rfl, rfl, rfl, by decide +kernel, rfl, by decide +kernel, by decide +kernel⟩
theorem sc_boxes_text : FnScope ["boxes", "box"] ["boxes"] (defScope s_boxes_text) := ⟨rfl, rfl, rfl, by decide +kernel, rfl, by decide +kernel, by decide +kernel⟩
theorem sc_Box___init__ : FnScope ["self", "name", "offset", "units", "inner", "box", "names"] ["self", "name", "offset", "units", "inner"] (defScope s_Box___init__) := ⟨rfl, rfl, rfl, by decide +kernel, rfl, by decide +kernel, by decide +kernel⟩
theorem sc_with_inner : FnScope ["box", "inner"] ["box", "inner"] (defScope s_with_inner) := ⟨rfl, rfl, rfl, by decide +kernel, rfl, by decide +kernel, by decide +kernel⟩
theorem sc_boxes_without : FnScope ["boxes", "name", "kept", "box"] ["boxes", "name"] (defScope s_boxes_without) := ⟨rfl, rfl, rfl, by decide +kernel, rfl, by decide +kernel, by decide +kernel⟩
theorem sc_boxes_scaled : FnScope ["boxes", "times", "scaled", "box", "inner"] ["boxes", "times"] (defScope s_boxes_scaled) := ⟨rfl, rfl, rfl, by decide +kernel, rfl, by decide +kernel, by decide +kernel⟩
theorem sc_boxes_with : FnScope ["boxes", "added", "name", "kept", "box"] ["boxes", "added", "name"] (defScope s_boxes_with) := ⟨rfl, rfl, rfl, by decide +kernel, rfl, by decide +kernel, by decide +kernel⟩
theorem sc_check_names : FnScope ["names"] ["names"] (defScope s_check_names) := ⟨rfl, rfl, rfl, by decide +kernel, rfl, by decide +kernel, by decide +kernel⟩
theorem sc_Page___init__ : FnScope ["self", "boxes", "at", "box", "names", "rows", "waiting", "begin", "outer", "inner"] ["self", "boxes"] (defScope s_Page___init__) := ⟨rfl, rfl, rfl, by decide +kernel, rfl, by decide +kernel, by decide +kernel⟩
theorem sc_Page___contains__ : FnScope ["self", "x"] ["self", "x"] (defScope s_Page___contains__) := ⟨rfl, rfl, rfl, by decide +kernel, rfl, by decide +kernel, by decide +kernel⟩
theorem sc_Page_row : FnScope ["self", "name"] ["self", "name"] (defScope s_Page_row) := ⟨rfl, rfl, rfl, by decide +kernel, rfl, by decide +kernel, by decide +kernel⟩
theorem sc_Page_box : FnScope ["self", "name"] ["self", "name"] (defScope s_Page_box) := ⟨rfl, rfl, rfl, by decide +kernel, rfl, by decide +kernel, by decide +kernel⟩
theorem sc_Page_names : FnScope ["self"] ["self"] (defScope s_Page_names) := ⟨rfl, rfl, rfl, by decide +kernel, rfl, by decide +kernel, by decide +kernel⟩
theorem sc_Page___sub__ : FnScope ["self", "other", "boxes"] ["self", "other"] (defScope s_Page___sub__) := ⟨rfl, rfl, rfl, by decide +kernel, rfl, by decide +kernel, by decide +kernel⟩
theorem sc_Page___mul__ : FnScope ["self", "other", "boxes"] ["self", "other"] (defScope s_Page___mul__) := ⟨rfl, rfl, rfl, by decide +kernel, rfl, by decide +kernel, by decide +kernel⟩
theorem sc_Page___str__ : FnScope ["self"] ["self"] (defScope s_Page___str__) := ⟨rfl, rfl, rfl, by decide +kernel, rfl, by decide +kernel, by decide +kernel⟩
theorem sc_Page_with_box : FnScope ["self", "box", "name", "end", "boxes"] ["self", "box", "name"] (defScope s_Page_with_box) := ⟨rfl, rfl, rfl, by decide +kernel, rfl, by decide +kernel, by decide +kernel⟩
theorem sc_Box___eq__ : FnScope ["self", "other"] ["self", "other"] (defScope s_Box___eq__) := ⟨rfl, rfl, rfl, by decide +kernel, rfl, by decide +kernel, by decide +kernel⟩
theorem sc_Page___eq__ : FnScope ["self", "other"] ["self", "other"] (defScope s_Page___eq__) := ⟨rfl, rfl, rfl, by decide +kernel, rfl, by decide +kernel, by decide +kernel⟩
theorem sc_Page___rmul__ : FnScope ["self", "other"] ["self", "other"] (defScope s_Page___rmul__) := ⟨rfl, rfl, rfl, by decide +kernel, rfl, by decide +kernel, by decide +kernel⟩
theorem sc__law_box_made : FnScope ["_law_plain", "_law_name", "_law_offset", "_law_units", "_law_inner", "_law_some", "_law_one"] ["_law_plain"] (defScope s__law_box_made) := ⟨rfl, rfl, rfl, by decide +kernel, rfl, by decide +kernel, by decide +kernel⟩
theorem sc__law_all : FnScope ["_law_boxes_here", "_law_begin", "_law_around", "_law_found", "_law_box", "_law_there"] ["_law_boxes_here", "_law_begin", "_law_around"] (defScope s__law_all) := ⟨rfl, rfl, rfl, by decide +kernel, rfl, by decide +kernel, by decide +kernel⟩
theorem sc__law_page_made : FnScope ["_law_boxes_here", "_law_found", "_law_box"] ["_law_boxes_here"] (defScope s__law_page_made) := ⟨rfl, rfl, rfl, by decide +kernel, rfl, by decide +kernel, by decide +kernel⟩
theorem sc__law_boxes : FnScope ["_law_pen_here", "_law_names", "_law_deep", "_law_found", "_law_turn", "_law_name", "_law_offset", "_law_units"] ["_law_pen_here", "_law_names", "_law_deep"] (defScope s__law_boxes) := ⟨rfl, rfl, rfl, by decide +kernel, rfl, by decide +kernel, by decide +kernel⟩
theorem sc__law_page : FnScope ["_law_pen_here", "_law_some", "_law_names"] ["_law_pen_here"] (defScope s__law_page) := ⟨rfl, rfl, rfl, by decide +kernel, rfl, by decide +kernel, by decide +kernel⟩
theorem sc_Page___len__ : FnScope ["self"] ["self"] (defScope s_Page___len__) := ⟨rfl, rfl, rfl, by decide +kernel, rfl, by decide +kernel, by decide +kernel⟩
theorem sc_Page___getitem__ : FnScope ["self", "at", "box", "begin", "_"] ["self", "at"] (defScope s_Page___getitem__) := ⟨rfl, rfl, rfl, by decide +kernel, rfl, by decide +kernel, by decide +kernel⟩
theorem sc_Page_around : FnScope ["self", "name"] ["self", "name"] (defScope s_Page_around) := ⟨rfl, rfl, rfl, by decide +kernel, rfl, by decide +kernel, by decide +kernel⟩
theorem sc_Page_within : FnScope ["self", "name", "inner"] ["self", "name"] (defScope s_Page_within) := ⟨rfl, rfl, rfl, by decide +kernel, rfl, by decide +kernel, by decide +kernel⟩
theorem sc_Page___iter__ : FnScope ["self"] ["self"] (defScope s_Page___iter__) := ⟨rfl, rfl, rfl, by decide +kernel, rfl, by decide +kernel, by decide +kernel⟩
theorem sc_Page_some : FnScope ["self", "first", "last", "boxes"] ["self", "first", "last"] (defScope s_Page_some) := ⟨rfl, rfl, rfl, by decide +kernel, rfl, by decide +kernel, by decide +kernel⟩
theorem sc__law_box_right : FnScope ["_law_box", "_law_plain", "_law_name", "_law_offset", "_law_units", "_law_inner", "_law_one", "_law_other"] ["_law_box", "_law_plain"] (defScope s__law_box_right) := ⟨rfl, rfl, rfl, by decide +kernel, rfl, by decide +kernel, by decide +kernel⟩
theorem sc__law_right : FnScope ["_law_pen_here", "_law_boxes_here", "_law_made", "_law_rows", "_law_names", "_law_row", "_law_name", "_law_one", "_law_other", "_law_begin", "_law_end", "_law_around", "_law_plain", "_law_odd", "_law_first", "_law_last"] ["_law_pen_here"] (defScope s__law_right) := ⟨rfl, rfl, rfl, by decide +kernel, rfl, by decide +kernel, by decide +kernel⟩
theorem sc_law : FnScope ["_law_script", "_law_pen_here", "_law_turn", "_law_two", "_law_page_here"] ["_law_script"] (defScope s_law) := ⟨rfl, rfl, rfl, by decide +kernel, rfl, by decide +kernel, by decide +kernel⟩
/-- where the defs and classes stand -/
structure Ad where
  (_law_pen _law_draw _law_pick is_integer is_name check_unlike names_of Box Box___str__ boxes_text Box___init__ with_inner boxes_without boxes_scaled boxes_with check_names Page Page___init__ Page___contains__ Page_row Page_box Page_names Page___sub__ Page___mul__ Page___str__ Page_with_box Box___eq__ Page___eq__ Page___rmul__ _law_box_made _law_all _law_page_made _law_boxes _law_page Page___len__ Page___getitem__ Page_around Page_within Page___iter__ Page_some _law_box_right _law_right law : Addr)
/-- what the walk asks of the text's top -/
structure Tx (K : PySem.W.Frag) (mg : Str → Option Value) (d : Ad) : Prop where
  F__law_pen : ∃ fd, Fun K "_law_pen" "_law_pen" s__law_pen d._law_pen fd
  n_list : mg "list" = none
  F__law_draw : ∃ fd, Fun K "_law_draw" "_law_draw" s__law_draw d._law_draw fd
  n_int : mg "int" = none
  n_len : mg "len" = none
  n_abs : mg "abs" = none
  F__law_pick : ∃ fd, Fun K "_law_pick" "_law_pick" s__law_pick d._law_pick fd
  k__law_draw : PySem.W.keepIn K (.ref d._law_draw) = true
  m__law_draw : mg "_law_draw" = some (.ref d._law_draw)
  i_int_is_int : PySem.W.kitOne K (.type "int") (.type "int") = some true
  i_int_is_bool : PySem.W.kitOne K (.type "int") (.type "bool") = some false
  F_is_integer : ∃ fd, Fun K "is_integer" "is_integer" s_is_integer d.is_integer fd
  n_isinstance : mg "isinstance" = none
  n_bool : mg "bool" = none
  F_is_name : ∃ fd, Fun K "is_name" "is_name" s_is_name d.is_name fd
  n_str : mg "str" = none
  mi_MOST_LETTERS : ∃ t, mg "MOST_LETTERS" = some (.int 8 t)
  i_str_is_str : PySem.W.kitOne K (.type "str") (.type "str") = some true
  F_check_unlike : ∃ fd, Fun K "check_unlike" "check_unlike" s_check_unlike d.check_unlike fd
  F_names_of : ∃ fd, Fun K "names_of" "names_of" s_names_of d.names_of fd
  n_tuple : mg "tuple" = none
  c_Box : Cls K d.Box
  a_Box_names_inside : NoAttr K d.Box "names_inside"
  F_Box___str__ : ∃ fd, Fun K "__str__" "Box.__str__" s_Box___str__ d.Box___str__ fd
  a_Box_told : NoAttr K d.Box "told"
  F_boxes_text : ∃ fd, Fun K "boxes_text" "boxes_text" s_boxes_text d.boxes_text fd
  t_Box : StrM K d.Box d.Box___str__
  k_is_name : PySem.W.keepIn K (.ref d.is_name) = true
  m_is_name : mg "is_name" = some (.ref d.is_name)
  k_is_integer : PySem.W.keepIn K (.ref d.is_integer) = true
  m_is_integer : mg "is_integer" = some (.ref d.is_integer)
  m_Box : mg "Box" = some (.ref d.Box)
  k_names_of : PySem.W.keepIn K (.ref d.names_of) = true
  m_names_of : mg "names_of" = some (.ref d.names_of)
  k_check_unlike : PySem.W.keepIn K (.ref d.check_unlike) = true
  m_check_unlike : mg "check_unlike" = some (.ref d.check_unlike)
  k_boxes_text : PySem.W.keepIn K (.ref d.boxes_text) = true
  m_boxes_text : mg "boxes_text" = some (.ref d.boxes_text)
  y_Box : TyC K d.Box
  i_Box_is_Box : PySem.W.kitOne K (.ref d.Box) (.ref d.Box) = some true
  a_Box_name : NoAttr K d.Box "name"
  a_Box_offset : NoAttr K d.Box "offset"
  a_Box_units : NoAttr K d.Box "units"
  a_Box_inner : NoAttr K d.Box "inner"
  F_Box___init__ : ∃ fd, Fun K "__init__" "Box.__init__" s_Box___init__ d.Box___init__ fd
  F_with_inner : ∃ fd, Fun K "with_inner" "with_inner" s_with_inner d.with_inner fd
  mk_Box : Mk K d.Box d.Box___init__
  F_boxes_without : ∃ fd, Fun K "boxes_without" "boxes_without" s_boxes_without d.boxes_without fd
  k_with_inner : PySem.W.keepIn K (.ref d.with_inner) = true
  m_with_inner : mg "with_inner" = some (.ref d.with_inner)
  k_boxes_without : PySem.W.keepIn K (.ref d.boxes_without) = true
  m_boxes_without : mg "boxes_without" = some (.ref d.boxes_without)
  F_boxes_scaled : ∃ fd, Fun K "boxes_scaled" "boxes_scaled" s_boxes_scaled d.boxes_scaled fd
  k_boxes_scaled : PySem.W.keepIn K (.ref d.boxes_scaled) = true
  m_boxes_scaled : mg "boxes_scaled" = some (.ref d.boxes_scaled)
  F_boxes_with : ∃ fd, Fun K "boxes_with" "boxes_with" s_boxes_with d.boxes_with fd
  k_boxes_with : PySem.W.keepIn K (.ref d.boxes_with) = true
  m_boxes_with : mg "boxes_with" = some (.ref d.boxes_with)
  F_check_names : ∃ fd, Fun K "check_names" "check_names" s_check_names d.check_names fd
  m_Page : mg "Page" = some (.ref d.Page)
  cv_Page_MOST_BOXES : ∃ mc u, ClX.CRead K d.Page mc ∧ ClX.CVal K d.Page mc "MOST_BOXES" (.int 24) u
  F_Page___init__ : ∃ fd, Fun K "__init__" "Page.__init__" s_Page___init__ d.Page___init__ fd
  n_enumerate : mg "enumerate" = none
  k_check_names : PySem.W.keepIn K (.ref d.check_names) = true
  m_check_names : mg "check_names" = some (.ref d.check_names)
  c_Page : Cls K d.Page
  a_Page_boxes : NoAttr K d.Page "boxes"
  a_Page_all_names : NoAttr K d.Page "all_names"
  a_Page_rows : NoAttr K d.Page "rows"
  F_Page___contains__ : ∃ fd, Fun K "__contains__" "Page.__contains__" s_Page___contains__ d.Page___contains__ fd
  F_Page_row : ∃ fd, Fun K "row" "Page.row" s_Page_row d.Page_row fd
  in_Page : InM K d.Page d.Page___contains__
  F_Page_box : ∃ fd, Fun K "box" "Page.box" s_Page_box d.Page_box fd
  h_Page_row : Meth K d.Page "row" d.Page_row
  F_Page_names : ∃ fd, Fun K "names" "Page.names" s_Page_names d.Page_names fd
  F_Page___sub__ : ∃ fd, Fun K "__sub__" "Page.__sub__" s_Page___sub__ d.Page___sub__ fd
  mk_Page : Mk K d.Page d.Page___init__
  F_Page___mul__ : ∃ fd, Fun K "__mul__" "Page.__mul__" s_Page___mul__ d.Page___mul__ fd
  F_Page___str__ : ∃ fd, Fun K "__str__" "Page.__str__" s_Page___str__ d.Page___str__ fd
  D_Page_with_box : ∃ fd, FunD K "with_box" "Page.with_box" (defArgs s_Page_with_box) (defBody s_Page_with_box) (defScope s_Page_with_box) [.non] [] d.Page_with_box fd
  h_Page_box : Meth K d.Page "box" d.Page_box
  F_Box___eq__ : ∃ fd, Fun K "__eq__" "Box.__eq__" s_Box___eq__ d.Box___eq__ fd
  F_Page___eq__ : ∃ fd, Fun K "__eq__" "Page.__eq__" s_Page___eq__ d.Page___eq__ fd
  q_Box_eq : CmpM K d.Box .Eq d.Box___eq__
  y_Page : TyC K d.Page
  i_Page_is_Page : PySem.W.kitOne K (.ref d.Page) (.ref d.Page) = some true
  F_Page___rmul__ : ∃ fd, Fun K "__rmul__" "Page.__rmul__" s_Page___rmul__ d.Page___rmul__ fd
  b_Page_mul : BinM K d.Page .Mult d.Page___mul__
  F__law_box_made : ∃ fd, Fun K "_law_box_made" "_law_box_made" s__law_box_made d._law_box_made fd
  k__law_box_made : PySem.W.keepIn K (.ref d._law_box_made) = true
  m__law_box_made : mg "_law_box_made" = some (.ref d._law_box_made)
  D__law_all : ∃ fd, FunD K "_law_all" "_law_all" (defArgs s__law_all) (defBody s__law_all) (defScope s__law_all) [.int 0, .non] [] d._law_all fd
  k__law_all : PySem.W.keepIn K (.ref d._law_all) = true
  m__law_all : mg "_law_all" = some (.ref d._law_all)
  F__law_page_made : ∃ fd, Fun K "_law_page_made" "_law_page_made" s__law_page_made d._law_page_made fd
  h_Page_with_box : Meth K d.Page "with_box" d.Page_with_box
  F__law_boxes : ∃ fd, Fun K "_law_boxes" "_law_boxes" s__law_boxes d._law_boxes fd
  n_range : mg "range" = none
  k__law_pick : PySem.W.keepIn K (.ref d._law_pick) = true
  m__law_pick : mg "_law_pick" = some (.ref d._law_pick)
  k__law_boxes : PySem.W.keepIn K (.ref d._law_boxes) = true
  m__law_boxes : mg "_law_boxes" = some (.ref d._law_boxes)
  F__law_page : ∃ fd, Fun K "_law_page" "_law_page" s__law_page d._law_page fd
  F_Page___len__ : ∃ fd, Fun K "__len__" "Page.__len__" s_Page___len__ d.Page___len__ fd
  F_Page___getitem__ : ∃ fd, Fun K "__getitem__" "Page.__getitem__" s_Page___getitem__ d.Page___getitem__ fd
  F_Page_around : ∃ fd, Fun K "around" "Page.around" s_Page_around d.Page_around fd
  F_Page_within : ∃ fd, Fun K "within" "Page.within" s_Page_within d.Page_within fd
  F_Page___iter__ : ∃ fd, Fun K "__iter__" "Page.__iter__" s_Page___iter__ d.Page___iter__ fd
  n_iter : mg "iter" = none
  F_Page_some : ∃ fd, Fun K "some" "Page.some" s_Page_some d.Page_some fd
  F__law_box_right : ∃ fd, Fun K "_law_box_right" "_law_box_right" s__law_box_right d._law_box_right fd
  n_repr : mg "repr" = none
  n_zip : mg "zip" = none
  k__law_box_right : PySem.W.keepIn K (.ref d._law_box_right) = true
  m__law_box_right : mg "_law_box_right" = some (.ref d._law_box_right)
  i_tuple_is_tuple : PySem.W.kitOne K (.type "tuple") (.type "tuple") = some true
  F__law_right : ∃ fd, Fun K "_law_right" "_law_right" s__law_right d._law_right fd
  z_Page : NeM K d.Page d.Page___eq__
  q_Page_eq : CmpM K d.Page .Eq d.Page___eq__
  t_Page : StrM K d.Page d.Page___str__
  pr_Page_names : ∃ p, PropOf K d.Page "names" p d.Page_names
  w_Page_str : PySem.W.notFirst K d.Page (.type "str") = true
  w_Page_tuple : PySem.W.notFirst K d.Page (.type "tuple") = true
  i_list_is_Page : PySem.W.kitOne K (.type "list") (.ref d.Page) = some false
  i_str_is_Page : PySem.W.kitOne K (.type "str") (.ref d.Page) = some false
  i_tuple_is_Page : PySem.W.kitOne K (.type "tuple") (.ref d.Page) = some false
  i_dict_is_str : PySem.W.kitOne K (.type "dict") (.type "str") = some false
  i_list_is_str : PySem.W.kitOne K (.type "list") (.type "str") = some false
  i_tuple_is_str : PySem.W.kitOne K (.type "tuple") (.type "str") = some false
  i_int_is_str : PySem.W.kitOne K (.type "int") (.type "str") = some false
  i_bool_is_str : PySem.W.kitOne K (.type "bool") (.type "str") = some false
  i_NoneType_is_str : PySem.W.kitOne K (.type "NoneType") (.type "str") = some false
  ln_Page : LenM K d.Page d.Page___len__
  nb_Page : PySem.W.findIn K (.ref d.Page) "__bool__" = some none
  gi_Page : GetM K d.Page d.Page___getitem__
  k__law_page : PySem.W.keepIn K (.ref d._law_page) = true
  m__law_page : mg "_law_page" = some (.ref d._law_page)
  k__law_page_made : PySem.W.keepIn K (.ref d._law_page_made) = true
  m__law_page_made : mg "_law_page_made" = some (.ref d._law_page_made)
  it_Page : IterM K d.Page d.Page___iter__
  h_Page_around : Meth K d.Page "around" d.Page_around
  h_Page_within : Meth K d.Page "within" d.Page_within
  h_Page_some : Meth K d.Page "some" d.Page_some
  F_law : ∃ fd, Fun K "law" "law" s_law d.law fd
  z_Box : NeM K d.Box d.Box___eq__
  w_Box_Page : PySem.W.notFirst K d.Box (.ref d.Page) = true
  i_Page_is_Box : PySem.W.kitOne K (.ref d.Page) (.ref d.Box) = some false
  k__law_pen : PySem.W.keepIn K (.ref d._law_pen) = true
  m__law_pen : mg "_law_pen" = some (.ref d._law_pen)
  k__law_right : PySem.W.keepIn K (.ref d._law_right) = true
  m__law_right : mg "_law_right" = some (.ref d._law_right)
  m_law : mg "law" = some (.ref d.law)
end AZ
namespace AZ
open PySem L2
theorem tx_mk {K : PySem.W.Frag} {h : Heap} {mg : Str → Option Value} {A__law_pen A__law_draw A__law_pick A_is_integer A_is_name A_check_unlike A_names_of A_Box A_Box___str__ A_boxes_text A_Box___init__ A_with_inner A_boxes_without A_boxes_scaled A_boxes_with A_check_names A_Page A_Page___init__ A_Page___contains__ A_Page_row A_Page_box A_Page_names A_Page___sub__ A_Page___mul__ A_Page___str__ A_Page_with_box A_Box___eq__ A_Page___eq__ A_Page___rmul__ A__law_box_made A__law_all A__law_page_made A__law_boxes A__law_page A_Page___len__ A_Page___getitem__ A_Page_around A_Page_within A_Page___iter__ A_Page_some A__law_box_right A__law_right A_law : Addr} {cd_Box___eq__ cd_Box___init__ cd_Box___str__ cd_Page___contains__ cd_Page___eq__ cd_Page___getitem__ cd_Page___init__ cd_Page___iter__ cd_Page___len__ cd_Page___mul__ cd_Page___rmul__ cd_Page___str__ cd_Page___sub__ cd_Page_around cd_Page_box cd_Page_names cd_Page_row cd_Page_some cd_Page_with_box cd_Page_within cd__law_all cd__law_box_made cd__law_box_right cd__law_boxes cd__law_draw cd__law_page cd__law_page_made cd__law_pen cd__law_pick cd__law_right cd_boxes_scaled cd_boxes_text cd_boxes_with cd_boxes_without cd_check_names cd_check_unlike cd_is_integer cd_is_name cd_law cd_names_of cd_with_inner ct_Box___eq__ ct_Box___init__ ct_Box___str__ ct_Page___contains__ ct_Page___eq__ ct_Page___getitem__ ct_Page___init__ ct_Page___iter__ ct_Page___len__ ct_Page___mul__ ct_Page___rmul__ ct_Page___str__ ct_Page___sub__ ct_Page_around ct_Page_box ct_Page_names ct_Page_row ct_Page_some ct_Page_with_box ct_Page_within ct__law_all ct__law_box_made ct__law_box_right ct__law_boxes ct__law_draw ct__law_page ct__law_page_made ct__law_pen ct__law_pick ct__law_right ct_boxes_scaled ct_boxes_text ct_boxes_with ct_boxes_without ct_check_names ct_check_unlike ct_is_integer ct_is_name ct_law ct_names_of ct_with_inner dc_Box___eq__ dc_Box___init__ dc_Box___str__ dc_Page___contains__ dc_Page___eq__ dc_Page___getitem__ dc_Page___init__ dc_Page___iter__ dc_Page___len__ dc_Page___mul__ dc_Page___rmul__ dc_Page___str__ dc_Page___sub__ dc_Page_around dc_Page_box dc_Page_names dc_Page_row dc_Page_some dc_Page_with_box dc_Page_within dc__law_all dc__law_box_made dc__law_box_right dc__law_boxes dc__law_draw dc__law_page dc__law_page_made dc__law_pen dc__law_pick dc__law_right dc_boxes_scaled dc_boxes_text dc_boxes_with dc_boxes_without dc_check_names dc_check_unlike dc_is_integer dc_is_name dc_law dc_names_of dc_with_inner kV_Box___eq__ kV_Box___init__ kV_Box___str__ kV_Page___contains__ kV_Page___eq__ kV_Page___getitem__ kV_Page___init__ kV_Page___iter__ kV_Page___len__ kV_Page___mul__ kV_Page___rmul__ kV_Page___str__ kV_Page___sub__ kV_Page_around kV_Page_box kV_Page_names kV_Page_row kV_Page_some kV_Page_with_box kV_Page_within kV__law_all kV__law_box_made kV__law_box_right kV__law_boxes kV__law_draw kV__law_page kV__law_page_made kV__law_pen kV__law_pick kV__law_right kV_boxes_scaled kV_boxes_text kV_boxes_with kV_boxes_without kV_check_names kV_check_unlike kV_is_integer kV_is_name kV_law kV_names_of kV_with_inner oc_Box___eq__ oc_Box___init__ oc_Box___str__ oc_Page___contains__ oc_Page___eq__ oc_Page___getitem__ oc_Page___init__ oc_Page___iter__ oc_Page___len__ oc_Page___mul__ oc_Page___rmul__ oc_Page___str__ oc_Page___sub__ oc_Page_around oc_Page_box oc_Page_names oc_Page_row oc_Page_some oc_Page_with_box oc_Page_within oc__law_all oc__law_box_made oc__law_box_right oc__law_boxes oc__law_draw oc__law_page oc__law_page_made oc__law_pen oc__law_pick oc__law_right oc_boxes_scaled oc_boxes_text oc_boxes_with oc_boxes_without oc_check_names oc_check_unlike oc_is_integer oc_is_name oc_law oc_names_of oc_with_inner pm_Box___eq__ pm_Box___init__ pm_Box___str__ pm_Page___contains__ pm_Page___eq__ pm_Page___getitem__ pm_Page___init__ pm_Page___iter__ pm_Page___len__ pm_Page___mul__ pm_Page___rmul__ pm_Page___str__ pm_Page___sub__ pm_Page_around pm_Page_box pm_Page_names pm_Page_row pm_Page_some pm_Page_with_box pm_Page_within pm__law_all pm__law_box_made pm__law_box_right pm__law_boxes pm__law_draw pm__law_page pm__law_page_made pm__law_pen pm__law_pick pm__law_right pm_boxes_scaled pm_boxes_text pm_boxes_with pm_boxes_without pm_check_names pm_check_unlike pm_is_integer pm_is_name pm_law pm_names_of pm_with_inner tc_Page_with_box tc__law_all : Value} {an_Box___eq__ an_Box___init__ an_Box___str__ an_Page___contains__ an_Page___eq__ an_Page___getitem__ an_Page___init__ an_Page___iter__ an_Page___len__ an_Page___mul__ an_Page___rmul__ an_Page___str__ an_Page___sub__ an_Page_around an_Page_box an_Page_names an_Page_row an_Page_some an_Page_with_box an_Page_within an__law_all an__law_box_made an__law_box_right an__law_boxes an__law_draw an__law_page an__law_page_made an__law_pen an__law_pick an__law_right an_boxes_scaled an_boxes_text an_boxes_with an_boxes_without an_check_names an_check_unlike an_is_integer an_is_name an_law an_names_of an_with_inner od_Box___eq__ od_Box___init__ od_Box___str__ od_Page___contains__ od_Page___eq__ od_Page___getitem__ od_Page___init__ od_Page___iter__ od_Page___len__ od_Page___mul__ od_Page___rmul__ od_Page___str__ od_Page___sub__ od_Page_around od_Page_box od_Page_names od_Page_row od_Page_some od_Page_with_box od_Page_within od__law_all od__law_box_made od__law_box_right od__law_boxes od__law_draw od__law_page od__law_page_made od__law_pen od__law_pick od__law_right od_boxes_scaled od_boxes_text od_boxes_with od_boxes_without od_check_names od_check_unlike od_is_integer od_is_name od_law od_names_of od_with_inner td_Page_with_box td__law_all : Option Addr} {sl_Box___eq__ sl_Box___init__ sl_Box___str__ sl_Page___contains__ sl_Page___eq__ sl_Page___getitem__ sl_Page___init__ sl_Page___iter__ sl_Page___len__ sl_Page___mul__ sl_Page___rmul__ sl_Page___str__ sl_Page___sub__ sl_Page_around sl_Page_box sl_Page_names sl_Page_row sl_Page_some sl_Page_with_box sl_Page_within sl__law_all sl__law_box_made sl__law_box_right sl__law_boxes sl__law_draw sl__law_page sl__law_page_made sl__law_pen sl__law_pick sl__law_right sl_boxes_scaled sl_boxes_text sl_boxes_with sl_boxes_without sl_check_names sl_check_unlike sl_is_integer sl_is_name sl_law sl_names_of sl_with_inner ts_Page_with_box ts__law_all : Array (Option Value)} {tn_Page_with_box tn__law_all : Nat} {tk0__law_all tk0_cv_Page_MOST_BOXES tk0_mi_MOST_LETTERS : Tok} {dT_Page_with_box dT__law_all pp_Page_names : Addr} {rr_Page_names : List Value} {fo_Page_mul ro_Page_mul : Option Value} (X : K.In h) (G : h.Ns mainGlobals mg)
    (L__law_pen : PySem.W.nsIn K mainGlobals "_law_pen" = some (some (.ref A__law_pen)))
    (L__law_draw : PySem.W.nsIn K mainGlobals "_law_draw" = some (some (.ref A__law_draw)))
    (L__law_pick : PySem.W.nsIn K mainGlobals "_law_pick" = some (some (.ref A__law_pick)))
    (L_is_integer : PySem.W.nsIn K mainGlobals "is_integer" = some (some (.ref A_is_integer)))
    (L_is_name : PySem.W.nsIn K mainGlobals "is_name" = some (some (.ref A_is_name)))
    (L_check_unlike : PySem.W.nsIn K mainGlobals "check_unlike" = some (some (.ref A_check_unlike)))
    (L_names_of : PySem.W.nsIn K mainGlobals "names_of" = some (some (.ref A_names_of)))
    (L_Box : PySem.W.nsIn K mainGlobals "Box" = some (some (.ref A_Box)))
    (L_boxes_text : PySem.W.nsIn K mainGlobals "boxes_text" = some (some (.ref A_boxes_text)))
    (L_with_inner : PySem.W.nsIn K mainGlobals "with_inner" = some (some (.ref A_with_inner)))
    (L_boxes_without : PySem.W.nsIn K mainGlobals "boxes_without" = some (some (.ref A_boxes_without)))
    (L_boxes_scaled : PySem.W.nsIn K mainGlobals "boxes_scaled" = some (some (.ref A_boxes_scaled)))
    (L_boxes_with : PySem.W.nsIn K mainGlobals "boxes_with" = some (some (.ref A_boxes_with)))
    (L_check_names : PySem.W.nsIn K mainGlobals "check_names" = some (some (.ref A_check_names)))
    (L_Page : PySem.W.nsIn K mainGlobals "Page" = some (some (.ref A_Page)))
    (L__law_box_made : PySem.W.nsIn K mainGlobals "_law_box_made" = some (some (.ref A__law_box_made)))
    (L__law_all : PySem.W.nsIn K mainGlobals "_law_all" = some (some (.ref A__law_all)))
    (L__law_page_made : PySem.W.nsIn K mainGlobals "_law_page_made" = some (some (.ref A__law_page_made)))
    (L__law_boxes : PySem.W.nsIn K mainGlobals "_law_boxes" = some (some (.ref A__law_boxes)))
    (L__law_page : PySem.W.nsIn K mainGlobals "_law_page" = some (some (.ref A__law_page)))
    (L__law_box_right : PySem.W.nsIn K mainGlobals "_law_box_right" = some (some (.ref A__law_box_right)))
    (L__law_right : PySem.W.nsIn K mainGlobals "_law_right" = some (some (.ref A__law_right)))
    (L_law : PySem.W.nsIn K mainGlobals "law" = some (some (.ref A_law)))
    (L_Box___str__ : PySem.W.findIn K (.ref A_Box) "__str__" = some (some (.ref A_Box___str__)))
    (L_Box___init__ : PySem.W.findIn K (.ref A_Box) "__init__" = some (some (.ref A_Box___init__)))
    (L_Page___init__ : PySem.W.findIn K (.ref A_Page) "__init__" = some (some (.ref A_Page___init__)))
    (L_Page___contains__ : PySem.W.findIn K (.ref A_Page) "__contains__" = some (some (.ref A_Page___contains__)))
    (L_Page_row : PySem.W.findIn K (.ref A_Page) "row" = some (some (.ref A_Page_row)))
    (L_Page_box : PySem.W.findIn K (.ref A_Page) "box" = some (some (.ref A_Page_box)))
    (L_Page___sub__ : PySem.W.findIn K (.ref A_Page) "__sub__" = some (some (.ref A_Page___sub__)))
    (L_Page___mul__ : PySem.W.findIn K (.ref A_Page) "__mul__" = some (some (.ref A_Page___mul__)))
    (L_Page___str__ : PySem.W.findIn K (.ref A_Page) "__str__" = some (some (.ref A_Page___str__)))
    (L_Page_with_box : PySem.W.findIn K (.ref A_Page) "with_box" = some (some (.ref A_Page_with_box)))
    (L_Box___eq__ : PySem.W.findIn K (.ref A_Box) "__eq__" = some (some (.ref A_Box___eq__)))
    (L_Page___eq__ : PySem.W.findIn K (.ref A_Page) "__eq__" = some (some (.ref A_Page___eq__)))
    (L_Page___rmul__ : PySem.W.findIn K (.ref A_Page) "__rmul__" = some (some (.ref A_Page___rmul__)))
    (L_Page___len__ : PySem.W.findIn K (.ref A_Page) "__len__" = some (some (.ref A_Page___len__)))
    (L_Page___getitem__ : PySem.W.findIn K (.ref A_Page) "__getitem__" = some (some (.ref A_Page___getitem__)))
    (L_Page_around : PySem.W.findIn K (.ref A_Page) "around" = some (some (.ref A_Page_around)))
    (L_Page_within : PySem.W.findIn K (.ref A_Page) "within" = some (some (.ref A_Page_within)))
    (L_Page___iter__ : PySem.W.findIn K (.ref A_Page) "__iter__" = some (some (.ref A_Page___iter__)))
    (L_Page_some : PySem.W.findIn K (.ref A_Page) "some" = some (some (.ref A_Page_some)))
    (pr_Page_names_a : PySem.W.findIn K (.ref A_Page) "names" = some (some (.ref pp_Page_names)))
    (pr_Page_names_q : PySem.W.recIn K pp_Page_names "property" = some (.ref A_Page_names :: rr_Page_names))
    (F__law_pen_l : K.lookup A__law_pen = some ⟨oc__law_pen, od__law_pen, .func (PySem.W.fnOf "_law_pen" "_law_pen" (defArgs s__law_pen) (defBody s__law_pen) (defScope s__law_pen) .none kV__law_pen dc__law_pen pm__law_pen an__law_pen cd__law_pen ct__law_pen), sl__law_pen⟩)
    (F__law_draw_l : K.lookup A__law_draw = some ⟨oc__law_draw, od__law_draw, .func (PySem.W.fnOf "_law_draw" "_law_draw" (defArgs s__law_draw) (defBody s__law_draw) (defScope s__law_draw) .none kV__law_draw dc__law_draw pm__law_draw an__law_draw cd__law_draw ct__law_draw), sl__law_draw⟩)
    (F__law_pick_l : K.lookup A__law_pick = some ⟨oc__law_pick, od__law_pick, .func (PySem.W.fnOf "_law_pick" "_law_pick" (defArgs s__law_pick) (defBody s__law_pick) (defScope s__law_pick) .none kV__law_pick dc__law_pick pm__law_pick an__law_pick cd__law_pick ct__law_pick), sl__law_pick⟩)
    (F_is_integer_l : K.lookup A_is_integer = some ⟨oc_is_integer, od_is_integer, .func (PySem.W.fnOf "is_integer" "is_integer" (defArgs s_is_integer) (defBody s_is_integer) (defScope s_is_integer) .none kV_is_integer dc_is_integer pm_is_integer an_is_integer cd_is_integer ct_is_integer), sl_is_integer⟩)
    (F_is_name_l : K.lookup A_is_name = some ⟨oc_is_name, od_is_name, .func (PySem.W.fnOf "is_name" "is_name" (defArgs s_is_name) (defBody s_is_name) (defScope s_is_name) .none kV_is_name dc_is_name pm_is_name an_is_name cd_is_name ct_is_name), sl_is_name⟩)
    (F_check_unlike_l : K.lookup A_check_unlike = some ⟨oc_check_unlike, od_check_unlike, .func (PySem.W.fnOf "check_unlike" "check_unlike" (defArgs s_check_unlike) (defBody s_check_unlike) (defScope s_check_unlike) .none kV_check_unlike dc_check_unlike pm_check_unlike an_check_unlike cd_check_unlike ct_check_unlike), sl_check_unlike⟩)
    (F_names_of_l : K.lookup A_names_of = some ⟨oc_names_of, od_names_of, .func (PySem.W.fnOf "names_of" "names_of" (defArgs s_names_of) (defBody s_names_of) (defScope s_names_of) .none kV_names_of dc_names_of pm_names_of an_names_of cd_names_of ct_names_of), sl_names_of⟩)
    (F_Box___str___l : K.lookup A_Box___str__ = some ⟨oc_Box___str__, od_Box___str__, .func (PySem.W.fnOf "__str__" "Box.__str__" (defArgs s_Box___str__) (defBody s_Box___str__) (defScope s_Box___str__) .none kV_Box___str__ dc_Box___str__ pm_Box___str__ an_Box___str__ cd_Box___str__ ct_Box___str__), sl_Box___str__⟩)
    (F_boxes_text_l : K.lookup A_boxes_text = some ⟨oc_boxes_text, od_boxes_text, .func (PySem.W.fnOf "boxes_text" "boxes_text" (defArgs s_boxes_text) (defBody s_boxes_text) (defScope s_boxes_text) .none kV_boxes_text dc_boxes_text pm_boxes_text an_boxes_text cd_boxes_text ct_boxes_text), sl_boxes_text⟩)
    (F_Box___init___l : K.lookup A_Box___init__ = some ⟨oc_Box___init__, od_Box___init__, .func (PySem.W.fnOf "__init__" "Box.__init__" (defArgs s_Box___init__) (defBody s_Box___init__) (defScope s_Box___init__) .none kV_Box___init__ dc_Box___init__ pm_Box___init__ an_Box___init__ cd_Box___init__ ct_Box___init__), sl_Box___init__⟩)
    (F_with_inner_l : K.lookup A_with_inner = some ⟨oc_with_inner, od_with_inner, .func (PySem.W.fnOf "with_inner" "with_inner" (defArgs s_with_inner) (defBody s_with_inner) (defScope s_with_inner) .none kV_with_inner dc_with_inner pm_with_inner an_with_inner cd_with_inner ct_with_inner), sl_with_inner⟩)
    (F_boxes_without_l : K.lookup A_boxes_without = some ⟨oc_boxes_without, od_boxes_without, .func (PySem.W.fnOf "boxes_without" "boxes_without" (defArgs s_boxes_without) (defBody s_boxes_without) (defScope s_boxes_without) .none kV_boxes_without dc_boxes_without pm_boxes_without an_boxes_without cd_boxes_without ct_boxes_without), sl_boxes_without⟩)
    (F_boxes_scaled_l : K.lookup A_boxes_scaled = some ⟨oc_boxes_scaled, od_boxes_scaled, .func (PySem.W.fnOf "boxes_scaled" "boxes_scaled" (defArgs s_boxes_scaled) (defBody s_boxes_scaled) (defScope s_boxes_scaled) .none kV_boxes_scaled dc_boxes_scaled pm_boxes_scaled an_boxes_scaled cd_boxes_scaled ct_boxes_scaled), sl_boxes_scaled⟩)
    (F_boxes_with_l : K.lookup A_boxes_with = some ⟨oc_boxes_with, od_boxes_with, .func (PySem.W.fnOf "boxes_with" "boxes_with" (defArgs s_boxes_with) (defBody s_boxes_with) (defScope s_boxes_with) .none kV_boxes_with dc_boxes_with pm_boxes_with an_boxes_with cd_boxes_with ct_boxes_with), sl_boxes_with⟩)
    (F_check_names_l : K.lookup A_check_names = some ⟨oc_check_names, od_check_names, .func (PySem.W.fnOf "check_names" "check_names" (defArgs s_check_names) (defBody s_check_names) (defScope s_check_names) .none kV_check_names dc_check_names pm_check_names an_check_names cd_check_names ct_check_names), sl_check_names⟩)
    (F_Page___init___l : K.lookup A_Page___init__ = some ⟨oc_Page___init__, od_Page___init__, .func (PySem.W.fnOf "__init__" "Page.__init__" (defArgs s_Page___init__) (defBody s_Page___init__) (defScope s_Page___init__) .none kV_Page___init__ dc_Page___init__ pm_Page___init__ an_Page___init__ cd_Page___init__ ct_Page___init__), sl_Page___init__⟩)
    (F_Page___contains___l : K.lookup A_Page___contains__ = some ⟨oc_Page___contains__, od_Page___contains__, .func (PySem.W.fnOf "__contains__" "Page.__contains__" (defArgs s_Page___contains__) (defBody s_Page___contains__) (defScope s_Page___contains__) .none kV_Page___contains__ dc_Page___contains__ pm_Page___contains__ an_Page___contains__ cd_Page___contains__ ct_Page___contains__), sl_Page___contains__⟩)
    (F_Page_row_l : K.lookup A_Page_row = some ⟨oc_Page_row, od_Page_row, .func (PySem.W.fnOf "row" "Page.row" (defArgs s_Page_row) (defBody s_Page_row) (defScope s_Page_row) .none kV_Page_row dc_Page_row pm_Page_row an_Page_row cd_Page_row ct_Page_row), sl_Page_row⟩)
    (F_Page_box_l : K.lookup A_Page_box = some ⟨oc_Page_box, od_Page_box, .func (PySem.W.fnOf "box" "Page.box" (defArgs s_Page_box) (defBody s_Page_box) (defScope s_Page_box) .none kV_Page_box dc_Page_box pm_Page_box an_Page_box cd_Page_box ct_Page_box), sl_Page_box⟩)
    (F_Page_names_l : K.lookup A_Page_names = some ⟨oc_Page_names, od_Page_names, .func (PySem.W.fnOf "names" "Page.names" (defArgs s_Page_names) (defBody s_Page_names) (defScope s_Page_names) .none kV_Page_names dc_Page_names pm_Page_names an_Page_names cd_Page_names ct_Page_names), sl_Page_names⟩)
    (F_Page___sub___l : K.lookup A_Page___sub__ = some ⟨oc_Page___sub__, od_Page___sub__, .func (PySem.W.fnOf "__sub__" "Page.__sub__" (defArgs s_Page___sub__) (defBody s_Page___sub__) (defScope s_Page___sub__) .none kV_Page___sub__ dc_Page___sub__ pm_Page___sub__ an_Page___sub__ cd_Page___sub__ ct_Page___sub__), sl_Page___sub__⟩)
    (F_Page___mul___l : K.lookup A_Page___mul__ = some ⟨oc_Page___mul__, od_Page___mul__, .func (PySem.W.fnOf "__mul__" "Page.__mul__" (defArgs s_Page___mul__) (defBody s_Page___mul__) (defScope s_Page___mul__) .none kV_Page___mul__ dc_Page___mul__ pm_Page___mul__ an_Page___mul__ cd_Page___mul__ ct_Page___mul__), sl_Page___mul__⟩)
    (F_Page___str___l : K.lookup A_Page___str__ = some ⟨oc_Page___str__, od_Page___str__, .func (PySem.W.fnOf "__str__" "Page.__str__" (defArgs s_Page___str__) (defBody s_Page___str__) (defScope s_Page___str__) .none kV_Page___str__ dc_Page___str__ pm_Page___str__ an_Page___str__ cd_Page___str__ ct_Page___str__), sl_Page___str__⟩)
    (D_Page_with_box_l : K.lookup A_Page_with_box = some ⟨oc_Page_with_box, od_Page_with_box, .func (PySem.W.fnOf "with_box" "Page.with_box" (defArgs s_Page_with_box) (defBody s_Page_with_box) (defScope s_Page_with_box) (.ref dT_Page_with_box) kV_Page_with_box dc_Page_with_box pm_Page_with_box an_Page_with_box cd_Page_with_box ct_Page_with_box), sl_Page_with_box⟩)
    (F_Box___eq___l : K.lookup A_Box___eq__ = some ⟨oc_Box___eq__, od_Box___eq__, .func (PySem.W.fnOf "__eq__" "Box.__eq__" (defArgs s_Box___eq__) (defBody s_Box___eq__) (defScope s_Box___eq__) .none kV_Box___eq__ dc_Box___eq__ pm_Box___eq__ an_Box___eq__ cd_Box___eq__ ct_Box___eq__), sl_Box___eq__⟩)
    (F_Page___eq___l : K.lookup A_Page___eq__ = some ⟨oc_Page___eq__, od_Page___eq__, .func (PySem.W.fnOf "__eq__" "Page.__eq__" (defArgs s_Page___eq__) (defBody s_Page___eq__) (defScope s_Page___eq__) .none kV_Page___eq__ dc_Page___eq__ pm_Page___eq__ an_Page___eq__ cd_Page___eq__ ct_Page___eq__), sl_Page___eq__⟩)
    (F_Page___rmul___l : K.lookup A_Page___rmul__ = some ⟨oc_Page___rmul__, od_Page___rmul__, .func (PySem.W.fnOf "__rmul__" "Page.__rmul__" (defArgs s_Page___rmul__) (defBody s_Page___rmul__) (defScope s_Page___rmul__) .none kV_Page___rmul__ dc_Page___rmul__ pm_Page___rmul__ an_Page___rmul__ cd_Page___rmul__ ct_Page___rmul__), sl_Page___rmul__⟩)
    (F__law_box_made_l : K.lookup A__law_box_made = some ⟨oc__law_box_made, od__law_box_made, .func (PySem.W.fnOf "_law_box_made" "_law_box_made" (defArgs s__law_box_made) (defBody s__law_box_made) (defScope s__law_box_made) .none kV__law_box_made dc__law_box_made pm__law_box_made an__law_box_made cd__law_box_made ct__law_box_made), sl__law_box_made⟩)
    (D__law_all_l : K.lookup A__law_all = some ⟨oc__law_all, od__law_all, .func (PySem.W.fnOf "_law_all" "_law_all" (defArgs s__law_all) (defBody s__law_all) (defScope s__law_all) (.ref dT__law_all) kV__law_all dc__law_all pm__law_all an__law_all cd__law_all ct__law_all), sl__law_all⟩)
    (F__law_page_made_l : K.lookup A__law_page_made = some ⟨oc__law_page_made, od__law_page_made, .func (PySem.W.fnOf "_law_page_made" "_law_page_made" (defArgs s__law_page_made) (defBody s__law_page_made) (defScope s__law_page_made) .none kV__law_page_made dc__law_page_made pm__law_page_made an__law_page_made cd__law_page_made ct__law_page_made), sl__law_page_made⟩)
    (F__law_boxes_l : K.lookup A__law_boxes = some ⟨oc__law_boxes, od__law_boxes, .func (PySem.W.fnOf "_law_boxes" "_law_boxes" (defArgs s__law_boxes) (defBody s__law_boxes) (defScope s__law_boxes) .none kV__law_boxes dc__law_boxes pm__law_boxes an__law_boxes cd__law_boxes ct__law_boxes), sl__law_boxes⟩)
    (F__law_page_l : K.lookup A__law_page = some ⟨oc__law_page, od__law_page, .func (PySem.W.fnOf "_law_page" "_law_page" (defArgs s__law_page) (defBody s__law_page) (defScope s__law_page) .none kV__law_page dc__law_page pm__law_page an__law_page cd__law_page ct__law_page), sl__law_page⟩)
    (F_Page___len___l : K.lookup A_Page___len__ = some ⟨oc_Page___len__, od_Page___len__, .func (PySem.W.fnOf "__len__" "Page.__len__" (defArgs s_Page___len__) (defBody s_Page___len__) (defScope s_Page___len__) .none kV_Page___len__ dc_Page___len__ pm_Page___len__ an_Page___len__ cd_Page___len__ ct_Page___len__), sl_Page___len__⟩)
    (F_Page___getitem___l : K.lookup A_Page___getitem__ = some ⟨oc_Page___getitem__, od_Page___getitem__, .func (PySem.W.fnOf "__getitem__" "Page.__getitem__" (defArgs s_Page___getitem__) (defBody s_Page___getitem__) (defScope s_Page___getitem__) .none kV_Page___getitem__ dc_Page___getitem__ pm_Page___getitem__ an_Page___getitem__ cd_Page___getitem__ ct_Page___getitem__), sl_Page___getitem__⟩)
    (F_Page_around_l : K.lookup A_Page_around = some ⟨oc_Page_around, od_Page_around, .func (PySem.W.fnOf "around" "Page.around" (defArgs s_Page_around) (defBody s_Page_around) (defScope s_Page_around) .none kV_Page_around dc_Page_around pm_Page_around an_Page_around cd_Page_around ct_Page_around), sl_Page_around⟩)
    (F_Page_within_l : K.lookup A_Page_within = some ⟨oc_Page_within, od_Page_within, .func (PySem.W.fnOf "within" "Page.within" (defArgs s_Page_within) (defBody s_Page_within) (defScope s_Page_within) .none kV_Page_within dc_Page_within pm_Page_within an_Page_within cd_Page_within ct_Page_within), sl_Page_within⟩)
    (F_Page___iter___l : K.lookup A_Page___iter__ = some ⟨oc_Page___iter__, od_Page___iter__, .func (PySem.W.fnOf "__iter__" "Page.__iter__" (defArgs s_Page___iter__) (defBody s_Page___iter__) (defScope s_Page___iter__) .none kV_Page___iter__ dc_Page___iter__ pm_Page___iter__ an_Page___iter__ cd_Page___iter__ ct_Page___iter__), sl_Page___iter__⟩)
    (F_Page_some_l : K.lookup A_Page_some = some ⟨oc_Page_some, od_Page_some, .func (PySem.W.fnOf "some" "Page.some" (defArgs s_Page_some) (defBody s_Page_some) (defScope s_Page_some) .none kV_Page_some dc_Page_some pm_Page_some an_Page_some cd_Page_some ct_Page_some), sl_Page_some⟩)
    (F__law_box_right_l : K.lookup A__law_box_right = some ⟨oc__law_box_right, od__law_box_right, .func (PySem.W.fnOf "_law_box_right" "_law_box_right" (defArgs s__law_box_right) (defBody s__law_box_right) (defScope s__law_box_right) .none kV__law_box_right dc__law_box_right pm__law_box_right an__law_box_right cd__law_box_right ct__law_box_right), sl__law_box_right⟩)
    (F__law_right_l : K.lookup A__law_right = some ⟨oc__law_right, od__law_right, .func (PySem.W.fnOf "_law_right" "_law_right" (defArgs s__law_right) (defBody s__law_right) (defScope s__law_right) .none kV__law_right dc__law_right pm__law_right an__law_right cd__law_right ct__law_right), sl__law_right⟩)
    (F_law_l : K.lookup A_law = some ⟨oc_law, od_law, .func (PySem.W.fnOf "law" "law" (defArgs s_law) (defBody s_law) (defScope s_law) .none kV_law dc_law pm_law an_law cd_law ct_law), sl_law⟩)
    (F__law_pen_c : PySem.W.codeIn K cd__law_pen "_law_pen" = true)
    (F__law_pen_k : PySem.W.keepIn K (.ref A__law_pen) = true)
    (n_list_a : PySem.W.nsIn K mainGlobals "list" = some none)
    (F__law_draw_c : PySem.W.codeIn K cd__law_draw "_law_draw" = true)
    (F__law_draw_k : PySem.W.keepIn K (.ref A__law_draw) = true)
    (n_int_a : PySem.W.nsIn K mainGlobals "int" = some none)
    (n_len_a : PySem.W.nsIn K mainGlobals "len" = some none)
    (n_abs_a : PySem.W.nsIn K mainGlobals "abs" = some none)
    (F__law_pick_c : PySem.W.codeIn K cd__law_pick "_law_pick" = true)
    (F__law_pick_k : PySem.W.keepIn K (.ref A__law_pick) = true)
    (F_is_integer_c : PySem.W.codeIn K cd_is_integer "is_integer" = true)
    (F_is_integer_k : PySem.W.keepIn K (.ref A_is_integer) = true)
    (n_isinstance_a : PySem.W.nsIn K mainGlobals "isinstance" = some none)
    (n_bool_a : PySem.W.nsIn K mainGlobals "bool" = some none)
    (F_is_name_c : PySem.W.codeIn K cd_is_name "is_name" = true)
    (F_is_name_k : PySem.W.keepIn K (.ref A_is_name) = true)
    (n_str_a : PySem.W.nsIn K mainGlobals "str" = some none)
    (mi_MOST_LETTERS_a : PySem.W.nsIn K mainGlobals "MOST_LETTERS" = some (some (.int 8 tk0_mi_MOST_LETTERS)))
    (F_check_unlike_c : PySem.W.codeIn K cd_check_unlike "check_unlike" = true)
    (F_check_unlike_k : PySem.W.keepIn K (.ref A_check_unlike) = true)
    (F_names_of_c : PySem.W.codeIn K cd_names_of "names_of" = true)
    (F_names_of_k : PySem.W.keepIn K (.ref A_names_of) = true)
    (n_tuple_a : PySem.W.nsIn K mainGlobals "tuple" = some none)
    (c_Box_p : PySem.W.plainGet K A_Box Str.empty = true)
    (c_Box_h : PySem.W.hasDictIn K A_Box = true)
    (c_Box_o : PySem.W.plainOver K A_Box = true)
    (c_Box_s : PySem.W.findIn K (.ref A_Box) "__setattr__" = some (some (.builtin "object.__setattr__")))
    (a_Box_names_inside_a : PySem.W.findIn K (.ref A_Box) "names_inside" = some none)
    (F_Box___str___c : PySem.W.codeIn K cd_Box___str__ "Box.__str__" = true)
    (F_Box___str___k : PySem.W.keepIn K (.ref A_Box___str__) = true)
    (a_Box_told_a : PySem.W.findIn K (.ref A_Box) "told" = some none)
    (F_boxes_text_c : PySem.W.codeIn K cd_boxes_text "boxes_text" = true)
    (F_boxes_text_k : PySem.W.keepIn K (.ref A_boxes_text) = true)
    (t_Box_f : PySem.W.isFn K (.ref A_Box___str__) = true)
    (t_Box_g : PySem.W.findIn K (.ref A_Box) "__format__" = some (some (.builtin "object.__format__")))
    (t_Box_m : PySem.W.mroIn K A_Box (.type "object") = some true)
    (y_Box_a : PySem.W.findIn K (.ref A_Box) "__class__" = some (some (.builtin "object.__class__")))
    (y_Box_n : PySem.W.specialIn K (.builtin "object.__class__") "__get__" = some (some (.builtin "getset_descriptor.__get__")))
    (y_Box_t : PySem.W.takesIn K (.builtin "object.__class__") = some true)
    (a_Box_name_a : PySem.W.findIn K (.ref A_Box) "name" = some none)
    (a_Box_offset_a : PySem.W.findIn K (.ref A_Box) "offset" = some none)
    (a_Box_units_a : PySem.W.findIn K (.ref A_Box) "units" = some none)
    (a_Box_inner_a : PySem.W.findIn K (.ref A_Box) "inner" = some none)
    (F_Box___init___c : PySem.W.codeIn K cd_Box___init__ "Box.__init__" = true)
    (F_Box___init___k : PySem.W.keepIn K (.ref A_Box___init__) = true)
    (F_with_inner_c : PySem.W.codeIn K cd_with_inner "with_inner" = true)
    (F_with_inner_k : PySem.W.keepIn K (.ref A_with_inner) = true)
    (mk_Box_m : PySem.W.makesIn K A_Box = true)
    (mk_Box_f : PySem.W.isFn K (.ref A_Box___init__) = true)
    (mk_Box_k : PySem.W.keepIn K (.ref A_Box) = true)
    (F_boxes_without_c : PySem.W.codeIn K cd_boxes_without "boxes_without" = true)
    (F_boxes_without_k : PySem.W.keepIn K (.ref A_boxes_without) = true)
    (F_boxes_scaled_c : PySem.W.codeIn K cd_boxes_scaled "boxes_scaled" = true)
    (F_boxes_scaled_k : PySem.W.keepIn K (.ref A_boxes_scaled) = true)
    (F_boxes_with_c : PySem.W.codeIn K cd_boxes_with "boxes_with" = true)
    (F_boxes_with_k : PySem.W.keepIn K (.ref A_boxes_with) = true)
    (F_check_names_c : PySem.W.codeIn K cd_check_names "check_names" = true)
    (F_check_names_k : PySem.W.keepIn K (.ref A_check_names) = true)
    (cv_Page_MOST_BOXES_r : PySem.W.readsIn K A_Page (.type "type") = true)
    (cv_Page_MOST_BOXES_g : PySem.W.specialIn K (.ref A_Page) "__getattribute__" = some (some (.builtin "type.__getattribute__")))
    (cv_Page_MOST_BOXES_v : PySem.W.findCls K (.ref A_Page) (.type "type") "MOST_BOXES" = some (.val (.int 24 tk0_cv_Page_MOST_BOXES)))
    (F_Page___init___c : PySem.W.codeIn K cd_Page___init__ "Page.__init__" = true)
    (F_Page___init___k : PySem.W.keepIn K (.ref A_Page___init__) = true)
    (n_enumerate_a : PySem.W.nsIn K mainGlobals "enumerate" = some none)
    (c_Page_p : PySem.W.plainGet K A_Page Str.empty = true)
    (c_Page_h : PySem.W.hasDictIn K A_Page = true)
    (c_Page_o : PySem.W.plainOver K A_Page = true)
    (c_Page_s : PySem.W.findIn K (.ref A_Page) "__setattr__" = some (some (.builtin "object.__setattr__")))
    (a_Page_boxes_a : PySem.W.findIn K (.ref A_Page) "boxes" = some none)
    (a_Page_all_names_a : PySem.W.findIn K (.ref A_Page) "all_names" = some none)
    (a_Page_rows_a : PySem.W.findIn K (.ref A_Page) "rows" = some none)
    (F_Page___contains___c : PySem.W.codeIn K cd_Page___contains__ "Page.__contains__" = true)
    (F_Page___contains___k : PySem.W.keepIn K (.ref A_Page___contains__) = true)
    (F_Page_row_c : PySem.W.codeIn K cd_Page_row "Page.row" = true)
    (F_Page_row_k : PySem.W.keepIn K (.ref A_Page_row) = true)
    (in_Page_f : PySem.W.isFn K (.ref A_Page___contains__) = true)
    (F_Page_box_c : PySem.W.codeIn K cd_Page_box "Page.box" = true)
    (F_Page_box_k : PySem.W.keepIn K (.ref A_Page_box) = true)
    (h_Page_row_f : PySem.W.isFn K (.ref A_Page_row) = true)
    (F_Page_names_c : PySem.W.codeIn K cd_Page_names "Page.names" = true)
    (F_Page_names_k : PySem.W.keepIn K (.ref A_Page_names) = true)
    (F_Page___sub___c : PySem.W.codeIn K cd_Page___sub__ "Page.__sub__" = true)
    (F_Page___sub___k : PySem.W.keepIn K (.ref A_Page___sub__) = true)
    (mk_Page_m : PySem.W.makesIn K A_Page = true)
    (mk_Page_f : PySem.W.isFn K (.ref A_Page___init__) = true)
    (mk_Page_k : PySem.W.keepIn K (.ref A_Page) = true)
    (F_Page___mul___c : PySem.W.codeIn K cd_Page___mul__ "Page.__mul__" = true)
    (F_Page___mul___k : PySem.W.keepIn K (.ref A_Page___mul__) = true)
    (F_Page___str___c : PySem.W.codeIn K cd_Page___str__ "Page.__str__" = true)
    (F_Page___str___k : PySem.W.keepIn K (.ref A_Page___str__) = true)
    (D_Page_with_box_c : PySem.W.codeIn K cd_Page_with_box "Page.with_box" = true)
    (D_Page_with_box_k : PySem.W.keepIn K (.ref A_Page_with_box) = true)
    (D_Page_with_box_t : K.lookup dT_Page_with_box = some ⟨tc_Page_with_box, td_Page_with_box, .seq (List.toArray [.none]) tn_Page_with_box, ts_Page_with_box⟩)
    (h_Page_box_f : PySem.W.isFn K (.ref A_Page_box) = true)
    (F_Box___eq___c : PySem.W.codeIn K cd_Box___eq__ "Box.__eq__" = true)
    (F_Box___eq___k : PySem.W.keepIn K (.ref A_Box___eq__) = true)
    (F_Page___eq___c : PySem.W.codeIn K cd_Page___eq__ "Page.__eq__" = true)
    (F_Page___eq___k : PySem.W.keepIn K (.ref A_Page___eq__) = true)
    (q_Box_eq_f : PySem.W.isFn K (.ref A_Box___eq__) = true)
    (q_Box_eq_n : PySem.W.notFirst K A_Box (.type "int") = true)
    (y_Page_a : PySem.W.findIn K (.ref A_Page) "__class__" = some (some (.builtin "object.__class__")))
    (y_Page_m : PySem.W.mroIn K A_Page (.type "object") = some true)
    (F_Page___rmul___c : PySem.W.codeIn K cd_Page___rmul__ "Page.__rmul__" = true)
    (F_Page___rmul___k : PySem.W.keepIn K (.ref A_Page___rmul__) = true)
    (b_Page_mul_f : PySem.W.isFn K (.ref A_Page___mul__) = true)
    (b_Page_mul_c : PySem.W.selfFirst K A_Page = true)
    (b_Page_mul_t : PySem.W.findIn K (.type "int") "__mul__" = some fo_Page_mul)
    (b_Page_mul_u : PySem.W.findIn K (.type "int") "__rmul__" = some ro_Page_mul)
    (b_Page_mul_w : PySem.W.subIn K (.type "int") (.ref A_Page) = some false)
    (F__law_box_made_c : PySem.W.codeIn K cd__law_box_made "_law_box_made" = true)
    (F__law_box_made_k : PySem.W.keepIn K (.ref A__law_box_made) = true)
    (D__law_all_c : PySem.W.codeIn K cd__law_all "_law_all" = true)
    (D__law_all_k : PySem.W.keepIn K (.ref A__law_all) = true)
    (D__law_all_t : K.lookup dT__law_all = some ⟨tc__law_all, td__law_all, .seq (List.toArray [.int 0 tk0__law_all, .none]) tn__law_all, ts__law_all⟩)
    (F__law_page_made_c : PySem.W.codeIn K cd__law_page_made "_law_page_made" = true)
    (F__law_page_made_k : PySem.W.keepIn K (.ref A__law_page_made) = true)
    (h_Page_with_box_f : PySem.W.isFn K (.ref A_Page_with_box) = true)
    (F__law_boxes_c : PySem.W.codeIn K cd__law_boxes "_law_boxes" = true)
    (F__law_boxes_k : PySem.W.keepIn K (.ref A__law_boxes) = true)
    (n_range_a : PySem.W.nsIn K mainGlobals "range" = some none)
    (F__law_page_c : PySem.W.codeIn K cd__law_page "_law_page" = true)
    (F__law_page_k : PySem.W.keepIn K (.ref A__law_page) = true)
    (F_Page___len___c : PySem.W.codeIn K cd_Page___len__ "Page.__len__" = true)
    (F_Page___len___k : PySem.W.keepIn K (.ref A_Page___len__) = true)
    (F_Page___getitem___c : PySem.W.codeIn K cd_Page___getitem__ "Page.__getitem__" = true)
    (F_Page___getitem___k : PySem.W.keepIn K (.ref A_Page___getitem__) = true)
    (F_Page_around_c : PySem.W.codeIn K cd_Page_around "Page.around" = true)
    (F_Page_around_k : PySem.W.keepIn K (.ref A_Page_around) = true)
    (F_Page_within_c : PySem.W.codeIn K cd_Page_within "Page.within" = true)
    (F_Page_within_k : PySem.W.keepIn K (.ref A_Page_within) = true)
    (F_Page___iter___c : PySem.W.codeIn K cd_Page___iter__ "Page.__iter__" = true)
    (F_Page___iter___k : PySem.W.keepIn K (.ref A_Page___iter__) = true)
    (n_iter_a : PySem.W.nsIn K mainGlobals "iter" = some none)
    (F_Page_some_c : PySem.W.codeIn K cd_Page_some "Page.some" = true)
    (F_Page_some_k : PySem.W.keepIn K (.ref A_Page_some) = true)
    (F__law_box_right_c : PySem.W.codeIn K cd__law_box_right "_law_box_right" = true)
    (F__law_box_right_k : PySem.W.keepIn K (.ref A__law_box_right) = true)
    (n_repr_a : PySem.W.nsIn K mainGlobals "repr" = some none)
    (n_zip_a : PySem.W.nsIn K mainGlobals "zip" = some none)
    (F__law_right_c : PySem.W.codeIn K cd__law_right "_law_right" = true)
    (F__law_right_k : PySem.W.keepIn K (.ref A__law_right) = true)
    (z_Page_e : PySem.W.findIn K (.ref A_Page) "__ne__" = some (some (.builtin "object.__ne__")))
    (z_Page_f : PySem.W.isFn K (.ref A_Page___eq__) = true)
    (z_Page_n : PySem.W.notFirst K A_Page (.type "int") = true)
    (t_Page_f : PySem.W.isFn K (.ref A_Page___str__) = true)
    (t_Page_g : PySem.W.findIn K (.ref A_Page) "__format__" = some (some (.builtin "object.__format__")))
    (pr_Page_names_g : PySem.W.specialIn K (.ref pp_Page_names) "__get__" = some (some (.builtin "property.__get__")))
    (pr_Page_names_t : PySem.W.takesIn K (.ref pp_Page_names) = some true)
    (w_Page_str_n : PySem.W.notFirst K A_Page (.type "str") = true)
    (w_Page_tuple_n : PySem.W.notFirst K A_Page (.type "tuple") = true)
    (i_list_is_Page_c : PySem.W.isClsIn K A_Page = true)
    (i_list_is_Page_t : PySem.W.typeIn K (.ref A_Page) = some (.type "type"))
    (i_list_is_Page_a : PySem.W.subIn K (.type "list") (.ref A_Page) = some false)
    (i_str_is_Page_a : PySem.W.subIn K (.type "str") (.ref A_Page) = some false)
    (i_tuple_is_Page_a : PySem.W.subIn K (.type "tuple") (.ref A_Page) = some false)
    (ln_Page_f : PySem.W.isFn K (.ref A_Page___len__) = true)
    (nb_Page_s : PySem.W.findIn K (.ref A_Page) "__bool__" = some none)
    (gi_Page_f : PySem.W.isFn K (.ref A_Page___getitem__) = true)
    (gi_Page_i : PySem.W.fnIn K A_Page___getitem__ = true)
    (it_Page_f : PySem.W.isFn K (.ref A_Page___iter__) = true)
    (h_Page_around_f : PySem.W.isFn K (.ref A_Page_around) = true)
    (h_Page_within_f : PySem.W.isFn K (.ref A_Page_within) = true)
    (h_Page_some_f : PySem.W.isFn K (.ref A_Page_some) = true)
    (F_law_c : PySem.W.codeIn K cd_law "law" = true)
    (F_law_k : PySem.W.keepIn K (.ref A_law) = true)
    (z_Box_e : PySem.W.findIn K (.ref A_Box) "__ne__" = some (some (.builtin "object.__ne__")))
    (w_Box_Page_n : PySem.W.notFirst K A_Box (.ref A_Page) = true)
    (i_Page_is_Box_n : (PySem.Value.ref A_Page == PySem.Value.ref A_Box) = false)
    (i_Page_is_Box_c : PySem.W.isClsIn K A_Box = true)
    (i_Page_is_Box_t : PySem.W.typeIn K (.ref A_Box) = some (.type "type"))
    (i_Page_is_Box_a : PySem.W.subIn K (.ref A_Page) (.ref A_Box) = some false)
    : Tx K mg ⟨A__law_pen, A__law_draw, A__law_pick, A_is_integer, A_is_name, A_check_unlike, A_names_of, A_Box, A_Box___str__, A_boxes_text, A_Box___init__, A_with_inner, A_boxes_without, A_boxes_scaled, A_boxes_with, A_check_names, A_Page, A_Page___init__, A_Page___contains__, A_Page_row, A_Page_box, A_Page_names, A_Page___sub__, A_Page___mul__, A_Page___str__, A_Page_with_box, A_Box___eq__, A_Page___eq__, A_Page___rmul__, A__law_box_made, A__law_all, A__law_page_made, A__law_boxes, A__law_page, A_Page___len__, A_Page___getitem__, A_Page_around, A_Page_within, A_Page___iter__, A_Page_some, A__law_box_right, A__law_right, A_law⟩ where
    F__law_pen := ⟨_, fun_mk (st := s__law_pen) F__law_pen_l F__law_pen_c F__law_pen_k⟩
    n_list := PySem.W.mg_none_of X G n_list_a
    F__law_draw := ⟨_, fun_mk (st := s__law_draw) F__law_draw_l F__law_draw_c F__law_draw_k⟩
    n_int := PySem.W.mg_none_of X G n_int_a
    n_len := PySem.W.mg_none_of X G n_len_a
    n_abs := PySem.W.mg_none_of X G n_abs_a
    F__law_pick := ⟨_, fun_mk (st := s__law_pick) F__law_pick_l F__law_pick_c F__law_pick_k⟩
    k__law_draw := F__law_draw_k
    m__law_draw := PySem.W.mg_of X G L__law_draw
    i_int_is_int := L2.kit_ty (by decide +kernel)
    i_int_is_bool := L2.kit_ty (by decide +kernel)
    F_is_integer := ⟨_, fun_mk (st := s_is_integer) F_is_integer_l F_is_integer_c F_is_integer_k⟩
    n_isinstance := PySem.W.mg_none_of X G n_isinstance_a
    n_bool := PySem.W.mg_none_of X G n_bool_a
    F_is_name := ⟨_, fun_mk (st := s_is_name) F_is_name_l F_is_name_c F_is_name_k⟩
    n_str := PySem.W.mg_none_of X G n_str_a
    mi_MOST_LETTERS := ⟨_, PySem.W.mg_of X G mi_MOST_LETTERS_a⟩
    i_str_is_str := L2.kit_ty (by decide +kernel)
    F_check_unlike := ⟨_, fun_mk (st := s_check_unlike) F_check_unlike_l F_check_unlike_c F_check_unlike_k⟩
    F_names_of := ⟨_, fun_mk (st := s_names_of) F_names_of_l F_names_of_c F_names_of_k⟩
    n_tuple := PySem.W.mg_none_of X G n_tuple_a
    c_Box := ⟨c_Box_p, c_Box_h, c_Box_o, c_Box_s⟩
    a_Box_names_inside := a_Box_names_inside_a
    F_Box___str__ := ⟨_, fun_mk (st := s_Box___str__) F_Box___str___l F_Box___str___c F_Box___str___k⟩
    a_Box_told := a_Box_told_a
    F_boxes_text := ⟨_, fun_mk (st := s_boxes_text) F_boxes_text_l F_boxes_text_c F_boxes_text_k⟩
    t_Box := ⟨L_Box___str__, t_Box_f, t_Box_g, t_Box_m⟩
    k_is_name := F_is_name_k
    m_is_name := PySem.W.mg_of X G L_is_name
    k_is_integer := F_is_integer_k
    m_is_integer := PySem.W.mg_of X G L_is_integer
    m_Box := PySem.W.mg_of X G L_Box
    k_names_of := F_names_of_k
    m_names_of := PySem.W.mg_of X G L_names_of
    k_check_unlike := F_check_unlike_k
    m_check_unlike := PySem.W.mg_of X G L_check_unlike
    k_boxes_text := F_boxes_text_k
    m_boxes_text := PySem.W.mg_of X G L_boxes_text
    y_Box := ⟨y_Box_a, y_Box_n, y_Box_t, t_Box_m⟩
    i_Box_is_Box := kit_rr
    a_Box_name := a_Box_name_a
    a_Box_offset := a_Box_offset_a
    a_Box_units := a_Box_units_a
    a_Box_inner := a_Box_inner_a
    F_Box___init__ := ⟨_, fun_mk (st := s_Box___init__) F_Box___init___l F_Box___init___c F_Box___init___k⟩
    F_with_inner := ⟨_, fun_mk (st := s_with_inner) F_with_inner_l F_with_inner_c F_with_inner_k⟩
    mk_Box := ⟨mk_Box_m, L_Box___init__, mk_Box_f, mk_Box_k⟩
    F_boxes_without := ⟨_, fun_mk (st := s_boxes_without) F_boxes_without_l F_boxes_without_c F_boxes_without_k⟩
    k_with_inner := F_with_inner_k
    m_with_inner := PySem.W.mg_of X G L_with_inner
    k_boxes_without := F_boxes_without_k
    m_boxes_without := PySem.W.mg_of X G L_boxes_without
    F_boxes_scaled := ⟨_, fun_mk (st := s_boxes_scaled) F_boxes_scaled_l F_boxes_scaled_c F_boxes_scaled_k⟩
    k_boxes_scaled := F_boxes_scaled_k
    m_boxes_scaled := PySem.W.mg_of X G L_boxes_scaled
    F_boxes_with := ⟨_, fun_mk (st := s_boxes_with) F_boxes_with_l F_boxes_with_c F_boxes_with_k⟩
    k_boxes_with := F_boxes_with_k
    m_boxes_with := PySem.W.mg_of X G L_boxes_with
    F_check_names := ⟨_, fun_mk (st := s_check_names) F_check_names_l F_check_names_c F_check_names_k⟩
    m_Page := PySem.W.mg_of X G L_Page
    cv_Page_MOST_BOXES := ⟨_, _, ⟨cv_Page_MOST_BOXES_r, cv_Page_MOST_BOXES_g⟩, ⟨cv_Page_MOST_BOXES_v, ⟨_, rfl⟩⟩⟩
    F_Page___init__ := ⟨_, fun_mk (st := s_Page___init__) F_Page___init___l F_Page___init___c F_Page___init___k⟩
    n_enumerate := PySem.W.mg_none_of X G n_enumerate_a
    k_check_names := F_check_names_k
    m_check_names := PySem.W.mg_of X G L_check_names
    c_Page := ⟨c_Page_p, c_Page_h, c_Page_o, c_Page_s⟩
    a_Page_boxes := a_Page_boxes_a
    a_Page_all_names := a_Page_all_names_a
    a_Page_rows := a_Page_rows_a
    F_Page___contains__ := ⟨_, fun_mk (st := s_Page___contains__) F_Page___contains___l F_Page___contains___c F_Page___contains___k⟩
    F_Page_row := ⟨_, fun_mk (st := s_Page_row) F_Page_row_l F_Page_row_c F_Page_row_k⟩
    in_Page := ⟨L_Page___contains__, in_Page_f⟩
    F_Page_box := ⟨_, fun_mk (st := s_Page_box) F_Page_box_l F_Page_box_c F_Page_box_k⟩
    h_Page_row := ⟨L_Page_row, h_Page_row_f, F_Page_row_k⟩
    F_Page_names := ⟨_, fun_mk (st := s_Page_names) F_Page_names_l F_Page_names_c F_Page_names_k⟩
    F_Page___sub__ := ⟨_, fun_mk (st := s_Page___sub__) F_Page___sub___l F_Page___sub___c F_Page___sub___k⟩
    mk_Page := ⟨mk_Page_m, L_Page___init__, mk_Page_f, mk_Page_k⟩
    F_Page___mul__ := ⟨_, fun_mk (st := s_Page___mul__) F_Page___mul___l F_Page___mul___c F_Page___mul___k⟩
    F_Page___str__ := ⟨_, fun_mk (st := s_Page___str__) F_Page___str___l F_Page___str___c F_Page___str___k⟩
    D_Page_with_box := ⟨_, ⟨_, _, _, _, _, _, _, _, _, _, rfl, D_Page_with_box_l, D_Page_with_box_c, Or.inr ⟨by simp, _, _, _, _, rfl, D_Page_with_box_t, rfl, (Paired.cons rfl Paired.nil)⟩, Or.inl rfl⟩, D_Page_with_box_k⟩
    h_Page_box := ⟨L_Page_box, h_Page_box_f, F_Page_box_k⟩
    F_Box___eq__ := ⟨_, fun_mk (st := s_Box___eq__) F_Box___eq___l F_Box___eq___c F_Box___eq___k⟩
    F_Page___eq__ := ⟨_, fun_mk (st := s_Page___eq__) F_Page___eq___l F_Page___eq___c F_Page___eq___k⟩
    q_Box_eq := ⟨L_Box___eq__, q_Box_eq_f, q_Box_eq_n⟩
    y_Page := ⟨y_Page_a, y_Box_n, y_Box_t, y_Page_m⟩
    i_Page_is_Page := kit_rr
    F_Page___rmul__ := ⟨_, fun_mk (st := s_Page___rmul__) F_Page___rmul___l F_Page___rmul___c F_Page___rmul___k⟩
    b_Page_mul := ⟨L_Page___mul__, b_Page_mul_f, b_Page_mul_c, ⟨_, L_Page___rmul__, Or.inr ⟨_, rfl⟩⟩, ⟨_, _, b_Page_mul_t, b_Page_mul_u⟩, b_Page_mul_w⟩
    F__law_box_made := ⟨_, fun_mk (st := s__law_box_made) F__law_box_made_l F__law_box_made_c F__law_box_made_k⟩
    k__law_box_made := F__law_box_made_k
    m__law_box_made := PySem.W.mg_of X G L__law_box_made
    D__law_all := ⟨_, ⟨_, _, _, _, _, _, _, _, _, _, rfl, D__law_all_l, D__law_all_c, Or.inr ⟨by simp, _, _, _, _, rfl, D__law_all_t, rfl, (Paired.cons ⟨_, rfl⟩ (Paired.cons rfl Paired.nil))⟩, Or.inl rfl⟩, D__law_all_k⟩
    k__law_all := D__law_all_k
    m__law_all := PySem.W.mg_of X G L__law_all
    F__law_page_made := ⟨_, fun_mk (st := s__law_page_made) F__law_page_made_l F__law_page_made_c F__law_page_made_k⟩
    h_Page_with_box := ⟨L_Page_with_box, h_Page_with_box_f, D_Page_with_box_k⟩
    F__law_boxes := ⟨_, fun_mk (st := s__law_boxes) F__law_boxes_l F__law_boxes_c F__law_boxes_k⟩
    n_range := PySem.W.mg_none_of X G n_range_a
    k__law_pick := F__law_pick_k
    m__law_pick := PySem.W.mg_of X G L__law_pick
    k__law_boxes := F__law_boxes_k
    m__law_boxes := PySem.W.mg_of X G L__law_boxes
    F__law_page := ⟨_, fun_mk (st := s__law_page) F__law_page_l F__law_page_c F__law_page_k⟩
    F_Page___len__ := ⟨_, fun_mk (st := s_Page___len__) F_Page___len___l F_Page___len___c F_Page___len___k⟩
    F_Page___getitem__ := ⟨_, fun_mk (st := s_Page___getitem__) F_Page___getitem___l F_Page___getitem___c F_Page___getitem___k⟩
    F_Page_around := ⟨_, fun_mk (st := s_Page_around) F_Page_around_l F_Page_around_c F_Page_around_k⟩
    F_Page_within := ⟨_, fun_mk (st := s_Page_within) F_Page_within_l F_Page_within_c F_Page_within_k⟩
    F_Page___iter__ := ⟨_, fun_mk (st := s_Page___iter__) F_Page___iter___l F_Page___iter___c F_Page___iter___k⟩
    n_iter := PySem.W.mg_none_of X G n_iter_a
    F_Page_some := ⟨_, fun_mk (st := s_Page_some) F_Page_some_l F_Page_some_c F_Page_some_k⟩
    F__law_box_right := ⟨_, fun_mk (st := s__law_box_right) F__law_box_right_l F__law_box_right_c F__law_box_right_k⟩
    n_repr := PySem.W.mg_none_of X G n_repr_a
    n_zip := PySem.W.mg_none_of X G n_zip_a
    k__law_box_right := F__law_box_right_k
    m__law_box_right := PySem.W.mg_of X G L__law_box_right
    i_tuple_is_tuple := L2.kit_ty (by decide +kernel)
    F__law_right := ⟨_, fun_mk (st := s__law_right) F__law_right_l F__law_right_c F__law_right_k⟩
    z_Page := ⟨z_Page_e, L_Page___eq__, z_Page_f, y_Page_m, z_Page_n⟩
    q_Page_eq := ⟨L_Page___eq__, z_Page_f, z_Page_n⟩
    t_Page := ⟨L_Page___str__, t_Page_f, t_Page_g, y_Page_m⟩
    pr_Page_names := ⟨_, ⟨pr_Page_names_a, pr_Page_names_g, pr_Page_names_t, _, pr_Page_names_q⟩⟩
    w_Page_str := w_Page_str_n
    w_Page_tuple := w_Page_tuple_n
    i_list_is_Page := kit_tr i_list_is_Page_c i_list_is_Page_t i_list_is_Page_a
    i_str_is_Page := kit_tr i_list_is_Page_c i_list_is_Page_t i_str_is_Page_a
    i_tuple_is_Page := kit_tr i_list_is_Page_c i_list_is_Page_t i_tuple_is_Page_a
    i_dict_is_str := L2.kit_ty (by decide +kernel)
    i_list_is_str := L2.kit_ty (by decide +kernel)
    i_tuple_is_str := L2.kit_ty (by decide +kernel)
    i_int_is_str := L2.kit_ty (by decide +kernel)
    i_bool_is_str := L2.kit_ty (by decide +kernel)
    i_NoneType_is_str := L2.kit_ty (by decide +kernel)
    ln_Page := ⟨L_Page___len__, ln_Page_f⟩
    nb_Page := nb_Page_s
    gi_Page := ⟨L_Page___getitem__, gi_Page_f, gi_Page_i⟩
    k__law_page := F__law_page_k
    m__law_page := PySem.W.mg_of X G L__law_page
    k__law_page_made := F__law_page_made_k
    m__law_page_made := PySem.W.mg_of X G L__law_page_made
    it_Page := ⟨L_Page___iter__, it_Page_f⟩
    h_Page_around := ⟨L_Page_around, h_Page_around_f, F_Page_around_k⟩
    h_Page_within := ⟨L_Page_within, h_Page_within_f, F_Page_within_k⟩
    h_Page_some := ⟨L_Page_some, h_Page_some_f, F_Page_some_k⟩
    F_law := ⟨_, fun_mk (st := s_law) F_law_l F_law_c F_law_k⟩
    z_Box := ⟨z_Box_e, L_Box___eq__, q_Box_eq_f, t_Box_m, q_Box_eq_n⟩
    w_Box_Page := w_Box_Page_n
    i_Page_is_Box := kit_vr i_Page_is_Box_n i_Page_is_Box_c i_Page_is_Box_t i_Page_is_Box_a
    k__law_pen := F__law_pen_k
    m__law_pen := PySem.W.mg_of X G L__law_pen
    k__law_right := F__law_right_k
    m__law_right := PySem.W.mg_of X G L__law_right
    m_law := PySem.W.mg_of X G L_law
open PySem L2
def spLawH (K : PySem.W.Frag) : Sp := fun vs H Q _ => ∃ (a : Addr) (ns : List Int), vs = [.ref a] ∧ SqL K H a (ns.map V.int) ∧ ns.length ≤ 63 ∧ ∀ H', Q (.bl true) H'
theorem walk {l : PySem.W.OpenLaw} {q : Program} {loose : List Str} {XP : (Str → Option Value) → Heap → Prop} {YP : World → Heap → Prop} {r : DefRec} {K : Params → PySem.W.Frag} (hn : l.most = some 63) (hdf : r.params.defaults = [])
    (hY : ∀ (w : World) (h : Heap), YP w h → (K w.params).In h)
    (F : ∀ (w : World) (mg : Str → Option Value) (fa : Addr) (h : Heap), (K w.params).In h → h.Ns mainGlobals mg → mg r.name = some (.ref fa) →
      ∀ base : Heap, (K w.params).In base → base.Ns mainGlobals mg → FnG l.prog w (K w.params) mg base CX0 29 fa (spLawH (K w.params))) :
    PySem.W.WalkO q loose XP YP l.row.toRowW r [] (fun f vs => PySem.call f vs) :=
  walkG (n := 63) (k := 29) (sp := spLawH) hn (by decide) hdf ⟨rfl, by decide, by decide⟩ hY F fun _ _ a ns hl _ hS => ⟨a, ns, rfl, hS, hl, fun _ => rfl⟩
end AZ
namespace AZ
open PySem L2
-- skip: _law_box_text _law_page_text

end AZ
namespace AZ
open PySem L2
/-- a pen: its list at l, the spot at most n -/
def PenL (H : Hp) (p l : Addr) (n : Nat) : Prop := ∃ (ns : List Int) (spot great : Int), l ≠ p ∧ H p = some (.lst [.ref l, .int spot, .int great]) ∧ H l = some (.lst (ns.map V.int)) ∧ ns.length ≤ 63 ∧ 0 ≤ spot ∧ spot ≤ n
def PenAt (H : Hp) (p : Addr) (n : Nat) : Prop := ∃ l, PenL H p l n
theorem mdiv {i j : Int} (h0 : 0 < j) (h1 : j ≤ 1000) : CDivZ i j := divZ (b := 40) (by omega) (by omega) (by decide) (by decide)
def spPenL (K : PySem.W.Frag) : Sp := fun vs H Q _ => ∃ (a : Addr) (ns : List Int), vs = [.ref a] ∧ SqL K H a (ns.map V.int) ∧ ns.length ≤ 63 ∧ ∀ p l H', H p = none → H l = none → Same H H' → PenL H' p l 0 → Q (.ref p) H'
def spDrawL : Sp := fun vs H Q _ => ∃ (p l : Addr) (n : Nat) (many : Int), vs = [.ref p, .int many] ∧ PenL H p l n ∧ n < 100000 ∧ 0 < many ∧ many ≤ 1000 ∧
  ∀ d H', 0 ≤ d → d < many → PenL H' p l (n + 1) → Up p H H' → Q (.int d) H'
def spPen (K : PySem.W.Frag) : Sp := fun vs H Q _ => ∃ (a : Addr) (ns : List Int), vs = [.ref a] ∧ SqL K H a (ns.map V.int) ∧ ns.length ≤ 63 ∧ ∀ p H', H p = none → Same H H' → PenAt H' p 0 → Q (.ref p) H'
def spDraw : Sp := fun vs H Q _ => ∃ (p : Addr) (n : Nat) (many : Int), vs = [.ref p, .int many] ∧ PenAt H p n ∧ n < 100000 ∧ 0 < many ∧ many ≤ 1000 ∧
  ∀ d H', 0 ≤ d → d < many → PenAt H' p (n + 1) → Up p H H' → Q (.int d) H'
/-- a list beside the pen, or a tuple, at s -/
def SeqAt' (H : Hp) (p s : Addr) (xs : List V) : Prop := (H s = some (.lst xs) ∧ s ≠ p) ∨ H s = some (.tup xs)
theorem SeqAt'.up {H H' : Hp} {p s : Addr} {xs : List V} (h : SeqAt' H p s xs) (e : Up p H H') : SeqAt' H' p s xs := h.elim (fun h => Or.inl ⟨e.lst h.1 h.2, h.2⟩) fun h => Or.inr (e.tup h)
def spPickL : Sp := fun vs H Q _ => ∃ (p l s : Addr) (n : Nat) (xs : List V), vs = [.ref p, .ref s] ∧ PenL H p l n ∧ n < 100000 ∧ SeqAt' H p s xs ∧ 0 < xs.length ∧ xs.length ≤ 1000 ∧
  ∀ x H', x ∈ xs → PenL H' p l (n + 1) → Up p H H' → Q x H'
def spPick : Sp := fun vs H Q _ => ∃ (p s : Addr) (n : Nat) (xs : List V), vs = [.ref p, .ref s] ∧ PenAt H p n ∧ n < 100000 ∧ SeqAt' H p s xs ∧ 0 < xs.length ∧ xs.length ≤ 1000 ∧
  ∀ x H', x ∈ xs → PenAt H' p (n + 1) → Up p H H' → Q x H'
section
variable {P : Program} {w : World} {K : PySem.W.Frag} {mg : Str → Option Value} {base : Heap} {d : Ad}
theorem G__law_penL (T : Tx K mg d) : FnR P w K mg base CX0 1 d._law_pen (spPenL K) := by
  obtain ⟨fd, F⟩ := T.F__law_pen
  refine FnR.imp (FnOk.raw (F.ok sc__law_pen (sp := spPenL K) (fun vs H Q E h => ?_) (fun cdv A outer s H vs Q E hr h => ?_)) (F.binds fun _ _ _ _ _ _ us hl => match us, hl with | [_], _ => rfl) .nil) fun vs H Q E h => by rw [List.append_nil]; exact h
  · obtain ⟨a, ns, rfl, _⟩ := h
    rfl
  · obtain ⟨a, ns, rfl, hS, hlen, k⟩ := h
    -- slots: 0 _law_script
    refine ⟨_, (pss_one (ps_ret (pe_lst (pa_cons (pe_callTy call_list_of (by rfl) T.n_list (by decide +kernel) (pa_cons (pe_slice sl_list (pv 0) po_none (po_some pe_int)) pa_nil)) (pa_cons pe_int (pa_cons pe_int pa_nil)))))), ?_⟩
    refine ⟨_, rfl, _, rfl, a, _, rfl, hS, fun q hq => ⟨_, _, rfl, .inl (SqL.of upd_same), fun l hl => ⟨(by show 3 ≤ sizeLine; decide), fun p hp => ?_⟩⟩⟩
    have h1 : Same H (upd H q (.lst (cutV (ns.map V.int) none (some 63)))) := fun b o e => by rw [upd_ne (ne_of_none e hq)]; exact e
    have h2 : Same H (upd (upd H q (.lst (cutV (ns.map V.int) none (some 63)))) l (.lst (cutV (ns.map V.int) none (some 63)))) := h1.trans fun b o e => by rw [upd_ne (ne_of_none e hl)]; exact e
    have hlp : l ≠ p := ne_of_none upd_same hp
    refine k p l _ ((h2).free hp) (h1.free hl) (h2.trans fun b o e => by rw [upd_ne (ne_of_none e hp)]; exact e) ⟨(ns.drop (HT.sIx ns.length 0 none)).take (HT.sIx ns.length ns.length (some 63) - HT.sIx ns.length 0 none), 0, 0, hlp, upd_same, ?_, ?_, Int.le_refl _, Int.le_refl _⟩
    · rw [upd_ne hlp, upd_same]
      unfold cutV
      rw [List.map_take, List.map_drop, List.length_map]
    · rw [List.length_take, List.length_drop]
      omega
theorem G__law_pen (T : Tx K mg d) : FnR P w K mg base CX0 1 d._law_pen (spPen K) :=
  (G__law_penL T).imp fun vs H Q E ⟨a, ns, h1, h2, h3, k⟩ => ⟨a, ns, h1, h2, h3, fun p l H' np _ e hp => k p H' np e ⟨l, hp⟩⟩
theorem pen_ix0 {K : PySem.W.Frag} {H : Hp} {p : Addr} {a b c : V} (h : H p = some (.lst [a, b, c])) : SqL K H p [a, b, c] := SqL.of h
theorem G__law_drawL (T : Tx K mg d) : FnR P w K mg base CX0 1 d._law_draw spDrawL := by
  obtain ⟨fd, F⟩ := T.F__law_draw
  refine FnR.imp (FnOk.raw (F.ok sc__law_draw (sp := spDrawL) (fun vs H Q E h => ?_) (fun cdv A outer s H vs Q E hr h => ?_)) (F.binds fun _ _ _ _ _ _ us hl => match us, hl with | [_, _], _ => rfl) .nil) fun vs H Q E h => by rw [List.append_nil]; exact h
  · obtain ⟨p, l, n, many, rfl, _⟩ := h
    rfl
  · obtain ⟨p, l, n, many, rfl, ⟨ns, spot, great, hlp, hp, hl, hlen, hs0, hsn⟩, hn, hm0, hm1, k⟩ := h
    -- slots: 0 _law_pen_here, 1 _law_many, 2 _law_digit, 3 _law_lap, 4 _law_cell, 5 _law_great, 6 _law_stir
    refine ⟨_, (pss_cons (ps_if (pt_cmpR uGt (pe_ix ix_seq (pv 0) pe_int (fun _ _ => rfl)) pe_int (nomark _)) (pss_cons (ps_set (i := 2) sc__law_draw.nd rfl (Or.inl rfl) (pe_op uMod (pe_callTy call_int1 (by rfl) T.n_int (by decide +kernel) (pa_cons (pe_ix ix_seq (pv 0) pe_int (fun _ _ => rfl)) pa_nil)) (pv 1)))
      (pss_cons (ps_asg (pe_op uDiv (pe_callTy call_int1 (by rfl) T.n_int (by decide +kernel) (pa_cons (pe_ix ix_seq (pv 0) pe_int (fun _ _ => rfl)) pa_nil)) (pv 1)) (pg_sub (pv 0) pe_int set_list))
      (pss_one (ps_ret (pv 2))))) pss_nil)
      (pss_cons (ps_set (i := 3) sc__law_draw.nd rfl (Or.inl rfl) (pe_ix ix_seq (pv 0) pe_int (fun _ _ => rfl)))
      (pss_cons (ps_asg (pe_op uAdd (pv 3) pe_int) (pg_sub (pv 0) pe_int set_list))
      (pss_cons (ps_set (i := 4) sc__law_draw.nd rfl (Or.inl rfl) (pe_op uAdd (pe_op uMul pe_int (pv 3)) pe_int))
      (pss_cons (ps_if (pt_cmpR (uNe hr.units) (pe_ix ix_seq (pv 0) pe_int (fun _ _ => rfl)) (pe_lst pa_nil) (nomark _)) (pss_one (ps_set (i := 4) sc__law_draw.nd rfl (Or.inl rfl) (pe_ix ix_seq (pe_ix ix_seq (pv 0) pe_int (fun _ _ => rfl)) (pe_op uMod (pe_callTy call_int1 (by rfl) T.n_int (by decide +kernel) (pa_cons (pv 3) pa_nil)) (pe_callB call_len_seq (by rfl) T.n_len (by decide +kernel) (pa_cons (pe_ix ix_seq (pv 0) pe_int (fun _ _ => rfl)) pa_nil))) (fun _ _ => rfl)))) pss_nil)
      (pss_cons (ps_if (PW.pt (pw_and (pt_cmpR uLt (pv 3) (pe_callB call_len_seq (by rfl) T.n_len (by decide +kernel) (pa_cons (pe_ix ix_seq (pv 0) pe_int (fun _ _ => rfl)) pa_nil)) (nomark _)) (pw_and1 (pt_cmpR uGe (pe_callB call_abs (by rfl) T.n_abs (by decide +kernel) (pa_cons (pv 4) pa_nil)) (pe_op op_pow pe_int pe_int) (nomark _))))) (pss_cons (ps_set (i := 5) sc__law_draw.nd rfl (Or.inl rfl) (pe_op uAdd (pe_op uMul pe_int (pe_op uSub (pe_callB call_abs (by rfl) T.n_abs (by decide +kernel) (pa_cons (pv 4) pa_nil)) (pe_op op_pow pe_int pe_int))) (pe_callTy call_int1 (by rfl) T.n_int (by decide +kernel) (pa_cons (pe_cmpR uLt (pv 4) pe_int (nomark _)) pa_nil))))
      (pss_cons (ps_asg (pe_op uDiv (pe_callTy call_int1 (by rfl) T.n_int (by decide +kernel) (pa_cons (pv 5) pa_nil)) (pv 1)) (pg_sub (pv 0) pe_int set_list))
      (pss_one (ps_ret (pe_op uMod (pe_callTy call_int1 (by rfl) T.n_int (by decide +kernel) (pa_cons (pv 5) pa_nil)) (pv 1)))))) pss_nil)
      (pss_cons (ps_set (i := 6) sc__law_draw.nd rfl (Or.inl rfl) (pe_op uMod (pe_callTy call_int1 (by rfl) T.n_int (by decide +kernel) (pa_cons (pe_op op_pow (pe_op uAdd (pe_op uAdd (pe_op uMod (pe_callTy call_int1 (by rfl) T.n_int (by decide +kernel) (pa_cons (pv 4) pa_nil)) pe_int) (pe_op uMul pe_int (pv 3))) pe_int) pe_int) pa_nil)) pe_int))
      (pss_cons (ps_set (i := 6) sc__law_draw.nd rfl (Or.inl rfl) (pe_op uMod (pe_callTy call_int1 (by rfl) T.n_int (by decide +kernel) (pa_cons (pe_op op_pow (pe_op uAdd (pe_op uAdd (pe_op uMul (pv 6) (pe_op uAdd (pe_op uMul pe_int (pv 3)) pe_int)) (pe_op uMul (pe_op uMul pe_int (pv 3)) (pv 3))) pe_int) pe_int) pa_nil)) pe_int))
      (pss_one (ps_ret (pe_op uMod (pe_callTy call_int1 (by rfl) T.n_int (by decide +kernel) (pa_cons (pe_op uDiv (pv 6) pe_int) pa_nil)) (pv 1)))))))))))), ?_⟩
    refine ⟨_, rfl, Or.inl ⟨p, _, 2, _, rfl, rfl, SqL.of hp, at_of (j := 2) rfl rfl, Or.inl ⟨_, _, rfl, rfl, _, rfl, ite2 (fun hg => ?_) (fun hg => ?_)⟩⟩⟩
    · refine ⟨_, rfl, Or.inl ⟨p, _, 2, _, rfl, rfl, SqL.of hp, at_of (j := 2) rfl rfl, Or.inl ⟨_, rfl, _, rfl, Or.inl ⟨_, _, rfl, rfl, by omega, ?_⟩⟩⟩⟩
      refine ⟨_, rfl, Or.inl ⟨p, _, 2, _, rfl, rfl, SqL.of hp, at_of (j := 2) rfl rfl, Or.inl ⟨_, rfl, _, rfl, Or.inl ⟨_, _, rfl, rfl, mdiv hm0 hm1, ?_⟩⟩⟩⟩
      refine ⟨_, rfl, p, _, _, 2, rfl, rfl, hp, rfl, ?_⟩
      refine ⟨_, rfl, ?_⟩
      exact k _ _ (fm0 hm0).1 (fm0 hm0).2 ⟨ns, spot, great.fdiv many, hlp, upd_same, by rw [upd_ne hlp]; exact hl, hlen, hs0, by omega⟩ (Up.put hp)
    · refine ⟨_, rfl, Or.inl ⟨p, _, 1, _, rfl, rfl, SqL.of hp, at_of (j := 1) rfl rfl, ?_⟩⟩
      refine ⟨_, rfl, Or.inl ⟨_, _, rfl, rfl, ?_⟩⟩
      refine ⟨_, rfl, p, _, _, 1, rfl, rfl, hp, rfl, ?_⟩
      refine ⟨_, rfl, Or.inl ⟨_, _, rfl, rfl, mulL (by decide), Or.inl ⟨_, _, rfl, rfl, ?_⟩⟩⟩
      have hl1 : upd H p (.lst [.ref l, .int (spot + 1), .int great]) l = some (.lst (ns.map V.int)) := by rw [upd_ne hlp]; exact hl
      have hp1 : upd H p (.lst [.ref l, .int (spot + 1), .int great]) p = some (.lst [.ref l, .int (spot + 1), .int great]) := upd_same
      refine ⟨_, rfl, Or.inl ⟨p, _, 0, _, rfl, rfl, SqL.of hp1, at_of (j := 0) rfl rfl, (by show 0 ≤ sizeLine; decide), fun e he => ?_⟩⟩
      have hpe : p ≠ e := ne_of_none hp1 he
      have hle : l ≠ e := ne_of_none hl1 he
      have hl2 : upd (upd H p (.lst [.ref l, .int (spot + 1), .int great])) e (.lst []) l = some (.lst (ns.map V.int)) := by rw [upd_ne hle]; exact hl1
      have hp2 : upd (upd H p (.lst [.ref l, .int (spot + 1), .int great])) e (.lst []) p = some (.lst [.ref l, .int (spot + 1), .int great]) := by rw [upd_ne hpe]; exact hp1
      refine Or.inr ⟨.list (ns.map PyData.int), .list [], .lst (SqL.of hl2) (dp_ints ns), .lst (SqL.of upd_same) .nil, shaped_ints ns, shaped_ints [], _, rfl, ite2 (fun hc => ?A) (fun hc => ?B)⟩
      case' A =>
        have hne : 0 < ns.length := by
          rw [eqv_nil] at hc
          cases ns with
          | nil => simp at hc
          | cons a r => simp
        obtain ⟨hj0, hj1⟩ := fm0 (a := spot) (b := (ns.length : Int)) (by omega)
        obtain ⟨j, hj⟩ : ∃ j : Nat, spot.fmod ns.length = (j : Int) := ⟨(spot.fmod ns.length).toNat, by omega⟩
        obtain ⟨c, hcj⟩ : ∃ c, ns[j]? = some c := ⟨ns[j]'(by omega), List.getElem?_eq_getElem _⟩
        refine ⟨_, rfl, Or.inl ⟨p, _, 0, _, rfl, rfl, SqL.of hp2, at_of (j := 0) rfl rfl, ?_⟩⟩
        refine ⟨_, rfl, Or.inl ⟨_, rfl, _, rfl, Or.inl ⟨p, _, 0, _, rfl, rfl, SqL.of hp2, at_of (j := 0) rfl rfl, ⟨_, _, rfl, Or.inl (SqL.of hl2), Or.inl ⟨_, _, rfl, rfl, (by rw [List.length_map]; omega), ?_⟩⟩⟩⟩⟩
        refine Or.inl ⟨l, _, _, .int c, rfl, rfl, SqL.of hl2, at_of (j := j) (by rw [List.length_map]; exact hj) (by rw [List.getElem?_map, hcj]; rfl), ?_⟩
      case' B => generalize 97079 * spot + 3557 = c
      all_goals
        have up1 : Up p H (upd (upd H p (.lst [.ref l, .int (spot + 1), .int great])) e (.lst [])) := (Up.put hp).new' he
        refine ⟨_, rfl, _, rfl, Or.inl ⟨p, _, 0, _, rfl, rfl, SqL.of hp2, at_of (j := 0) rfl rfl, ⟨_, _, rfl, Or.inl (SqL.of hl2), Or.inl ⟨_, _, rfl, rfl, _, rfl, ite2 (fun h1 => ?_) (fun h1 => ?_)⟩⟩⟩⟩
        · refine ⟨_, rfl, ⟨_, rfl, ⟨_, _, rfl, rfl, ⟨by decide, by decide, by decide⟩, Or.inl ⟨_, _, rfl, rfl, _, rfl, ite2 (fun h2 => ?_) (fun h2 => ?_)⟩⟩⟩⟩
          · refine ⟨_, rfl, ⟨_, rfl, ⟨_, _, rfl, rfl, ⟨by decide, by decide, by decide⟩, Or.inl ⟨_, _, rfl, rfl, Or.inl ⟨_, _, rfl, rfl, mulL (by decide), ⟨_, rfl, Or.inl ⟨_, _, rfl, rfl, Or.inr ⟨_, rfl, Or.inl ⟨_, _, rfl, rfl, ?_⟩⟩⟩⟩⟩⟩⟩⟩⟩
            refine ⟨_, rfl, Or.inl ⟨_, rfl, _, rfl, Or.inl ⟨_, _, rfl, rfl, mdiv hm0 hm1, ?_⟩⟩⟩
            refine ⟨_, rfl, p, _, _, 2, rfl, rfl, hp2, rfl, ?_⟩
            refine ⟨_, rfl, Or.inl ⟨_, rfl, _, rfl, Or.inl ⟨_, _, rfl, rfl, by omega, ?_⟩⟩⟩
            exact k _ _ (fm0 hm0).1 (fm0 hm0).2 ⟨ns, spot + 1, _, hlp, upd_same, by rw [upd_ne hlp]; exact hl2, hlen, by omega, by omega⟩ (up1.trans (Up.put hp2))
          · refine ⟨_, rfl, Or.inl ⟨_, rfl, Or.inl ⟨_, _, rfl, rfl, nz (by decide), ⟨_, rfl, Or.inl ⟨_, _, rfl, rfl, mulL (by decide), Or.inl ⟨_, _, rfl, rfl, Or.inl ⟨_, _, rfl, rfl, ⟨_, _, rfl, rfl, ⟨by decide, by decide, stir1 (by decide) (by decide) (by decide) (by decide) (by decide) (by decide) hs0 (by omega)⟩, Or.inl ⟨_, rfl, Or.inl ⟨_, _, rfl, rfl, nz (by decide), ?_⟩⟩⟩⟩⟩⟩⟩⟩⟩⟩
            refine ⟨_, rfl, ⟨_, rfl, Or.inl ⟨_, _, rfl, rfl, mulL (by decide), Or.inl ⟨_, _, rfl, rfl, Or.inl ⟨_, _, rfl, rfl, stir3 (by decide) (by decide) _, ⟨_, rfl, Or.inl ⟨_, _, rfl, rfl, mulL (by decide), ⟨_, rfl, Or.inl ⟨_, _, rfl, rfl, stir4 (by decide) (by decide) hs0 (by omega) _, Or.inl ⟨_, _, rfl, rfl, Or.inl ⟨_, _, rfl, rfl, ⟨_, _, rfl, rfl, ⟨by decide, by decide, stir2 (by decide) (by decide) (by decide) (by decide) (by decide) (by decide) (by decide) (by decide) hs0 (by omega)⟩, Or.inl ⟨_, rfl, Or.inl ⟨_, _, rfl, rfl, nz (by decide), ?_⟩⟩⟩⟩⟩⟩⟩⟩⟩⟩⟩⟩⟩⟩
            refine ⟨_, rfl, Or.inl ⟨_, _, rfl, rfl, small_div (by decide) (by decide), Or.inl ⟨_, rfl, ⟨_, rfl, Or.inl ⟨_, _, rfl, rfl, by omega, ?_⟩⟩⟩⟩⟩
            exact k _ _ (fm0 hm0).1 (fm0 hm0).2 ⟨ns, spot + 1, great, hlp, hp2, hl2, hlen, by omega, by omega⟩ up1
        · refine ⟨_, rfl, Or.inl ⟨_, rfl, Or.inl ⟨_, _, rfl, rfl, nz (by decide), ⟨_, rfl, Or.inl ⟨_, _, rfl, rfl, mulL (by decide), Or.inl ⟨_, _, rfl, rfl, Or.inl ⟨_, _, rfl, rfl, ⟨_, _, rfl, rfl, ⟨by decide, by decide, stir1 (by decide) (by decide) (by decide) (by decide) (by decide) (by decide) hs0 (by omega)⟩, Or.inl ⟨_, rfl, Or.inl ⟨_, _, rfl, rfl, nz (by decide), ?_⟩⟩⟩⟩⟩⟩⟩⟩⟩⟩
          refine ⟨_, rfl, ⟨_, rfl, Or.inl ⟨_, _, rfl, rfl, mulL (by decide), Or.inl ⟨_, _, rfl, rfl, Or.inl ⟨_, _, rfl, rfl, stir3 (by decide) (by decide) _, ⟨_, rfl, Or.inl ⟨_, _, rfl, rfl, mulL (by decide), ⟨_, rfl, Or.inl ⟨_, _, rfl, rfl, stir4 (by decide) (by decide) hs0 (by omega) _, Or.inl ⟨_, _, rfl, rfl, Or.inl ⟨_, _, rfl, rfl, ⟨_, _, rfl, rfl, ⟨by decide, by decide, stir2 (by decide) (by decide) (by decide) (by decide) (by decide) (by decide) (by decide) (by decide) hs0 (by omega)⟩, Or.inl ⟨_, rfl, Or.inl ⟨_, _, rfl, rfl, nz (by decide), ?_⟩⟩⟩⟩⟩⟩⟩⟩⟩⟩⟩⟩⟩⟩
          refine ⟨_, rfl, Or.inl ⟨_, _, rfl, rfl, small_div (by decide) (by decide), Or.inl ⟨_, rfl, ⟨_, rfl, Or.inl ⟨_, _, rfl, rfl, by omega, ?_⟩⟩⟩⟩⟩
          exact k _ _ (fm0 hm0).1 (fm0 hm0).2 ⟨ns, spot + 1, great, hlp, hp2, hl2, hlen, by omega, by omega⟩ up1
theorem G__law_draw (T : Tx K mg d) : FnR P w K mg base CX0 1 d._law_draw spDraw :=
  (G__law_drawL T).imp fun vs H Q E ⟨p, n, many, h1, ⟨l, hp⟩, h2, h3, h4, k⟩ => ⟨p, l, n, many, h1, hp, h2, h3, h4, fun x H' a b q u => k x H' a b ⟨l, q⟩ u⟩
theorem G__law_pickL (T : Tx K mg d) : FnR P w K mg base CX0 2 d._law_pick spPickL := by
  obtain ⟨fd, F⟩ := T.F__law_pick
  have G__law_draw : FnR P w K mg base CX0 1 d._law_draw spDrawL := G__law_drawL T
  refine FnR.imp (FnOk.raw (F.ok sc__law_pick (sp := spPickL) (fun vs H Q E h => ?_) (fun cdv A outer s H vs Q E hr h => ?_)) (F.binds fun _ _ _ _ _ _ us hl => match us, hl with | [_, _], _ => rfl) .nil) fun vs H Q E h => by rw [List.append_nil]; exact h
  · obtain ⟨p, l, s, n, xs, rfl, _⟩ := h
    rfl
  · obtain ⟨p, l, a, n, xs, rfl, hp, hn, hs, hx0, hx1, k⟩ := h
    -- slots: 0 _law_pen_here, 1 _law_some
    refine ⟨_, (pss_one (ps_ret (pe_ix ix_seq (pv 1) (pe_fnR G__law_draw (hr.mono (by decide)) T.k__law_draw T.m__law_draw pass0 (pa_cons (pv 0) (pa_cons (pe_callB call_len_seq (by rfl) T.n_len (by decide +kernel) (pa_cons (pv 1) pa_nil)) pa_nil))) (fun _ _ => rfl)))), ?_⟩
    refine ⟨_, rfl, _, rfl, _, rfl, ⟨_, xs, rfl, hs.elim (fun h => Or.inl (SqL.of h.1)) (fun h => Or.inr (SqT.of h)), ⟨p, l, n, _, rfl, hp, hn, by omega, by omega, fun e H' h0 h1 hp' up => ?_⟩⟩⟩
    obtain ⟨j, rfl⟩ : ∃ j : Nat, e = (j : Int) := ⟨e.toNat, by omega⟩
    have hj : j < xs.length := by omega
    have q := k xs[j] H' (List.getElem_mem hj) hp' up
    rcases hs.up up with h | h
    · exact Or.inl ⟨a, xs, _, _, rfl, rfl, SqL.of h.1, atI_nat (List.getElem?_eq_getElem hj), q⟩
    · exact Or.inr (Or.inl ⟨a, xs, _, _, rfl, rfl, SqT.of h, atI_nat (List.getElem?_eq_getElem hj), q⟩)
theorem G__law_pick (T : Tx K mg d) : FnR P w K mg base CX0 2 d._law_pick spPick :=
  (G__law_pickL T).imp fun vs H Q E ⟨p, s, n, xs, h1, ⟨l, hp⟩, h2, h3, h4, h5, k⟩ => ⟨p, l, s, n, xs, h1, hp, h2, h3, h4, h5, fun x H' a q u => k x H' a ⟨l, q⟩ u⟩
end

end AZ
namespace AZ
open PySem L2
/-! ## lists and tuples of values -/
abbrev sq (b : Bool) (xs : List V) : HO := match b with | true => .tup xs | false => .lst xs
/-- all of them are fractions at their places -/
theorem pd_at {α β : Type} {R : α → β → Prop} : ∀ {xs : List α} {ys : List β} {i : Nat} {x : α}, Paired R xs ys → xs[i]? = some x → ∃ y, ys[i]? = some y ∧ R x y
  | _, _, 0, _, .cons h _, e => ⟨_, rfl, by simp at e; subst e; exact h⟩
  | _, _, i + 1, _, .cons _ r, e => by
    obtain ⟨y, e', h⟩ := pd_at (i := i) r (by simpa using e)
    exact ⟨y, by simpa using e', h⟩
theorem pd_len {α β : Type} {R : α → β → Prop} : ∀ {xs : List α} {ys : List β}, Paired R xs ys → xs.length = ys.length
  | _, _, .nil => rfl
  | _, _, .cons _ r => by simp [pd_len r]
theorem take_at {α : Type} {xs : List α} {i : Nat} {x : α} (h : xs[i]? = some x) : xs.take (i + 1) = xs.take i ++ [x] := by
  rw [List.take_add_one, h]; rfl
theorem same_at {H H' : Hp} {D : Addr} {o : HO} (h : Same H H') (hD : H D = none) : Same H (upd H' D o) := fun b x e => by
  rw [upd_ne (fun z => by rw [z, hD] at e; cases e)]
  exact h b x e
/-- a comprehension over a list or a tuple -/
theorem lc_seq {K : PySem.W.Frag} {a : Addr} {b : Bool} {xs : List V} {tl : TE} {g : TG} {tt : TT} {te : TE} {vs : List Nat} {σ : L2.St} {H : Hp} {Q : VK} (Pv : Addr → Nat → Hp → Prop)
    (he : ∀ R : VK, R (.ref a) H → tl σ H R) (hq : H a = some (sq b xs)) (h0 : ∀ D, H D = none → Pv D 0 (upd H D (.lst []))) (hl : ∀ D i H', i ≤ xs.length → Pv D i H' → H' a = some (sq b xs))
    (hs : ∀ D i x H', xs[i]? = some x → Pv D i H' → g x (wipe σ vs) H' fun σ2 H2 => wipe σ2 vs = wipe σ vs ∧ tt σ2 H2 fun b H3 =>
      if b = true then te σ2 H3 fun y H4 => ∃ acc, H4 D = some (.lst acc) ∧ acc.length < sizeLine ∧ Pv D (i + 1) (upd H4 D (.lst (acc ++ [y]))) else Pv D (i + 1) H3)
    (hd : ∀ D H', Pv D xs.length H' → Q (.ref D) H') : tLc (fun σ H R => iList K tl σ H R ∨ iTup K tl σ H R) g tt te vs σ H Q := by
  cases b with
  | false => exact Or.inl (he _ ⟨a, rfl, ⟨xs, SqL.of hq⟩, fun D hD => lc_list (xs := xs) (Pv D) (h0 D hD) (fun i H' h p => SqL.of (hl D i H' h p)) (hs D) (hd D)⟩)
  | true => exact Or.inr (he _ ⟨a, rfl, ⟨xs, SqT.of hq⟩, fun D hD => lc_tup (xs := xs) (Pv D) (h0 D hD) (fun i H' h p => SqT.of (hl D i H' h p)) (hs D) (hd D)⟩)
theorem while_to {c : TT} {tb : TS} {D : Ends} {σ : L2.St} {H : Hp} (Pv : L2.St → Hp → Prop) (μ : L2.St → Hp → Nat) (h0 : Pv σ H)
    (hs : ∀ σ H, Pv σ H → c σ H fun b H1 => if b = true then ∃ N : L2.St → Hp → Prop, (∀ σ' H', N σ' H' → ∃ m', m' < μ σ H ∧ m' = μ σ' H' ∧ Pv σ' H') ∧ tb { D with nx := N, ct := N, bk := D.nx } σ H1 else D.nx σ H1) : tWhile c tb D σ H :=
  ⟨fun m σ H => m = μ σ H ∧ Pv σ H, ⟨_, rfl, h0⟩, by rintro m σ H ⟨rfl, p⟩; exact hs σ H p⟩
theorem st_eq {u : TS} {D : Ends} {σ σ' : L2.St} {H : Hp} (e : σ = σ') (h : u D σ' H) : u D σ H := e ▸ h
theorem cutV_from (xs : List V) (k : Nat) : cutV xs (some (k : Int)) none = xs.drop k := by
  unfold cutV
  rw [HT.sIx_nat, HT.sIx_none]
  rcases Nat.le_total k xs.length with h | h
  · rw [Nat.min_eq_left h]
    exact List.take_of_length_le (by rw [List.length_drop]; exact Nat.le_refl _)
  · rw [Nat.min_eq_right h, Nat.sub_self, List.take_zero, List.drop_eq_nil_of_le h]
theorem cutV_upto (xs : List V) (k : Nat) : cutV xs none (some (k : Int)) = xs.take k := by
  unfold cutV
  rw [HT.sIx_nat, HT.sIx_none, Nat.sub_zero, List.drop_zero]
  rcases Nat.le_total k xs.length with h | h
  · rw [Nat.min_eq_left h]
  · rw [Nat.min_eq_right h, List.take_length, List.take_of_length_le h]
theorem in_test {te : TE} {σ : L2.St} {H : Hp} {Q : Bool → Hp → Prop} (h : te σ H fun x H1 => ∃ b, x = .bl b ∧ Q b H1) : tTest te σ H Q := h
theorem in_op {r : R2} {ta tb : TE} {σ : L2.St} {H : Hp} {Q : VK} (h : ta σ H fun x H1 => tb σ H1 fun y H2 => r x y H2 Q) : tOp r ta tb σ H Q := h
theorem in_cb1 {r : List V → Hp → VK → Prop} {te : TE} {σ : L2.St} {H : Hp} {Q : VK} (h : te σ H fun x H1 => r [x] H1 Q) : tCB r (tCons te tNil) σ H Q := h
theorem in_asg {te : TE} {i : Nat} {u : TS} {D : Ends} {σ : L2.St} {H : Hp} (h : te σ H fun x H1 => u D (σ.set i (some x)) H1) : tSeq (tAsg te (gName i)) u D σ H := h
theorem pd_rev {α β : Type} {R : α → β → Prop} {xs : List α} {ys : List β} (h : Paired R xs ys) : Paired R xs.reverse ys.reverse := by
  induction h with
  | nil => exact .nil
  | cons a _ ih => rw [List.reverse_cons, List.reverse_cons]; exact paired_append ih (.cons a .nil)
theorem pd_take {α β : Type} {R : α → β → Prop} {xs : List α} {ys : List β} (n : Nat) (h : Paired R xs ys) : Paired R (xs.take n) (ys.take n) := by
  induction h generalizing n with
  | nil => simp; exact .nil
  | cons a _ ih =>
    cases n with
    | zero => exact .nil
    | succ n => exact .cons a (ih n)
theorem pd_drop {α β : Type} {R : α → β → Prop} {xs : List α} {ys : List β} (n : Nat) (h : Paired R xs ys) : Paired R (xs.drop n) (ys.drop n) := by
  induction h generalizing n with
  | nil => simp; exact .nil
  | cons a r ih =>
    cases n with
    | zero => exact .cons a r
    | succ n => exact ih n
theorem ix_sq {K : PySem.W.Frag} {H : Hp} {a : Addr} {b : Bool} {xs : List V} {n : Nat} {x : V} {Q : VK} (h : H a = some (sq b xs)) (hi : xs[n]? = some x) (q : Q x H) : rIx K (.ref a) (.int (n : Int)) H Q := by
  cases b with
  | false => exact Or.inl ⟨a, xs, _, _, rfl, rfl, SqL.of h, atI_nat hi, q⟩
  | true => exact Or.inr (Or.inl ⟨a, xs, _, _, rfl, rfl, SqT.of h, atI_nat hi, q⟩)
theorem sq_or {K : PySem.W.Frag} {H : Hp} {a : Addr} {b : Bool} {xs : List V} (h : H a = some (sq b xs)) : SqL K H a xs ∨ SqT K H a xs := by
  cases b with
  | false => exact Or.inl (SqL.of h)
  | true => exact Or.inr (SqT.of h)
theorem for_seq {K : PySem.W.Frag} {a : Addr} {b : Bool} {xs : List V} {tl : TE} {g : TG} {tb : TS} {D : Ends} {σ : L2.St} {H : Hp} (Pv : Nat → L2.St → Hp → Prop) (he : ∀ R : VK, R (.ref a) H → tl σ H R) (hq : H a = some (sq b xs))
    (h0 : Pv 0 σ H) (hl : ∀ i σ H, i ≤ xs.length → Pv i σ H → H a = some (sq b xs)) (hs : ∀ i x σ H, xs[i]? = some x → Pv i σ H → g x σ H fun σ2 H2 => tb { D with nx := Pv (i + 1), ct := Pv (i + 1), bk := D.nx } σ2 H2)
    (hd : ∀ σ H, Pv xs.length σ H → D.nx σ H) : tFor (fun σ H R => iList K tl σ H R ∨ iTup K tl σ H R) g tb D σ H := by
  cases b with
  | false => exact Or.inl (he _ ⟨a, rfl, ⟨xs, SqL.of hq⟩, for_list (xs := xs) Pv h0 (fun i σ H h p => SqL.of (hl i σ H h p)) hs hd⟩)
  | true => exact Or.inr (he _ ⟨a, rfl, ⟨xs, SqT.of hq⟩, for_tup (xs := xs) Pv h0 (fun i σ H h p => SqT.of (hl i σ H h p)) hs hd⟩)
theorem if_join {tc : TT} {tb u : TS} {D : Ends} {σ : L2.St} {H : Hp} (I : L2.St → Hp → Prop) (h : ∀ N : L2.St → Hp → Prop, (∀ σ' H', I σ' H' → N σ' H') → tc σ H (fun b H1 => if b = true then tb { D with nx := N } σ H1 else N σ H1)) (k : ∀ σ' H', I σ' H' → u D σ' H') : tSeq (tIfS tc tb tNext) u D σ H := h (u D) k
theorem sz_mono {n m : Nat} {x : Rat} (h : Sz n x) (e : n ≤ m) : Sz m x := ⟨Nat.lt_of_lt_of_le h.1 (Nat.pow_le_pow_right (by decide) e), Nat.lt_of_lt_of_le h.2 (Nat.pow_le_pow_right (by decide) e)⟩

end AZ
namespace AZ
open PySem L2
-- kits: all
/-! ## names -/
def isNm (x : Str) : Bool := decide (x.length ≤ 8) && (Txt.isascii x && (Txt.isalpha x && (Txt.islower x && (!decide (x = "self") && !decide (x = "way")))))
def spNm : Sp := fun vs H Q _ => ∃ x, vs = [.str x] ∧ x.length ≤ 1000 ∧ ∀ H', Same H H' → Q (.bl (isNm x)) H'
def IsI (K : PySem.W.Frag) (H : Hp) (x : V) (b : Bool) : Prop := ∃ (t : Value) (b1 b2 : Bool), TyX K H x t ∧ PySem.W.kitOne K t (.type "int") = some b1 ∧ PySem.W.kitOne K t (.type "bool") = some b2 ∧ b = (b1 && !b2)
def spIsInt (K : PySem.W.Frag) : Sp := fun vs H Q _ => ∃ x b, vs = [x] ∧ IsI K H x b ∧ Q (.bl b) H
/-- names that are all unlike -/
def spUnl (K : PySem.W.Frag) : Sp := fun vs H Q _ => ∃ (a : Addr) (ns : List Str), vs = [.ref a] ∧ SqT K H a (ns.map V.str) ∧ ns.Nodup ∧ ns.length ≤ 1000 ∧ ∀ H', Same H H' → Q .non H'
section
variable {P : Program} {w : World} {K : PySem.W.Frag} {mg : Str → Option Value} {base : Heap} {d : Ad}
theorem isI_int (T : Tx K mg d) {H : Hp} {i : Int} : IsI K H (.int i) true := ⟨_, true, false, .base (.int i), T.i_int_is_int, T.i_int_is_bool, rfl⟩
theorem G_is_integer (T : Tx K mg d) : FnR P w K mg base CX0 1 d.is_integer (spIsInt K) := by
  obtain ⟨fd, F⟩ := T.F_is_integer
  refine FnR.imp (FnOk.raw (F.ok sc_is_integer (k := 0) (sp := spIsInt K) (fun vs H Q E h => ?_) (fun cdv A outer s H vs Q E hr h => ?_)) (F.binds fun _ _ _ _ _ _ us hl => match us, hl with | [_], _ => rfl) .nil) fun vs H Q E h => by rw [List.append_nil]; exact h
  · obtain ⟨x, b, rfl, _⟩ := h
    rfl
  · obtain ⟨x, b, rfl, ⟨t, b1, b2, ty, k1, k2, rfl⟩, k⟩ := h
    -- slots: 0 value
    refine ⟨_, (pss_one (ps_ret (pe_and (pe_callB uIsi (by rfl) T.n_isinstance (by decide +kernel) (pa_cons (pv 0) (pa_cons (pe_bltn (v := .ty "int") (by rfl) T.n_int (by decide +kernel) rfl) pa_nil))) (pe_one (pe_not (pe_callB uIsi (by rfl) T.n_isinstance (by decide +kernel) (pa_cons (pv 0) (pa_cons (pe_bltn (v := .ty "bool") (by rfl) T.n_bool (by decide +kernel) rfl) pa_nil)))))))), ?_⟩
    refine ⟨_, rfl, Or.inl ⟨_, _, _, _, b1, rfl, .ty _, ty, k1, b1, rfl, ?_⟩⟩
    cases b1
    · exact k
    · exact ⟨_, rfl, Or.inl ⟨_, _, _, _, b2, rfl, .ty _, ty, k2, b2, rfl, k⟩⟩
theorem G_is_name (T : Tx K mg d) : FnR P w K mg base CX0 1 d.is_name spNm := by
  obtain ⟨fd, F⟩ := T.F_is_name
  refine FnR.imp (FnOk.raw (F.ok sc_is_name (k := 0) (sp := spNm) (fun vs H Q E h => ?_) (fun cdv A outer s H vs Q E hr h => ?_)) (F.binds fun _ _ _ _ _ _ us hl => match us, hl with | [_], _ => rfl) .nil) fun vs H Q E h => by rw [List.append_nil]; exact h
  · obtain ⟨x, rfl, _⟩ := h
    rfl
  · obtain ⟨x, rfl, hl, k⟩ := h
    -- slots: 0 value
    refine ⟨_, (pss_cons (ps_if (PW.pt (pw_or (pt_not (pt_val (pe_callB uIsi (by rfl) T.n_isinstance (by decide +kernel) (pa_cons (pv 0) (pa_cons (pe_bltn (v := .ty "str") (by rfl) T.n_str (by decide +kernel) rfl) pa_nil))))) (pw_or1 (pt_cmpR uGt (pe_callB call_len_str (by rfl) T.n_len (by decide +kernel) (pa_cons (pv 0) pa_nil)) (pe_glob (v := .int 8) rfl T.mi_MOST_LETTERS.choose_spec ⟨_, rfl⟩) (nomark _))))) (pss_one (ps_ret pe_bl)) pss_nil)
      (pss_one (ps_ret (pe_and (pe_m0 PySem.F.slot_str_isascii PySem.F.type_str_isascii mt_isascii (pv 0)) (pe_and (pe_m0 PySem.F.slot_str_isalpha PySem.F.type_str_isalpha mt_isalpha (pv 0)) (pe_and (pe_m0 PySem.F.slot_str_islower PySem.F.type_str_islower mt_islower (pv 0)) (pe_one (pe_cmpR op_notIn_seq (pv 0) (pe_tup (pa_cons pe_str (pa_cons pe_str pa_nil))) rfl)))))))), ?_⟩
    refine ⟨_, rfl, Or.inl ⟨_, _, _, _, true, rfl, .ty _, .base (.str x), T.i_str_is_str, true, rfl, iteF ?_⟩⟩
    refine ⟨_, rfl, ⟨x, rfl, Nat.le_trans hl (by decide), Or.inl ⟨_, _, rfl, rfl, _, rfl, ite2 (fun hc => ?_) (fun hc => ?_)⟩⟩⟩
    · have hc := of_decide_eq_true hc
      have e : isNm x = false := by unfold isNm; rw [decide_eq_false (show ¬ x.length ≤ 8 by omega), Bool.false_and]
      rw [e] at k
      exact k _ (Same.refl _)
    have hc := of_decide_eq_false ((Bool.not_eq_true _).mp hc)
    unfold isNm at k
    rw [decide_eq_true (show x.length ≤ 8 by omega), Bool.true_and] at k
    try dsimp only [tNext]
    refine ⟨_, rfl, ⟨_, rfl⟩, _, rfl, rfl, trivial, _, rfl, ?_⟩
    cases h1 : Txt.isascii x with
    | false => rw [h1] at k; exact iteF (k _ (Same.refl _))
    | true =>
      refine iteT ⟨_, rfl, ⟨_, rfl⟩, _, rfl, rfl, trivial, _, rfl, ?_⟩
      cases h2 : Txt.isalpha x with
      | false => rw [h1, h2] at k; exact iteF (k _ (Same.refl _))
      | true =>
        refine iteT ⟨_, rfl, ⟨_, rfl⟩, _, rfl, rfl, trivial, _, rfl, ?_⟩
        cases h3 : Txt.islower x with
        | false => rw [h1, h2, h3] at k; exact iteF (k _ (Same.refl _))
        | true =>
          rw [h1, h2, h3] at k
          refine iteT ⟨_, rfl, (by show 2 ≤ sizeLine; decide), fun t ht => ⟨t, _, rfl, Or.inr (SqT.of upd_same), rfl, rfl, ?_⟩⟩
          have e : (!inV (V.str x) [V.str "self", V.str "way"]) = (!decide (x = "self") && !decide (x = "way")) := by
            have q : ∀ s : Str, eqV (V.str s) (V.str x) = decide (x = s) := fun s => by
              show (s == x) = _
              by_cases h : x = s
              · rw [h, decide_eq_true rfl]; exact beq_self_eq_true s
              · rw [decide_eq_false h]; exact beq_eq_false_iff_ne.mpr fun z => h z.symm
            show (!(eqV (V.str "self") (V.str x) || (eqV (V.str "way") (V.str x) || false))) = _
            rw [q, q, Bool.or_false, Bool.not_or]
          show Q (.bl (!inV (V.str x) [V.str "self", V.str "way"])) _
          rw [e]
          have := k _ (sameNew (o := HO.tup [V.str "self", .str "way"]) ht)
          simpa using this
theorem G_check_unlike (T : Tx K mg d) : FnR P w K mg base CX0 1 d.check_unlike (spUnl K) := by
  obtain ⟨fd, F⟩ := T.F_check_unlike
  refine FnR.imp (FnOk.raw (F.ok sc_check_unlike (k := 0) (sp := spUnl K) (fun vs H Q E h => ?_) (fun cdv A outer s H vs Q E hr h => ?_)) (F.binds fun _ _ _ _ _ _ us hl => match us, hl with | [_], _ => rfl) .nil) fun vs H Q E h => by rw [List.append_nil]; exact h
  · obtain ⟨a, ns, rfl, _⟩ := h
    rfl
  · obtain ⟨a, ns, rfl, ha, nd, hl, k⟩ := h
    -- slots: 0 names, 1 told, 2 name
    refine ⟨_, (pss_cons (ps_set (i := 1) sc_check_unlike.nd rfl (Or.inl rfl) pe_dnewK)
      (pss_one (ps_for PassesOwn.never rfl (pi_tup (pv 0)) (pg_name (i := 2) sc_check_unlike.nd rfl (Or.inl rfl)) (pss_cons (ps_if (pt_cmp (pc_din (hu_of hr) (pv 2) (pv 1)) rfl) pss_never pss_nil)
      (pss_one (ps_dput (hu_of hr) (pv 1) (pv 2) pe_bl rfl)))))), ?_⟩
    refine fun D hD => ?_
    try dsimp only [List.set, L2.start]
    refine ⟨_, rfl, a, rfl, ⟨_, sqT_same (sameNew hD) ha⟩, for_tup (xs := ns.map V.str) (fun i σ' H' => ∃ (z2 : Option V) (kvs : List (Key × V)), σ' = [some (.ref a), some (.ref D), z2] ∧ Same H H' ∧ H' D = some (.dK kvs) ∧ kvs.map (·.1) = (ns.take i).map Sum.inr)
      ⟨_, [], rfl, sameNew hD, upd_same, rfl⟩ (fun i σ' H' _ h => by obtain ⟨_, _, _, e, _⟩ := h; exact sqT_same e ha) (fun i y σ' H' hy h => ?_) (fun σ' H' h => ?_)⟩
    · obtain ⟨z2, kvs, rfl, e1, hd, hk⟩ := h
      rw [List.getElem?_map] at hy
      cases hn : ns[i]? with
      | none => rw [hn] at hy; cases hy
      | some x =>
      rw [hn] at hy
      injection hy with hy
      subst hy
      have il := (List.getElem?_eq_some_iff.mp hn).1
      have new : x ∉ ns.take i := fun hx => by
        obtain ⟨j, hj⟩ := List.getElem?_of_mem hx
        have jl := (List.getElem?_eq_some_iff.mp hj).1
        rw [List.length_take] at jl
        rw [List.getElem?_take_of_lt (by omega)] at hj
        have := (List.getElem?_inj (by omega) nd).mp (hj.trans hn.symm)
        omega
      have nk : (Sum.inr x : Key) ∉ kvs.map (·.1) := by
        rw [hk]
        intro hx
        obtain ⟨z, hz, e⟩ := List.mem_map.mp hx
        injection e with e
        exact new (e ▸ hz)
      have va : valV kvs (.inr x : Key) = none := by
        unfold valV
        rw [List.find?_eq_none.mpr fun p hp => by simp; intro e; exact nk (List.mem_map.mpr ⟨p, hp, e⟩)]
        rfl
      dsimp only [gName, List.set]
      refine ⟨_, rfl, _, rfl, D, _, rfl, DGet.k (k := .inr x) hd, _, rfl, ?_⟩
      rw [va]
      refine iteF ?_
      have lk : kvs.length ≤ 1000 := by
        have := congrArg List.length hk
        rw [List.length_map, List.length_map, List.length_take] at this
        omega
      refine ⟨_, rfl, _, rfl, D, _, rfl, DPut.k (k := .inr x) hd (Nat.lt_of_le_of_lt lk (by decide)), ?_⟩
      have pk : putK kvs (.inr x : Key) (.bl true) = kvs ++ [(.inr x, .bl true)] := by
        unfold putK
        rw [if_neg]
        intro h
        obtain ⟨p, hp, e⟩ := List.any_eq_true.mp h
        exact nk (List.mem_map.mpr ⟨p, hp, of_decide_eq_true e⟩)
      rw [pk]
      exact ⟨_, _, rfl, same_at e1 hD, upd_same, by rw [List.map_append, hk, take_at hn, List.map_append]; rfl⟩
    · obtain ⟨z2, kvs, rfl, e1, _⟩ := h
      exact k _ e1
end

end AZ
namespace AZ
open PySem L2
/-! ## boxes within boxes: theory -/
inductive Bx where
  | mk (name : Str) (off units : Int) (inner : List Bx)
mutual
def namesB : Bx → List Str
  | .mk n _ _ l => n :: namesL l
def namesL : List Bx → List Str
  | [] => []
  | b :: r => namesB b ++ namesL r
end
mutual
/-- without the box of a name -/
def outB (x : Str) : Bx → List Bx
  | .mk n o u l => if n = x then [] else [.mk n o u (outL x l)]
def outL (x : Str) : List Bx → List Bx
  | [] => []
  | b :: r => outB x b ++ outL x r
end
mutual
/-- with one more box, the last one within that of a name -/
def putB (x : Str) (m : Bx) : Bx → Bx
  | .mk n o u l => .mk n o u (if n = x then putL x m l ++ [m] else putL x m l)
def putL (x : Str) (m : Bx) : List Bx → List Bx
  | [] => []
  | b :: r => putB x m b :: putL x m r
end
mutual
/-- all units so many times -/
def timB (k : Int) : Bx → Bx
  | .mk n o u l => .mk n (o * k) (u * k) (timL k l)
def timL (k : Int) : List Bx → List Bx
  | [] => []
  | b :: r => timB k b :: timL k r
end
theorem namesL_app : ∀ {a b : List Bx}, namesL (a ++ b) = namesL a ++ namesL b
  | [], _ => rfl
  | x :: r, b => by rw [List.cons_append, namesL, namesL, namesL_app, List.append_assoc]
theorem outL_app {x : Str} : ∀ {a b : List Bx}, outL x (a ++ b) = outL x a ++ outL x b
  | [], _ => rfl
  | c :: r, b => by rw [List.cons_append, outL, outL, outL_app, List.append_assoc]
mutual
theorem outB_no {x : Str} : ∀ {b : Bx}, x ∉ namesB b → outB x b = [b]
  | .mk n o u l, h => by
    rw [namesB, List.mem_cons, not_or] at h
    rw [outB, if_neg (fun e => h.1 e.symm), outL_no h.2]
theorem outL_no {x : Str} : ∀ {l : List Bx}, x ∉ namesL l → outL x l = l
  | [], _ => rfl
  | b :: r, h => by
    rw [namesL, List.mem_append, not_or] at h
    rw [outL, outB_no h.1, outL_no h.2]
    rfl
end
mutual
theorem putB_no {x : Str} {m : Bx} : ∀ {b : Bx}, x ∉ namesB b → putB x m b = b
  | .mk n o u l, h => by
    rw [namesB, List.mem_cons, not_or] at h
    rw [putB, if_neg (fun e => h.1 e.symm), putL_no h.2]
theorem putL_no {x : Str} {m : Bx} : ∀ {l : List Bx}, x ∉ namesL l → putL x m l = l
  | [], _ => rfl
  | b :: r, h => by
    rw [namesL, List.mem_append, not_or] at h
    rw [putL, putB_no h.1, putL_no h.2]
end
/-! a new one taken out again -/
mutual
theorem out_putB {x y : Str} {o u : Int} : ∀ {b : Bx}, y ∉ namesB b → outB y (putB x (.mk y o u []) b) = [b]
  | .mk n p q l, h => by
    rw [namesB, List.mem_cons, not_or] at h
    have hl := out_putL (x := x) (o := o) (u := u) h.2
    have hm : outL y [Bx.mk y o u []] = [] := by
      rw [outL, outB, if_pos rfl]
      rfl
    rw [putB, outB, if_neg (fun e => h.1 e.symm)]
    split
    · rw [outL_app, hl, hm, List.append_nil]
    · rw [hl]
theorem out_putL {x y : Str} {o u : Int} : ∀ {l : List Bx}, y ∉ namesL l → outL y (putL x (.mk y o u []) l) = l
  | [], _ => rfl
  | b :: r, h => by
    rw [namesL, List.mem_append, not_or] at h
    rw [putL, outL, out_putB h.1, out_putL h.2]
    rfl
end
mutual
theorem tim_timB {j k : Int} : ∀ {b : Bx}, timB j (timB k b) = timB (k * j) b
  | .mk n o u l => by rw [timB, timB, timB, tim_timL, Int.mul_assoc, Int.mul_assoc]
theorem tim_timL {j k : Int} : ∀ {l : List Bx}, timL j (timL k l) = timL (k * j) l
  | [] => rfl
  | b :: r => by rw [timL, timL, timL, tim_timB, tim_timL]
end
mutual
theorem names_timB {k : Int} : ∀ {b : Bx}, namesB (timB k b) = namesB b
  | .mk n o u l => by rw [timB, namesB, namesB, names_timL]
theorem names_timL {k : Int} : ∀ {l : List Bx}, namesL (timL k l) = namesL l
  | [] => rfl
  | b :: r => by rw [timL, namesL, namesL, names_timB, names_timL]
end
mutual
theorem names_outB {x : Str} : ∀ {b : Bx}, (namesL (outB x b)).Sublist (namesB b)
  | .mk n o u l => by
    rw [outB]
    split
    · exact List.nil_sublist _
    · rw [namesL, namesL, List.append_nil, namesB, namesB]
      exact (names_outL (x := x) (l := l)).cons_cons n
theorem names_outL {x : Str} : ∀ {l : List Bx}, (namesL (outL x l)).Sublist (namesL l)
  | [] => List.Sublist.refl _
  | b :: r => by
    rw [outL, namesL_app, namesL]
    exact (names_outB (x := x) (b := b)).append (names_outL (x := x) (l := r))
end
/-! all names, with those of a box put in -/
mutual
theorem names_putB {x : Str} {m : Bx} : ∀ {b : Bx}, (namesB b).Nodup → x ∈ namesB b → (namesB (putB x m b)).Perm (namesB b ++ namesB m)
  | .mk n o u l, nd, h => by
    rw [namesB, List.nodup_cons] at nd
    rw [putB]
    by_cases e : n = x
    · subst e
      rw [if_pos rfl, putL_no nd.1, namesB, namesL_app, namesL, namesL, List.append_nil, namesB, List.cons_append]
    · rw [if_neg e, namesB, namesB, List.cons_append]
      rw [namesB, List.mem_cons] at h
      exact (names_putL nd.2 (h.resolve_left fun q => e q.symm)).cons n
theorem names_putL {x : Str} {m : Bx} : ∀ {l : List Bx}, (namesL l).Nodup → x ∈ namesL l → (namesL (putL x m l)).Perm (namesL l ++ namesB m)
  | [], _, h => by cases h
  | b :: r, nd, h => by
    rw [namesL] at nd h
    obtain ⟨n1, n2, n3⟩ := List.nodup_append.mp nd
    rw [putL, namesL, namesL]
    rcases List.mem_append.mp h with c | c
    · have c2 : x ∉ namesL r := fun q => n3 x c x q rfl
      rw [putL_no c2]
      refine ((names_putB n1 c).append_right _).trans ?_
      rw [List.append_assoc, List.append_assoc]
      exact List.Perm.append_left _ List.perm_append_comm
    · have c2 : x ∉ namesB b := fun q => n3 x q x c rfl
      rw [putB_no c2, List.append_assoc]
      exact List.Perm.append_left _ (names_putL n2 c)
end
/-! the page put together box by box: in the order in which all boxes are told -/
/-- name, begin, end, the name around (None at the top), the box -/
structure Row where
  nm : Str
  bg : Int
  en : Int
  ar : Option Str
  bx : Bx
mutual
def rowsB (g : Int) (ar : Option Str) : Bx → List Row
  | .mk n o u l => ⟨n, g + o, g + o + u, ar, .mk n o u l⟩ :: rowsL (g + o) (some n) l
def rowsL (g : Int) (ar : Option Str) : List Bx → List Row
  | [] => []
  | b :: r => rowsB g ar b ++ rowsL g ar r
end
mutual
theorem rowsB_nm {g : Int} {ar : Option Str} : ∀ {b : Bx}, (rowsB g ar b).map Row.nm = namesB b
  | .mk n o u l => by rw [rowsB, List.map_cons, rowsL_nm, namesB]
theorem rowsL_nm {g : Int} {ar : Option Str} : ∀ {l : List Bx}, (rowsL g ar l).map Row.nm = namesL l
  | [] => rfl
  | b :: r => by rw [rowsL, List.map_append, rowsB_nm, rowsL_nm, namesL]
end
def withB (l : List Bx) (m : Bx) : Option Str → List Bx
  | none => l ++ [m]
  | some x => putL x m l
/-- a row put in: without what is within it -/
def putRow (l : List Bx) (r : Row) : List Bx := match r.bx with
  | .mk n o u _ => withB l (.mk n o u []) r.ar
mutual
/-- boxes put behind what is within the box of a name -/
def extB (x : Str) (a : List Bx) : Bx → Bx
  | .mk n o u l => .mk n o u (if n = x then extL x a l ++ a else extL x a l)
def extL (x : Str) (a : List Bx) : List Bx → List Bx
  | [] => []
  | b :: r => extB x a b :: extL x a r
end
mutual
theorem put_extB {x : Str} {m : Bx} : ∀ {b : Bx}, putB x m b = extB x [m] b
  | .mk n o u l => by rw [putB, extB, put_extL]
theorem put_extL {x : Str} {m : Bx} : ∀ {l : List Bx}, putL x m l = extL x [m] l
  | [] => rfl
  | b :: r => by rw [putL, extL, put_extB, put_extL]
end
mutual
theorem extB_no {x : Str} {a : List Bx} : ∀ {b : Bx}, x ∉ namesB b → extB x a b = b
  | .mk n o u l, h => by
    rw [namesB, List.mem_cons, not_or] at h
    rw [extB, if_neg (fun e => h.1 e.symm), extL_no h.2]
theorem extL_no {x : Str} {a : List Bx} : ∀ {l : List Bx}, x ∉ namesL l → extL x a l = l
  | [], _ => rfl
  | b :: r, h => by
    rw [namesL, List.mem_append, not_or] at h
    rw [extL, extB_no h.1, extL_no h.2]
end
theorem extL_app {x : Str} {a : List Bx} : ∀ {l r : List Bx}, extL x a (l ++ r) = extL x a l ++ extL x a r
  | [], _ => rfl
  | b :: l, r => by rw [List.cons_append, extL, extL, extL_app, List.cons_append]
mutual
theorem ext_nilB {x : Str} : ∀ {b : Bx}, extB x [] b = b
  | .mk n o u l => by rw [extB, ext_nilL, List.append_nil, ite_self]
theorem ext_nilL {x : Str} : ∀ {l : List Bx}, extL x [] l = l
  | [] => rfl
  | b :: r => by rw [extL, ext_nilB, ext_nilL]
end
mutual
theorem ext_extB {x : Str} {a c : List Bx} (ha : x ∉ namesL a) : ∀ {b : Bx}, extB x c (extB x a b) = extB x (a ++ c) b
  | .mk n o u l => by
    rw [extB, extB, extB]
    by_cases e : n = x
    · rw [if_pos e, if_pos e, if_pos e, extL_app, extL_no ha, ext_extL ha, List.append_assoc]
    · rw [if_neg e, if_neg e, if_neg e, ext_extL ha]
theorem ext_extL {x : Str} {a c : List Bx} (ha : x ∉ namesL a) : ∀ {l : List Bx}, extL x c (extL x a l) = extL x (a ++ c) l
  | [] => rfl
  | b :: r => by rw [extL, extL, extL, ext_extB ha, ext_extL ha]
end
mutual
theorem ext_newB {x n : Str} {o u : Int} {i : List Bx} : ∀ {b : Bx}, n ∉ namesB b → extB n i (extB x [.mk n o u []] b) = extB x [.mk n o u i] b
  | .mk k p q l, h => by
    rw [namesB, List.mem_cons, not_or] at h
    have hl := ext_newL (x := x) (o := o) (u := u) (i := i) h.2
    have hn : extL n i [Bx.mk n o u []] = [Bx.mk n o u i] := by
      rw [extL, extL, extB, if_pos rfl, extL, List.nil_append]
    rw [extB, extB, if_neg (fun e => h.1 e.symm), extB]
    by_cases e : k = x
    · rw [if_pos e, if_pos e, extL_app, hl, hn]
    · rw [if_neg e, if_neg e, hl]
theorem ext_newL {x n : Str} {o u : Int} {i : List Bx} : ∀ {l : List Bx}, n ∉ namesL l → extL n i (extL x [.mk n o u []] l) = extL x [.mk n o u i] l
  | [], _ => rfl
  | b :: r, h => by
    rw [namesL, List.mem_append, not_or] at h
    rw [extL, extL, extL, ext_newB h.1, ext_newL h.2]
end
mutual
theorem names_extB {x y : Str} {a : List Bx} : ∀ {b : Bx}, y ∈ namesB (extB x a b) → y ∈ namesB b ∨ y ∈ namesL a
  | .mk n o u l, h => by
    rw [extB, namesB, List.mem_cons] at h
    rw [namesB, List.mem_cons]
    rcases h with h | h
    · exact Or.inl (Or.inl h)
    · by_cases e : n = x
      · rw [if_pos e, namesL_app, List.mem_append] at h
        exact h.elim (fun h => (names_extL h).imp_left Or.inr) Or.inr
      · rw [if_neg e] at h
        exact (names_extL h).imp_left Or.inr
theorem names_extL {x y : Str} {a : List Bx} : ∀ {l : List Bx}, y ∈ namesL (extL x a l) → y ∈ namesL l ∨ y ∈ namesL a
  | [], h => by cases h
  | b :: r, h => by
    rw [extL, namesL, List.mem_append] at h
    rw [namesL, List.mem_append]
    exact h.elim (fun h => (names_extB h).imp_left Or.inl) fun h => (names_extL h).imp_left Or.inr
end
/-! rows put in one after the other, within a box -/
mutual
theorem put_rowsB {x : Str} {g : Int} : ∀ {b : Bx} {p : List Bx}, (namesB b).Nodup → x ∉ namesB b → (∀ y ∈ namesB b, y ∉ namesL p) → (rowsB g (some x) b).foldl putRow p = extL x [b] p
  | .mk n o u l, p, nd, hx, hd => by
    rw [namesB, List.nodup_cons] at nd
    rw [namesB, List.mem_cons, not_or] at hx
    have hn : n ∉ namesL p := hd n (by rw [namesB]; exact List.mem_cons_self)
    rw [rowsB, List.foldl_cons]
    have e : putRow p ⟨n, g + o, g + o + u, some x, .mk n o u l⟩ = extL x [.mk n o u []] p := put_extL
    rw [e, put_rowsL nd.2 nd.1 (fun y hy q => ?_), ext_newL hn]
    rcases names_extL q with q | q
    · exact hd y (by rw [namesB]; exact List.mem_cons_of_mem _ hy) q
    · rw [namesL, namesL, namesB, List.append_nil, namesL, List.mem_singleton] at q
      exact nd.1 (q ▸ hy)
theorem put_rowsL {x : Str} {g : Int} : ∀ {l : List Bx} {p : List Bx}, (namesL l).Nodup → x ∉ namesL l → (∀ y ∈ namesL l, y ∉ namesL p) → (rowsL g (some x) l).foldl putRow p = extL x l p
  | [], p, _, _, _ => by rw [rowsL, ext_nilL]; rfl
  | b :: r, p, nd, hx, hd => by
    rw [namesL] at nd hx hd
    obtain ⟨n1, n2, n3⟩ := List.nodup_append.mp nd
    rw [List.mem_append, not_or] at hx
    rw [rowsL, List.foldl_append, put_rowsB n1 hx.1 (fun y hy => hd y (List.mem_append_left _ hy)), put_rowsL n2 hx.2 (fun y hy q => ?_), ext_extL (by rw [namesL, namesL, List.append_nil]; exact hx.1)]
    · rfl
    · rcases names_extL q with q | q
      · exact hd y (List.mem_append_right _ hy) q
      · rw [namesL, namesL, List.append_nil] at q
        exact n3 y q y hy rfl
end
/-- and at the top: the page as it was told -/
theorem put_rows {g : Int} : ∀ {l p : List Bx}, (namesL l).Nodup → (∀ y ∈ namesL l, y ∉ namesL p) → (rowsL g none l).foldl putRow p = p ++ l
  | [], p, _, _ => by rw [rowsL, List.append_nil]; rfl
  | .mk n o u i :: r, p, nd, hd => by
    rw [namesL] at nd hd
    obtain ⟨n1, n2, n3⟩ := List.nodup_append.mp nd
    have hn : n ∉ namesL p := hd n (by rw [namesB]; exact List.mem_append_left _ List.mem_cons_self)
    rw [namesB, List.nodup_cons] at n1
    rw [rowsL, List.foldl_append, rowsB, List.foldl_cons]
    have e : putRow p ⟨n, g + o, g + o + u, none, .mk n o u i⟩ = p ++ [.mk n o u []] := rfl
    have e2 : extL n i (p ++ [Bx.mk n o u []]) = p ++ [.mk n o u i] := by
      rw [extL_app, extL_no hn, extL, extL, extB, if_pos rfl, extL, List.nil_append]
    rw [e, put_rowsL n1.2 n1.1 (fun y hy q => ?_), e2, put_rows n2 (fun y hy q => ?_), List.append_assoc]
    · rfl
    · rw [namesL_app, List.mem_append] at q
      rcases q with q | q
      · exact hd y (List.mem_append_right _ hy) q
      · rw [namesL, namesL, List.append_nil] at q
        exact n3 y q y hy rfl
    · rw [namesL_app, List.mem_append] at q
      rcases q with q | q
      · exact hd y (by rw [namesB]; exact List.mem_append_left _ (List.mem_cons_of_mem _ hy)) q
      · rw [namesL, namesL, namesB, List.append_nil, namesL, List.mem_singleton] at q
        exact n1.1 (q ▸ hy)

end AZ
namespace AZ
open PySem L2
/-! ## texts of boxes -/
theorem sAssoc (a b c : Str) : (a ++ b) ++ c = a ++ (b ++ c) := by
  cases a with | mk a => cases b with | mk b => cases c with | mk c =>
  show Str.mk ((a ++ b) ++ c) = Str.mk (a ++ (b ++ c))
  rw [Array.append_assoc]
theorem sNil (a : Str) : Str.empty ++ a = a := by
  cases a with | mk a =>
  show Str.mk (#[] ++ a) = Str.mk a
  rw [Array.empty_append]
/-- a box's own words -/
def hdB (n : Str) (o u : Int) : Str := n ++ (" " : Str) ++ (toString o : Str) ++ (" " : Str) ++ (toString u : Str)
mutual
def txB : Bx → Str
  | .mk n o u l => match l with
    | [] => hdB n o u
    | b :: r => hdB n o u ++ (" ( " : Str) ++ Txt.join (" ; " : Str) (txB b :: txsL r) ++ (" )" : Str)
def txsL : List Bx → List Str
  | [] => []
  | b :: r => txB b :: txsL r
end
theorem txsL_map : ∀ l : List Bx, txsL l = l.map txB
  | [] => rfl
  | b :: r => by rw [txsL, txsL_map, List.map_cons]
def pageT (l : List Bx) : Str := match l with
  | [] => "-"
  | b :: r => Txt.join (" ; " : Str) ((b :: r).map txB)
theorem txB_nil (n : Str) (o u : Int) : txB (.mk n o u []) = hdB n o u := by rw [txB]
theorem txB_cons (n : Str) (o u : Int) (b : Bx) (r : List Bx) : txB (.mk n o u (b :: r)) = hdB n o u ++ (" ( " : Str) ++ Txt.join (" ; " : Str) ((b :: r).map txB) ++ (" )" : Str) := by
  rw [txB, List.map_cons, txsL_map]

end AZ
namespace AZ
open PySem L2
/-! ## boxes in the heap -/
abbrev bxF (n : Str) (o u : Int) (ti tn : Addr) (b : Bx) : List (Str × V) := [("name", .str n), ("offset", .int o), ("units", .int u), ("inner", .ref ti), ("names_inside", .ref tn), ("told", .str (txB b))]
mutual
def IsBx (C : Addr) (H : Hp) (v : V) : Bx → Prop
  | .mk n o u l => ∃ a dx ti tn xs, v = .ref a ∧ H a = some (.ins C dx (bxF n o u ti tn (.mk n o u l))) ∧ H ti = some (.tup xs) ∧ H tn = some (.tup ((namesB (.mk n o u l)).map V.str)) ∧ IsBs C H xs l
def IsBs (C : Addr) (H : Hp) (xs : List V) : List Bx → Prop
  | [] => xs = []
  | b :: l => ∃ x ys, xs = x :: ys ∧ IsBx C H x b ∧ IsBs C H ys l
end
theorem isBs_pd {C : Addr} {H : Hp} : ∀ {l : List Bx} {xs : List V}, IsBs C H xs l ↔ Paired (IsBx C H) xs l
  | [], xs => by
    rw [IsBs]
    constructor
    · rintro rfl; exact .nil
    · intro h; cases h; rfl
  | b :: l, xs => by
    rw [IsBs]
    constructor
    · rintro ⟨x, ys, rfl, h1, h2⟩; exact .cons h1 (isBs_pd.mp h2)
    · intro h; cases h with | cons a r => exact ⟨_, _, rfl, a, isBs_pd.mpr r⟩
mutual
theorem IsBx.mono {C : Addr} {H H' : Hp} (ei : ∀ a dx fs, H a = some (.ins C dx fs) → fs.length = 6 → H' a = some (.ins C dx fs)) (et : ∀ a xs, H a = some (.tup xs) → H' a = some (.tup xs)) : ∀ {b : Bx} {v : V}, IsBx C H v b → IsBx C H' v b
  | .mk n o u l, v, h => by
    rw [IsBx] at h ⊢
    obtain ⟨a, dx, ti, tn, xs, e, h1, h2, h3, h4⟩ := h
    exact ⟨a, dx, ti, tn, xs, e, ei _ _ _ h1 rfl, et _ _ h2, et _ _ h3, IsBs.mono ei et h4⟩
theorem IsBs.mono {C : Addr} {H H' : Hp} (ei : ∀ a dx fs, H a = some (.ins C dx fs) → fs.length = 6 → H' a = some (.ins C dx fs)) (et : ∀ a xs, H a = some (.tup xs) → H' a = some (.tup xs)) : ∀ {l : List Bx} {xs : List V}, IsBs C H xs l → IsBs C H' xs l
  | [], xs, h => by rw [IsBs] at h ⊢; exact h
  | b :: l, xs, h => by
    rw [IsBs] at h ⊢
    obtain ⟨x, ys, e, h1, h2⟩ := h
    exact ⟨x, ys, e, IsBx.mono ei et h1, IsBs.mono ei et h2⟩
end
section
variable {C p : Addr} {H H' : Hp} {b : Bx} {l : List Bx} {v : V} {xs : List V}
theorem IsBx.same (h : IsBx C H v b) (e : Same H H') : IsBx C H' v b := h.mono (fun _ _ _ q _ => e _ _ q) fun _ _ q => e _ _ q
theorem IsBs.same (h : IsBs C H xs l) (e : Same H H') : IsBs C H' xs l := h.mono (fun _ _ _ q _ => e _ _ q) fun _ _ q => e _ _ q
theorem IsBx.up (h : IsBx C H v b) (e : Up p H H') : IsBx C H' v b := h.mono (fun _ _ _ q _ => e.ins q) fun _ _ q => e.tup q
theorem IsBs.up (h : IsBs C H xs l) (e : Up p H H') : IsBs C H' xs l := h.mono (fun _ _ _ q _ => e.ins q) fun _ _ q => e.tup q
theorem IsBs.len (h : IsBs C H xs l) : xs.length = l.length := pd_len (isBs_pd.mp h)
end
/-! in bounds -/
mutual
def WfB (k : Nat) : Bx → Prop
  | .mk n o u l => isNm n = true ∧ 0 ≤ u ∧ o.natAbs < 2 ^ k ∧ u.natAbs < 2 ^ k ∧ WfL k l
def WfL (k : Nat) : List Bx → Prop
  | [] => True
  | b :: l => WfB k b ∧ WfL k l
end
theorem wfL_all {k : Nat} : ∀ {l : List Bx}, WfL k l ↔ ∀ b ∈ l, WfB k b
  | [] => by rw [WfL]; simp
  | b :: l => by rw [WfL, wfL_all]; simp
theorem isNm_len {x : Str} (h : isNm x = true) : x.length ≤ 8 := by
  unfold isNm at h
  exact of_decide_eq_true (Bool.and_eq_true_iff.mp h).1
theorem slen (a b : Str) : (a ++ b).length = a.length + b.length := by
  cases a with | mk a => cases b with | mk b =>
  show (a ++ b).size = a.size + b.size
  exact Array.size_append
theorem itx_len {i : Int} {k : Nat} (h : i.natAbs < 2 ^ k) (hk : k ≤ 1900) : (toString i : Str).length ≤ 1921 ∧ i.natAbs.log2 < 1920 := by
  have b : i.natAbs < 2 ^ 1900 := Nat.lt_of_lt_of_le h (Nat.pow_le_pow_right (by decide) hk)
  have l : i.natAbs.log2 < 1920 := by
    by_cases z : i.natAbs = 0
    · rw [z]; decide
    · exact Nat.lt_of_lt_of_le ((Nat.log2_lt z).mpr b) (by decide)
  exact ⟨PyProof.Rows.int_text_len_1921 l, l⟩

end AZ
namespace AZ
open PySem L2
/-! ## names and texts of boxes -/
def spNamesOf (C : Addr) : Sp := fun vs H Q _ => ∃ (a : Addr) (xs : List V) (l : List Bx), vs = [.ref a] ∧ H a = some (.tup xs) ∧ IsBs C H xs l ∧ (namesL l).length ≤ 1000 ∧ ∀ p H', Same H H' → TupF H' p ((namesL l).map V.str) → Q (.ref p) H'
def spBxStr (C : Addr) : Sp := fun vs H Q _ => ∃ (a : Addr) (b : Bx), vs = [.ref a] ∧ IsBx C H (.ref a) b ∧ (txB b).length ≤ 1000000 ∧ Q (.str (txB b)) H
def joinB (l : List Bx) : Str := Txt.join (" ; " : Str) (l.map txB)
def spTexts (C : Addr) : Sp := fun vs H Q _ => ∃ (a : Addr) (xs : List V) (l : List Bx), vs = [.ref a] ∧ H a = some (.tup xs) ∧ IsBs C H xs l ∧ l.length ≤ 1000 ∧ (∀ b ∈ l, (txB b).length ≤ 1000000) ∧ (joinB l).length ≤ 1000000 ∧ ∀ H', Same H H' → Q (.str (joinB l)) H'
theorem join_step (s x y : Str) (r : List Str) : Txt.join s (x :: y :: r) = x ++ s ++ Txt.join s (y :: r) := by
  show Builtin.Str.glued s (x :: y :: r) = x ++ s ++ Builtin.Str.glued s (y :: r)
  rw [StrLaws.glued_eq_join, StrLaws.glued_eq_join]
  rfl
theorem join_one (s x : Str) : Txt.join s [x] = x := by
  show Builtin.Str.glued s [x] = x
  rw [StrLaws.glued_eq_join]
  rfl
theorem join_len (s : Str) : ∀ l : List Str, (l.map fun x => x.length).sum + l.length * s.length ≤ (Txt.join s l).length + s.length
  | [] => by simp
  | [x] => by
    rw [join_one]
    simp
  | x :: y :: r => by
    have ih := join_len s (y :: r)
    rw [join_step, slen, slen]
    simp only [List.map_cons, List.sum_cons, List.length_cons, Nat.succ_mul] at ih ⊢
    omega
theorem yes_then {σ : L2.St} {H : Hp} {A B : Hp → Prop} (h : A H) : tYes σ H (fun b H3 => if b = true then A H3 else B H3) := by
  show if true = true then A H else B H
  rw [if_pos rfl]; exact h
theorem namesL_one (b : Bx) : namesL [b] = namesB b := by
  rw [namesL]
  show namesB b ++ namesL [] = namesB b
  rw [namesL, List.append_nil]
theorem namesL_take_len (l : List Bx) (i : Nat) : (namesL (l.take i)).length ≤ (namesL l).length := by
  have := congrArg List.length (namesL_app (a := l.take i) (b := l.drop i))
  rw [List.take_append_drop, List.length_append] at this
  omega
section
variable {P : Program} {w : World} {K : PySem.W.Frag} {mg : Str → Option Value} {base : Heap} {d : Ad}
theorem G_names_of (T : Tx K mg d) : FnR P w K mg base CX0 1 d.names_of (spNamesOf d.Box) := by
  obtain ⟨fd, F⟩ := T.F_names_of
  refine FnR.imp (FnOk.raw (F.ok sc_names_of (k := 0) (sp := spNamesOf d.Box) (fun vs H Q E h => ?_) (fun cdv A outer s H vs Q E hr h => ?_)) (F.binds fun _ _ _ _ _ _ us hl => match us, hl with | [_], _ => rfl) .nil) fun vs H Q E h => by rw [List.append_nil]; exact h
  · obtain ⟨a, xs, l, rfl, _⟩ := h
    rfl
  · obtain ⟨a, xs, l, rfl, ha, hb, hl, k⟩ := h
    -- slots: 0 boxes, 1 box, 2 name
    refine ⟨_, (pss_one (ps_ret (pe_callTy call_tupleF (by rfl) T.n_tuple (by decide +kernel) (pa_cons (pe_lc2 (own := [("box", 1), ("name", 2)]) (vs1 := [2]) (g := gName 1) (g1 := gName 2) (by rfl) sc_names_of.nd (pi_tup (pv 0)) (blkOk_by (own := [("box", 1), ("name", 2)]) (N := ["boxes", "box", "name"]) (sc := defScope s_names_of) (by decide +kernel)) (by decide) (fun _ _ _ _ _ => pg_name (i := 1) sc_names_of.nd rfl (Or.inl rfl)) (fun _ _ _ _ _ => pts_nil) (fun _ _ _ _ _ => pi_tupK (K:=K) rfl (pe_fldK (K := K) rfl (pv 1) rfl)) (fun _ _ _ _ _ => pg_name (i := 2) sc_names_of.nd rfl (Or.inl rfl)) (fun _ _ _ _ _ => pts_nil) (fun _ _ _ _ _ => (pv 2))) pa_nil)))), ?_⟩
    have ln := hb.len
    have fin : ∀ (D : Addr) (H' : Hp), Same H H' → H' D = some (.lst ((namesL l).map V.str)) → rTupF K [V.ref D] H' Q := fun D H' e hD => ⟨D, _, rfl, SqL.of hD, fun t o ht hc hn => k t _ (e.trans (sameNew ht)) ⟨o, upd_same, hc, hn⟩⟩
    refine ⟨_, rfl, a, rfl, ⟨xs, SqT.of ha⟩, fun D hD => ⟨fun i m H' => m = l.length - i ∧ i ≤ l.length ∧ Same H H' ∧ H' D = some (.lst ((namesL (l.take i)).map V.str)), ⟨_, rfl, Nat.zero_le _, sameNew hD, by rw [List.take_zero]; exact upd_same⟩, ?_⟩⟩
    rintro i m H' ⟨rfl, hi, e, hd⟩
    by_cases hlt : i < l.length
    · obtain ⟨x, hx⟩ : ∃ x, xs[i]? = some x := ⟨_, List.getElem?_eq_getElem (by omega)⟩
      obtain ⟨b, hbi, hxb⟩ := pd_at (isBs_pd.mp hb) hx
      have hxb' := hxb
      cases b with | mk n o u inn =>
      rw [IsBx] at hxb
      obtain ⟨bx, dx, ti, tn, xs2, rfl, hi1, _, hn1, _⟩ := hxb
      generalize eb : Bx.mk n o u inn = b at *
      refine .inr ⟨⟨xs, _, SqT.of (e _ _ ha), hx⟩, fun H2 => (∃ m' < l.length - i, m' = l.length - (i + 1) ∧ (i + 1) ≤ l.length ∧ Same H H2 ∧ H2 D = some (.lst ((namesL (l.take (i + 1))).map V.str))), fun H2 q => (by obtain ⟨m', q1, q2⟩ := q; exact ⟨m', q1, q2⟩), fun y H2 hy => ?_⟩
      obtain ⟨rfl, hy⟩ := hy
      have hy := Option.some.inj ((hy xs (SqT.of (e _ _ ha))).symm.trans hx)
      subst hy
      refine ⟨rfl, yes_then ?_⟩
      refine ⟨_, rfl, bx, d.Box, dx, _, _, rfl, e _ _ hi1, T.c_Box, T.a_Box_names_inside, rfl, tn, rfl, ⟨_, SqT.of (e _ _ hn1)⟩, fun j k' H3 => k' = (namesB b).length - j ∧ j ≤ (namesB b).length ∧ Same H H3 ∧ H3 D = some (.lst ((namesL (l.take i) ++ (namesB b).take j).map V.str)), ⟨_, rfl, Nat.zero_le _, e, by rw [List.take_zero, List.append_nil]; exact hd⟩, ?_⟩
      rintro j k' H3 ⟨rfl, hj, e3, hd3⟩
      have tk : namesL (l.take (i + 1)) = namesL (l.take i) ++ namesB b := by rw [take_at hbi, namesL_app, namesL_one]
      have tn3 := SqT.of (K := K) (e3 _ _ hn1)
      by_cases hjl : j < (namesB b).length
      · refine .inr ⟨⟨_, .str (namesB b)[j], tn3, by rw [List.getElem?_map, List.getElem?_eq_getElem hjl]; rfl⟩, fun H4 => (∃ m' < (namesB b).length - j, m' = (namesB b).length - (j + 1) ∧ j + 1 ≤ (namesB b).length ∧ Same H H4 ∧ H4 D = some (.lst ((namesL (l.take i) ++ (namesB b).take (j + 1)).map V.str))), fun H4 q => (by obtain ⟨m', q1, q2⟩ := q; exact ⟨m', q1, q2⟩), fun y H4 hy => ?_⟩
        obtain ⟨rfl, hy⟩ := hy
        have hy := hy _ tn3
        rw [List.getElem?_map, List.getElem?_eq_getElem hjl] at hy
        injection hy with hy
        subst hy
        refine ⟨rfl, yes_then ⟨_, rfl, _, hd3, ?_, _, ?_, rfl, hjl, same_at e3 hD, ?_⟩⟩
        · have : (namesL (l.take i)).length + (namesB b).length ≤ (namesL l).length := by
            rw [← List.length_append, ← tk]
            exact namesL_take_len l (i + 1)
          rw [List.length_map, List.length_append, List.length_take]
          exact Nat.lt_of_le_of_lt (by omega : _ ≤ 1000) (by decide)
        · omega
        · rw [upd_same, take_at (List.getElem?_eq_getElem hjl), ← List.append_assoc, List.map_append (l₂ := [_])]
          rfl
      · have ej : j = (namesB b).length := by omega
        subst ej
        refine .inl ⟨⟨_, tn3, by rw [List.length_map]; exact Nat.le_refl _⟩, _, (by omega), rfl, hlt, e3, ?_⟩
        rw [tk, List.take_of_length_le (Nat.le_refl _)] at *
        exact hd3
    · have ei : i = l.length := by omega
      subst ei
      rw [List.take_of_length_le (Nat.le_refl _)] at hd
      exact .inl ⟨⟨xs, SqT.of (e _ _ ha), by rw [ln]; exact Nat.le_refl _⟩, fin D H' e hd⟩
theorem G_Box___str__ (T : Tx K mg d) : FnR P w K mg base CX0 1 d.Box___str__ (spBxStr d.Box) := by
  obtain ⟨fd, F⟩ := T.F_Box___str__
  refine FnR.imp (FnOk.raw (F.ok sc_Box___str__ (k := 0) (sp := spBxStr d.Box) (fun vs H Q E h => ?_) (fun cdv A outer s H vs Q E hr h => ?_)) (F.binds fun _ _ _ _ _ _ us hl => match us, hl with | [_], _ => rfl) .nil) fun vs H Q E h => by rw [List.append_nil]; exact h
  · obtain ⟨a, b, rfl, _⟩ := h
    rfl
  · obtain ⟨a, b, rfl, hb, hl, k⟩ := h
    -- slots: 0 self
    refine ⟨_, (pss_one (ps_ret (pe_callTy uStrS (by rfl) T.n_str (by decide +kernel) (pa_cons (pe_fld (pv 0) rfl) pa_nil)))), ?_⟩
    cases b with | mk n o u inn =>
    rw [IsBx] at hb
    obtain ⟨bx, dx, ti, tn, xs2, eb, hi1, _⟩ := hb
    injection eb with eb
    subst eb
    exact ⟨_, rfl, a, d.Box, dx, _, _, rfl, hi1, T.c_Box, T.a_Box_told, rfl, Or.inr ⟨_, rfl, k⟩⟩
theorem G_boxes_text (T : Tx K mg d) : FnR P w K mg base CX0 4 d.boxes_text (spTexts d.Box) := by
  have G_Box___str__ := G_Box___str__ (P := P) (w := w) (base := base) T
  obtain ⟨fd, F⟩ := T.F_boxes_text
  refine FnR.imp (FnOk.raw (F.ok sc_boxes_text (k := 3) (sp := spTexts d.Box) (fun vs H Q E h => ?_) (fun cdv A outer s H vs Q E hr h => ?_)) (F.binds fun _ _ _ _ _ _ us hl => match us, hl with | [_], _ => rfl) .nil) fun vs H Q E h => by rw [List.append_nil]; exact h
  · obtain ⟨a, xs, l, rfl, _⟩ := h
    rfl
  · obtain ⟨a, xs, l, rfl, ha, hb, hn, hl, hj, k⟩ := h
    -- slots: 0 boxes, 1 box
    refine ⟨_, (pss_one (ps_ret (pe_join pe_str (pe_lc (own := [("box", 1)]) (g := gName 1) (by rfl) sc_boxes_text.nd (pi_tup (pv 0)) (blkOk_by (own := [("box", 1)]) (N := ["boxes", "box"]) (sc := defScope s_boxes_text) (by decide +kernel)) (fun _ _ _ _ _ => pg_name (i := 1) sc_boxes_text.nd rfl (Or.inl rfl)) (fun _ _ _ _ _ => pts_nil) (fun _ _ _ _ _ => (pe_callTy (uStrF T.t_Box G_Box___str__ (hr.mono (by decide)) pass0) (by rfl) T.n_str (by decide +kernel) (pa_cons (pv 1) pa_nil))))))), ?_⟩
    have ln := hb.len
    refine ⟨⟨_, rfl⟩, _, rfl, a, rfl, ⟨xs, SqT.of ha⟩, fun D hD => ?_⟩
    refine lc_tup (xs := xs) (fun i H' => Same H H' ∧ H' D = some (.lst ((l.take i).map fun b => V.str (txB b)))) ⟨sameNew hD, upd_same⟩ (fun i H' _ g => SqT.of (g.1 _ _ ha)) (fun i x H' hx g => ?_) (fun H' g => ?_)
    · obtain ⟨e, hd⟩ := g
      obtain ⟨b, hbi, hxb⟩ := pd_at (isBs_pd.mp hb) hx
      refine ⟨rfl, yes_then ?_⟩
      have hxb' := hxb.same e
      have hxc := hxb
      cases b with | mk n o u inn =>
      rw [IsBx] at hxc
      obtain ⟨bx, dx, ti, tn, xs2, rfl, hi1, _⟩ := hxc
      refine ⟨_, rfl, bx, dx, _, rfl, e _ _ hi1, bx, _, rfl, hxb', hl _ (List.mem_of_getElem? hbi), _, rfl, _, hd, ?_, same_at e hD, ?_⟩
      · rw [List.length_map, List.length_take]
        exact Nat.lt_of_le_of_lt (by omega : _ ≤ 1000) (by decide)
      · rw [upd_same, take_at hbi, List.map_append]
        rfl
    · obtain ⟨e, hd⟩ := g
      rw [ln, List.take_of_length_le (Nat.le_refl _)] at hd
      refine ⟨_, _, l.map txB, rfl, rfl, Or.inl (SqL.of (by rw [hd, List.map_map]; rfl)), ?_, k H' e⟩
      have := join_len (" ; " : Str) (l.map txB)
      rw [List.length_map] at this ⊢
      have h3 : ((" ; " : Str)).length = 3 := by decide +kernel
      have hj : (Txt.join (" ; " : Str) (l.map txB)).length ≤ 1000000 := hj
      omega
end

end AZ
namespace AZ
open PySem L2
/-! ## bounds of texts -/
def lensL (l : List Bx) : Nat := (l.map fun b => (txB b).length).sum
theorem join_le (s : Str) (l : List Str) : (Txt.join s l).length ≤ (l.map (·.length)).sum + l.length * s.length := by
  show (Builtin.Str.glued s l).length ≤ _
  rw [StrLaws.glued_eq_join]
  exact StrLaws.join_length_le s l
theorem hdB_len {n : Str} {o u : Int} (hn : isNm n = true) (ho : o.natAbs < 2 ^ 1000) (hu : u.natAbs < 2 ^ 1000) : (hdB n o u).length ≤ 3860 := by
  have h1 := isNm_len hn
  have h2 := (itx_len ho (by decide)).1
  have h3 := (itx_len hu (by decide)).1
  unfold hdB
  have h4 : ((" " : Str)).length = 1 := by decide +kernel
  rw [slen, slen, slen, slen]
  omega
mutual
theorem txB_len : ∀ {b : Bx}, WfB 1000 b → (txB b).length + 3 ≤ 4000 * (namesB b).length
  | .mk n o u [], h => by
    rw [WfB] at h
    obtain ⟨h1, h2, h3, h4, h5⟩ := h
    have := hdB_len h1 h3 h4
    rw [txB_nil, namesB, namesL, List.length_cons]
    simp only [List.length_nil]
    omega
  | .mk n o u (b :: r), h => by
    rw [WfB] at h
    obtain ⟨h1, h2, h3, h4, h5⟩ := h
    have h6 := hdB_len h1 h3 h4
    have h7 := txL_len h5
    rw [txB_cons, namesB, List.length_cons, slen, slen, slen]
    have h8 : ((" ( " : Str)).length = 3 := by decide +kernel
    have h9 : ((" )" : Str)).length = 2 := by decide +kernel
    have h10 := join_le (" ; " : Str) ((b :: r).map txB)
    rw [List.length_map, List.map_map] at h10
    have h11 : ((" ; " : Str)).length = 3 := by decide +kernel
    have h12 : (((b :: r).map ((fun x => x.length) ∘ txB)).sum) = lensL (b :: r) := rfl
    rw [h11, h12] at h10
    omega
theorem txL_len : ∀ {l : List Bx}, WfL 1000 l → lensL l + l.length * 3 ≤ 4000 * (namesL l).length
  | [], _ => by simp [lensL]
  | b :: r, h => by
    rw [WfL] at h
    have h1 := txB_len h.1
    have h2 := txL_len h.2
    rw [namesL, List.length_append, List.length_cons]
    have : lensL (b :: r) = (txB b).length + lensL r := rfl
    omega
end
/-- a box as a page may hold it -/
def OkB (b : Bx) : Prop := WfB 1000 b ∧ (namesB b).Nodup ∧ (namesB b).length ≤ 100
def OkL (l : List Bx) : Prop := WfL 1000 l ∧ (namesL l).Nodup ∧ (namesL l).length ≤ 100
theorem OkB.inn {n : Str} {o u : Int} {l : List Bx} (h : OkB (.mk n o u l)) : OkL l := by
  obtain ⟨h1, h2, h3⟩ := h
  rw [WfB] at h1
  rw [namesB] at h2 h3
  rw [List.length_cons] at h3
  exact ⟨h1.2.2.2.2, (List.nodup_cons.mp h2).2, by omega⟩
theorem namesB_pos (b : Bx) : 1 ≤ (namesB b).length := by
  cases b with | mk n o u l =>
  rw [namesB, List.length_cons]
  omega
theorem OkL.len : ∀ {l : List Bx}, OkL l → l.length ≤ 100 := by
  intro l h
  have : ∀ l : List Bx, l.length ≤ (namesL l).length := fun l => by
    induction l with
    | nil => exact Nat.zero_le _
    | cons b r ih =>
      have := namesB_pos b
      rw [namesL, List.length_append, List.length_cons]
      omega
  exact Nat.le_trans (this l) h.2.2
theorem OkL.mem {l : List Bx} (h : OkL l) {b : Bx} (hb : b ∈ l) : OkB b := by
  obtain ⟨i, hi⟩ := List.getElem?_of_mem hb
  have hl := (List.getElem?_eq_some_iff.mp hi).1
  have e : namesL l = namesL (l.take i) ++ (namesB b ++ namesL (l.drop (i + 1))) := by
    rw [← namesL_one b, ← namesL_app, ← namesL_app]
    congr 1
    rw [← List.append_assoc, ← take_at hi, List.take_append_drop]
  have nd := h.2.1
  rw [e] at nd
  have nd2 := (List.nodup_append.mp (List.nodup_append.mp nd).2.1).1
  have hn := h.2.2
  rw [e, List.length_append, List.length_append] at hn
  exact ⟨wfL_all.mp h.1 b hb, nd2, by omega⟩
theorem OkB.txt {b : Bx} (h : OkB b) : (txB b).length ≤ 400000 := by
  have := txB_len h.1
  have := h.2.2
  omega
theorem OkL.txt {l : List Bx} (h : OkL l) : (joinB l).length ≤ 400000 := by
  have h1 := txL_len h.1
  have h2 := h.2.2
  have h3 := join_le (" ; " : Str) (l.map txB)
  rw [List.length_map, List.map_map] at h3
  have h11 : ((" ; " : Str)).length = 3 := by decide +kernel
  have h12 : ((l.map ((fun x => x.length) ∘ txB)).sum) = lensL l := rfl
  rw [h11, h12] at h3
  unfold joinB
  omega
/-! ## a box is made -/
def spBxI (C : Addr) (K : PySem.W.Frag) : Sp := fun vs H Q _ => ∃ (p dx : Addr) (n : Str) (o u : Int) (t : Addr) (xs : List V) (l : List Bx), vs = [.ref p, .str n, .int o, .int u, .ref t] ∧ H p = some (.ins C dx []) ∧ H t = some (.tup xs) ∧ IsBs C H xs l ∧ OkB (.mk n o u l) ∧
  ∀ H', (∀ x v, H x = some v → x ≠ p → H' x = some v) → IsBx C H' (.ref p) (.mk n o u l) → Q .non H'
section
variable {P : Program} {w : World} {K : PySem.W.Frag} {mg : Str → Option Value} {base : Heap} {d : Ad}
open PyProof.Rows in
theorem body_Box___init__ (T : Tx K mg d) (cdv : Value) (A : Around) (outer : List Env) (s : Shared) (H : Hp) (vs : List V) (Q : VK) (E : XK) (hr : Room 5 (A.deeper (envOfC "Box.__init__" (defScope s_Box___init__) s.heap.objs.size d.Box___init__ cdv))) (h : spBxI d.Box K vs H Q E) :
    ∃ t, PSs (cxOf CX0 P w K mg base ["self", "name", "offset", "units", "inner", "box", "names"] "Box.__init__" (defScope s_Box___init__) d.Box___init__ cdv A outer s H E).nox (defBody s_Box___init__) t ∧ t { nx := fun _ H' => Q .non H', rt := Q } (L2.start ["self", "name", "offset", "units", "inner", "box", "names"] vs) H := by
  have G_is_name := G_is_name (P := P) (w := w) (base := base) T
  have G_is_integer := G_is_integer (P := P) (w := w) (base := base) T
  have G_names_of := G_names_of (P := P) (w := w) (base := base) T
  have G_check_unlike := G_check_unlike (P := P) (w := w) (base := base) T
  have G_boxes_text := G_boxes_text (P := P) (w := w) (base := base) T
  · obtain ⟨p, dx, n, o, u, t, xs, l, rfl, hp, ht, hb, ok, k⟩ := h
    -- slots: 0 self, 1 name, 2 offset, 3 units, 4 inner, 5 box, 6 names
    refine ⟨_, (pss_cons (ps_if (pt_not (pt_val (pe_fnR G_is_name (hr.mono (by decide)) T.k_is_name T.m_is_name pass0 (pa_cons (pv 1) pa_nil)))) pss_never pss_nil)
      (pss_cons (ps_if (pt_not (pt_val (pe_fnR G_is_integer (hr.mono (by decide)) T.k_is_integer T.m_is_integer pass0 (pa_cons (pv 2) pa_nil)))) pss_never pss_nil)
      (pss_cons (ps_if (PW.pt (pw_or (pt_not (pt_val (pe_fnR G_is_integer (hr.mono (by decide)) T.k_is_integer T.m_is_integer pass0 (pa_cons (pv 3) pa_nil)))) (pw_or1 (pt_cmpR uLt (pv 3) pe_int (nomark _))))) pss_never pss_nil)
      (pss_cons (ps_for PassesOwn.never rfl (pi_tup (pv 4)) (pg_name (i := 5) sc_Box___init__.nd rfl (Or.inl rfl)) (pss_one (ps_if (pt_not (pt_val (pe_callB uIsi (by rfl) T.n_isinstance (by decide +kernel) (pa_cons (pv 5) (pa_cons (pe_glob (v := .ref _) rfl T.m_Box rfl) pa_nil))))) pss_never pss_nil)))
      (pss_cons (ps_set (i := 6) sc_Box___init__.nd rfl (Or.inl rfl) (pe_op (op_catT) (pe_tup (pa_cons (pv 1) pa_nil)) (pe_fnR G_names_of (hr.mono (by decide)) T.k_names_of T.m_names_of pass0 (pa_cons (pv 4) pa_nil))))
      (pss_cons (ps_expr (pe_fnR G_check_unlike (hr.mono (by decide)) T.k_check_unlike T.m_check_unlike pass0 (pa_cons (pv 6) pa_nil)))
      (pss_cons (ps_fld (pv 0) (pv 1) rfl)
      (pss_cons (ps_fld (pv 0) (pv 2) rfl)
      (pss_cons (ps_fld (pv 0) (pv 3) rfl)
      (pss_cons (ps_fld (pv 0) (pv 4) rfl)
      (pss_cons (ps_fld (pv 0) (pv 6) rfl)
      (pss_cons (ps_fld (pv 0) (pe_joined (PJ.cons (pe_fmtU (pv 1)) (PJ.cons pe_str (PJ.cons (pe_fmtU (pv 2)) (PJ.cons pe_str (PJ.cons (pe_fmtU (pv 3)) PJ.nil)))))) rfl)
      (pss_one (ps_if (pt_truth (pv 4) (by intro _; rfl)) (pss_one (ps_fld (pv 0) (pe_joined (PJ.cons (pe_fmtU (pe_fld (pv 0) rfl)) (PJ.cons pe_str (PJ.cons (pe_fmtU (pe_fnR G_boxes_text (hr.mono (by decide)) T.k_boxes_text T.m_boxes_text pass0 (pa_cons (pv 4) pa_nil))) (PJ.cons pe_str PJ.nil))))) rfl)) pss_nil)))))))))))))), ?_⟩
    have okw := ok.1
    rw [WfB] at okw
    obtain ⟨wn, wu, wo, wuu, wl⟩ := okw
    have oi := ok.inn
    have ll := hb.len
    have okl : (namesL l).length ≤ 100 := oi.2.2
    refine ⟨_, rfl, n, rfl, Nat.le_trans (isNm_len wn) (by decide), fun Ha ea => ⟨_, rfl, ?_⟩⟩
    rw [wn]
    refine iteF ⟨_, rfl, _, true, rfl, isI_int T, _, rfl, iteF ⟨_, rfl, _, true, rfl, isI_int T, _, rfl, iteF ⟨_, rfl, Or.inl ⟨_, _, rfl, rfl, _, rfl, ?_⟩⟩⟩⟩
    rw [decide_eq_false (by omega)]
    refine iteF ⟨_, rfl, t, rfl, ⟨xs, SqT.of (ea _ _ ht)⟩, for_tup (xs := xs) (fun i σ' H' => ∃ z : Option V, σ' = [some (.ref p), some (.str n), some (.int o), some (.int u), some (.ref t), z, none] ∧ H' = Ha) ⟨_, rfl, rfl⟩ (fun i σ' H' _ g => by obtain ⟨_, _, rfl⟩ := g; exact SqT.of (ea _ _ ht)) (fun i y σ' H' hy g => ?_) (fun σ' H' g => ?_)⟩
    · obtain ⟨z, rfl, rfl⟩ := g
      obtain ⟨b, hbi, hxb⟩ := pd_at (isBs_pd.mp hb) hy
      cases b with | mk n2 o2 u2 inn =>
      rw [IsBx] at hxb
      obtain ⟨bx, dx2, ti, tn, xs2, rfl, hi1, _⟩ := hxb
      exact ⟨_, rfl, Or.inl ⟨_, _, _, _, true, rfl, .own _, T.y_Box.ty T.c_Box (ea _ _ hi1), T.i_Box_is_Box, _, rfl, iteF ⟨_, rfl, rfl⟩⟩⟩
    obtain ⟨z, rfl, rfl⟩ := g
    have fin : ∀ (tn : Addr) (H1 : Hp), Same H H1 → H1 tn = some (.tup ((namesB (.mk n o u l)).map V.str)) → (tSeq (tDrop fun σ H Q => tCons (tVar 6) tNil σ H fun vs H1 => spUnl K vs H1 Q E0) (tSeq (sFld K (tVar 0) (tVar 1) ("name")) (tSeq (sFld K (tVar 0) (tVar 2) ("offset")) (tSeq (sFld K (tVar 0) (tVar 3) ("units")) (tSeq (sFld K (tVar 0) (tVar 4) ("inner")) (tSeq (sFld K (tVar 0) (tVar 6) ("names_inside")) (tSeq (sFld K (tVar 0) (fun σ H_1 Q => tJs [tFmtU (cxOf CX0 P w K mg base ["self", "name", "offset", "units", "inner", "box", "names"] "Box.__init__" (defScope s_Box___init__) d.Box___init__ cdv A outer s H E).nox (tVar 1), tC (V.str (" ")), tFmtU (cxOf CX0 P w K mg base ["self", "name", "offset", "units", "inner", "box", "names"] "Box.__init__" (defScope s_Box___init__) d.Box___init__ cdv A outer s H E).nox (tVar 2), tC (V.str (" ")), tFmtU (cxOf CX0 P w K mg base ["self", "name", "offset", "units", "inner", "box", "names"] "Box.__init__" (defScope s_Box___init__) d.Box___init__ cdv A outer s H E).nox (tVar 3)] Str.empty σ H_1 fun out H1 => Q (V.str out) H1) ("told")) (tIfS (fun σ H_1 Q => tVar 4 σ H_1 fun x H' => ∃ k, TruV K x H' k ∧ Q k H') (sFld K (tVar 0) (fun σ H_1 Q => tJs [tFmtU (cxOf CX0 P w K mg base ["self", "name", "offset", "units", "inner", "box", "names"] "Box.__init__" (defScope s_Box___init__) d.Box___init__ cdv A outer s H E).nox (tFld K (tVar 0) ("told")), tC (V.str (" ( ")), tFmtU (cxOf CX0 P w K mg base ["self", "name", "offset", "units", "inner", "box", "names"] "Box.__init__" (defScope s_Box___init__) d.Box___init__ cdv A outer s H E).nox fun σ H Q => tCons (tVar 4) tNil σ H fun vs H1 => spTexts d.Box vs H1 Q E0, tC (V.str (" )"))] Str.empty σ H_1 fun out H1 => Q (V.str out) H1) ("told")) tNext)))))))) { nx := fun x H' => Q V.non H', rt := Q } [some (.ref p), some (.str n), some (.int o), some (.int u), some (.ref t), z, some (.ref tn)] H1 := fun tn H1 e1 htn => by
      have lz : ∀ a : Str, a.length ≤ 1000000 → a.length ≤ sizeLine := fun a h => Nat.le_trans h (by decide)
      have l1 : ((" " : Str)).length = 1 := by decide +kernel
      have l3 : ((" ( " : Str)).length = 3 := by decide +kernel
      have l2 : ((" )" : Str)).length = 2 := by decide +kernel
      have l0 : (Str.empty).length = 0 := by decide +kernel
      have n8 := isNm_len wn
      have io := itx_len wo (by decide)
      have iu := itx_len wuu (by decide)
      refine ⟨_, rfl, tn, _, rfl, SqT.of htn, ok.2.1, by have := ok.2.2; omega, fun H2 e2 => ?_⟩
      have e2 := e1.trans e2
      have hp2 := e2 _ _ hp
      have htn2 := ‹Same H1 H2› _ _ htn
      refine ⟨_, rfl, _, rfl, p, _, dx, _, rfl, hp2, T.c_Box, T.a_Box_name, (by decide), ?_⟩
      refine ⟨_, rfl, _, rfl, p, _, dx, _, rfl, upd_same, T.c_Box, T.a_Box_offset, (by show 1 < 1000; decide), ?_⟩
      rw [L2.upd_upd]
      refine ⟨_, rfl, _, rfl, p, _, dx, _, rfl, upd_same, T.c_Box, T.a_Box_units, (by show 2 < 1000; decide), ?_⟩
      rw [L2.upd_upd]
      refine ⟨_, rfl, _, rfl, p, _, dx, _, rfl, upd_same, T.c_Box, T.a_Box_inner, (by show 3 < 1000; decide), ?_⟩
      rw [L2.upd_upd]
      refine ⟨_, rfl, _, rfl, p, _, dx, _, rfl, upd_same, T.c_Box, T.a_Box_names_inside, (by show 4 < 1000; decide), ?_⟩
      rw [L2.upd_upd]
      refine ⟨_, rfl, Or.inl (Or.inl ⟨n, rfl, lz _ (by omega), _, rfl, lz _ (by rw [slen]; omega), _, rfl, lz _ (by rw [slen, slen]; omega), ?_⟩)⟩
      refine ⟨_, rfl, Or.inl (Or.inr ⟨o, rfl, io.2, _, rfl, lz _ (by rw [slen, slen, slen]; omega), _, rfl, lz _ (by rw [slen, slen, slen, slen]; omega), ?_⟩)⟩
      refine ⟨_, rfl, Or.inl (Or.inr ⟨u, rfl, iu.2, _, rfl, lz _ (by rw [slen, slen, slen, slen, slen]; omega), ?_⟩)⟩
      refine ⟨_, rfl, p, _, dx, _, rfl, upd_same, T.c_Box, T.a_Box_told, (by show 5 < 1000; decide), ?_⟩
      rw [L2.upd_upd]
      have hd1 : Str.empty ++ n ++ (" " : Str) ++ (toString o : Str) ++ (" " : Str) ++ (toString u : Str) = hdB n o u := by unfold hdB; rw [sNil]
      rw [hd1]
      have hdl := hdB_len wn wo wuu
      have tp : t ≠ p := fun z => by rw [z, hp] at ht; cases ht
      have tnp : tn ≠ p := fun z => by rw [z, hp2] at htn2; cases htn2
      have mon : ∀ H4 : Hp, (∀ x v, H x = some v → x ≠ p → H4 x = some v) → IsBs d.Box H4 xs l := fun H4 q => hb.mono (fun a dx2 fs h1 h2 => q _ _ h1 fun z => by rw [z, hp] at h1; injection h1 with h1; injection h1 with _ _ h1; subst h1; cases h2) (fun a ys h1 => q _ _ h1 fun z => by rw [z, hp] at h1; cases h1)
      have oth : ∀ (fs : List (Str × V)) (x : Addr) (v : HO), H x = some v → x ≠ p → upd H2 p (.ins d.Box dx fs) x = some v := fun fs x v e n => by rw [upd_ne n]; exact e2 _ _ e
      cases l with
      | nil =>
        refine ⟨_, rfl, false, Or.inr (Or.inl ⟨xs, SqT.of (oth _ _ _ ht tp), ?_⟩), iteF ?_⟩
        · cases xs with
          | nil => rfl
          | cons _ _ => cases ll
        · refine k _ (oth _) ?_
          rw [IsBx]
          exact ⟨p, dx, t, tn, xs, rfl, by rw [upd_same]; unfold bxF; rw [txB_nil]; rfl, oth _ _ _ ht tp, by rw [upd_ne tnp]; exact htn2, mon _ (oth _)⟩
      | cons b r =>
        have jl := oi.txt
        refine ⟨_, rfl, true, Or.inr (Or.inl ⟨xs, SqT.of (oth _ _ _ ht tp), ?_⟩), iteT ?_⟩
        · cases xs with
          | nil => cases ll
          | cons _ _ => rfl
        refine ⟨_, rfl, p, d.Box, dx, _, _, rfl, upd_same, T.c_Box, T.a_Box_told, rfl, Or.inl (Or.inl ⟨hdB n o u, rfl, lz _ (by omega), _, rfl, lz _ (by rw [slen]; omega), _, rfl, lz _ (by rw [slen, slen]; omega), ?_⟩)⟩
        refine ⟨_, rfl, t, xs, b :: r, rfl, oth _ _ _ ht tp, mon _ (oth _), Nat.le_trans oi.len (by decide), fun c hc => Nat.le_trans (oi.mem hc).txt (by decide), Nat.le_trans jl (by decide), fun H4 e4 => ?_⟩
        have oth4 : ∀ (fs : List (Str × V)) (x : Addr) (v : HO), H x = some v → x ≠ p → upd H4 p (.ins d.Box dx fs) x = some v := fun fs x v e n => by rw [upd_ne n]; exact e4 _ _ (oth _ x v e n)
        refine Or.inl (Or.inl ⟨joinB (b :: r), rfl, lz _ (by omega), _, rfl, lz _ (by rw [slen, slen, slen]; omega), _, rfl, lz _ (by rw [slen, slen, slen, slen]; omega), ?_⟩)
        refine ⟨_, rfl, p, _, dx, _, rfl, e4 _ _ upd_same, T.c_Box, T.a_Box_told, (by show 6 < 1000; decide), ?_⟩
        refine k _ (oth4 _) ?_
        rw [IsBx]
        refine ⟨p, dx, t, tn, xs, rfl, ?_, oth4 _ _ _ ht tp, by rw [upd_ne tnp]; exact e4 _ _ (by rw [upd_ne tnp]; exact htn2), mon _ (oth4 _)⟩
        rw [upd_same]
        unfold bxF
        rw [txB_cons, sNil]
        rfl
    dsimp only [Ends.nx]
    refine ⟨_, rfl, (by show 1 ≤ sizeLine; decide), fun t1 ht1 => ?_⟩
    have e3 : Same H (upd H' t1 (.tup [V.str n])) := ea.trans (sameNew ht1)
    refine ⟨_, rfl, t, xs, l, rfl, e3 _ _ ht, hb.same e3, by omega, fun pn H3 e4 hpn => ?_⟩
    have s1 := e4 _ _ (upd_same (H := H') (a := t1))
    refine ⟨t1, pn, _, _, rfl, rfl, SqT.of s1, hpn.sq, nofun, ?_, fun en => ?_, fun _ q hq => ?_⟩
    · rw [List.length_map]
      exact Nat.le_trans (show 1 + _ ≤ 101 by omega) (by decide)
    · refine fin t1 _ (e3.trans e4) ?_
      rw [namesB, List.map_cons, en]
      exact s1
    · refine fin q _ ((e3.trans e4).trans (sameNew hq)) ?_
      rw [upd_same, namesB]
      rfl
theorem G_Box___init__ (T : Tx K mg d) : FnR P w K mg base CX0 6 d.Box___init__ (fun vs H Q E => ∃ ws rest, vs = ws ++ rest ∧ ws.length = 4 ∧ rest.length ≤ sizeLine ∧ ∀ p, H p = Option.none → spBxI d.Box K (ws ++ [V.ref p]) (upd H p (.tup rest)) Q E) := by
  obtain ⟨fd, F⟩ := T.F_Box___init__
  refine Fun.okS F (ps := ["self", "name", "offset", "units"]) (pv := "inner") sc_Box___init__ (k := 5) (sp := spBxI d.Box K) (fun kV doc pm an cdv ct => bind_star4 (B := fun z => bindArgs (PySem.W.fnOf _ _ _ _ _ .none kV doc pm an cdv ct) ⟨z, []⟩) (fun _ _ _ _ => rfl) (fun _ _ _ _ _ _ => rfl)) (fun cdv A outer s H vs Q E hr h => ?_)
  exact body_Box___init__ T cdv A outer s H vs Q E hr h
end

end AZ
namespace AZ
open PySem L2
/-! ## boxes of boxes -/
mutual
def depB : Bx → Nat
  | .mk _ _ _ l => depL l + 1
def depL : List Bx → Nat
  | [] => 0
  | b :: r => max (depB b) (depL r)
end
theorem dep_mem : ∀ {l : List Bx} {b : Bx}, b ∈ l → depB b ≤ depL l
  | a :: r, b, h => by
    rw [depL]
    rcases List.mem_cons.mp h with rfl | h
    · exact Nat.le_max_left _ _
    · exact Nat.le_trans (dep_mem h) (Nat.le_max_right _ _)
abbrev spBoxI (C : Addr) (K : PySem.W.Frag) : Sp := fun vs H Q E => ∃ ws rest, vs = ws ++ rest ∧ ws.length = 4 ∧ rest.length ≤ sizeLine ∧ ∀ p, H p = Option.none → spBxI C K (ws ++ [V.ref p]) (upd H p (.tup rest)) Q E
/-- a box is made of three values and of boxes -/
theorem bx_make {C x dx : Addr} {K : PySem.W.Frag} {H : Hp} {n : Str} {o u : Int} {xs : List V} {l : List Bx} {W : VK} {E : XK} (nx : H x = none) (nd : H dx = none) (hb : IsBs C H xs l) (ok : OkB (.mk n o u l))
    (k : ∀ H', Same H H' → IsBx C H' (.ref x) (.mk n o u l) → W .non H') : spBoxI C K (.ref x :: .str n :: .int o :: .int u :: xs) (upd (upd H dx (.own x)) x (.ins C dx [])) W E := by
  have e1 : Same H (upd (upd H dx (.own x)) x (.ins C dx [])) := same_at (sameNew nd) nx
  refine ⟨[.ref x, .str n, .int o, .int u], xs, rfl, rfl, by rw [hb.len]; exact Nat.le_trans ok.inn.len (by decide), fun p hp => ?_⟩
  have px : x ≠ p := fun z => by rw [← z, upd_same] at hp; cases hp
  have pn : H p = none := by
    rw [upd_ne px.symm] at hp
    by_cases z : p = dx
    · rw [z]; exact nd
    · rwa [upd_ne z] at hp
  have e2 := same_at e1 pn (o := .tup xs)
  refine ⟨x, dx, n, o, u, p, xs, l, rfl, by rw [upd_ne px]; exact upd_same, upd_same, hb.same e2, ok, fun H' e h => k H' (fun y v hy => e y v (e2 _ _ hy) fun z => by rw [z, nx] at hy; cases hy) h⟩
def spWithInner (C : Addr) (K : PySem.W.Frag) : Sp := fun vs H Q _ => ∃ (a b : Addr) (n : Str) (o u : Int) (l0 : List Bx) (xs : List V) (l : List Bx), vs = [.ref a, .ref b] ∧ IsBx C H (.ref a) (.mk n o u l0) ∧ (SqT K H b xs ∨ SqL K H b xs) ∧ IsBs C H xs l ∧ OkB (.mk n o u l) ∧
  ∀ x H', Same H H' → IsBx C H' (.ref x) (.mk n o u l) → Q (.ref x) H'
def spOut (C : Addr) (m : Nat) : Sp := fun vs H Q _ => ∃ (a : Addr) (x : Str) (xs : List V) (l : List Bx), vs = [.ref a, .str x] ∧ H a = some (.tup xs) ∧ IsBs C H xs l ∧ OkL l ∧ depL l < m ∧
  ∀ p H' ys, Same H H' → H' p = some (.lst ys) → IsBs C H' ys (outL x l) → Q (.ref p) H'
def spPut (C : Addr) (m : Nat) : Sp := fun vs H Q _ => ∃ (a : Addr) (mv : V) (mb : Bx) (x : Str) (xs : List V) (l : List Bx), vs = [.ref a, mv, .str x] ∧ H a = some (.tup xs) ∧ IsBs C H xs l ∧ IsBx C H mv mb ∧ OkL (putL x mb l) ∧ (namesL l).Nodup ∧ depL l < m ∧
  ∀ p H' ys, Same H H' → H' p = some (.lst ys) → IsBs C H' ys (putL x mb l) → Q (.ref p) H'
def spScl (C : Addr) (m : Nat) : Sp := fun vs H Q _ => ∃ (a : Addr) (k : Int) (xs : List V) (l : List Bx), vs = [.ref a, .int k] ∧ H a = some (.tup xs) ∧ IsBs C H xs l ∧ OkL l ∧ k.natAbs < 2 ^ 1000 ∧ OkL (timL k l) ∧ depL l < m ∧
  ∀ p H' ys, Same H H' → H' p = some (.lst ys) → IsBs C H' ys (timL k l) → Q (.ref p) H'
section
variable {P : Program} {w : World} {K : PySem.W.Frag} {mg : Str → Option Value} {base : Heap} {d : Ad}
theorem G_with_inner (T : Tx K mg d) : FnR P w K mg base CX0 8 d.with_inner (spWithInner d.Box K) := by
  have G_Box___init__ := G_Box___init__ (P := P) (w := w) (base := base) T
  obtain ⟨fd, F⟩ := T.F_with_inner
  refine FnR.imp (FnOk.raw (F.ok sc_with_inner (k := 7) (sp := spWithInner d.Box K) (fun vs H Q E h => ?_) (fun cdv A outer s H vs Q E hr h => ?_)) (F.binds fun _ _ _ _ _ _ us hl => match us, hl with | [_, _], _ => rfl) .nil) fun vs H Q E h => by rw [List.append_nil]; exact h
  · obtain ⟨a, b, n, o, u, l0, xs, l, rfl, _⟩ := h
    rfl
  · obtain ⟨a, b, n, o, u, l0, xs, l, rfl, hx, hs, hb, ok, k⟩ := h
    -- slots: 0 box, 1 inner
    refine ⟨_, (pss_one (ps_ret (pe_makeS2 T.mk_Box G_Box___init__ (hr.mono (by decide)) rfl T.m_Box pass0 (pa_cons (pe_fld (pv 0) rfl) (pa_cons (pe_fld (pv 0) rfl) (pa_cons (pe_fld (pv 0) rfl) (StX.pa_star (pv 1) pa_nil))))))), ?_⟩
    rw [IsBx] at hx
    obtain ⟨a', dx, ti, tn, xs2, ea, hi, _⟩ := hx
    injection ea with ea
    subst ea
    refine ⟨_, rfl, a, d.Box, dx, _, _, rfl, hi, T.c_Box, T.a_Box_name, rfl, _, rfl, a, d.Box, dx, _, _, rfl, hi, T.c_Box, T.a_Box_offset, rfl, _, rfl, a, d.Box, dx, _, _, rfl, hi, T.c_Box, T.a_Box_units, rfl, _, rfl, b, xs, rfl, hs, fun x dx2 nx nd _ => ?_⟩
    rw [List.append_nil]
    exact bx_make nx nd hb ok fun H' e h => ⟨rfl, k x H' e h⟩
theorem inS {x : Str} : ∀ {ns : List Str}, inV (.str x) (ns.map V.str) = decide (x ∈ ns)
  | [] => by simp [inV]
  | y :: r => by
    show (y == x || inV (.str x) (r.map V.str)) = _
    rw [inS]
    by_cases h : x = y
    · subst h; simp
    · have h2 : (y == x) = false := by simp; exact fun z => h z.symm
      rw [h2]
      simp [h]
theorem flatS : ∀ ns : List Str, (ns.map V.str).all flatV = true
  | [] => rfl
  | y :: r => by
    show (true && (r.map V.str).all flatV) = true
    rw [flatS]; rfl
mutual
theorem wf_outB {x : Str} {k : Nat} : ∀ {b : Bx}, WfB k b → WfL k (outB x b)
  | .mk n o u l, h => by
    rw [WfB] at h
    rw [outB]
    by_cases e : n = x
    · rw [if_pos e, WfL]; trivial
    · rw [if_neg e, WfL, WfB, WfL]
      exact ⟨⟨h.1, h.2.1, h.2.2.1, h.2.2.2.1, wf_outL h.2.2.2.2⟩, trivial⟩
theorem wf_outL {x : Str} {k : Nat} : ∀ {l : List Bx}, WfL k l → WfL k (outL x l)
  | [], _ => by rw [outL, WfL]; trivial
  | b :: r, h => by
    rw [WfL] at h
    rw [outL, wfL_all]
    intro c hc
    rcases List.mem_append.mp hc with hc | hc
    · exact wfL_all.mp (wf_outB h.1) c hc
    · exact wfL_all.mp (wf_outL h.2) c hc
end
theorem OkL.out {x : Str} {l : List Bx} (h : OkL l) : OkL (outL x l) := ⟨wf_outL h.1, names_outL.nodup h.2.1, Nat.le_trans names_outL.length_le h.2.2⟩
theorem OkB.out {x n : Str} {o u : Int} {l : List Bx} (h : OkB (.mk n o u l)) : OkB (.mk n o u (outL x l)) := by
  have h1 := h.1
  have h2 := h.2
  rw [WfB] at h1
  rw [namesB, List.length_cons] at h2
  obtain ⟨q1, q2⟩ := List.nodup_cons.mp h2.1
  have hl := (names_outL (x := x) (l := l)).length_le
  refine ⟨by rw [WfB]; exact ⟨h1.1, h1.2.1, h1.2.2.1, h1.2.2.2.1, wf_outL h1.2.2.2.2⟩, by rw [namesB]; exact List.nodup_cons.mpr ⟨fun z => q1 (names_outL.subset z), names_outL.nodup q2⟩, by rw [namesB, List.length_cons]; omega⟩
theorem G_boxes_without (T : Tx K mg d) : ∀ m, FnR P w K mg base CX0 (m + 9) d.boxes_without (spOut d.Box m) := by
  intro m
  induction m with
  | zero =>
    intro A outer s H us vs Q E hr e0 r h
    obtain ⟨a, x, xs, l, _, _, _, _, dl, _⟩ := h
    exact absurd dl (Nat.not_lt_zero _)
  | succ m G_boxes_without =>
  have G_with_inner := G_with_inner (P := P) (w := w) (base := base) T
  obtain ⟨fd, F⟩ := T.F_boxes_without
  refine FnR.imp (FnOk.raw (F.ok sc_boxes_without (k := m + 9) (sp := spOut d.Box (m + 1)) (fun vs H Q E h => ?_) (fun cdv A outer s H vs Q E hr h => ?_)) (F.binds fun _ _ _ _ _ _ us hl => match us, hl with | [_, _], _ => rfl) .nil) fun vs H Q E h => by rw [List.append_nil]; exact h
  · obtain ⟨a, x, xs, l, rfl, _⟩ := h
    rfl
  · obtain ⟨a, x, xs, l, rfl, ha, hb, ok, dl, k⟩ := h
    -- slots: 0 boxes, 1 name, 2 kept, 3 box
    refine ⟨_, (pss_cons (ps_set (i := 2) sc_boxes_without.nd rfl (Or.inl rfl) (pe_lst pa_nil))
      (pss_cons (ps_for PassesOwn.never rfl (pi_tup (pv 0)) (pg_name (i := 3) sc_boxes_without.nd rfl (Or.inl rfl)) (pss_one (ps_if (pt_cmpR op_notIn_seq (pv 1) (pe_fld (pv 3) rfl) rfl) (pss_one (ps_expr (pe_bm PySem.F.plainAttrs_list PySem.F.slot_list_append PySem.F.type_list_append mt_append (pv 2) (pa_cons (pv 3) pa_nil)))) (pss_one (ps_if (pt_cmpR (uNe hr.units) (pe_fld (pv 3) rfl) (pv 1) (nomark _)) (pss_one (ps_expr (pe_bm PySem.F.plainAttrs_list PySem.F.slot_list_append PySem.F.type_list_append mt_append (pv 2) (pa_cons (pe_fnR G_with_inner (hr.mono (by omega)) T.k_with_inner T.m_with_inner pass0 (pa_cons (pv 3) (pa_cons (pe_fnR G_boxes_without (hr.mono (by omega)) T.k_boxes_without T.m_boxes_without pass0 (pa_cons (pe_fld (pv 3) rfl) (pa_cons (pv 1) pa_nil))) pa_nil))) pa_nil)))) pss_nil)))))
      (pss_one (ps_ret (pv 2))))), ?_⟩
    have ll := hb.len
    have okl := ok.len
    refine ⟨Nat.zero_le _, fun D hD => ?_⟩
    refine ⟨_, rfl, a, rfl, ⟨xs, SqT.of (sameNew hD _ _ ha)⟩, for_tup (xs := xs) (fun i σ' H' => ∃ (z : Option V) (ys : List V), σ' = [some (.ref a), some (.str x), some (.ref D), z] ∧ Same H H' ∧ H' D = some (.lst ys) ∧ ys.length ≤ i ∧ IsBs d.Box H' ys (outL x (l.take i)))
      ⟨_, [], rfl, sameNew hD, upd_same, Nat.le_refl _, by rw [List.take_zero, outL, IsBs]⟩ (fun i σ' H' _ g => by obtain ⟨_, _, _, e, _⟩ := g; exact SqT.of (e _ _ ha)) (fun i y σ' H' hy g => ?_) (fun σ' H' g => ?_)⟩
    · obtain ⟨z, ys, rfl, e, hd, hl, hys⟩ := g
      obtain ⟨b, hbi, hxb⟩ := pd_at (isBs_pd.mp hb) hy
      have il := (List.getElem?_eq_some_iff.mp hbi).1
      have tk : outL x (l.take (i + 1)) = outL x (l.take i) ++ outB x b := by rw [take_at hbi, outL_app, outL, outL, List.append_nil]
      have hbo := ok.mem (List.mem_of_getElem? hbi)
      have hdep := dep_mem (List.mem_of_getElem? hbi)
      have hxb0 := hxb
      cases b with | mk n o u inn =>
      rw [IsBx] at hxb
      obtain ⟨bx, dx, ti, tn, xs2, rfl, hi1, hti, htn, hinn⟩ := hxb
      have hi2 := e _ _ hi1
      have nxt : ∀ (v : V) (H2 : Hp) (c : Bx), Same H' H2 → IsBx d.Box H2 v c → outB x (.mk n o u inn) = [c] → ∃ (z : Option V) (ys' : List V), [some (.ref a), some (.str x), some (.ref D), some (.ref bx)] = [some (.ref a), some (.str x), some (.ref D), z] ∧ Same H (upd H2 D (.lst (ys ++ [v]))) ∧ upd H2 D (.lst (ys ++ [v])) D = some (.lst ys') ∧ ys'.length ≤ i + 1 ∧ IsBs d.Box (upd H2 D (.lst (ys ++ [v]))) ys' (outL x (l.take (i + 1))) := fun v H2 c e2 hv ec => by
        refine ⟨_, _, rfl, same_at (e.trans e2) hD, upd_same, by rw [List.length_append]; exact Nat.succ_le_succ hl, ?_⟩
        have up : Up D H2 (upd H2 D (.lst (ys ++ [v]))) := Up.put (e2 _ _ hd)
        rw [tk, ec]
        exact isBs_pd.mpr (paired_append (isBs_pd.mp ((hys.same e2).up up)) (.cons (hv.up up) .nil))
      have lz : ys.length < sizeLine := Nat.lt_of_le_of_lt (show ys.length ≤ 100 by omega) (by decide)
      refine ⟨_, rfl, _, rfl, bx, d.Box, dx, _, _, rfl, hi2, T.c_Box, T.a_Box_names_inside, rfl, tn, _, rfl, Or.inr (SqT.of (e _ _ htn)), rfl, flatS _, _, rfl, ?_⟩
      rw [if_pos rfl, inS]
      by_cases hx : x ∈ namesB (.mk n o u inn)
      · rw [decide_eq_true hx]
        refine iteF ⟨_, rfl, bx, d.Box, dx, _, _, rfl, hi2, T.c_Box, T.a_Box_name, rfl, _, rfl, Or.inl ⟨rfl, _, rfl, ?_⟩⟩
        by_cases hn : n = x
        · subst hn
          rw [decide_eq_true rfl]
          refine iteF ⟨_, _, rfl, e, hd, by omega, ?_⟩
          rw [tk, outB, if_pos rfl, List.append_nil]
          exact hys
        · rw [decide_eq_false (fun z => hn (by injection z))]
          refine iteT ⟨_, rfl, Or.inl ⟨rfl, ys, SqL.of hd⟩, _, rfl, _, rfl, bx, d.Box, dx, _, _, rfl, hi2, T.c_Box, T.a_Box_inner, rfl, _, rfl, ti, x, xs2, inn, rfl, e _ _ hti, hinn.same e, hbo.inn, by rw [depB] at hdep; omega, fun p H2 zs e2 hp hzs => ?_⟩
          exact ⟨bx, p, n, o, u, inn, zs, outL x inn, rfl, (hxb0.same e).same e2, Or.inr (SqL.of hp), hzs, hbo.out, fun c H3 e3 hc => ⟨D, ys, .ref c, rfl, rfl, e3 _ _ (e2 _ _ hd), lz, nxt (.ref c) H3 _ (e2.trans e3) hc (by rw [outB, if_neg hn])⟩⟩
      · rw [decide_eq_false hx]
        exact iteT ⟨_, rfl, Or.inl ⟨rfl, ys, SqL.of hd⟩, _, rfl, D, ys, _, rfl, rfl, hd, lz, nxt (.ref bx) H' _ (Same.refl _) (hxb0.same e) (outB_no hx)⟩
    · obtain ⟨z, ys, rfl, e, hd, hl, hys⟩ := g
      rw [ll, List.take_of_length_le (Nat.le_refl _)] at hys
      exact ⟨_, rfl, k D H' ys e hd hys⟩
theorem G_boxes_scaled (T : Tx K mg d) : ∀ m, FnR P w K mg base CX0 (m + 9) d.boxes_scaled (spScl d.Box m) := by
  intro m
  induction m with
  | zero =>
    intro A outer s H us vs Q E hr e0 r h
    obtain ⟨a, x, xs, l, _, _, _, _, _, _, dl, _⟩ := h
    exact absurd dl (Nat.not_lt_zero _)
  | succ m G_boxes_scaled =>
  have G_Box___init__ := G_Box___init__ (P := P) (w := w) (base := base) T
  obtain ⟨fd, F⟩ := T.F_boxes_scaled
  refine FnR.imp (FnOk.raw (F.ok sc_boxes_scaled (k := m + 9) (sp := spScl d.Box (m + 1)) (fun vs H Q E h => ?_) (fun cdv A outer s H vs Q E hr h => ?_)) (F.binds fun _ _ _ _ _ _ us hl => match us, hl with | [_, _], _ => rfl) .nil) fun vs H Q E h => by rw [List.append_nil]; exact h
  · obtain ⟨a, x, xs, l, rfl, _⟩ := h
    rfl
  · obtain ⟨a, x, xs, l, rfl, ha, hb, ok0, kb, ok, dl, k⟩ := h
    -- slots: 0 boxes, 1 times, 2 scaled, 3 box, 4 inner
    refine ⟨_, (pss_cons (ps_set (i := 2) sc_boxes_scaled.nd rfl (Or.inl rfl) (pe_lst pa_nil))
      (pss_cons (ps_for PassesOwn.never rfl (pi_tup (pv 0)) (pg_name (i := 3) sc_boxes_scaled.nd rfl (Or.inl rfl)) (pss_cons (ps_set (i := 4) sc_boxes_scaled.nd rfl (Or.inl rfl) (pe_fnR G_boxes_scaled (hr.mono (by omega)) T.k_boxes_scaled T.m_boxes_scaled pass0 (pa_cons (pe_fld (pv 3) rfl) (pa_cons (pv 1) pa_nil))))
      (pss_one (ps_expr (pe_bm PySem.F.plainAttrs_list PySem.F.slot_list_append PySem.F.type_list_append mt_append (pv 2) (pa_cons (pe_makeS2 T.mk_Box G_Box___init__ (hr.mono (by omega)) rfl T.m_Box pass0 (pa_cons (pe_fld (pv 3) rfl) (pa_cons (pe_op uMul (pe_fld (pv 3) rfl) (pv 1)) (pa_cons (pe_op uMul (pe_fld (pv 3) rfl) (pv 1)) (StX.pa_star (pv 4) pa_nil))))) pa_nil))))))
      (pss_one (ps_ret (pv 2))))), ?_⟩
    have ll := hb.len
    have okl := ok0.len
    have tkl : ∀ (l : List Bx) (b : Bx), b ∈ l → timB x b ∈ timL x l := fun l b hb => by
      induction l with
      | nil => cases hb
      | cons c r ih =>
        rw [timL]
        rcases List.mem_cons.mp hb with rfl | hb
        · exact List.mem_cons_self ..
        · exact List.mem_cons_of_mem _ (ih hb)
    have tap : ∀ (l r : List Bx), timL x (l ++ r) = timL x l ++ timL x r := fun l r => by
      induction l with
      | nil => rfl
      | cons c l ih => rw [List.cons_append, timL, timL, ih, List.cons_append]
    refine ⟨Nat.zero_le _, fun D hD => ?_⟩
    refine ⟨_, rfl, a, rfl, ⟨xs, SqT.of (sameNew hD _ _ ha)⟩, for_tup (xs := xs) (fun i σ' H' => ∃ (z z2 : Option V) (ys : List V), σ' = [some (.ref a), some (.int x), some (.ref D), z, z2] ∧ Same H H' ∧ H' D = some (.lst ys) ∧ ys.length ≤ i ∧ IsBs d.Box H' ys (timL x (l.take i)))
      ⟨_, _, [], rfl, sameNew hD, upd_same, Nat.le_refl _, by rw [List.take_zero, timL, IsBs]⟩ (fun i σ' H' _ g => by obtain ⟨_, _, _, _, e, _⟩ := g; exact SqT.of (e _ _ ha)) (fun i y σ' H' hy g => ?_) (fun σ' H' g => ?_)⟩
    · obtain ⟨z, z2, ys, rfl, e, hd, hl, hys⟩ := g
      obtain ⟨b, hbi, hxb⟩ := pd_at (isBs_pd.mp hb) hy
      have il := (List.getElem?_eq_some_iff.mp hbi).1
      have tk : timL x (l.take (i + 1)) = timL x (l.take i) ++ [timB x b] := by rw [take_at hbi, tap, timL, timL]
      have hb0 := ok0.mem (List.mem_of_getElem? hbi)
      have hbo := ok.mem (tkl _ _ (List.mem_of_getElem? hbi))
      have hdep := dep_mem (List.mem_of_getElem? hbi)
      cases b with | mk n o u inn =>
      rw [IsBx] at hxb
      obtain ⟨bx, dx, ti, tn, xs2, rfl, hi1, hti, htn, hinn⟩ := hxb
      have hi2 := e _ _ hi1
      have wf := hb0.1
      rw [WfB] at wf
      rw [timB] at hbo
      have lz : ys.length < sizeLine := Nat.lt_of_le_of_lt (show ys.length ≤ 100 by omega) (by decide)
      refine ⟨_, rfl, bx, d.Box, dx, _, _, rfl, hi2, T.c_Box, T.a_Box_inner, rfl, _, rfl, ti, x, xs2, inn, rfl, e _ _ hti, hinn.same e, hb0.inn, kb, hbo.inn, by rw [depB] at hdep; omega, fun p H2 zs e2 hp hzs => ?_⟩
      have hi3 := e2 _ _ hi2
      refine ⟨_, rfl, Or.inl ⟨rfl, ys, SqL.of (e2 _ _ hd)⟩, _, rfl, bx, d.Box, dx, _, _, rfl, hi3, T.c_Box, T.a_Box_name, rfl, _, rfl, bx, d.Box, dx, _, _, rfl, hi3, T.c_Box, T.a_Box_offset, rfl, _, rfl, Or.inl ⟨o, x, rfl, rfl, ?_, _, rfl, bx, d.Box, dx, _, _, rfl, hi3, T.c_Box, T.a_Box_units, rfl, _, rfl, Or.inl ⟨u, x, rfl, rfl, ?_, _, rfl, p, zs, rfl, Or.inr (SqL.of hp), fun c dx2 nc nd _ => ?_⟩⟩⟩
      · exact mul2 (Nat.lt_of_lt_of_le wf.2.2.1 (Nat.pow_le_pow_right (by decide) (by decide))) (Nat.lt_of_lt_of_le kb (Nat.pow_le_pow_right (by decide) (by decide)))
      · exact mul2 (Nat.lt_of_lt_of_le wf.2.2.2.1 (Nat.pow_le_pow_right (by decide) (by decide))) (Nat.lt_of_lt_of_le kb (Nat.pow_le_pow_right (by decide) (by decide)))
      rw [List.append_nil]
      refine bx_make nc nd hzs hbo fun H3 e3 hc => ⟨rfl, D, ys, .ref c, rfl, rfl, e3 _ _ (e2 _ _ hd), lz, ?_⟩
      refine ⟨_, _, _, rfl, same_at (e.trans (e2.trans e3)) hD, upd_same, by rw [List.length_append]; exact Nat.succ_le_succ hl, ?_⟩
      have up : Up D H3 (upd H3 D (.lst (ys ++ [.ref c]))) := Up.put (e3 _ _ (e2 _ _ hd))
      rw [tk, timB]
      exact isBs_pd.mpr (paired_append (isBs_pd.mp ((hys.same (e2.trans e3)).up up)) (.cons (hc.up up) .nil))
    · obtain ⟨z, z2, ys, rfl, e, hd, hl, hys⟩ := g
      rw [ll, List.take_of_length_le (Nat.le_refl _)] at hys
      exact ⟨_, rfl, k D H' ys e hd hys⟩
theorem G_boxes_with (T : Tx K mg d) : ∀ m, FnR P w K mg base CX0 (m + 9) d.boxes_with (spPut d.Box m) := by
  intro m
  induction m with
  | zero =>
    intro A outer s H us vs Q E hr e0 r h
    obtain ⟨a, mv, mb, x, xs, l, _, _, _, _, _, _, dl, _⟩ := h
    exact absurd dl (Nat.not_lt_zero _)
  | succ m G_boxes_with =>
  have G_with_inner := G_with_inner (P := P) (w := w) (base := base) T
  obtain ⟨fd, F⟩ := T.F_boxes_with
  refine FnR.imp (FnOk.raw (F.ok sc_boxes_with (k := m + 9) (sp := spPut d.Box (m + 1)) (fun vs H Q E h => ?_) (fun cdv A outer s H vs Q E hr h => ?_)) (F.binds fun _ _ _ _ _ _ us hl => match us, hl with | [_, _, _], _ => rfl) .nil) fun vs H Q E h => by rw [List.append_nil]; exact h
  · obtain ⟨a, mv, mb, x, xs, l, rfl, _⟩ := h
    rfl
  · obtain ⟨a, mv, mb, x, xs, l, rfl, ha, hb, hm, ok, nd, dl, k⟩ := h
    -- slots: 0 boxes, 1 added, 2 name, 3 kept, 4 box
    refine ⟨_, (pss_cons (ps_set (i := 3) sc_boxes_with.nd rfl (Or.inl rfl) (pe_lst pa_nil))
      (pss_cons (ps_for PassesOwn.never rfl (pi_tup (pv 0)) (pg_name (i := 4) sc_boxes_with.nd rfl (Or.inl rfl)) (pss_one (ps_if (pt_cmpR (uEq hr.units) (pe_fld (pv 4) rfl) (pv 2) (nomark _)) (pss_one (ps_expr (pe_bm PySem.F.plainAttrs_list PySem.F.slot_list_append PySem.F.type_list_append mt_append (pv 3) (pa_cons (pe_fnR G_with_inner (hr.mono (by omega)) T.k_with_inner T.m_with_inner pass0 (pa_cons (pv 4) (pa_cons (pe_tup (StX.pa_star (pe_fld (pv 4) rfl) (pa_cons (pv 1) pa_nil))) pa_nil))) pa_nil)))) (pss_one (ps_if (pt_cmpR op_in_seq (pv 2) (pe_fld (pv 4) rfl) rfl) (pss_one (ps_expr (pe_bm PySem.F.plainAttrs_list PySem.F.slot_list_append PySem.F.type_list_append mt_append (pv 3) (pa_cons (pe_fnR G_with_inner (hr.mono (by omega)) T.k_with_inner T.m_with_inner pass0 (pa_cons (pv 4) (pa_cons (pe_fnR G_boxes_with (hr.mono (by omega)) T.k_boxes_with T.m_boxes_with pass0 (pa_cons (pe_fld (pv 4) rfl) (pa_cons (pv 1) (pa_cons (pv 2) pa_nil)))) pa_nil))) pa_nil)))) (pss_one (ps_expr (pe_bm PySem.F.plainAttrs_list PySem.F.slot_list_append PySem.F.type_list_append mt_append (pv 3) (pa_cons (pv 4) pa_nil)))))))))
      (pss_one (ps_ret (pv 3))))), ?_⟩
    have ll := hb.len
    have tkl : ∀ (l : List Bx) (b : Bx), b ∈ l → putB x mb b ∈ putL x mb l := fun l b hb => by
      induction l with
      | nil => cases hb
      | cons c r ih =>
        rw [putL]
        rcases List.mem_cons.mp hb with rfl | hb
        · exact List.mem_cons_self ..
        · exact List.mem_cons_of_mem _ (ih hb)
    have tap : ∀ (l r : List Bx), putL x mb (l ++ r) = putL x mb l ++ putL x mb r := fun l r => by
      induction l with
      | nil => rfl
      | cons c l ih => rw [List.cons_append, putL, putL, ih, List.cons_append]
    have okl : l.length ≤ 100 := by
      have : ∀ l : List Bx, (putL x mb l).length = l.length := fun l => by
        induction l with
        | nil => rfl
        | cons c l ih => rw [putL, List.length_cons, List.length_cons, ih]
      rw [← this l]
      exact ok.len
    have ndl : ∀ b ∈ l, (namesB b).Nodup := fun b hb => by
      obtain ⟨i, hi⟩ := List.getElem?_of_mem hb
      have e : namesL l = namesL (l.take i) ++ (namesB b ++ namesL (l.drop (i + 1))) := by
        rw [← namesL_one b, ← namesL_app, ← namesL_app]
        congr 1
        rw [← List.append_assoc, ← take_at hi, List.take_append_drop]
      rw [e] at nd
      exact (List.nodup_append.mp (List.nodup_append.mp nd).2.1).1
    refine ⟨Nat.zero_le _, fun D hD => ?_⟩
    have e0 := sameNew hD (o := .lst [])
    refine ⟨_, rfl, a, rfl, ⟨xs, SqT.of (e0 _ _ ha)⟩, for_tup (xs := xs) (fun i σ' H' => ∃ (z : Option V) (ys : List V), σ' = [some (.ref a), some mv, some (.str x), some (.ref D), z] ∧ Same H H' ∧ H' D = some (.lst ys) ∧ ys.length ≤ i ∧ IsBs d.Box H' ys (putL x mb (l.take i)))
      ⟨_, [], rfl, sameNew hD, upd_same, Nat.le_refl _, by rw [List.take_zero, putL, IsBs]⟩ (fun i σ' H' _ g => by obtain ⟨_, _, _, e, _⟩ := g; exact SqT.of (e _ _ ha)) (fun i y σ' H' hy g => ?_) (fun σ' H' g => ?_)⟩
    · obtain ⟨z, ys, rfl, e, hd, hl, hys⟩ := g
      obtain ⟨b, hbi, hxb⟩ := pd_at (isBs_pd.mp hb) hy
      have il := (List.getElem?_eq_some_iff.mp hbi).1
      have bl := List.mem_of_getElem? hbi
      have tk : putL x mb (l.take (i + 1)) = putL x mb (l.take i) ++ [putB x mb b] := by rw [take_at hbi, tap, putL, putL]
      have hbo := ok.mem (tkl _ _ bl)
      have hdep := dep_mem bl
      have hnd := ndl _ bl
      have hxb0 := hxb
      cases b with | mk n o u inn =>
      rw [IsBx] at hxb
      obtain ⟨bx, dx, ti, tn, xs2, rfl, hi1, hti, htn, hinn⟩ := hxb
      have hi2 := e _ _ hi1
      have lz : ys.length < sizeLine := Nat.lt_of_le_of_lt (show ys.length ≤ 100 by omega) (by decide)
      have nxt : ∀ (v : V) (H2 : Hp), Same H' H2 → IsBx d.Box H2 v (putB x mb (.mk n o u inn)) → ∃ (z : Option V) (ys' : List V), [some (.ref a), some mv, some (.str x), some (.ref D), some (.ref bx)] = [some (.ref a), some mv, some (.str x), some (.ref D), z] ∧ Same H (upd H2 D (.lst (ys ++ [v]))) ∧ upd H2 D (.lst (ys ++ [v])) D = some (.lst ys') ∧ ys'.length ≤ i + 1 ∧ IsBs d.Box (upd H2 D (.lst (ys ++ [v]))) ys' (putL x mb (l.take (i + 1))) := fun v H2 e2 hv => by
        refine ⟨_, _, rfl, same_at (e.trans e2) hD, upd_same, by rw [List.length_append]; exact Nat.succ_le_succ hl, ?_⟩
        have up : Up D H2 (upd H2 D (.lst (ys ++ [v]))) := Up.put (e2 _ _ hd)
        rw [tk]
        exact isBs_pd.mpr (paired_append (isBs_pd.mp ((hys.same e2).up up)) (.cons (hv.up up) .nil))
      refine ⟨_, rfl, bx, d.Box, dx, _, _, rfl, hi2, T.c_Box, T.a_Box_name, rfl, _, rfl, Or.inl ⟨rfl, _, rfl, ?_⟩⟩
      rw [namesB] at hnd
      obtain ⟨q1, q2⟩ := List.nodup_cons.mp hnd
      by_cases hn : n = x
      · subst hn
        rw [decide_eq_true rfl]
        rw [putB, if_pos rfl, putL_no q1] at hbo
        have lx : xs2.length ≤ 100 := by
          have := hbo.inn.len
          rw [List.length_append] at this
          rw [hinn.len]
          omega
        refine iteT ⟨_, rfl, Or.inl ⟨rfl, ys, SqL.of hd⟩, _, rfl, _, rfl, bx, d.Box, dx, _, _, rfl, hi2, T.c_Box, T.a_Box_inner, rfl, ti, xs2, rfl, Or.inl (SqT.of (e _ _ hti)), _, rfl, ?_, fun t ht => ?_⟩
        · rw [List.length_append]
          exact Nat.le_trans (Nat.add_le_add_right lx 1) (by decide)
        have e2 : Same H' (upd H' t (.tup (xs2 ++ [mv]))) := sameNew ht
        refine ⟨bx, t, n, o, u, inn, xs2 ++ [mv], inn ++ [mb], rfl, (hxb0.same e).same e2, Or.inl (SqT.of upd_same), isBs_pd.mpr (paired_append (isBs_pd.mp ((hinn.same e).same e2)) (.cons ((hm.same e).same e2) .nil)), hbo, fun c H3 e3 hc => ?_⟩
        refine ⟨D, ys, .ref c, rfl, rfl, e3 _ _ (e2 _ _ hd), lz, nxt (.ref c) H3 (e2.trans e3) ?_⟩
        rw [putB, if_pos rfl, putL_no q1]
        exact hc
      · rw [decide_eq_false (fun z => hn (by injection z))]
        rw [putB, if_neg hn] at hbo
        refine iteF ⟨_, rfl, _, rfl, bx, d.Box, dx, _, _, rfl, hi2, T.c_Box, T.a_Box_names_inside, rfl, tn, _, rfl, Or.inr (SqT.of (e _ _ htn)), rfl, flatS _, _, rfl, ?_⟩
        rw [if_neg (by decide), inS]
        by_cases hx : x ∈ namesB (.mk n o u inn)
        · rw [decide_eq_true hx]
          refine iteT ⟨_, rfl, Or.inl ⟨rfl, ys, SqL.of hd⟩, _, rfl, _, rfl, bx, d.Box, dx, _, _, rfl, hi2, T.c_Box, T.a_Box_inner, rfl, _, rfl, _, rfl, ti, mv, mb, x, xs2, inn, rfl, e _ _ hti, hinn.same e, hm.same e, hbo.inn, q2, by rw [depB] at hdep; omega, fun p H2 zs e2 hp hzs => ?_⟩
          refine ⟨bx, p, n, o, u, inn, zs, putL x mb inn, rfl, (hxb0.same e).same e2, Or.inr (SqL.of hp), hzs, hbo, fun c H3 e3 hc => ⟨D, ys, .ref c, rfl, rfl, e3 _ _ (e2 _ _ hd), lz, nxt (.ref c) H3 (e2.trans e3) ?_⟩⟩
          rw [putB, if_neg hn]
          exact hc
        · rw [decide_eq_false hx]
          exact iteF ⟨_, rfl, Or.inl ⟨rfl, ys, SqL.of hd⟩, _, rfl, D, ys, _, rfl, rfl, hd, lz, nxt (.ref bx) H' (Same.refl _) (by rw [putB_no hx]; exact hxb0.same e)⟩
    · obtain ⟨z, ys, rfl, e, hd, hl, hys⟩ := g
      rw [ll, List.take_of_length_le (Nat.le_refl _)] at hys
      exact ⟨_, rfl, k D H' ys e hd hys⟩
end

end AZ
namespace AZ
open PySem L2
/-! ## pages -/
theorem pd_imp {α β : Type} {R S : α → β → Prop} : ∀ {xs : List α} {ys : List β}, (∀ {x y}, R x y → S x y) → Paired R xs ys → Paired S xs ys
  | _, _, _, .nil => .nil
  | _, _, h, .cons a r => .cons (h a) (pd_imp h r)
theorem pd_concat {α β : Type} {R : α → β → Prop} {y : α} : ∀ {xs : List α} {zs : List β}, Paired R (xs ++ [y]) zs → ∃ ws w, zs = ws ++ [w] ∧ Paired R xs ws ∧ R y w
  | [], _, .cons a .nil => ⟨[], _, rfl, .nil, a⟩
  | x :: xs, _, .cons a r => by
    obtain ⟨ws, w, rfl, h1, h2⟩ := pd_concat r
    exact ⟨_ :: ws, w, rfl, .cons a h1, h2⟩
def arV : Option Str → V
  | none => .non
  | some x => .str x
def RowAt (D : Addr) (H : Hp) (kv : Key × V) (r : Row) : Prop := kv.1 = Sum.inr r.nm ∧ ∃ (tp : Addr) (bv : V), kv.2 = .ref tp ∧ H tp = some (.tup [bv, .int r.bg, arV r.ar]) ∧ IsBx D H bv r.bx
abbrev pgF (tb tn td : Addr) : List (Str × V) := [("boxes", .ref tb), ("all_names", .ref tn), ("rows", .ref td)]
def IsPg (C D : Addr) (H : Hp) (v : V) (l : List Bx) : Prop := ∃ (a dx tb tn td : Addr) (xs : List V) (kvs : List (Key × V)) (rs : List Row), v = .ref a ∧ H a = some (.ins C dx (pgF tb tn td)) ∧ H tb = some (.tup xs) ∧ IsBs D H xs l ∧ TupF H tn ((namesL l).map V.str) ∧
  H td = some (.dK kvs) ∧ rs.Perm (rowsL 0 none l) ∧ Paired (RowAt D H) kvs rs
/-- what of the heap the things of pages stand on -/
def TI (H H' : Hp) : Prop := (∀ a C dx fs, H a = some (.ins C dx fs) → fs.length = 6 → H' a = some (.ins C dx fs)) ∧ ∀ a xs, H a = some (.tup xs) → H' a = some (.tup xs)
theorem TI.same {H H' : Hp} (e : Same H H') : TI H H' := ⟨fun _ _ _ _ h _ => e _ _ h, fun _ _ h => e _ _ h⟩
theorem TI.trans {H H1 H2 : Hp} (a : TI H H1) (b : TI H1 H2) : TI H H2 := ⟨fun _ _ _ _ h n => b.1 _ _ _ _ (a.1 _ _ _ _ h n) n, fun _ _ h => b.2 _ _ (a.2 _ _ h)⟩
theorem TI.put {H : Hp} {p : Addr} {o u : HO} (h : H p = some o) (ht : ∀ xs, o ≠ .tup xs) (hi : ∀ C dx fs, o = .ins C dx fs → fs.length ≠ 6) : TI H (upd H p u) :=
  ⟨fun a C dx fs e n => by
    by_cases z : a = p
    · rw [z, h] at e; injection e with e; exact absurd n (hi _ _ _ e)
    · rw [upd_ne z]; exact e, fun a xs e => by
    by_cases z : a = p
    · rw [z, h] at e; injection e with e; exact absurd e (ht _)
    · rw [upd_ne z]; exact e⟩
theorem IsBx.ti {C : Addr} {H H' : Hp} {v : V} {b : Bx} (h : IsBx C H v b) (e : TI H H') : IsBx C H' v b := h.mono (fun a dx fs => e.1 a C dx fs) e.2
theorem IsBs.ti {C : Addr} {H H' : Hp} {v : List V} {b : List Bx} (h : IsBs C H v b) (e : TI H H') : IsBs C H' v b := h.mono (fun a dx fs => e.1 a C dx fs) e.2
theorem RowAt.ti {C : Addr} {H H' : Hp} {v : Key × V} {b : Row} (h : RowAt C H v b) (e : TI H H') : RowAt C H' v b := by
  obtain ⟨h1, tp, bv, h2, h3, h4⟩ := h
  exact ⟨h1, tp, bv, h2, e.2 _ _ h3, h4.ti e⟩
/-- what waits: a box, where it begins, what stands around it -/
abbrev Wt := Bx × Int × Option Str
def WtAt (D : Addr) (H : Hp) (v : V) (w : Wt) : Prop := ∃ (tp : Addr) (bv : V), v = .ref tp ∧ H tp = some (.tup [bv, .int w.2.1, arV w.2.2]) ∧ IsBx D H bv w.1
theorem WtAt.ti {C : Addr} {H H' : Hp} {v : V} {b : Wt} (h : WtAt C H v b) (e : TI H H') : WtAt C H' v b := by
  obtain ⟨tp, bv, h2, h3, h4⟩ := h
  exact ⟨tp, bv, h2, e.2 _ _ h3, h4.ti e⟩
def pend : List Wt → List Row
  | [] => []
  | w :: r => rowsB w.2.1 w.2.2 w.1 ++ pend r
theorem pend_app : ∀ {a b : List Wt}, pend (a ++ b) = pend a ++ pend b
  | [], _ => rfl
  | x :: a, b => by rw [List.cons_append, pend, pend, pend_app, List.append_assoc]
theorem pend_inn {g : Int} {ar : Option Str} : ∀ {l : List Bx}, pend (l.map fun b => (b, g, ar)) = rowsL g ar l
  | [] => by rw [rowsL]; rfl
  | b :: r => by rw [List.map_cons, pend, pend_inn, rowsL]
theorem rowsB_pos {g : Int} {ar : Option Str} {b : Bx} : 1 ≤ (rowsB g ar b).length := by
  cases b with | mk n o u l =>
  rw [rowsB, List.length_cons]
  omega
theorem pend_len : ∀ W : List Wt, W.length ≤ (pend W).length
  | [] => Nat.zero_le _
  | w :: r => by
    have := pend_len r
    have := rowsB_pos (g := w.2.1) (ar := w.2.2) (b := w.1)
    rw [pend, List.length_append, List.length_cons]
    omega
/-- between two turns of the loop that fills the rows -/
def PgInv (C D p t tn td wt dx : Addr) (z1 : Option V) (H : Hp) (l : List Bx) (m : Nat) (σ : L2.St) (G : Hp) : Prop :=
  ∃ (zb zo zi : Option V) (ws : List V) (W : List Wt) (kvs : List (Key × V)) (rs : List Row), σ = [some (.ref p), some (.ref t), z1, zb, some (.ref tn), some (.ref td), some (.ref wt), zo, zi, none] ∧
    (∀ x v, H x = some v → x ≠ p → G x = some v) ∧ G p = some (.ins C dx [("boxes", .ref t), ("all_names", .ref tn)]) ∧ TupF G tn ((namesL l).map V.str) ∧ G td = some (.dK kvs) ∧ G wt = some (.lst ws) ∧
    Paired (WtAt D G) ws W ∧ Paired (RowAt D G) kvs rs ∧ (rs ++ pend W).Perm (rowsL 0 none l) ∧ m = (pend W).length
/-- a page as the promises know it -/
def OkP (l : List Bx) : Prop := OkL l ∧ (namesL l).length ≤ 24
def spChkN (K : PySem.W.Frag) : Sp := fun vs H Q _ => ∃ (a : Addr) (ns : List Str), vs = [.ref a] ∧ SqT K H a (ns.map V.str) ∧ ns.Nodup ∧ ns.length ≤ 24 ∧ ∀ H', Same H H' → Q .non H'
def spPgI (C D : Addr) : Sp := fun vs H Q _ => ∃ (p dx t : Addr) (xs : List V) (l : List Bx), vs = [.ref p, .ref t] ∧ H p = some (.ins C dx []) ∧ H t = some (.tup xs) ∧ IsBs D H xs l ∧ OkP l ∧
  ∀ H', (∀ x v, H x = some v → x ≠ p → H' x = some v) → IsPg C D H' (.ref p) l → Q .non H'
section
variable {P : Program} {w : World} {K : PySem.W.Frag} {mg : Str → Option Value} {base : Heap} {d : Ad}
theorem G_check_names (T : Tx K mg d) : FnR P w K mg base CX0 3 d.check_names (spChkN K) := by
  have G_check_unlike := G_check_unlike (P := P) (w := w) (base := base) T
  obtain ⟨fd, F⟩ := T.F_check_names
  refine FnR.imp (FnOk.raw (F.ok sc_check_names (k := 2) (sp := spChkN K) (fun vs H Q E h => ?_) (fun cdv A outer s H vs Q E hr h => ?_)) (F.binds fun _ _ _ _ _ _ us hl => match us, hl with | [_], _ => rfl) .nil) fun vs H Q E h => by rw [List.append_nil]; exact h
  · obtain ⟨a, ns, rfl, _⟩ := h
    rfl
  · obtain ⟨a, ns, rfl, ha, nd, hl, k⟩ := h
    -- slots: 0 names
    refine ⟨_, (pss_cons (ps_expr (pe_fnR G_check_unlike (hr.mono (by decide)) T.k_check_unlike T.m_check_unlike pass0 (pa_cons (pv 0) pa_nil)))
      (pss_one (ps_if (pt_cmpR uGt (pe_callB call_len_seq (by rfl) T.n_len (by decide +kernel) (pa_cons (pv 0) pa_nil)) (ClX.pe_cval (pe_glob (v := .ref _) rfl T.m_Page rfl)) (nomark _)) pss_never pss_nil))), ?_⟩
    obtain ⟨mc, u, cr, cv⟩ := T.cv_Page_MOST_BOXES
    refine ⟨_, rfl, a, ns, rfl, ha, nd, Nat.le_trans hl (by decide), fun H' e => ?_⟩
    refine ⟨_, rfl, a, _, rfl, Or.inr (sqT_same e ha), d.Page, mc, .int 24, u, rfl, cr, cv, Or.inl ⟨_, _, rfl, rfl, _, rfl, ?_⟩⟩
    rw [decide_eq_false (by rw [List.length_map]; omega)]
    exact iteF (k H' e)
theorem G_Page___init__ (T : Tx K mg d) : FnR P w K mg base CX0 6 d.Page___init__ (fun vs H Q E => ∃ ws rest, vs = ws ++ rest ∧ ws.length = 1 ∧ rest.length ≤ sizeLine ∧ ∀ p, H p = Option.none → spPgI d.Page d.Box (ws ++ [V.ref p]) (upd H p (.tup rest)) Q E) := by
  have G_names_of := G_names_of (P := P) (w := w) (base := base) T
  have G_check_names := G_check_names (P := P) (w := w) (base := base) T
  obtain ⟨fd, F⟩ := T.F_Page___init__
  refine Fun.okS F (ps := ["self"]) (pv := "boxes") sc_Page___init__ (k := 5) (sp := spPgI d.Page d.Box) (fun kV doc pm an cdv ct => StX.bind_star1 (B := fun z => bindArgs (PySem.W.fnOf _ _ _ _ _ .none kV doc pm an cdv ct) ⟨z, []⟩) (fun _ => rfl) (fun _ _ _ => rfl)) (fun cdv A outer s H vs Q E hr h => ?_)
  · obtain ⟨p, dx, t, xs, l, rfl, hp, ht, hb, ok, k⟩ := h
    -- slots: 0 self, 1 boxes, 2 at, 3 box, 4 names, 5 rows, 6 waiting, 7 begin, 8 outer, 9 inner
    refine ⟨_, (pss_cons (ps_for PassesOwn.never rfl (pi_enumT rfl T.n_enumerate (pa_cons (pv 1) pa_nil)) (pg_tup (by rfl) (pgs_cons (pg_name (i := 2) sc_Page___init__.nd rfl (Or.inl rfl)) (pgs_cons (pg_name (i := 3) sc_Page___init__.nd rfl (Or.inr rfl)) pgs_nil))) (pss_one (ps_if (pt_not (pt_val (pe_callB uIsi (by rfl) T.n_isinstance (by decide +kernel) (pa_cons (pv 3) (pa_cons (pe_glob (v := .ref _) rfl T.m_Box rfl) pa_nil))))) pss_never pss_nil)))
      (pss_cons (ps_set (i := 4) sc_Page___init__.nd rfl (Or.inl rfl) (pe_fnR G_names_of (hr.mono (by decide)) T.k_names_of T.m_names_of pass0 (pa_cons (pv 1) pa_nil)))
      (pss_cons (ps_expr (pe_fnR G_check_names (hr.mono (by decide)) T.k_check_names T.m_check_names pass0 (pa_cons (pv 4) pa_nil)))
      (pss_cons (ps_fld (pv 0) (pv 1) rfl)
      (pss_cons (ps_fld (pv 0) (pv 4) rfl)
      (pss_cons (ps_set (i := 5) sc_Page___init__.nd rfl (Or.inl rfl) pe_dnewK)
      (pss_cons (ps_setLc (own := [("box", 3)]) (g := gName 3) (i := 6) (by rfl) sc_Page___init__.nd rfl rfl (sw_true rfl rfl rfl rfl) (pi_tup (pv 1)) (blkOk_by (own := [("box", 3)]) (N := ["self", "boxes", "at", "box", "names", "rows", "waiting", "begin", "outer", "inner"]) (sc := defScope s_Page___init__) (by decide +kernel)) (fun _ _ _ _ _ => pg_name (i := 3) sc_Page___init__.nd rfl (Or.inl rfl)) (fun _ _ _ _ _ => pts_nil) (fun _ _ _ _ _ => (pe_tup (pa_cons (pv 3) (pa_cons pe_int (pa_cons pe_non pa_nil))))))
      (pss_cons (ps_while PassesOwn.never (pt_truth (pv 6) (by intro _; rfl)) (pss_cons (ps_asg (pe_bm0 PySem.F.plainAttrs_list PySem.F.slot_list_pop PySem.F.type_list_pop mt_pop (pv 6)) (pg_tup (by rfl) (pgs_cons (pg_name (i := 3) sc_Page___init__.nd rfl (Or.inr rfl)) (pgs_cons (pg_name (i := 7) sc_Page___init__.nd rfl (Or.inr rfl)) (pgs_cons (pg_name (i := 8) sc_Page___init__.nd rfl (Or.inl rfl)) pgs_nil)))))
      (pss_cons (ps_dput (hu_of hr) (pv 5) (pe_fld (pv 3) rfl) (pe_tup (pa_cons (pv 3) (pa_cons (pe_op uAdd (pv 7) (pe_fld (pv 3) rfl)) (pa_cons (pv 8) pa_nil)))) rfl)
      (pss_one (ps_expr (pe_bm PySem.F.plainAttrs_list PySem.F.slot_list_extend PySem.F.type_list_extend mt_extend (pv 6) (pa_cons (pe_lc (own := [("inner", 9)]) (g := gName 9) (by rfl) sc_Page___init__.nd (pi_tup (pe_fld (pv 3) rfl)) (blkOk_by (own := [("inner", 9)]) (N := ["self", "boxes", "at", "box", "names", "rows", "waiting", "begin", "outer", "inner"]) (sc := defScope s_Page___init__) (by decide +kernel)) (fun _ _ _ _ _ => pg_name (i := 9) sc_Page___init__.nd rfl (Or.inl rfl)) (fun _ _ _ _ _ => pts_nil) (fun _ _ _ _ _ => (pe_tup (pa_cons (pv 9) (pa_cons (pe_op (op_add) (pv 7) (pe_fldK (K := K) rfl (pv 3) rfl)) (pa_cons (pe_fldK (K := K) rfl (pv 3) rfl) pa_nil)))))) pa_nil)))))))
      (pss_one (ps_fld (pv 0) (pv 5) rfl)))))))))), ?_⟩
    have ll := hb.len
    have okl := ok.1.len
    refine ⟨_, rfl, t, xs, rfl, SqT.of ht, for_enumT (xs := xs) (fun i σ' H' => ∃ z1 z2 : Option V, σ' = [some (.ref p), some (.ref t), z1, z2, none, none, none, none, none, none] ∧ Same H H') ⟨_, _, rfl, Same.refl _⟩ (fun i σ' H' _ g => by obtain ⟨_, _, _, e⟩ := g; exact SqT.of (e _ _ ht)) (fun i y Tp σ' H' hy g hT => ?_) (fun σ' H' g => ?_)⟩
    · obtain ⟨z1, z2, rfl, e⟩ := g
      obtain ⟨b, hbi, hxb⟩ := pd_at (isBs_pd.mp hb) hy
      cases b with | mk n2 o2 u2 inn =>
      rw [IsBx] at hxb
      obtain ⟨bx, dx2, ti, tn, xs2, rfl, hi1, _⟩ := hxb
      have e2 := e.trans (sameNew hT (o := .tup [.int (i : Nat), .ref bx]))
      refine ⟨Tp, _, rfl, SqT.of upd_same, rfl, ?_⟩
      exact ⟨_, _, rfl, _, _, rfl, rfl, _, rfl, Or.inl ⟨_, _, _, _, true, rfl, .own _, T.y_Box.ty T.c_Box (e2 _ _ hi1), T.i_Box_is_Box, _, rfl, iteF ⟨_, _, rfl, e2⟩⟩⟩
    obtain ⟨z1, z2, rfl, e1⟩ := g
    refine ⟨_, rfl, t, xs, l, rfl, e1 _ _ ht, hb.same e1, Nat.le_trans ok.2 (by decide), fun tn H2 e2 htn => ?_⟩
    refine ⟨_, rfl, tn, namesL l, rfl, htn.sq, ok.1.2.1, ok.2, fun H3 e3 => ?_⟩
    have e13 := (e1.trans e2).trans e3
    have hp3 := e13 _ _ hp
    obtain ⟨tno, htn3, tnc⟩ := htn.same e3
    have tp : t ≠ p := fun z => by rw [z, hp] at ht; cases ht
    have tnp : tn ≠ p := fun z => by rw [z, hp3] at htn3; cases htn3
    refine ⟨_, rfl, _, rfl, p, _, dx, _, rfl, hp3, T.c_Page, T.a_Page_boxes, (by decide), ?_⟩
    refine ⟨_, rfl, _, rfl, p, _, dx, _, rfl, upd_same, T.c_Page, T.a_Page_all_names, (by show 1 < 1000; decide), ?_⟩
    rw [L2.upd_upd]
    refine fun td htd => ?_
    try dsimp only [List.set, L2.start]
    have tdp : td ≠ p := fun z => by rw [z, upd_same] at htd; cases htd
    have td3 : H3 td = none := by rwa [upd_ne tdp] at htd
    have tdt : td ≠ tn := fun z => by rw [z, htn3] at td3; cases td3
    -- H4: all but the page itself as it was
    have o4 : ∀ (fs : List (Str × V)) (x : Addr) (v : HO), H x = some v → x ≠ p → upd H3 p (.ins d.Page dx fs) x = some v := fun fs x v e n => by rw [upd_ne n]; exact e13 _ _ e
    generalize h4 : upd H3 p (.ins d.Page dx (putF "all_names" (.ref tn) (putF "boxes" (.ref t) []))) = H4 at htd
    have o4 : ∀ (x : Addr) (v : HO), H x = some v → x ≠ p → H4 x = some v := by rw [← h4]; exact o4 _
    have o4' := o4
    have hp4 : H4 p = some (.ins d.Page dx [("boxes", .ref t), ("all_names", .ref tn)]) := by rw [← h4, upd_same]; rfl
    have htn4 : H4 tn = some (.frz tno (.tup ((namesL l).map V.str))) := by rw [← h4, upd_ne tnp]; exact htn3
    have ti4 : TI H H4 := by
      refine TI.trans (TI.same e13) ?_
      rw [← h4]
      exact TI.put hp3 (fun _ z => by cases z) (fun _ _ _ z => by injection z with _ _ z; rw [← z]; decide)
    have ht4 := o4 _ _ ht tp
    have e5 : Same H4 (upd H4 td (.dK [])) := sameNew htd
    refine ⟨_, rfl, t, rfl, ⟨xs, SqT.of (e5 _ _ ht4)⟩, fun wt hwt => ?_⟩
    have wtd : wt ≠ td := fun z => by rw [z, upd_same] at hwt; cases hwt
    have wt4 : H4 wt = none := by rwa [upd_ne wtd] at hwt
    refine lc_tup (xs := xs) (fun i H' => Same (upd H4 td (.dK [])) H' ∧ ∃ ws, H' wt = some (.lst ws) ∧ ws.length = i ∧ Paired (WtAt d.Box H') ws ((l.take i).map fun b => (b, 0, none))) ⟨sameNew hwt, [], upd_same, rfl, .nil⟩ (fun i H' _ g => SqT.of (g.1 _ _ (e5 _ _ ht4))) (fun i x H' hx g => ?_) (fun H' g => ?_)
    · obtain ⟨e, ws, hw, hwl, hww⟩ := g
      obtain ⟨b, hbi, hxb⟩ := pd_at (isBs_pd.mp hb) hx
      have il := (List.getElem?_eq_some_iff.mp hbi).1
      refine ⟨rfl, yes_then ⟨_, rfl, (by show 3 ≤ sizeLine; decide), fun tp2 ht2 => ⟨ws, (sameNew ht2) _ _ hw, by rw [hwl]; exact Nat.lt_of_lt_of_le (Nat.lt_of_lt_of_le il okl) (by decide), same_at (e.trans (sameNew ht2)) hwt, _, upd_same, by rw [List.length_append, hwl]; rfl, ?_⟩⟩⟩
      have up := TI.put (u := .lst (ws ++ [.ref tp2])) ((sameNew ht2 (o := .tup [x, .int 0, .non])) _ _ hw) (fun _ z => by cases z) (fun _ _ _ z => by cases z)
      have t2 := (TI.same (sameNew ht2 (o := .tup [x, .int 0, .non]))).trans up
      rw [take_at hbi, List.map_append]
      exact paired_append (pd_imp (fun q => WtAt.ti q t2) hww) (.cons ⟨tp2, x, rfl, up.2 _ _ upd_same, hxb.ti ((ti4.trans (TI.same (e5.trans e))).trans t2)⟩ .nil)
    · obtain ⟨e6, ws, hw, hwl, hww⟩ := g
      rw [ll, List.take_of_length_le (Nat.le_refl _)] at hww
      refine ⟨PgInv d.Page d.Box p t tn td wt dx z1 H l, ⟨_, z2, none, none, ws, _, [], [], rfl, fun x v a n => e6 _ _ (e5 _ _ (o4 x v a n)), e6 _ _ (e5 _ _ hp4), ⟨tno, e6 _ _ (e5 _ _ htn4), tnc⟩, e6 _ _ upd_same, hw, hww, .nil, by rw [pend_inn]; exact List.Perm.refl _, rfl⟩, ?_⟩
      clear hww hw hwl e6 e5 ht4 ti4 htn4 hp4 o4 h4
      rintro m σ G ⟨zb, zo, zi, ws, W, kvs, rs, rfl, o, hp', ⟨tno', htn', tnc'⟩, htd', hw', pw, pr, perm, rfl⟩
      have tot : (rs ++ pend W).length ≤ 24 := by
        rw [perm.length_eq]
        have := congrArg List.length (rowsL_nm (g := 0) (ar := none) (l := l))
        rw [List.length_map] at this
        rw [this]
        exact ok.2
      rw [List.length_append] at tot
      refine ⟨_, rfl, !ws.isEmpty, Or.inl ⟨ws, SqL.of hw', rfl⟩, ?_⟩
      rcases List.eq_nil_or_concat ws with rfl | ⟨ws0, y, rfl⟩
      · cases pw
        refine iteF ⟨_, rfl, _, rfl, p, _, dx, _, rfl, hp', T.c_Page, T.a_Page_rows, (by show 2 < 1000; decide), ?_⟩
        have nq : ∀ (x : Addr) (v : HO), G x = some v → x ≠ p → upd G p (.ins d.Page dx (putF "rows" (.ref td) [("boxes", .ref t), ("all_names", .ref tn)])) x = some v := fun x v e n => by rw [upd_ne n]; exact e
        have tiG : TI G (upd G p (.ins d.Page dx (putF "rows" (.ref td) [("boxes", .ref t), ("all_names", .ref tn)]))) := TI.put hp' (fun _ z => by cases z) (fun _ _ _ z => by injection z with _ _ z; rw [← z]; show 2 ≠ 6; decide)
        refine k _ (fun x v e n => nq x v (o x v e n) n) ⟨p, dx, t, tn, td, xs, kvs, rs, rfl, upd_same, nq _ _ (o _ _ ht tp) tp, ?_, ⟨tno', nq _ _ htn' tnp, tnc'⟩, nq _ _ htd' tdp, by rw [pend, List.append_nil] at perm; exact perm, pd_imp (fun q => RowAt.ti q tiG) pr⟩
        refine (hb.mono (fun a dx2 fs h1 h2 => o _ _ h1 fun z => ?_) (fun a ys h1 => o _ _ h1 fun z => ?_)).ti tiG
        · rw [z, hp] at h1; injection h1 with h1; injection h1 with _ _ h1; subst h1; cases h2
        · rw [z, hp] at h1; cases h1
      · rw [List.concat_eq_append] at hw' pw ⊢
        obtain ⟨W0, w, rfl, pw0, yw⟩ := pd_concat pw
        rw [show (!(ws0 ++ [y]).isEmpty) = true by simp]
        obtain ⟨b, g, ar⟩ := w
        obtain ⟨tpl, bv, rfl, htp, hbx⟩ := yw
        have htp : G tpl = some (.tup [bv, .int g, arV ar]) := htp
        have hbx : IsBx d.Box G bv b := hbx
        refine iteT ⟨fun σ' H' => ∃ m', m' < (pend (W0 ++ [(b, g, ar)])).length ∧ PgInv d.Page d.Box p t tn td wt dx z1 H l m' σ' H', fun _ _ q => q, ?_⟩
        have ti1 : TI G (upd G wt (.lst ws0)) := TI.put hw' (fun _ z => by cases z) (fun _ _ _ z => by cases z)
        refine ⟨_, rfl, Or.inl ⟨rfl, _, SqL.of hw'⟩, wt, ws0 ++ [.ref tpl], .ref tpl, rfl, rfl, hw', by simp, ?_⟩
        rw [List.dropLast_concat]
        refine ⟨tpl, _, rfl, SqT.of (ti1.2 _ _ htp), rfl, _, _, rfl, _, _, rfl, _, _, rfl, rfl, ?_⟩
        dsimp only [List.set]
        cases b with | mk n ob ub inn =>
        have hbx0 := hbx
        rw [IsBx] at hbx
        obtain ⟨bx, dx2, ti, tn2, xs2, rfl, hi1, hti, _, hinn⟩ := hbx
        have hw1 : upd G wt (.lst ws0) wt = some (.lst ws0) := upd_same
        have wtd' : td ≠ wt := fun z => by rw [z, hw'] at htd'; cases htd'
        have wtp' : p ≠ wt := fun z => by rw [z, hw'] at hp'; cases hp'
        have wtn' : tn ≠ wt := fun z => by rw [z, hw'] at htn'; cases htn'
        have hH : H wt = none := by
          cases q : H wt with
          | none => rfl
          | some v =>
            exfalso
            have := o4' _ _ q (fun z => wtp' z.symm)
            rw [wt4] at this
            cases this
        have hHd : H td = none := by
          cases q : H td with
          | none => rfl
          | some v =>
            exfalso
            have := o4' _ _ q tdp
            rw [htd] at this
            cases this
        have o1 : ∀ x v, H x = some v → x ≠ p → upd G wt (.lst ws0) x = some v := fun x v e n => by
          rw [upd_ne (fun z => by rw [z, hH] at e; cases e)]
          exact o x v e n
        have hp1 : upd G wt (.lst ws0) p = some (.ins d.Page dx [("boxes", .ref t), ("all_names", .ref tn)]) := by rw [upd_ne wtp']; exact hp'
        have htn1 : upd G wt (.lst ws0) tn = some (.frz tno' (.tup ((namesL l).map V.str))) := by rw [upd_ne wtn']; exact htn'
        have htd1 : upd G wt (.lst ws0) td = some (.dK kvs) := by rw [upd_ne wtd']; exact htd'
        generalize upd G wt (.lst ws0) = G1 at *
        refine ⟨_, rfl, _, rfl, _, rfl, bx, d.Box, dx2, _, _, rfl, ti1.1 _ _ _ _ hi1 rfl, T.c_Box, T.a_Box_offset, rfl, Or.inl ⟨g, ob, rfl, rfl, _, rfl, (by show 3 ≤ sizeLine; decide), fun tq htq => ?_⟩⟩
        have e2 : Same G1 (upd G1 tq (.tup [.ref bx, .int (g + ob), arV ar])) := sameNew htq
        have htq2 : upd G1 tq (.tup [.ref bx, .int (g + ob), arV ar]) tq = some (.tup [.ref bx, .int (g + ob), arV ar]) := upd_same
        generalize upd G1 tq (.tup [.ref bx, .int (g + ob), arV ar]) = G2 at *
        have htd2 := e2 _ _ htd1
        have lk : kvs.length < sizeLine := by
          rw [pd_len pr]
          exact Nat.lt_of_le_of_lt (show rs.length ≤ 24 by omega) (by decide)
        refine ⟨_, rfl, _, rfl, bx, d.Box, dx2, _, _, rfl, e2 _ _ (ti1.1 _ _ _ _ hi1 rfl), T.c_Box, T.a_Box_name, rfl, td, _, rfl, DPut.k (k := .inr n) htd2 lk, ?_⟩
        have pe : pend (W0 ++ [(.mk n ob ub inn, g, ar)]) = pend W0 ++ (⟨n, g + ob, g + ob + ub, ar, .mk n ob ub inn⟩ :: rowsL (g + ob) (some n) inn) := by
          rw [pend_app, pend, pend, List.append_nil, rowsB]
        rw [pe] at perm tot
        have nnew : n ∉ rs.map Row.nm := by
          have nd := ok.1.2.1
          rw [← rowsL_nm (g := 0) (ar := none), ← (perm.map Row.nm).nodup_iff, List.map_append, List.map_append, List.map_cons] at nd
          intro hin
          exact (List.nodup_append.mp nd).2.2 n hin n (List.mem_append_right _ (List.mem_cons_self ..)) rfl
        have kk : kvs.map (·.1) = rs.map fun r => (Sum.inr r.nm : Key) := by
          have : ∀ {kvs : List (Key × V)} {rs : List Row}, Paired (RowAt d.Box G) kvs rs → kvs.map (·.1) = rs.map fun r => (Sum.inr r.nm : Key) := fun {kvs rs} h => by
            induction h with
            | nil => rfl
            | cons a _ ih => rw [List.map_cons, List.map_cons, ih, a.1]
          exact this pr
        have pk : putK kvs (.inr n : Key) (.ref tq) = kvs ++ [(.inr n, .ref tq)] := by
          unfold putK
          rw [if_neg]
          intro h
          obtain ⟨q, hq, e⟩ := List.any_eq_true.mp h
          have e := of_decide_eq_true e
          have : q.1 ∈ kvs.map (·.1) := List.mem_map.mpr ⟨q, hq, rfl⟩
          rw [kk] at this
          obtain ⟨r, hr2, e2⟩ := List.mem_map.mp this
          rw [e] at e2
          injection e2 with e2
          exact nnew (List.mem_map.mpr ⟨r, hr2, e2⟩)
        rw [pk]
        have tdp' : td ≠ p := tdp
        have ti3 : TI G2 (upd G2 td (.dK (kvs ++ [(.inr n, .ref tq)]))) := TI.put htd2 (fun _ z => by cases z) (fun _ _ _ z => by cases z)
        have hw3 : upd G2 td (.dK (kvs ++ [(.inr n, .ref tq)])) wt = some (.lst ws0) := by rw [upd_ne wtd'.symm]; exact e2 _ _ hw1
        have hp3' : upd G2 td (.dK (kvs ++ [(.inr n, .ref tq)])) p = some (.ins d.Page dx [("boxes", .ref t), ("all_names", .ref tn)]) := by rw [upd_ne tdp'.symm]; exact e2 _ _ hp1
        have htn3' : upd G2 td (.dK (kvs ++ [(.inr n, .ref tq)])) tn = some (.frz tno' (.tup ((namesL l).map V.str))) := by rw [upd_ne tdt.symm]; exact e2 _ _ htn1
        have htd3 : upd G2 td (.dK (kvs ++ [(.inr n, .ref tq)])) td = some (.dK (kvs ++ [(.inr n, .ref tq)])) := upd_same
        have o3 : ∀ x v, H x = some v → x ≠ p → upd G2 td (.dK (kvs ++ [(.inr n, .ref tq)])) x = some v := fun x v e n => by
          rw [upd_ne (fun z => by rw [z, hHd] at e; cases e)]
          exact e2 _ _ (o1 x v e n)
        generalize upd G2 td (.dK (kvs ++ [(.inr n, .ref tq)])) = G3 at *
        have ti13 := (ti1.trans (TI.same e2)).trans ti3
        have hi3 := ti13.1 _ _ _ _ hi1 rfl
        have hti3 := ti13.2 _ _ hti
        refine ⟨_, rfl, Or.inl ⟨rfl, ws0, SqL.of hw3⟩, _, rfl, bx, d.Box, dx2, _, _, rfl, hi3, T.c_Box, T.a_Box_inner, rfl, ti, rfl, ⟨xs2, SqT.of hti3⟩, fun Z hZ => ?_⟩
        have il := hinn.len
        have ilen : inn.length ≤ 24 := by
          have := pend_len (inn.map fun b => (b, g + ob, some n))
          rw [pend_inn, List.length_map] at this
          rw [List.length_append, List.length_cons] at tot
          omega
        refine lc_tup (xs := xs2) (fun i H' => Same G3 H' ∧ ∃ zs, H' Z = some (.lst zs) ∧ zs.length = i ∧ Paired (WtAt d.Box H') zs ((inn.take i).map fun b => (b, g + ob, some n))) ⟨sameNew hZ, [], upd_same, rfl, .nil⟩ (fun i H' _ q => SqT.of (q.1 _ _ hti3)) (fun i x H' hx q => ?_) (fun H' q => ?_)
        · obtain ⟨e4, zs, hz, hzl, hzz⟩ := q
          obtain ⟨b, hbi, hxb⟩ := pd_at (isBs_pd.mp hinn) hx
          have ii := (List.getElem?_eq_some_iff.mp hbi).1
          have hi4 := e4 _ _ hi3
          refine ⟨rfl, yes_then ⟨_, rfl, _, rfl, _, rfl, bx, d.Box, dx2, _, _, rfl, hi4, T.c_Box, T.a_Box_offset, rfl, g, ob, rfl, rfl, _, rfl, bx, d.Box, dx2, _, _, rfl, hi4, T.c_Box, T.a_Box_name, rfl, (by show 3 ≤ sizeLine; decide), fun tp2 ht2 => ⟨zs, (sameNew ht2) _ _ hz, by rw [hzl]; exact Nat.lt_of_lt_of_le (Nat.lt_of_lt_of_le ii ilen) (by decide), same_at (e4.trans (sameNew ht2)) hZ, _, upd_same, by rw [List.length_append, hzl]; rfl, ?_⟩⟩⟩
          have up := TI.put (u := .lst (zs ++ [.ref tp2])) ((sameNew ht2 (o := .tup [x, .int (g + ob), .str n])) _ _ hz) (fun _ z => by cases z) (fun _ _ _ z => by cases z)
          have t2 := (TI.same (sameNew ht2 (o := .tup [x, .int (g + ob), .str n]))).trans up
          rw [take_at hbi, List.map_append]
          exact paired_append (pd_imp (fun q => WtAt.ti q t2) hzz) (.cons ⟨tp2, x, rfl, up.2 _ _ upd_same, hxb.ti ((ti13.trans (TI.same e4)).trans t2)⟩ .nil)
        · obtain ⟨e4, zs, hz, hzl, hzz⟩ := q
          rw [il, List.take_of_length_le (Nat.le_refl _)] at hzz
          have hw4 := e4 _ _ hw3
          have w0l : ws0.length ≤ 24 := by
            have := pend_len W0
            rw [pd_len pw0]
            rw [List.length_append] at tot
            omega
          refine ⟨wt, Z, ws0, zs, rfl, rfl, hw4, hz, ?_, (pend (W0 ++ inn.map fun b => (b, g + ob, some n))).length, ?_, ?_⟩
          · rw [hzl, il]
            exact Nat.le_trans (Nat.add_le_add w0l ilen) (by decide)
          · rw [pe, pend_app, pend_inn, List.length_append, List.length_append, List.length_cons]
            omega
          have ti5 : TI H' (upd H' wt (.lst (ws0 ++ zs))) := TI.put hw4 (fun _ z => by cases z) (fun _ _ _ z => by cases z)
          have tA := (TI.same e4).trans ti5
          have tB := ti13.trans tA
          refine ⟨_, _, _, ws0 ++ zs, W0 ++ inn.map (fun b => (b, g + ob, some n)), kvs ++ [(.inr n, .ref tq)], rs ++ [⟨n, g + ob, g + ob + ub, ar, .mk n ob ub inn⟩], rfl, fun x v e nx => ?_, ?_, ?_, ?_, upd_same, ?_, ?_, ?_, rfl⟩
          · rw [upd_ne (fun z => by rw [z, hH] at e; cases e)]
            exact e4 _ _ (o3 x v e nx)
          · rw [upd_ne wtp']
            exact e4 _ _ hp3'
          · refine ⟨tno', ?_, tnc'⟩
            rw [upd_ne wtn']
            exact e4 _ _ htn3'
          · rw [upd_ne wtd']
            exact e4 _ _ htd3
          · exact paired_append (pd_imp (fun q => WtAt.ti q tB) pw0) (pd_imp (fun q => WtAt.ti q ti5) hzz)
          · exact paired_append (pd_imp (fun q => RowAt.ti q tB) pr) (.cons ⟨rfl, tq, .ref bx, rfl, (ti3.trans tA).2 _ _ htq2, hbx0.ti tB⟩ .nil)
          · rw [pend_app, pend_inn]
            refine List.Perm.trans ?_ perm
            rw [List.append_assoc]
            refine List.Perm.append_left _ ?_
            rw [List.singleton_append]
            exact List.perm_middle.symm
end

end AZ
namespace AZ
open PySem L2
/-! ## pages changed -/
theorem IsPg.same {C D : Addr} {H H' : Hp} {v : V} {l : List Bx} (h : IsPg C D H v l) (e : Same H H') : IsPg C D H' v l := by
  obtain ⟨a, dx, tb, tn, td, xs, kvs, rs, rfl, h1, h2, h3, h4, h5, h6, h7⟩ := h
  exact ⟨a, dx, tb, tn, td, xs, kvs, rs, rfl, e _ _ h1, e _ _ h2, h3.same e, h4.same e, e _ _ h5, h6, pd_imp (fun q => RowAt.ti q (TI.same e)) h7⟩
theorem IsPg.up {C D p : Addr} {H H' : Hp} {v : V} {l : List Bx} (h : IsPg C D H v l) (e : Up p H H') : IsPg C D H' v l := by
  obtain ⟨a, dx, tb, tn, td, xs, kvs, rs, rfl, h1, h2, h3, h4, h5, h6, h7⟩ := h
  exact ⟨a, dx, tb, tn, td, xs, kvs, rs, rfl, e.ins h1, e.tup h2, h3.up e, (by obtain ⟨o, g, q⟩ := h4; exact ⟨o, e _ _ g (fun _ => rfl), q⟩), e _ _ h5 (fun _ => rfl), h6, pd_imp (fun q => RowAt.ti q ⟨fun _ _ _ _ z _ => e.ins z, fun _ _ z => e.tup z⟩) h7⟩
theorem pg_make {C D x dx : Addr} {H : Hp} {xs : List V} {l : List Bx} {W : VK} {E : XK} (nx : H x = none) (nd : H dx = none) (hb : IsBs D H xs l) (ok : OkP l)
    (k : ∀ H', Same H H' → IsPg C D H' (.ref x) l → W .non H') : (∃ ws rest, (V.ref x :: xs) = ws ++ rest ∧ ws.length = 1 ∧ rest.length ≤ sizeLine ∧ ∀ p, (upd (upd H dx (.own x)) x (.ins C dx [])) p = Option.none → spPgI C D (ws ++ [V.ref p]) (upd (upd (upd H dx (.own x)) x (.ins C dx [])) p (.tup rest)) W E) := by
  have e1 : Same H (upd (upd H dx (.own x)) x (.ins C dx [])) := same_at (sameNew nd) nx
  refine ⟨[.ref x], xs, rfl, rfl, by rw [hb.len]; exact Nat.le_trans ok.1.len (by decide), fun p hp => ?_⟩
  have px : x ≠ p := fun z => by rw [← z, upd_same] at hp; cases hp
  have pn : H p = none := by
    rw [upd_ne px.symm] at hp
    by_cases z : p = dx
    · rw [z]; exact nd
    · rwa [upd_ne z] at hp
  have e2 := same_at e1 pn (o := .tup xs)
  refine ⟨x, dx, p, xs, l, rfl, by rw [upd_ne px]; exact upd_same, upd_same, hb.same e2, ok, fun H' e h => k H' (fun y v hy => e y v (e2 _ _ hy) fun z => by rw [z, nx] at hy; cases hy) h⟩
def spHasP (C D : Addr) : Sp := fun vs H Q _ => ∃ (a : V) (x : Str) (l : List Bx), vs = [a, .str x] ∧ IsPg C D H a l ∧ OkP l ∧ x.length ≤ 1000 ∧ ∀ H', Same H H' → Q (.bl (decide (x ∈ namesL l))) H'
def RowV (D : Addr) (H : Hp) (v : V) (r : Row) : Prop := ∃ (tp : Addr) (bv : V), v = .ref tp ∧ H tp = some (.tup [bv, .int r.bg, arV r.ar]) ∧ IsBx D H bv r.bx
def spRow (C D : Addr) : Sp := fun vs H Q _ => ∃ (a : V) (x : Str) (l : List Bx), vs = [a, .str x] ∧ IsPg C D H a l ∧ OkP l ∧ x ∈ namesL l ∧ ∀ v H' r, Same H H' → r ∈ rowsL 0 none l → r.nm = x → RowV D H' v r → Q v H'
def spPBox (C D : Addr) : Sp := fun vs H Q _ => ∃ (a : V) (x : Str) (l : List Bx), vs = [a, .str x] ∧ IsPg C D H a l ∧ OkP l ∧ x ∈ namesL l ∧ ∀ v H' r, Same H H' → r ∈ rowsL 0 none l → r.nm = x → IsBx D H' v r.bx → Q v H'
def spPNames (C D : Addr) : Sp := fun vs H Q _ => ∃ (a : V) (l : List Bx), vs = [a] ∧ IsPg C D H a l ∧ ∀ p, TupF H p ((namesL l).map V.str) → Q (.ref p) H
/-- a new page -/
def NewPg (C D : Addr) (H : Hp) (Q : VK) (l : List Bx) : Prop := ∀ v H', Same H H' → IsPg C D H' v l → Q v H'
def spPSub (C D : Addr) : Sp := fun vs H Q _ => ∃ (a : V) (x : Str) (l : List Bx), vs = [a, .str x] ∧ IsPg C D H a l ∧ OkP l ∧ x ∈ namesL l ∧ depL l < 12 ∧ NewPg C D H Q (outL x l)
def spPMul (C D : Addr) : Sp := fun vs H Q _ => ∃ (a : V) (k : Int) (l : List Bx), vs = [a, .int k] ∧ IsPg C D H a l ∧ OkP l ∧ 1 ≤ k ∧ k.natAbs < 2 ^ 1000 ∧ OkP (timL k l) ∧ depL l < 12 ∧ NewPg C D H Q (timL k l)
def spPWith (C D : Addr) : Sp := fun vs H Q _ => ∃ (a bv : V) (b : Bx) (at_ : Option Str) (l : List Bx), vs = [a, bv, arV at_] ∧ IsPg C D H a l ∧ OkP l ∧ IsBx D H bv b ∧ OkB b ∧ (∀ x, at_ = some x → x ∈ namesL l) ∧ OkP (withB l b at_) ∧ depL l < 12 ∧ NewPg C D H Q (withB l b at_)
def spPStr (C D : Addr) : Sp := fun vs H Q _ => ∃ (a : V) (l : List Bx), vs = [a] ∧ IsPg C D H a l ∧ OkP l ∧ ∀ H', Same H H' → Q (.str (pageT l)) H'
mutual
theorem wf_nmB {k : Nat} {x : Str} : ∀ {b : Bx}, WfB k b → x ∈ namesB b → isNm x = true
  | .mk n o u l, h, hx => by
    rw [WfB] at h
    rw [namesB] at hx
    rcases List.mem_cons.mp hx with rfl | hx
    · exact h.1
    · exact wf_nmL h.2.2.2.2 hx
theorem wf_nmL {k : Nat} {x : Str} : ∀ {l : List Bx}, WfL k l → x ∈ namesL l → isNm x = true
  | [], _, hx => by cases hx
  | b :: r, h, hx => by
    rw [WfL] at h
    rw [namesL] at hx
    rcases List.mem_append.mp hx with hx | hx
    · exact wf_nmB h.1 hx
    · exact wf_nmL h.2 hx
end
theorem rows_get {D : Addr} {H : Hp} {x : Str} : ∀ {kvs : List (Key × V)} {rs : List Row}, Paired (RowAt D H) kvs rs → (x ∈ rs.map Row.nm ∧ ∃ v r, valV kvs (.inr x : Key) = some v ∧ r ∈ rs ∧ r.nm = x ∧ RowV D H v r) ∨ (x ∉ rs.map Row.nm ∧ valV kvs (.inr x : Key) = none)
  | _, _, .nil => Or.inr ⟨by simp, rfl⟩
  | kv :: kvs, r :: rs, .cons a h => by
    by_cases e : r.nm = x
    · refine Or.inl ⟨by rw [List.map_cons, e]; exact List.mem_cons_self .., kv.2, r, ?_, List.mem_cons_self .., e, a.2⟩
      unfold valV
      rw [List.find?_cons, a.1, e, decide_eq_true rfl]
      rfl
    · have e2 : valV (kv :: kvs) (.inr x : Key) = valV kvs (.inr x : Key) := by
        unfold valV
        rw [List.find?_cons, a.1, decide_eq_false (fun z => e (by injection z))]
      rw [e2]
      rcases rows_get h with ⟨h1, v, q, h2, h3, h4, h5⟩ | ⟨h1, h2⟩
      · exact Or.inl ⟨List.mem_cons_of_mem _ h1, v, q, h2, List.mem_cons_of_mem _ h3, h4, h5⟩
      · exact Or.inr ⟨by rw [List.map_cons]; intro z; rcases List.mem_cons.mp z with z | z; exact e z.symm; exact h1 z, h2⟩
theorem txB_pos {b : Bx} : 1 ≤ (txB b).length := by
  have hp : ∀ n o u, 1 ≤ (hdB n o u).length := fun n o u => by
    unfold hdB
    have h4 : ((" " : Str)).length = 1 := by decide +kernel
    rw [slen, slen, slen, slen]
    omega
  cases b with | mk n o u l =>
  cases l with
  | nil => rw [txB_nil]; exact hp _ _ _
  | cons c r =>
    rw [txB_cons, slen, slen, slen]
    have := hp n o u
    omega
theorem joinB_pos {b : Bx} {r : List Bx} : 1 ≤ (joinB (b :: r)).length := by
  have h := join_len (" ; " : Str) ((b :: r).map txB)
  have h11 : ((" ; " : Str)).length = 3 := by decide +kernel
  rw [h11] at h
  have p := txB_pos (b := b)
  simp only [List.map_cons, List.sum_cons, List.length_cons, List.length_map] at h
  show 1 ≤ (Txt.join (" ; " : Str) ((b :: r).map txB)).length
  rw [List.map_cons]
  omega
section
variable {P : Program} {w : World} {K : PySem.W.Frag} {mg : Str → Option Value} {base : Heap} {d : Ad}
theorem G_Page___contains__ (T : Tx K mg d) : FnR P w K mg base CX0 2 d.Page___contains__ (spHasP d.Page d.Box) := by
  have G_is_name := G_is_name (P := P) (w := w) (base := base) T
  obtain ⟨fd, F⟩ := T.F_Page___contains__
  refine FnR.imp (FnOk.raw (F.ok sc_Page___contains__ (k := 1) (sp := spHasP d.Page d.Box) (fun vs H Q E h => ?_) (fun cdv A outer s H vs Q E hr h => ?_)) (F.binds fun _ _ _ _ _ _ us hl => match us, hl with | [_, _], _ => rfl) .nil) fun vs H Q E h => by rw [List.append_nil]; exact h
  · obtain ⟨a, x, l, rfl, _⟩ := h
    rfl
  · obtain ⟨a, x, l, rfl, hp, ok, hx, k⟩ := h
    -- slots: 0 self, 1 x
    refine ⟨_, (pss_one (ps_ret (pe_and (pe_fnR G_is_name (hr.mono (by decide)) T.k_is_name T.m_is_name pass0 (pa_cons (pv 1) pa_nil)) (pe_one (pe_cmp (pc_din (hu_of hr) (pv 1) (pe_fld (pv 0) rfl)) rfl))))), ?_⟩
    obtain ⟨a, dx, tb, tn, td, xs, kvs, rs, rfl, h1, h2, h3, h4, h5, h6, h7⟩ := hp
    have nm : rs.map Row.nm = rs.map Row.nm := rfl
    have pm : (rs.map Row.nm).Perm (namesL l) := by rw [← rowsL_nm (g := 0) (ar := none)]; exact h6.map _
    refine ⟨_, rfl, x, rfl, hx, fun H1 e1 => ⟨isNm x, rfl, ?_⟩⟩
    cases q : isNm x with
    | false =>
      have : x ∉ namesL l := fun z => by rw [wf_nmL ok.1.1 z] at q; cases q
      rw [decide_eq_false this] at k
      exact iteF (k _ e1)
    | true =>
      refine iteT ⟨_, rfl, _, rfl, a, d.Page, dx, _, _, rfl, e1 _ _ h1, T.c_Page, T.a_Page_rows, rfl, td, _, rfl, DGet.k (k := .inr x) (e1 _ _ h5), ?_⟩
      rcases rows_get (x := x) h7 with ⟨g1, v, r, g2, g3, g4, g5⟩ | ⟨g1, g2⟩
      · rw [decide_eq_true (pm.mem_iff.mp g1)] at k
        rw [g2]
        exact k _ e1
      · rw [decide_eq_false (fun z => g1 (pm.mem_iff.mpr z))] at k
        rw [g2]
        exact k _ e1
theorem G_Page_row (T : Tx K mg d) : FnR P w K mg base CX0 5 d.Page_row (spRow d.Page d.Box) := by
  have G_Page___contains__ := G_Page___contains__ (P := P) (w := w) (base := base) T
  obtain ⟨fd, F⟩ := T.F_Page_row
  refine FnR.imp (FnOk.raw (F.ok sc_Page_row (k := 4) (sp := spRow d.Page d.Box) (fun vs H Q E h => ?_) (fun cdv A outer s H vs Q E hr h => ?_)) (F.binds fun _ _ _ _ _ _ us hl => match us, hl with | [_, _], _ => rfl) .nil) fun vs H Q E h => by rw [List.append_nil]; exact h
  · obtain ⟨a, x, l, rfl, _⟩ := h
    rfl
  · obtain ⟨a, x, l, rfl, hp, ok, hx, k⟩ := h
    -- slots: 0 self, 1 name
    refine ⟨_, (pss_cons (ps_if (pt_cmpR (op_notInR T.in_Page G_Page___contains__ (hr.mono (by decide)) pass0) (pv 1) (pv 0) rfl) pss_never pss_nil)
      (pss_one (ps_ret (pe_dget (hu_of hr) (pe_fld (pv 0) rfl) (pv 1) (fun _ _ => rfl))))), ?_⟩
    obtain ⟨a, dx, tb, tn, td, xs, kvs, rs, rfl, h1, h2, h3, h4, h5, h6, h7⟩ := id hp
    have pm : (rs.map Row.nm).Perm (namesL l) := by rw [← rowsL_nm (g := 0) (ar := none)]; exact h6.map _
    have xl : x.length ≤ 1000 := Nat.le_trans (isNm_len (wf_nmL ok.1.1 hx)) (by decide)
    refine ⟨_, rfl, _, rfl, a, dx, _, rfl, h1, ⟨_, x, l, rfl, hp, ok, xl, fun H1 e1 => ⟨_, rfl, _, rfl, ?_⟩⟩⟩
    rw [decide_eq_true hx]
    rcases rows_get (x := x) h7 with ⟨g1, v, r, g2, g3, g4, g5⟩ | ⟨g1, g2⟩
    · obtain ⟨tp, bv, rfl, g6, g7⟩ := g5
      refine iteF ⟨_, rfl, a, d.Page, dx, _, _, rfl, e1 _ _ h1, T.c_Page, T.a_Page_rows, rfl, _, rfl, td, _, rfl, by rw [← g2]; exact DGet.k (k := .inr x) (e1 _ _ h5), ?_⟩
      exact k _ _ r e1 (h6.mem_iff.mp g3) g4 ⟨tp, bv, rfl, e1 _ _ g6, g7.same e1⟩
    · exact absurd (pm.mem_iff.mpr hx) g1
theorem G_Page_box (T : Tx K mg d) : FnR P w K mg base CX0 6 d.Page_box (spPBox d.Page d.Box) := by
  have G_Page_row := G_Page_row (P := P) (w := w) (base := base) T
  obtain ⟨fd, F⟩ := T.F_Page_box
  refine FnR.imp (FnOk.raw (F.ok sc_Page_box (k := 5) (sp := spPBox d.Page d.Box) (fun vs H Q E h => ?_) (fun cdv A outer s H vs Q E hr h => ?_)) (F.binds fun _ _ _ _ _ _ us hl => match us, hl with | [_, _], _ => rfl) .nil) fun vs H Q E h => by rw [List.append_nil]; exact h
  · obtain ⟨a, x, l, rfl, _⟩ := h
    rfl
  · obtain ⟨a, x, l, rfl, hp, ok, hx, k⟩ := h
    -- slots: 0 self, 1 name
    refine ⟨_, (pss_one (ps_ret (pe_ix ix_seq (pe_mR (pv 0) T.c_Page T.h_Page_row G_Page_row (hr.mono (by decide)) pass0 (pa_cons (pv 1) pa_nil)) pe_int (fun _ _ => rfl)))), ?_⟩
    obtain ⟨a', dx, tb, tn, td, xs, kvs, rs, rfl, h1, _⟩ := id hp
    refine ⟨_, rfl, a', dx, _, rfl, h1, rfl, _, rfl, _, x, l, rfl, hp, ok, hx, fun v H' r e hr2 hn hv => ?_⟩
    obtain ⟨tp, bv, rfl, g1, g2⟩ := hv
    exact Or.inr (Or.inl ⟨tp, _, 0, _, rfl, rfl, SqT.of g1, atI_nat (j := 0) rfl, k _ _ r e hr2 hn g2⟩)
theorem G_Page_names (T : Tx K mg d) : FnR P w K mg base CX0 1 d.Page_names (spPNames d.Page d.Box) := by
  obtain ⟨fd, F⟩ := T.F_Page_names
  refine FnR.imp (FnOk.raw (F.ok sc_Page_names (k := 0) (sp := spPNames d.Page d.Box) (fun vs H Q E h => ?_) (fun cdv A outer s H vs Q E hr h => ?_)) (F.binds fun _ _ _ _ _ _ us hl => match us, hl with | [_], _ => rfl) .nil) fun vs H Q E h => by rw [List.append_nil]; exact h
  · obtain ⟨a, l, rfl, _⟩ := h
    rfl
  · obtain ⟨a, l, rfl, hp, k⟩ := h
    -- slots: 0 self
    refine ⟨_, (pss_one (ps_ret (pe_fld (pv 0) rfl))), ?_⟩
    obtain ⟨a, dx, tb, tn, td, xs, kvs, rs, rfl, h1, h2, h3, h4, h5, h6, h7⟩ := hp
    exact ⟨_, rfl, a, d.Page, dx, _, _, rfl, h1, T.c_Page, T.a_Page_all_names, rfl, k tn h4⟩
theorem G_Page___sub__ (T : Tx K mg d) : FnR P w K mg base CX0 23 d.Page___sub__ (spPSub d.Page d.Box) := by
  have G_Page_row := G_Page_row (P := P) (w := w) (base := base) T
  have G_boxes_without := G_boxes_without (P := P) (w := w) (base := base) T 12
  have G_Page___init__ := G_Page___init__ (P := P) (w := w) (base := base) T
  obtain ⟨fd, F⟩ := T.F_Page___sub__
  refine FnR.imp (FnOk.raw (F.ok sc_Page___sub__ (k := 22) (sp := spPSub d.Page d.Box) (fun vs H Q E h => ?_) (fun cdv A outer s H vs Q E hr h => ?_)) (F.binds fun _ _ _ _ _ _ us hl => match us, hl with | [_, _], _ => rfl) .nil) fun vs H Q E h => by rw [List.append_nil]; exact h
  · obtain ⟨a, x, l, rfl, _⟩ := h
    rfl
  · obtain ⟨a, x, l, rfl, hp, ok, hx, dl, k⟩ := h
    -- slots: 0 self, 1 other, 2 boxes
    refine ⟨_, (pss_cons (ps_expr (pe_mR (pv 0) T.c_Page T.h_Page_row G_Page_row (hr.mono (by decide)) pass0 (pa_cons (pv 1) pa_nil)))
      (pss_cons (ps_set (i := 2) sc_Page___sub__.nd rfl (Or.inl rfl) (pe_fnR G_boxes_without (hr.mono (by decide)) T.k_boxes_without T.m_boxes_without pass0 (pa_cons (pe_fld (pv 0) rfl) (pa_cons (pv 1) pa_nil))))
      (pss_one (ps_ret (pe_makeS1 T.mk_Page G_Page___init__ (hr.mono (by decide)) rfl T.m_Page pass0 (pv 2)))))), ?_⟩
    obtain ⟨a', dx, tb, tn, td, xs, kvs, rs, rfl, h1, h2, h3, _⟩ := id hp
    refine ⟨_, rfl, a', dx, _, rfl, h1, rfl, _, rfl, _, x, l, rfl, hp, ok, hx, fun v H' r e hr2 hn hv => ?_⟩
    refine ⟨_, rfl, a', d.Page, dx, _, _, rfl, e _ _ h1, T.c_Page, T.a_Page_boxes, rfl, _, rfl, tb, x, xs, l, rfl, e _ _ h2, h3.same e, ok.1, dl, fun p H2 ys e2 hp2 hys => ?_⟩
    refine ⟨_, rfl, p, ys, rfl, Or.inr (SqL.of hp2), fun c dx2 nc nd _ => ?_⟩
    rw [List.append_nil]
    exact pg_make nc nd hys ⟨ok.1.out, Nat.le_trans names_outL.length_le ok.2⟩ fun H3 e3 h => ⟨rfl, k _ _ ((e.trans e2).trans e3) h⟩
theorem G_Page___mul__ (T : Tx K mg d) : FnR P w K mg base CX0 23 d.Page___mul__ (spPMul d.Page d.Box) := by
  have G_is_integer := G_is_integer (P := P) (w := w) (base := base) T
  have G_boxes_scaled := G_boxes_scaled (P := P) (w := w) (base := base) T 12
  have G_Page___init__ := G_Page___init__ (P := P) (w := w) (base := base) T
  obtain ⟨fd, F⟩ := T.F_Page___mul__
  refine FnR.imp (FnOk.raw (F.ok sc_Page___mul__ (k := 22) (sp := spPMul d.Page d.Box) (fun vs H Q E h => ?_) (fun cdv A outer s H vs Q E hr h => ?_)) (F.binds fun _ _ _ _ _ _ us hl => match us, hl with | [_, _], _ => rfl) .nil) fun vs H Q E h => by rw [List.append_nil]; exact h
  · obtain ⟨a, n, l, rfl, _⟩ := h
    rfl
  · obtain ⟨a, n, l, rfl, hp, ok, n1, nb, ok2, dl, k⟩ := h
    -- slots: 0 self, 1 other, 2 boxes
    refine ⟨_, (pss_cons (ps_if (PW.pt (pw_or (pt_not (pt_val (pe_fnR G_is_integer (hr.mono (by decide)) T.k_is_integer T.m_is_integer pass0 (pa_cons (pv 1) pa_nil)))) (pw_or1 (pt_cmpR uLt (pv 1) pe_int (nomark _))))) pss_never pss_nil)
      (pss_cons (ps_set (i := 2) sc_Page___mul__.nd rfl (Or.inl rfl) (pe_fnR G_boxes_scaled (hr.mono (by decide)) T.k_boxes_scaled T.m_boxes_scaled pass0 (pa_cons (pe_fld (pv 0) rfl) (pa_cons (pv 1) pa_nil))))
      (pss_one (ps_ret (pe_makeS1 T.mk_Page G_Page___init__ (hr.mono (by decide)) rfl T.m_Page pass0 (pv 2)))))), ?_⟩
    obtain ⟨a', dx, tb, tn, td, xs, kvs, rs, rfl, h1, h2, h3, _⟩ := id hp
    refine ⟨_, rfl, _, true, rfl, isI_int T, _, rfl, iteF ⟨_, rfl, Or.inl ⟨_, _, rfl, rfl, _, rfl, ?_⟩⟩⟩
    rw [decide_eq_false (by omega)]
    refine iteF ⟨_, rfl, a', d.Page, dx, _, _, rfl, h1, T.c_Page, T.a_Page_boxes, rfl, _, rfl, tb, n, xs, l, rfl, h2, h3, ok.1, nb, ok2.1, dl, fun p H2 ys e2 hp2 hys => ?_⟩
    refine ⟨_, rfl, p, ys, rfl, Or.inr (SqL.of hp2), fun c dx2 nc nd _ => ?_⟩
    rw [List.append_nil]
    exact pg_make nc nd hys ok2 fun H3 e3 h => ⟨rfl, k _ _ (e2.trans e3) h⟩
theorem G_Page___str__ (T : Tx K mg d) : FnR P w K mg base CX0 6 d.Page___str__ (spPStr d.Page d.Box) := by
  have G_boxes_text := G_boxes_text (P := P) (w := w) (base := base) T
  obtain ⟨fd, F⟩ := T.F_Page___str__
  refine FnR.imp (FnOk.raw (F.ok sc_Page___str__ (k := 5) (sp := spPStr d.Page d.Box) (fun vs H Q E h => ?_) (fun cdv A outer s H vs Q E hr h => ?_)) (F.binds fun _ _ _ _ _ _ us hl => match us, hl with | [_], _ => rfl) .nil) fun vs H Q E h => by rw [List.append_nil]; exact h
  · obtain ⟨a, l, rfl, _⟩ := h
    rfl
  · obtain ⟨a, l, rfl, hp, ok, k⟩ := h
    -- slots: 0 self
    refine ⟨_, (pss_one (ps_ret (pe_callTy uStrS (by rfl) T.n_str (by decide +kernel) (pa_cons (pe_orT (pe_fnR G_boxes_text (hr.mono (by decide)) T.k_boxes_text T.m_boxes_text pass0 (pa_cons (pe_fld (pv 0) rfl) pa_nil)) (pe_one pe_str)) pa_nil)))), ?_⟩
    obtain ⟨a', dx, tb, tn, td, xs, kvs, rs, rfl, h1, h2, h3, _⟩ := id hp
    refine ⟨_, rfl, a', d.Page, dx, _, _, rfl, h1, T.c_Page, T.a_Page_boxes, rfl, tb, xs, l, rfl, h2, h3, Nat.le_trans ok.1.len (by decide), fun b hb => Nat.le_trans (ok.1.mem hb).txt (by decide), Nat.le_trans ok.1.txt (by decide), fun H1 e1 => ?_⟩
    have jl := ok.1.txt
    refine ⟨_, ⟨Nat.le_trans jl (by decide), rfl⟩, ?_⟩
    cases l with
    | nil => exact iteF (Or.inr ⟨_, rfl, k H1 e1⟩)
    | cons b r =>
      have := joinB_pos (b := b) (r := r)
      rw [show ((((joinB (b :: r)).length : Nat) : Int) != 0) = true by simp; omega]
      exact iteT (Or.inr ⟨_, rfl, k H1 e1⟩)
end

end AZ
namespace AZ
open PySem L2
/-! ## a box put in -/
theorem cut_up {xs : List V} {e : Nat} : cutV xs none (some (e : Int)) = xs.take e := by
  unfold cutV
  rw [HT.sIx_none, HT.sIx_nat, List.drop_zero, Nat.sub_zero, Nat.min_def]
  split
  · rfl
  · rw [List.take_of_length_le (Nat.le_refl _), List.take_of_length_le (by omega)]
theorem cut_dn {xs : List V} {e : Nat} : cutV xs (some (e : Int)) none = xs.drop e := by
  unfold cutV
  rw [HT.sIx_none, HT.sIx_nat, Nat.min_def]
  split
  · rw [List.take_of_length_le (by rw [List.length_drop]; omega)]
  · rw [List.drop_of_length_le (Nat.le_refl _), List.drop_of_length_le (by omega), List.take_nil]
theorem slA_up {K : PySem.W.Frag} {H : Hp} {a : Addr} {xs : List V} {e : Nat} {Q : VK} (h : SqT K H a xs) (k : ∀ p H', Same H H' → SqT K H' p (xs.take e) → Q (.ref p) H') : rSlA K (.ref a) none (some (e : Int)) H Q := by
  refine ⟨a, xs, rfl, h, fun w => ?_, fun _ p hp => ?_⟩
  · have := w.2
    rw [HT.sIx_nat] at this
    exact k a H (Same.refl _) (by rw [List.take_of_length_le (by omega)]; exact h)
  · exact k p _ (sameNew hp) (SqT.of (by rw [upd_same, cut_up]))
theorem slA_dn {K : PySem.W.Frag} {H : Hp} {a : Addr} {xs : List V} {e : Nat} {Q : VK} (h : SqT K H a xs) (k : ∀ p H', Same H H' → SqT K H' p (xs.drop e) → Q (.ref p) H') : rSlA K (.ref a) (some (e : Int)) none H Q := by
  refine ⟨a, xs, rfl, h, fun w => ?_, fun _ p hp => ?_⟩
  · have := w.1
    rw [HT.sIx_nat] at this
    have h2 : xs.drop e = xs := by
      by_cases z : e = 0
      · rw [z, List.drop_zero]
      · have : xs.length = 0 := by omega
        rw [List.length_eq_zero_iff.mp this, List.drop_nil]
    exact k a H (Same.refl _) (by rw [h2]; exact h)
  · exact k p _ (sameNew hp) (SqT.of (by rw [upd_same, cut_dn]))
theorem catA_of {K : PySem.W.Frag} {H : Hp} {a b : Addr} {xs ys : List V} {Q : VK} (ha : SqT K H a xs) (hb : SqT K H b ys) (hl : xs.length + ys.length ≤ 1000) (k : ∀ p H', Same H H' → SqT K H' p (xs ++ ys) → Q (.ref p) H') : rCatA K (.ref a) (.ref b) H Q := by
  refine ⟨a, b, xs, ys, rfl, rfl, ha, hb, Nat.le_trans hl (by decide), fun e => ?_, fun _ e => ?_, fun _ _ p hp => ?_⟩
  · subst e
    exact k b H (Same.refl _) hb
  · subst e
    exact k a H (Same.refl _) (by rw [List.append_nil]; exact ha)
  · exact k p _ (sameNew hp) (SqT.of upd_same)
theorem putL_app {x : Str} {m : Bx} : ∀ {a b : List Bx}, putL x m (a ++ b) = putL x m a ++ putL x m b
  | [], _ => rfl
  | c :: a, b => by rw [List.cons_append, putL, putL, putL_app, List.cons_append]
theorem withB_perm {l : List Bx} {b : Bx} {at_ : Option Str} (nd : (namesL l).Nodup) (hat : ∀ x, at_ = some x → x ∈ namesL l) : (namesL (withB l b at_)).Perm (namesL l ++ namesB b) := by
  cases at_ with
  | none =>
    show (namesL (l ++ [b])).Perm _
    rw [namesL_app, namesL_one]
  | some x => exact names_putL nd (hat x rfl)
section
variable {P : Program} {w : World} {K : PySem.W.Frag} {mg : Str → Option Value} {base : Heap} {d : Ad}
-- T.D_Page_with_box
theorem OK_Page_with_box (T : Tx K mg d) {fd : FuncData} (F : FunD K "with_box" "Page.with_box" (defArgs s_Page_with_box) (defBody s_Page_with_box) (defScope s_Page_with_box) [V.non] [] d.Page_with_box fd) : FnOk P w K mg base CX0 23 d.Page_with_box fd ["self", "box", "name"] (spPWith d.Page d.Box) := by
  have G_check_names := G_check_names (P := P) (w := w) (base := base) T
  have G_Page_box := G_Page_box (P := P) (w := w) (base := base) T
  have G_boxes_with := G_boxes_with (P := P) (w := w) (base := base) T 12
  have G_Page___init__ := G_Page___init__ (P := P) (w := w) (base := base) T
  refine F.ok sc_Page_with_box (k := 22) (fun vs H Q E h => ?_) (fun cdv A outer s H vs Q E hr h => ?_)
  · obtain ⟨a, bv, b, at_, l, rfl, _⟩ := h
    rfl
  · obtain ⟨a, bv, b, at_, l, rfl, hp, ok, hb, okb, hat, ok2, dl, k⟩ := h
    -- slots: 0 self, 1 box, 2 name, 3 end, 4 boxes
    refine ⟨_, (pss_cons (ps_if (pt_not (pt_val (pe_callB uIsi (by rfl) T.n_isinstance (by decide +kernel) (pa_cons (pv 1) (pa_cons (pe_glob (v := .ref _) rfl T.m_Box rfl) pa_nil))))) pss_never pss_nil)
      (pss_cons (ps_set (i := 3) sc_Page_with_box.nd rfl (Or.inl rfl) (pe_callB call_len_seq (by rfl) T.n_len (by decide +kernel) (pa_cons (pe_fld (pv 0) rfl) pa_nil)))
      (pss_cons (ps_if (pt_cmp (pc_notN (pv 2)) rfl) (pss_one (ps_set (i := 3) sc_Page_with_box.nd rfl (Or.inl rfl) (pe_op ((op_or2 op_catA op_add)) (pe_callB call_len_seq (by rfl) T.n_len (by decide +kernel) (pa_cons (pe_fld (pe_mR (pv 0) T.c_Page T.h_Page_box G_Page_box (hr.mono (by decide)) pass0 (pa_cons (pv 2) pa_nil)) rfl) pa_nil)) (pe_bmF PySem.F.plainAttrs_tuple PySem.F.slot_tuple_index PySem.F.type_tuple_index mt_tup_index (pe_fld (pv 0) rfl) (pa_cons (pv 2) pa_nil))))) pss_nil)
      (pss_cons (ps_expr (pe_fnR G_check_names (hr.mono (by decide)) T.k_check_names T.m_check_names pass0 (pa_cons (pe_op ((op_or2 op_catA op_add)) (pe_op ((op_or2 op_catA op_add)) (pe_slice sl_tupA (pe_fld (pv 0) rfl) po_none (po_some (pv 3))) (pe_fld (pv 1) rfl)) (pe_slice sl_tupA (pe_fld (pv 0) rfl) (po_some (pv 3)) po_none)) pa_nil)))
      (pss_cons (ps_set (i := 4) sc_Page_with_box.nd rfl (Or.inl rfl) (pe_ifExp (pt_cmp (pc_isN (pv 2)) rfl) (pe_tup (StX.pa_star (pe_fld (pv 0) rfl) (pa_cons (pv 1) pa_nil))) (pe_fnR G_boxes_with (hr.mono (by decide)) T.k_boxes_with T.m_boxes_with pass0 (pa_cons (pe_fld (pv 0) rfl) (pa_cons (pv 1) (pa_cons (pv 2) pa_nil))))))
      (pss_one (ps_ret (pe_makeS1 T.mk_Page G_Page___init__ (hr.mono (by decide)) rfl T.m_Page pass0 (pv 4))))))))), ?_⟩
    obtain ⟨a', dx, tb, tn, td, xs, kvs, rs, rfl, h1, h2, h3, h4, h5, h6, h7⟩ := id hp
    have hb0 := hb
    cases b with | mk n ob ub inn =>
    rw [IsBx] at hb
    obtain ⟨bx, dx2, ti, tnb, xs2, rfl, hi1, hti, htn, hinn⟩ := hb
    have pm := withB_perm (b := .mk n ob ub inn) ok.1.2.1 hat
    have ndA : (namesL l ++ namesB (.mk n ob ub inn)).Nodup := pm.nodup_iff.mp ok2.1.2.1
    have lnA : (namesL l ++ namesB (.mk n ob ub inn)).length ≤ 24 := by rw [← pm.length_eq]; exact ok2.2
    rw [List.length_append] at lnA
    -- behind the number of names ahead of the new ones
    have fin : ∀ (e : Nat) (H1 : Hp), Same H H1 → (tSeq (tDrop fun σ H_1 Q => tCons (tOp (orR (rCatA K) (rI0 fun i j => V.int (i + j))) (tOp (orR (rCatA K) (rI0 fun i j => V.int (i + j))) (tSl (rSlA K) (tFld K (tVar 0) ("all_names")) tNoPart (tPart (tVar 3))) (tFld K (tVar 1) ("names_inside"))) (tSl (rSlA K) (tFld K (tVar 0) ("all_names")) (tPart (tVar 3)) tNoPart)) tNil σ H_1 fun vs H1 => spChkN K vs H1 Q E0) (tSeq (tAsg (tIf (tB (tIsN (tVar 2))) (tTup (StX.tStar K (tFld K (tVar 0) ("boxes")) (tCons (tVar 1) tNil))) fun σ H_1 Q => tCons (tFld K (tVar 0) ("boxes")) (tCons (tVar 1) (tCons (tVar 2) tNil)) σ H_1 fun vs H1 => spPut d.Box 12 vs H1 Q E0) (gName 4)) (tRet (StX.tMakeR d.Page (fun vs H Q E => ∃ ws rest, vs = ws ++ rest ∧ ws.length = 1 ∧ rest.length ≤ sizeLine ∧ ∀ (p : Addr), H p = none → spPgI d.Page d.Box (ws ++ [V.ref p]) (upd H p (HO.tup rest)) Q E) E0 (StX.tStar K (tVar 4) tNil))))) { nx := fun x H' => Q V.non H', rt := Q } [some (.ref a'), some (.ref bx), some (arV at_), some (.int (e : Int)), none] H1 := fun e H1 e1 => by
      have fl : ((namesL l).map V.str).length = (namesL l).length := List.length_map _
      refine ⟨_, rfl, a', d.Page, dx, _, _, rfl, e1 _ _ h1, T.c_Page, T.a_Page_all_names, rfl, _, rfl, _, rfl, slA_up (sqT_same e1 h4.sq) fun p H2 e2 hp2 => ?_⟩
      refine ⟨_, rfl, bx, d.Box, dx2, _, _, rfl, e2 _ _ (e1 _ _ hi1), T.c_Box, T.a_Box_names_inside, rfl, Or.inl (catA_of hp2 (SqT.of (e2 _ _ (e1 _ _ htn))) ?_ fun p2 H3 e3 hp3 => ?_)⟩
      · rw [List.length_take, fl, List.length_map]
        omega
      have e13 := (e1.trans e2).trans e3
      refine ⟨_, rfl, a', d.Page, dx, _, _, rfl, e13 _ _ h1, T.c_Page, T.a_Page_all_names, rfl, _, rfl, _, rfl, ?_⟩
      dsimp only [tNoPart]
      refine slA_dn (sqT_same e13 h4.sq) fun p3 H4 e4 hp4 => ?_
      refine Or.inl (catA_of (sqT_same e4 hp3) hp4 ?_ fun p5 H5 e5 hp5 => ?_)
      · rw [List.length_append, List.length_take, List.length_drop, fl, List.length_map]
        omega
      have pm2 : ((namesL l).take e ++ namesB (.mk n ob ub inn) ++ (namesL l).drop e).Perm (namesL l ++ namesB (.mk n ob ub inn)) := by
        rw [List.append_assoc]
        refine List.Perm.trans (List.Perm.append_left _ List.perm_append_comm) ?_
        rw [← List.append_assoc, List.take_append_drop]
      have e15 := (e13.trans e4).trans e5
      refine ⟨p5, (namesL l).take e ++ namesB (.mk n ob ub inn) ++ (namesL l).drop e, rfl, by rw [List.map_append, List.map_append, List.map_take, List.map_drop]; exact hp5, pm2.nodup_iff.mpr ndA, by rw [pm2.length_eq, List.length_append]; exact lnA, fun H6 e6 => ?_⟩
      have e16 := e15.trans e6
      cases at_ with
      | none =>
        refine ⟨_, rfl, _, rfl, iteT ?_⟩
        refine ⟨_, rfl, a', d.Page, dx, _, _, rfl, e16 _ _ h1, T.c_Page, T.a_Page_boxes, rfl, tb, xs, rfl, Or.inl (SqT.of (e16 _ _ h2)), _, rfl, ?_, fun t ht => ?_⟩
        · rw [List.length_append, h3.len]
          exact Nat.le_trans (Nat.add_le_add_right ok.1.len 1) (by decide)
        have e7 : Same H6 (upd H6 t (.tup (xs ++ [.ref bx]))) := sameNew ht
        refine ⟨_, rfl, t, xs ++ [.ref bx], rfl, Or.inl (SqT.of upd_same), fun c dx3 nc nd _ => ?_⟩
        rw [List.append_nil]
        exact pg_make nc nd (isBs_pd.mpr (paired_append (isBs_pd.mp ((h3.same e16).same e7)) (.cons ((hb0.same e16).same e7) .nil))) ok2 fun H8 e8 h => ⟨rfl, k _ _ ((e16.trans e7).trans e8) h⟩
      | some x =>
        refine ⟨_, rfl, _, rfl, iteF ?_⟩
        refine ⟨_, rfl, a', d.Page, dx, _, _, rfl, e16 _ _ h1, T.c_Page, T.a_Page_boxes, rfl, _, rfl, _, rfl, tb, .ref bx, .mk n ob ub inn, x, xs, l, rfl, e16 _ _ h2, h3.same e16, hb0.same e16, ok2.1, ok.1.2.1, dl, fun p7 H7 ys e7 hp7 hys => ?_⟩
        refine ⟨_, rfl, p7, ys, rfl, Or.inr (SqL.of hp7), fun c dx3 nc nd _ => ?_⟩
        rw [List.append_nil]
        exact pg_make nc nd hys ok2 fun H8 e8 h => ⟨rfl, k _ _ ((e16.trans e7).trans e8) h⟩
    refine ⟨_, rfl, Or.inl ⟨_, _, _, _, true, rfl, .own _, T.y_Box.ty T.c_Box hi1, T.i_Box_is_Box, _, rfl, iteF ?_⟩⟩
    refine ⟨_, rfl, a', d.Page, dx, _, _, rfl, h1, T.c_Page, T.a_Page_all_names, rfl, tn, _, rfl, Or.inr h4.sq, ?_⟩
    refine ⟨_, rfl, _, rfl, ?_⟩
    cases at_ with
    | none => exact iteF (fin _ H (Same.refl _))
    | some x =>
      have hx := hat x rfl
      refine iteT ⟨_, rfl, a', dx, _, rfl, h1, rfl, _, rfl, _, x, l, rfl, hp, ok, hx, fun v H1 r e1 hr1 hn hv => ?_⟩
      obtain ⟨nm, bg, en, ar, rb⟩ := r
      cases rb with | mk n3 o3 u3 inn3 =>
      have hv : IsBx d.Box H1 v (.mk n3 o3 u3 inn3) := hv
      rw [IsBx] at hv
      obtain ⟨b3, dx3, ti3, tn3, xs3, rfl, g1, _, g3, _⟩ := hv
      obtain ⟨j, hj⟩ := List.getElem?_of_mem hx
      have jl := (List.getElem?_eq_some_iff.mp hj).1
      refine ⟨b3, d.Box, dx3, _, _, rfl, g1, T.c_Box, T.a_Box_names_inside, rfl, tn3, _, rfl, Or.inr (SqT.of g3), ?_⟩
      refine ⟨_, rfl, a', d.Page, dx, _, _, rfl, e1 _ _ h1, T.c_Page, T.a_Page_all_names, rfl, ⟨tn, _, rfl, h4.same e1⟩, _, rfl, tn, namesL l, x, j, rfl, rfl, (h4.same e1).sq, hj, fun m hm hm2 => ?_, Or.inr ⟨_, _, rfl, rfl, ?_⟩⟩
      · have := (List.getElem?_inj (by omega) ok.1.2.1).mp (hm2.trans hj.symm)
        omega
      · have z := fin (((namesB (.mk n3 o3 u3 inn3)).map V.str).length + j) H1 e1
        rw [Int.natCast_add] at z
        exact z
end

end AZ
namespace AZ
open PySem L2
/-! ## equal boxes, equal pages; a box put in, by place and by name -/
def RBx (C : Addr) : Addr → V → Hp → Bool → Prop := fun a v H r => ∃ b, IsBx C H (.ref a) b ∧ IsBx C H v b ∧ r = true
abbrev BBx (C : Addr) : Eqw := BOwn C (RBx C)
theorem monB_bx {C : Addr} : MonB (BBx C) := monB_own fun _ _ _ _ _ e ⟨b, h1, h2, h⟩ => ⟨b, h1.same e, h2.same e, h⟩
theorem bbx_tu {C : Addr} {H : Hp} {a b : Addr} {xs ys : List V} {l : List Bx} (ha : H a = some (.tup xs)) (hb : H b = some (.tup ys)) (h1 : IsBs C H xs l) (h2 : IsBs C H ys l) : BTu (BBx C) (.ref a) (.ref b) H true := by
  refine ⟨a, b, xs, ys, rfl, rfl, ha, hb, fun _ => true, fun i x y hx hy => ?_, ?_⟩
  · obtain ⟨c, hc, q1⟩ := pd_at (isBs_pd.mp h1) hx
    obtain ⟨c2, hc2, q2⟩ := pd_at (isBs_pd.mp h2) hy
    rw [hc] at hc2
    injection hc2 with hc2
    subst hc2
    have w1 := q1
    have w2 := q2
    cases c with | mk n o u inn =>
    rw [IsBx] at w1 w2
    obtain ⟨bx, dx, ti, tn, xs2, rfl, hi, _⟩ := w1
    obtain ⟨bx2, dx2, ti2, tn2, xs3, rfl, hi2, _⟩ := w2
    exact ⟨bx, dx, _, rfl, hi, Or.inr ⟨bx2, dx2, _, rfl, hi2⟩, .mk n o u inn, q1, q2, rfl⟩
  · rw [allT_true (fun _ _ => rfl), h1.len, h2.len]
    simp
theorem uEqP {X : Cx} {C f : Addr} {k : Nat} (M : CmpM X.K C .Eq f) (F : FnR X.prog X.w X.K X.mg X.base CX0 k f (spEqB (RBx C))) (hr : Room (k + 1) X.A) :
    OpR X (compareOp .Eq) (orR rEq (orR (rOwnC X .Eq) (rEqB (BTu (BBx C))))) :=
  op_or2 op_eq (op_or2 (op_ownC _) (op_eqB (rcB_tu monB_bx (eqB_own F M pass0 fun _ _ _ ⟨_, _, _, h⟩ => h)) hr))
def spPEq (C D : Addr) : Sp := fun vs H Q _ => ∃ (a b : V) (l : List Bx), vs = [a, b] ∧ IsPg C D H a l ∧ IsPg C D H b l ∧ ∀ H', Same H H' → Q (.bl true) H'
/-- what stands ahead, what is told by name, what stands by default -/
def gwb {α : Type} : List α → List α → List α → List α
  | [a], its, [b] => [a, b] ++ its
  | _, _, _ => []
theorem vals_gwb : ∀ {vs ds zs : List V} {us its ws : List Value}, Vals vs us → Vals ds its → Vals zs ws → Vals (gwb vs ds zs) (gwb us its ws)
  | _, _, _, _, _, _, .nil, _, _ => .nil
  | _, _, _, _, _, _, .cons _ (.cons _ _), _, _ => .nil
  | _, _, _, _, _, _, .cons _ .nil, _, .nil => .nil
  | _, _, _, _, _, _, .cons _ .nil, _, .cons _ (.cons _ _) => .nil
  | _, _, _, _, _, _, .cons a .nil, i, .cons b .nil => .cons a (.cons b i)
def gnb {α : Type} : List α → List α → List α → List α
  | [a], _, [n, b] => [a, b, n]
  | _, _, _ => []
theorem vals_gnb : ∀ {vs ds zs : List V} {us its ws : List Value}, Vals vs us → Vals ds its → Vals zs ws → Vals (gnb vs ds zs) (gnb us its ws)
  | _, _, _, _, _, _, .nil, _, _ => .nil
  | _, _, _, _, _, _, .cons _ (.cons _ _), _, _ => .nil
  | _, _, _, _, _, _, .cons _ .nil, _, .nil => .nil
  | _, _, _, _, _, _, .cons _ .nil, _, .cons _ .nil => .nil
  | _, _, _, _, _, _, .cons _ .nil, _, .cons _ (.cons _ (.cons _ _)) => .nil
  | _, _, _, _, _, _, .cons a .nil, _, .cons n (.cons b .nil) => .cons a (.cons b (.cons n .nil))
section
variable {P : Program} {w : World} {K : PySem.W.Frag} {mg : Str → Option Value} {base : Heap} {d : Ad}
theorem G_Page_with_box (T : Tx K mg d) : FnR P w K mg base CX0 23 d.Page_with_box (fun vs H Q E => spPWith d.Page d.Box vs H Q E ∨ spPWith d.Page d.Box (vs ++ [.non]) H Q E) := by
  obtain ⟨fd, F⟩ := T.D_Page_with_box
  have G := OK_Page_with_box (P := P) (w := w) (base := base) T F
  obtain ⟨ds0, r0, b0⟩ := F.binds1 (ps := ["self", "box", "name"]) 3 1 (by simp) rfl fun T kV doc pm an cdv ct us its h1 h2 => match us, its, h1, h2 with
    | [_, _, _], [_], _, _ => ⟨_, rfl, by dsimp only; rfl⟩
  obtain ⟨ds1, r1, b1⟩ := F.binds1 (ps := ["self", "box", "name"]) 2 0 (by simp) rfl fun T kV doc pm an cdv ct us its h1 h2 => match us, its, h1, h2 with
    | [_, _], [_], _, _ => ⟨_, rfl, by dsimp only; rfl⟩
  exact FnR.or ((FnOk.raw G b0 r0).imp fun vs H Q E h => by rw [show vs ++ List.drop 1 [V.non] = vs from List.append_nil vs]; exact h) (FnOk.raw G b1 r1)
theorem GK_Page_with_box (T : Tx K mg d) : FnRk P w K mg base CX0 23 d.Page_with_box ["box"] (fun vs zs => gwb vs [V.non] zs) (spPWith d.Page d.Box) := by
  obtain ⟨fd, F⟩ := T.D_Page_with_box
  obtain ⟨its, hb⟩ := F.kbindsD (ps := ["self", "box", "name"]) 1 ["box"] gwb (by simp) vals_gwb fun T kV doc pm an cdv ct us its ws h1 h2 h3 => match us, its, ws, h1, h2, h3 with
    | [_], [_], [_], _, _, _ => ⟨_, rfl, by dsimp only; rfl⟩
  refine FnOk.rawkn (OK_Page_with_box (P := P) (w := w) (base := base) T F) hb fun vs zs h => ?_
  match vs, zs, h with
  | [_], [_], _ => exact ⟨rfl, rfl⟩
  | [], _, h => cases h
  | [_], [], h => cases h
  | [_], _ :: _ :: _, h => cases h
  | _ :: _ :: _, _, h => cases h
theorem GN_Page_with_box (T : Tx K mg d) : FnRk P w K mg base CX0 23 d.Page_with_box ["name", "box"] (fun vs zs => gnb vs [V.non] zs) (spPWith d.Page d.Box) := by
  obtain ⟨fd, F⟩ := T.D_Page_with_box
  obtain ⟨its, hb⟩ := F.kbindsD (ps := ["self", "box", "name"]) 1 ["name", "box"] gnb (by simp) vals_gnb fun T kV doc pm an cdv ct us its ws h1 h2 h3 => match us, its, ws, h1, h2, h3 with
    | [_], [_], [_, _], _, _, _ => ⟨_, rfl, by dsimp only; rfl⟩
  refine FnOk.rawkn (OK_Page_with_box (P := P) (w := w) (base := base) T F) hb fun vs zs h => ?_
  match vs, zs, h with
  | [_], [_, _], _ => exact ⟨rfl, rfl⟩
  | [], _, h => cases h
  | [_], [], h => cases h
  | [_], [_], h => cases h
  | [_], _ :: _ :: _ :: _, h => cases h
  | _ :: _ :: _, _, h => cases h
theorem G_Box___eq__ (T : Tx K mg d) : FnR P w K mg base CX0 1 d.Box___eq__ (spEqB (RBx d.Box)) := by
  obtain ⟨fd, F⟩ := T.F_Box___eq__
  refine FnR.imp (FnOk.raw (F.ok sc_Box___eq__ (k := 0) (sp := spEqB (RBx d.Box)) (fun vs H Q E h => ?_) (fun cdv A outer s H vs Q E hr h => ?_)) (F.binds fun _ _ _ _ _ _ us hl => match us, hl with | [_, _], _ => rfl) .nil) fun vs H Q E h => by rw [List.append_nil]; exact h
  · obtain ⟨a, y, r, rfl, _⟩ := h
    rfl
  · obtain ⟨a, y, r, rfl, ⟨b, h1, h2, rfl⟩, k⟩ := h
    -- slots: 0 self, 1 other
    refine ⟨_, (pss_one (ps_ret (pe_and (pe_callB uIsi (by rfl) T.n_isinstance (by decide +kernel) (pa_cons (pv 1) (pa_cons (pe_glob (v := .ref _) rfl T.m_Box rfl) pa_nil))) (pe_one (pe_cmpR (uEq hr.units) (pe_fld (pv 0) rfl) (pe_fld (pv 1) rfl) (nomark _)))))), ?_⟩
    cases b with | mk n o u inn =>
    rw [IsBx] at h1 h2
    obtain ⟨a2, dx, ti, tn, xs2, e, hi, _⟩ := h1
    injection e with e
    subst e
    obtain ⟨bx2, dx2, ti2, tn2, xs3, rfl, hi2, _⟩ := h2
    refine ⟨_, rfl, Or.inl ⟨_, _, _, _, true, rfl, .own _, T.y_Box.ty T.c_Box hi2, T.i_Box_is_Box, true, rfl, iteT ?_⟩⟩
    refine ⟨_, rfl, a, d.Box, dx, _, _, rfl, hi, T.c_Box, T.a_Box_told, rfl, _, rfl, bx2, d.Box, dx2, _, _, rfl, hi2, T.c_Box, T.a_Box_told, rfl, Or.inl ⟨rfl, ?_⟩⟩
    rw [decide_eq_true rfl]
    exact k _ (Same.refl _)
theorem G_Page___eq__ (T : Tx K mg d) : FnR P w K mg base CX0 4 d.Page___eq__ (spPEq d.Page d.Box) := by
  have G_eq := G_Box___eq__ (P := P) (w := w) (base := base) T
  obtain ⟨fd, F⟩ := T.F_Page___eq__
  refine FnR.imp (FnOk.raw (F.ok sc_Page___eq__ (k := 3) (sp := spPEq d.Page d.Box) (fun vs H Q E h => ?_) (fun cdv A outer s H vs Q E hr h => ?_)) (F.binds fun _ _ _ _ _ _ us hl => match us, hl with | [_, _], _ => rfl) .nil) fun vs H Q E h => by rw [List.append_nil]; exact h
  · obtain ⟨a, b, l, rfl, _⟩ := h
    rfl
  · obtain ⟨a, b, l, rfl, h1, h2, k⟩ := h
    -- slots: 0 self, 1 other
    refine ⟨_, (pss_one (ps_ret (pe_and (pe_callB uIsi (by rfl) T.n_isinstance (by decide +kernel) (pa_cons (pv 1) (pa_cons (pe_glob (v := .ref _) rfl T.m_Page rfl) pa_nil))) (pe_one (pe_cmpR (uEqP T.q_Box_eq G_eq (hr.mono (by decide))) (pe_fld (pv 0) rfl) (pe_fld (pv 1) rfl) (nomark _)))))), ?_⟩
    obtain ⟨a', dx, tb, tn, td, xs, kvs, rs, rfl, g1, g2, g3, _⟩ := id h1
    obtain ⟨b', dx', tb', tn', td', xs', kvs', rs', rfl, f1, f2, f3, _⟩ := id h2
    refine ⟨_, rfl, Or.inl ⟨_, _, _, _, true, rfl, .own _, T.y_Page.ty T.c_Page f1, T.i_Page_is_Page, true, rfl, iteT ?_⟩⟩
    exact ⟨_, rfl, a', d.Page, dx, _, _, rfl, g1, T.c_Page, T.a_Page_boxes, rfl, _, rfl, b', d.Page, dx', _, _, rfl, f1, T.c_Page, T.a_Page_boxes, rfl, Or.inr (Or.inr ⟨true, bbx_tu g2 f2 g3 f3, k⟩)⟩
theorem G_Page___rmul__ (T : Tx K mg d) : FnR P w K mg base CX0 25 d.Page___rmul__ (spPMul d.Page d.Box) := by
  have G_mul := G_Page___mul__ (P := P) (w := w) (base := base) T
  obtain ⟨fd, F⟩ := T.F_Page___rmul__
  refine FnR.imp (FnOk.raw (F.ok sc_Page___rmul__ (k := 24) (sp := spPMul d.Page d.Box) (fun vs H Q E h => ?_) (fun cdv A outer s H vs Q E hr h => ?_)) (F.binds fun _ _ _ _ _ _ us hl => match us, hl with | [_, _], _ => rfl) .nil) fun vs H Q E h => by rw [List.append_nil]; exact h
  · obtain ⟨a, n, l, rfl, _⟩ := h
    rfl
  · obtain ⟨a, n, l, rfl, hp, ok, n1, nb, ok2, dl, k⟩ := h
    obtain ⟨a', dx, tb, tn, td, xs, kvs, rs, rfl, h1, h2, h3, _⟩ := id hp
    -- slots: 0 self, 1 other
    refine ⟨_, (pss_one (ps_ret (pe_op uMul (pv 0) (pv 1)))), ?_⟩
    exact ⟨_, rfl, _, rfl, Or.inr ⟨a', d.Page, dx, _, _, CX0, 23, _, E0, rfl, h1, Or.inl ⟨n, rfl⟩, T.b_Page_mul, G_mul, hr.mono (by decide), pass0, ⟨_, n, l, rfl, hp, ok, n1, nb, ok2, dl, k⟩⟩⟩
end

end AZ
namespace AZ
open PySem L2
/-! ## plain boxes in the heap: tuples of a name, an offset, units and a list -/
mutual
def IsPB (ex : List Addr) (H : Hp) (v : V) : Bx → Prop
  | .mk n o u l => ∃ t li xs, v = .ref t ∧ li ∉ ex ∧ H t = some (.tup [.str n, .int o, .int u, .ref li]) ∧ H li = some (.lst xs) ∧ IsPL ex H xs l
def IsPL (ex : List Addr) (H : Hp) (xs : List V) : List Bx → Prop
  | [] => xs = []
  | b :: l => ∃ x ys, xs = x :: ys ∧ IsPB ex H x b ∧ IsPL ex H ys l
end
theorem isPL_pd {ex : List Addr} {H : Hp} : ∀ {l : List Bx} {xs : List V}, IsPL ex H xs l ↔ Paired (IsPB ex H) xs l
  | [], xs => by
    rw [IsPL]
    constructor
    · rintro rfl; exact .nil
    · intro h; cases h; rfl
  | b :: l, xs => by
    rw [IsPL]
    constructor
    · rintro ⟨x, ys, rfl, h1, h2⟩; exact .cons h1 (isPL_pd.mp h2)
    · intro h; cases h with | cons a r => exact ⟨_, _, rfl, a, isPL_pd.mpr r⟩
mutual
theorem IsPB.mono {ex ex' : List Addr} {H H' : Hp} (hx : ∀ a o, H a = some o → a ∉ ex → a ∉ ex') (et : ∀ a xs, H a = some (.tup xs) → H' a = some (.tup xs)) (el : ∀ a xs, a ∉ ex → H a = some (.lst xs) → H' a = some (.lst xs)) : ∀ {b : Bx} {v : V}, IsPB ex H v b → IsPB ex' H' v b
  | .mk n o u l, v, h => by
    rw [IsPB] at h ⊢
    obtain ⟨t, li, xs, e, h0, h1, h2, h3⟩ := h
    exact ⟨t, li, xs, e, hx _ _ h2 h0, et _ _ h1, el _ _ h0 h2, IsPL.mono hx et el h3⟩
theorem IsPL.mono {ex ex' : List Addr} {H H' : Hp} (hx : ∀ a o, H a = some o → a ∉ ex → a ∉ ex') (et : ∀ a xs, H a = some (.tup xs) → H' a = some (.tup xs)) (el : ∀ a xs, a ∉ ex → H a = some (.lst xs) → H' a = some (.lst xs)) : ∀ {l : List Bx} {xs : List V}, IsPL ex H xs l → IsPL ex' H' xs l
  | [], xs, h => by rw [IsPL] at h ⊢; exact h
  | b :: l, xs, h => by
    rw [IsPL] at h ⊢
    obtain ⟨x, ys, e, h1, h2⟩ := h
    exact ⟨x, ys, e, IsPB.mono hx et el h1, IsPL.mono hx et el h2⟩
end
section
variable {ex : List Addr} {H H' : Hp} {b : Bx} {l : List Bx} {v : V} {xs : List V}
theorem IsPB.same (h : IsPB ex H v b) (e : Same H H') : IsPB ex H' v b := h.mono (fun _ _ _ q => q) (fun _ _ q => e _ _ q) fun _ _ _ q => e _ _ q
theorem IsPL.same (h : IsPL ex H xs l) (e : Same H H') : IsPL ex H' xs l := h.mono (fun _ _ _ q => q) (fun _ _ q => e _ _ q) fun _ _ _ q => e _ _ q
theorem IsPL.len (h : IsPL ex H xs l) : xs.length = l.length := pd_len (isPL_pd.mp h)
end
/-- what is set aside stands in the heap -/
def Held (ex : List Addr) (H : Hp) : Prop := ∀ a ∈ ex, ∃ o, H a = some o
theorem Held.same {ex : List Addr} {H H' : Hp} (h : Held ex H) (e : Same H H') : Held ex H' := fun a ha => by obtain ⟨o, q⟩ := h a ha; exact ⟨o, e _ _ q⟩
theorem Held.new {ex : List Addr} {H : Hp} {D : Addr} (h : Held ex H) (hD : H D = none) : D ∉ ex := fun z => by obtain ⟨o, q⟩ := h D z; rw [hD] at q; cases q
def spPTimes (m : Nat) : Sp := fun vs H Q _ => ∃ (ex : List Addr) (a : Addr) (k : Int) (xs : List V) (l : List Bx), vs = [.ref a, .int k] ∧ H a = some (.lst xs) ∧ Held ex H ∧ IsPL ex H xs l ∧ OkL l ∧ k.natAbs < 2 ^ 1000 ∧ depL l < m ∧
  ∀ p H' ys, Same H H' → H p = none → H' p = some (.lst ys) → IsPL ex H' ys (timL k l) → Q (.ref p) H'
def spPOut (m : Nat) : Sp := fun vs H Q _ => ∃ (ex : List Addr) (a : Addr) (x : Str) (xs : List V) (l : List Bx), vs = [.ref a, .str x] ∧ H a = some (.lst xs) ∧ Held ex H ∧ IsPL ex H xs l ∧ OkL l ∧ depL l < m ∧
  ∀ p H' ys, Same H H' → H p = none → H' p = some (.lst ys) → IsPL ex H' ys (outL x l) → Q (.ref p) H'
theorem ixt {K : PySem.W.Frag} {H : Hp} {t : Addr} {xs : List V} {j : Nat} {x : V} {Q : VK} (h : H t = some (.tup xs)) (hj : xs[j]? = some x) (q : Q x H) : rIx K (.ref t) (.int (j : Int)) H Q := Or.inr (Or.inl ⟨t, xs, _, x, rfl, rfl, SqT.of h, atI_nat hj, q⟩)
theorem timL_app {k : Int} {l r : List Bx} : timL k (l ++ r) = timL k l ++ timL k r := by
  induction l with
  | nil => rfl
  | cons c l ih => rw [List.cons_append, timL, timL, ih, List.cons_append]
theorem isPL_snoc {ex : List Addr} {H : Hp} {xs : List V} {l : List Bx} {v : V} {b : Bx} (h : IsPL ex H xs l) (hv : IsPB ex H v b) : IsPL ex H (xs ++ [v]) (l ++ [b]) := isPL_pd.mpr (paired_append (isPL_pd.mp h) (.cons hv .nil))
/-- a list of one's own grows: plain boxes elsewhere stay -/
theorem IsPB.grow {ex : List Addr} {H : Hp} {D : Addr} {zs zs' : List V} {v : V} {b : Bx} (h : IsPB (D :: ex) H v b) (hD : H D = some (.lst zs)) : IsPB (D :: ex) (upd H D (.lst zs')) v b :=
  h.mono (fun _ _ _ q => q) (fun a xs q => by rw [upd_ne (fun z => by rw [z, hD] at q; cases q)]; exact q) fun a xs n q => by rw [upd_ne (fun z => n (by rw [z]; exact List.mem_cons_self ..))]; exact q
theorem IsPL.grow {ex : List Addr} {H : Hp} {D : Addr} {zs zs' : List V} {xs : List V} {l : List Bx} (h : IsPL (D :: ex) H xs l) (hD : H D = some (.lst zs)) : IsPL (D :: ex) (upd H D (.lst zs')) xs l :=
  h.mono (fun _ _ _ q => q) (fun a xs q => by rw [upd_ne (fun z => by rw [z, hD] at q; cases q)]; exact q) fun a xs n q => by rw [upd_ne (fun z => n (by rw [z]; exact List.mem_cons_self ..))]; exact q
theorem IsPL.less {ex : List Addr} {H : Hp} {D : Addr} {xs : List V} {l : List Bx} (h : IsPL (D :: ex) H xs l) : IsPL ex H xs l := h.mono (fun _ _ _ q z => q (List.mem_cons_of_mem _ z)) (fun _ _ q => q) fun _ _ _ q => q
theorem IsPL.more {ex : List Addr} {H : Hp} {D : Addr} {xs : List V} {l : List Bx} (h : IsPL ex H xs l) (hD : H D = none) : IsPL (D :: ex) H xs l := h.mono (fun c o q z hc => by
    rcases List.mem_cons.mp hc with rfl | hc
    · rw [hD] at q; cases q
    · exact z hc) (fun _ _ q => q) fun _ _ _ q => q
theorem IsPB.more {ex : List Addr} {H : Hp} {D : Addr} {v : V} {b : Bx} (h : IsPB ex H v b) (hD : H D = none) : IsPB (D :: ex) H v b := h.mono (fun c o q z hc => by
    rcases List.mem_cons.mp hc with rfl | hc
    · rw [hD] at q; cases q
    · exact z hc) (fun _ _ q => q) fun _ _ _ q => q
theorem Held.cons {ex : List Addr} {H : Hp} {D : Addr} {o : HO} (h : Held ex H) (hD : H D = some o) : Held (D :: ex) H := fun c hc => by
  rcases List.mem_cons.mp hc with rfl | hc
  · exact ⟨_, hD⟩
  · exact h c hc
/-- a new plain box at the end of a list that grows -/
theorem pl_put {ex : List Addr} {H H2 : Hp} {D tp li : Addr} {zs ys : List V} {n : Str} {o u : Int} {l r : List Bx} (e : Same H H2) (hz : H D = some (.lst zs)) (hzz : IsPL (D :: ex) H zs r) (held : Held (D :: ex) H) (hp : H li = none) (hp2 : H2 li = some (.lst ys)) (hys : IsPL (D :: ex) H2 ys l) (htp : H2 tp = none) :
    IsPL (D :: ex) (upd (upd H2 tp (.tup [.str n, .int o, .int u, .ref li])) D (.lst (zs ++ [.ref tp]))) (zs ++ [.ref tp]) (r ++ [.mk n o u l]) := by
  have e2 : Same H2 (upd H2 tp (.tup [.str n, .int o, .int u, .ref li])) := sameNew htp
  have hz2 := e2 _ _ (e _ _ hz)
  refine isPL_snoc (((hzz.same e).same e2).grow hz2) (IsPB.grow ?_ hz2)
  rw [IsPB]
  exact ⟨tp, li, ys, rfl, held.new hp, upd_same, e2 _ _ hp2, hys.same e2⟩
section
variable {P : Program} {w : World} {K : PySem.W.Frag} {mg : Str → Option Value} {base : Heap} {d : Ad}
end

end AZ
namespace AZ
open PySem L2
/-! ## plain boxes put in, told, made -/
def spPPut (m : Nat) : Sp := fun vs H Q _ => ∃ (ex : List Addr) (a : Addr) (x : Str) (mv : V) (mb : Bx) (xs : List V) (l : List Bx), vs = [.ref a, .str x, mv] ∧ H a = some (.lst xs) ∧ Held ex H ∧ IsPL ex H xs l ∧ IsPB ex H mv mb ∧ OkL l ∧ depL l < m ∧
  ∀ p H' ys, Same H H' → H p = none → H' p = some (.lst ys) → IsPL ex H' ys (putL x mb l) → Q (.ref p) H'
def spPText (m : Nat) : Sp := fun vs H Q _ => ∃ (ex : List Addr) (v : V) (b : Bx), vs = [v] ∧ Held ex H ∧ IsPB ex H v b ∧ OkB b ∧ depB b < m ∧ ∀ H', Same H H' → Q (.str (txB b)) H'
theorem two_of {α : Type} : ∀ {zs : List α}, zs.length = 2 → ∃ a b, zs = [a, b]
  | [a, b], _ => ⟨a, b, rfl⟩
theorem three_of {α : Type} : ∀ {zs : List α}, zs.length = 3 → ∃ a b c, zs = [a, b, c]
  | [a, b, c], _ => ⟨a, b, c, rfl⟩
/-- != of a list and the empty one, whatever the list holds -/
theorem uNeE {X : Cx} (hr : Room 1 X.A) : OpR X (compareOp .NotEq) (orR rNe (rNeB (BList BFlat))) := op_or2 op_ne (op_neB (ncB_list monB_flat eqB_flat) hr)
theorem bl_nil {H : Hp} {a b : Addr} {xs : List V} (ha : H a = some (.lst xs)) (hb : H b = some (.lst [])) : BList BFlat (.ref a) (.ref b) H (xs.isEmpty) := by
  refine ⟨a, b, xs, [], rfl, rfl, ha, hb, ?_⟩
  cases xs with
  | nil => exact Or.inr ⟨rfl, fun _ => true, (fun i x y h1 _ => by simp at h1), (allT_true (fun _ _ => rfl)).symm⟩
  | cons x xs => exact Or.inl ⟨by simp, rfl⟩
theorem sRight (a : Str) : a ++ ("" : Str) = a := by
  cases a with | mk a =>
  show Str.mk (a ++ #[]) = Str.mk a
  rw [Array.append_empty]
/-! at most three boxes in each -/
mutual
def thinB : Bx → Prop
  | .mk _ _ _ l => l.length ≤ 3 ∧ thinL l
def thinL : List Bx → Prop
  | [] => True
  | b :: r => thinB b ∧ thinL r
end
def spPMade (C : Addr) (m : Nat) : Sp := fun vs H Q _ => ∃ (ex : List Addr) (v : V) (b : Bx), vs = [v] ∧ Held ex H ∧ IsPB ex H v b ∧ OkB b ∧ thinB b ∧ depB b < m ∧ ∀ x H', Same H H' → IsBx C H' (.ref x) b → Q (.ref x) H'
section
variable {P : Program} {w : World} {K : PySem.W.Frag} {mg : Str → Option Value} {base : Heap} {d : Ad}
theorem G__law_box_made (T : Tx K mg d) : ∀ m, FnR P w K mg base CX0 (m + 8) d._law_box_made (spPMade d.Box m) := by
  intro m
  induction m with
  | zero =>
    intro A outer s H us vs Q E hr e0 r h
    obtain ⟨ex, v, b, _, _, _, _, _, dl, _⟩ := h
    exact absurd dl (Nat.not_lt_zero _)
  | succ m G__law_box_made =>
  have G_Box___init__ := G_Box___init__ (P := P) (w := w) (base := base) T
  obtain ⟨fd, F⟩ := T.F__law_box_made
  refine FnR.imp (FnOk.raw (F.ok sc__law_box_made (k := m + 8) (sp := spPMade d.Box (m + 1)) (fun vs H Q E h => ?_) (fun cdv A outer s H vs Q E hr h => ?_)) (F.binds fun _ _ _ _ _ _ us hl => match us, hl with | [_], _ => rfl) .nil) fun vs H Q E h => by rw [List.append_nil]; exact h
  · obtain ⟨ex, v, b, rfl, _⟩ := h
    rfl
  · obtain ⟨ex, v, b, rfl, hex, hb, ok, th, dl, k⟩ := h
    -- slots: 0 _law_plain, 1 _law_name, 2 _law_offset, 3 _law_units, 4 _law_inner, 5 _law_some, 6 _law_one
    refine ⟨_, (pss_cons (ps_asg (pv 0) (pg_tup (by rfl) (pgs_cons (pg_name (i := 1) sc__law_box_made.nd rfl (Or.inl rfl)) (pgs_cons (pg_name (i := 2) sc__law_box_made.nd rfl (Or.inl rfl)) (pgs_cons (pg_name (i := 3) sc__law_box_made.nd rfl (Or.inl rfl)) (pgs_cons (pg_name (i := 4) sc__law_box_made.nd rfl (Or.inl rfl)) pgs_nil))))))
      (pss_cons (ps_setLc (own := [("_law_one", 6)]) (g := gName 6) (i := 5) (by rfl) sc__law_box_made.nd rfl rfl (sw_true rfl rfl rfl rfl) (pi_list (pv 4)) (blkOk_by (own := [("_law_one", 6)]) (N := ["_law_plain", "_law_name", "_law_offset", "_law_units", "_law_inner", "_law_some", "_law_one"]) (sc := defScope s__law_box_made) (by decide +kernel)) (fun _ _ _ _ _ => pg_name (i := 6) sc__law_box_made.nd rfl (Or.inl rfl)) (fun _ _ _ _ _ => pts_nil) (fun _ _ _ _ _ => (pe_fnR G__law_box_made (hr.mono (by omega)) T.k__law_box_made T.m__law_box_made pass0 (pa_cons (pv 6) pa_nil))))
      (pss_cons (ps_if (pt_cmpR (uEq hr.units) (pe_callB call_len_seq (by rfl) T.n_len (by decide +kernel) (pa_cons (pv 5) pa_nil)) pe_int (nomark _)) (pss_one (ps_ret (StX.pe_makeR T.mk_Box G_Box___init__ (hr.mono (by omega)) rfl T.m_Box pass0 (pa_cons (pv 1) (pa_cons (pv 2) (pa_cons (pv 3) pa_nil)))))) pss_nil)
      (pss_cons (ps_if (pt_cmpR (uEq hr.units) (pe_callB call_len_seq (by rfl) T.n_len (by decide +kernel) (pa_cons (pv 5) pa_nil)) pe_int (nomark _)) (pss_one (ps_ret (StX.pe_makeR T.mk_Box G_Box___init__ (hr.mono (by omega)) rfl T.m_Box pass0 (pa_cons (pv 1) (pa_cons (pv 2) (pa_cons (pv 3) (pa_cons (pe_ix ix_seq (pv 5) pe_int (fun _ _ => rfl)) pa_nil))))))) pss_nil)
      (pss_cons (ps_if (pt_cmpR (uEq hr.units) (pe_callB call_len_seq (by rfl) T.n_len (by decide +kernel) (pa_cons (pv 5) pa_nil)) pe_int (nomark _)) (pss_one (ps_ret (StX.pe_makeR T.mk_Box G_Box___init__ (hr.mono (by omega)) rfl T.m_Box pass0 (pa_cons (pv 1) (pa_cons (pv 2) (pa_cons (pv 3) (pa_cons (pe_ix ix_seq (pv 5) pe_int (fun _ _ => rfl)) (pa_cons (pe_ix ix_seq (pv 5) pe_int (fun _ _ => rfl)) pa_nil)))))))) pss_nil)
      (pss_one (ps_ret (StX.pe_makeR T.mk_Box G_Box___init__ (hr.mono (by omega)) rfl T.m_Box pass0 (pa_cons (pv 1) (pa_cons (pv 2) (pa_cons (pv 3) (pa_cons (pe_ix ix_seq (pv 5) pe_int (fun _ _ => rfl)) (pa_cons (pe_ix ix_seq (pv 5) pe_int (fun _ _ => rfl)) (pa_cons (pe_ix ix_seq (pv 5) pe_int (fun _ _ => rfl)) pa_nil)))))))))))))), ?_⟩
    cases b with | mk n o u inn =>
    rw [IsPB] at hb
    obtain ⟨t, li, xs2, rfl, hli, ht, hl2, hinn⟩ := hb
    rw [thinB] at th
    rw [depB] at dl
    have oi := ok.inn
    have thm : ∀ (l : List Bx) (b : Bx), thinL l → b ∈ l → thinB b := fun l b h hb => by
      induction l with
      | nil => cases hb
      | cons c r ih =>
        rw [thinL] at h
        rcases List.mem_cons.mp hb with rfl | hb
        · exact h.1
        · exact ih h.2 hb
    rw [show L2.start ["_law_plain", "_law_name", "_law_offset", "_law_units", "_law_inner", "_law_some", "_law_one"] [V.ref t] = [some (V.ref t), none, none, none, none, none, none] from rfl]
    refine ⟨_, rfl, t, _, rfl, SqT.of ht, rfl, _, _, rfl, _, _, rfl, _, _, rfl, _, _, rfl, rfl, ?_⟩
    dsimp only [List.set]
    refine ⟨_, rfl, li, rfl, ⟨xs2, SqL.of hl2⟩, fun D hD => ?_⟩
    refine lc_list (te := fun σ H Q => tCons (tVar 6) tNil σ H fun vs H1 => spPMade d.Box m vs H1 Q E0) (xs := xs2) (fun i H' => Same H H' ∧ ∃ zs, H' D = some (.lst zs) ∧ zs.length = i ∧ IsBs d.Box H' zs (inn.take i)) ⟨sameNew hD, [], upd_same, rfl, by rw [List.take_zero, IsBs]⟩ (fun i H' _ g => SqL.of (g.1 _ _ hl2)) (fun i y H' hy g => ?_) (fun H' g => ?_)
    · obtain ⟨e, zs, hz, hzl, hzz⟩ := g
      obtain ⟨b, hbi, hxb⟩ := pd_at (isPL_pd.mp hinn) hy
      have il := (List.getElem?_eq_some_iff.mp hbi).1
      have bm := List.mem_of_getElem? hbi
      have hdep := dep_mem bm
      refine ⟨rfl, yes_then ⟨_, rfl, ex, y, b, rfl, hex.same e, hxb.same e, oi.mem bm, thm _ _ th.2 bm, by omega, fun x H2 e2 hx => ⟨zs, e2 _ _ hz, by rw [hzl]; exact Nat.lt_of_lt_of_le (Nat.lt_of_lt_of_le il th.1) (by decide), same_at (e.trans e2) hD, _, upd_same, by rw [List.length_append, hzl]; rfl, ?_⟩⟩⟩
      have up : Up D H2 (upd H2 D (.lst (zs ++ [.ref x]))) := Up.put (e2 _ _ hz)
      rw [take_at hbi]
      exact isBs_pd.mpr (paired_append (isBs_pd.mp ((hzz.same e2).up up)) (.cons (hx.up up) .nil))
    · obtain ⟨e, zs, hz, hzl, hzz⟩ := g
      rw [hinn.len, List.take_of_length_le (Nat.le_refl _)] at hzz
      have zl := hzz.len
      have dq : ∀ m : Nat, decide (V.int ((zs.length : Nat) : Int) = V.int ((m : Nat) : Int)) = decide (inn.length = m) := fun m => by
        rw [zl]
        by_cases h : inn.length = m
        · rw [h, decide_eq_true rfl, decide_eq_true rfl]
        · rw [decide_eq_false h, decide_eq_false (fun z => h (by injection z with z; omega))]
      have ixl : ∀ {j : Nat} {x : V} {Q : VK}, zs[j]? = some x → Q x H' → rIx K (.ref D) (.int (j : Int)) H' Q := fun {j x Q} hj q => Or.inl ⟨D, zs, _, x, rfl, rfl, SqL.of hz, atI_nat hj, q⟩
      have fin : ∀ {x dx : Addr} (xs : List V), xs = zs → H' x = none → H' dx = none → spBoxI d.Box K (.ref x :: .str n :: .int o :: .int u :: xs) (upd (upd H' dx (.own x)) x (.ins d.Box dx [])) (fun v H2 => v = .non ∧ Q (.ref x) H2) E0 := fun {x dx} xs ex nx nd => by
        subst ex
        exact bx_make nx nd hzz ok fun H2 e2 h => ⟨rfl, k x H2 (e.trans e2) h⟩
      refine ⟨_, rfl, D, zs, rfl, Or.inl (SqL.of hz), Or.inl ⟨rfl, _, rfl, ?_⟩⟩
      rw [show decide (V.int ((zs.length : Nat) : Int) = V.int 0) = decide (inn.length = 0) from dq 0]
      by_cases h0 : inn.length = 0
      · rw [decide_eq_true h0]
        exact iteT ⟨_, rfl, _, rfl, _, rfl, fun x dx nx nd _ => fin [] (List.length_eq_zero_iff.mp (zl.trans h0)).symm nx nd⟩
      rw [decide_eq_false h0]
      refine iteF ⟨_, rfl, D, zs, rfl, Or.inl (SqL.of hz), Or.inl ⟨rfl, _, rfl, ?_⟩⟩
      rw [show decide (V.int ((zs.length : Nat) : Int) = V.int 1) = decide (inn.length = 1) from dq 1]
      by_cases h1 : inn.length = 1
      · rw [decide_eq_true h1]
        obtain ⟨a, rfl⟩ := List.length_eq_one_iff.mp (zl.trans h1)
        exact iteT ⟨_, rfl, _, rfl, _, rfl, _, rfl, ixl (j := 0) rfl fun x dx nx nd _ => fin [a] rfl nx nd⟩
      rw [decide_eq_false h1]
      refine iteF ⟨_, rfl, D, zs, rfl, Or.inl (SqL.of hz), Or.inl ⟨rfl, _, rfl, ?_⟩⟩
      rw [show decide (V.int ((zs.length : Nat) : Int) = V.int 2) = decide (inn.length = 2) from dq 2]
      by_cases h2 : inn.length = 2
      · rw [decide_eq_true h2]
        obtain ⟨a, b, rfl⟩ := two_of (zl.trans h2)
        exact iteT ⟨_, rfl, _, rfl, _, rfl, _, rfl, ixl (j := 0) rfl ⟨_, rfl, ixl (j := 1) rfl fun x dx nx nd _ => fin [a, b] rfl nx nd⟩⟩
      rw [decide_eq_false h2]
      obtain ⟨a, b, c, rfl⟩ := three_of (show zs.length = 3 by have := th.1; omega)
      exact iteF ⟨_, rfl, _, rfl, _, rfl, _, rfl, ixl (j := 0) rfl ⟨_, rfl, ixl (j := 1) rfl ⟨_, rfl, ixl (j := 2) rfl fun x dx nx nd _ => fin [a, b, c] rfl nx nd⟩⟩⟩
end

end AZ
namespace AZ
open PySem L2
/-! ## plain pages told, all their boxes -/
def spPPgText (m : Nat) : Sp := fun vs H Q _ => ∃ (ex : List Addr) (a : Addr) (xs : List V) (l : List Bx), vs = [.ref a] ∧ H a = some (.lst xs) ∧ Held ex H ∧ IsPL ex H xs l ∧ OkL l ∧ depL l < m ∧ ∀ H', Same H H' → Q (.str (pageT l)) H'
/-- a row of _law_all -/
def RowP (ex : List Addr) (H : Hp) (v : V) (r : Row) : Prop := ∃ (t : Addr) (bv : V), v = .ref t ∧ H t = some (.tup [.str r.nm, .int r.bg, .int r.en, arV r.ar, bv]) ∧ IsPB ex H bv r.bx
theorem RowP.same {ex : List Addr} {H H' : Hp} {v : V} {r : Row} (h : RowP ex H v r) (e : Same H H') : RowP ex H' v r := by
  obtain ⟨t, bv, h1, h2, h3⟩ := h
  exact ⟨t, bv, h1, e _ _ h2, h3.same e⟩
def spPAll (m : Nat) : Sp := fun vs H Q _ => ∃ (ex : List Addr) (a : Addr) (g : Int) (ar : Option Str) (xs : List V) (l : List Bx), vs = [.ref a, .int g, arV ar] ∧ H a = some (.lst xs) ∧ Held ex H ∧ IsPL ex H xs l ∧ OkL l ∧ depL l < m ∧
  ∀ p H' zs, Same H H' → H p = none → H' p = some (.lst zs) → Paired (RowP ex H') zs (rowsL g ar l) → Q (.ref p) H'
section
variable {P : Program} {w : World} {K : PySem.W.Frag} {mg : Str → Option Value} {base : Heap} {d : Ad}
open PyProof.Rows in
/-- a def with defaults that lets nothing out -/
theorem okDN {x qual : Str} {params : Arguments} {body : List Stmt} {scope : Scope} {dvs : List V} {kws : List (Str × V)} {f : Addr} {fd : FuncData} {N ps : List Str} {k : Nat} {sp : Sp} (F : FunD K x qual params body scope dvs kws f fd) (S : FnScope N ps scope) (len : ∀ vs H Q E, sp vs H Q E → vs.length = ps.length)
    (hbody : ∀ (cdv : Value) (A : Around) (outer : List Env) (s : Shared) (H : Hp) (vs : List V) (Q : VK) (E : XK), Room k (A.deeper (envOfC qual scope s.heap.objs.size f cdv)) → sp vs H Q E →
      ∃ t, PSs (cxOf CX0 P w K mg base N qual scope f cdv A outer s H E).nox body t ∧ t { nx := fun _ H' => Q .non H', rt := Q } (L2.start N vs) H) : FnOk P w K mg base CX0 (k + 1) f fd ps sp :=
  F.ok S len fun cdv A outer s H vs Q E hr hsp => by
    obtain ⟨t, h, q⟩ := hbody cdv A outer s H vs Q E hr hsp
    exact ⟨t, h.nox, q⟩
theorem OK__law_all (T : Tx K mg d) {fd : FuncData} (F : FunD K "_law_all" "_law_all" (defArgs s__law_all) (defBody s__law_all) (defScope s__law_all) [V.int 0, V.non] [] d._law_all fd) (m : Nat) (G__law_all : FnR P w K mg base CX0 (m + 1) d._law_all (spPAll m)) : FnOk P w K mg base CX0 (m + 2) d._law_all fd ["_law_boxes_here", "_law_begin", "_law_around"] (spPAll (m + 1)) := by
  refine okDN F sc__law_all (k := m + 1) (fun vs H Q E h => ?_) (fun cdv A outer s H vs Q E hr h => ?_)
  · obtain ⟨ex, a, g, ar, xs, l, rfl, _⟩ := h
    rfl
  · obtain ⟨ex, a, g, ar, xs, l, rfl, ha, hex, hb, ok, dl, k⟩ := h
    -- T.D__law_all
    -- slots: 0 _law_boxes_here, 1 _law_begin, 2 _law_around, 3 _law_found, 4 _law_box, 5 _law_there
    refine ⟨_, (pss_cons (ps_set (i := 3) sc__law_all.nd rfl (Or.inl rfl) (pe_lst pa_nil))
      (pss_cons (ps_for PassesOwn.never rfl (pi_list (pv 0)) (pg_name (i := 4) sc__law_all.nd rfl (Or.inl rfl)) (pss_cons (ps_set (i := 5) sc__law_all.nd rfl (Or.inl rfl) (pe_op uAdd (pv 1) (pe_ix ix_seq (pv 4) pe_int (fun _ _ => rfl))))
      (pss_one (ps_set (i := 3) sc__law_all.nd rfl (Or.inl rfl) (pe_op uAdd (pe_op uAdd (pv 3) (pe_lst (pa_cons (pe_tup (pa_cons (pe_ix ix_seq (pv 4) pe_int (fun _ _ => rfl)) (pa_cons (pv 5) (pa_cons (pe_op uAdd (pv 5) (pe_ix ix_seq (pv 4) pe_int (fun _ _ => rfl))) (pa_cons (pv 2) (pa_cons (pv 4) pa_nil)))))) pa_nil))) (pe_fnR G__law_all (hr.mono (by omega)) T.k__law_all T.m__law_all pass0 (pa_cons (pe_ix ix_seq (pv 4) pe_int (fun _ _ => rfl)) (pa_cons (pv 5) (pa_cons (pe_ix ix_seq (pv 4) pe_int (fun _ _ => rfl)) pa_nil)))))))))
      (pss_one (ps_ret (pv 3))))), ?_⟩
    have ll := hb.len
    have rl : ∀ (l : List Bx) (g : Int) (ar : Option Str), (rowsL g ar l).length = (namesL l).length := fun l g ar => by
      have := congrArg List.length (rowsL_nm (g := g) (ar := ar) (l := l))
      rw [List.length_map] at this
      exact this
    have rap : ∀ (a b : List Bx), rowsL g ar (a ++ b) = rowsL g ar a ++ rowsL g ar b := fun a b => by
      induction a with
      | nil => rfl
      | cons c a ih => rw [List.cons_append, rowsL, rowsL, ih, List.append_assoc]
    refine ⟨Nat.zero_le _, fun D hD => ?_⟩
    refine ⟨_, rfl, a, rfl, ⟨xs, SqL.of (sameNew hD _ _ ha)⟩, for_list (xs := xs) (fun i σ' H' => ∃ (z1 z2 : Option V) (F : Addr) (zs : List V), σ' = [some (.ref a), some (.int g), some (arV ar), some (.ref F), z1, z2] ∧ Same H H' ∧ H F = none ∧ H' F = some (.lst zs) ∧ Paired (RowP ex H') zs (rowsL g ar (l.take i)))
      ⟨_, _, D, [], rfl, sameNew hD, hD, upd_same, by rw [List.take_zero, rowsL]; exact .nil⟩ (fun i σ' H' _ g => by obtain ⟨_, _, _, _, _, e, _⟩ := g; exact SqL.of (e _ _ ha)) (fun i y σ' H' hy q => ?_) (fun σ' H' q => ?_)⟩
    · obtain ⟨z1, z2, F1, zs, rfl, e, hF, hz, hzz⟩ := q
      obtain ⟨b, hbi, hxb⟩ := pd_at (isPL_pd.mp hb) hy
      have bm := List.mem_of_getElem? hbi
      have hb0 := ok.mem bm
      have hdep := dep_mem bm
      have tk : rowsL g ar (l.take (i + 1)) = rowsL g ar (l.take i) ++ rowsB g ar b := by rw [take_at hbi, rap, rowsL, rowsL, List.append_nil]
      have tl : (rowsL g ar (l.take i)).length + (rowsB g ar b).length ≤ 100 := by
        rw [← List.length_append, ← tk, rl]
        exact Nat.le_trans (namesL_take_len l (i + 1)) ok.2.2
      have hxb0 := hxb
      cases b with | mk n o u inn =>
      rw [IsPB] at hxb
      obtain ⟨t, li, xs2, rfl, hli, ht, hl2, hinn⟩ := hxb
      have ht1 := e _ _ ht
      have zl := pd_len hzz
      rw [rowsB, List.length_cons] at tl
      refine ⟨_, rfl, _, rfl, ixt (j := 1) ht1 rfl (Or.inl ⟨g, o, rfl, rfl, ?_⟩)⟩
      refine ⟨_, rfl, _, rfl, ixt (j := 0) ht1 rfl ⟨_, rfl, _, rfl, _, rfl, ixt (j := 2) ht1 rfl (Or.inl ⟨_, u, rfl, rfl, _, rfl, _, rfl, (by show 5 ≤ sizeLine; decide), fun tp htp => ?_⟩)⟩⟩
      have e2 := sameNew htp (o := .tup [.str n, .int (g + o), .int (g + o + u), arV ar, .ref t])
      refine ⟨(by show 1 ≤ sizeLine; decide), fun r hr1 => ?_⟩
      have e3 := sameNew hr1 (o := .lst [.ref tp])
      refine Or.inr (Or.inr (Or.inl ⟨F1, r, zs, [.ref tp], rfl, rfl, e3 _ _ (e2 _ _ hz), upd_same, ?_, fun q hq => ?_⟩))
      · rw [zl]
        exact Nat.le_trans (show _ ≤ 101 by simp; omega) (by decide)
      have e4 := sameNew hq (o := .lst (zs ++ [.ref tp]))
      have e14 := ((e.trans e2).trans e3).trans e4
      refine ⟨_, rfl, ixt (j := 3) (e14 _ _ ht) rfl ⟨_, rfl, _, rfl, ixt (j := 0) (e14 _ _ ht) rfl ⟨ex, li, g + o, some n, xs2, inn, rfl, e14 _ _ hl2, hex.same e14, hinn.same e14, hb0.inn, by rw [depB] at hdep; omega, fun p H2 ws e5 hp hp2 hws => ?_⟩⟩⟩
      have wl := pd_len hws
      refine Or.inr (Or.inr (Or.inl ⟨q, p, zs ++ [.ref tp], ws, rfl, rfl, e5 _ _ upd_same, hp2, ?_, fun q2 hq2 => ?_⟩))
      · rw [List.length_append, zl, wl]
        exact Nat.le_trans (show _ ≤ 101 by simp; omega) (by decide)
      have e6 := sameNew hq2 (o := .lst (zs ++ [.ref tp] ++ ws))
      have e26 := (((e2.trans e3).trans e4).trans e5).trans e6
      have qn : H q2 = none := by
        cases z : H q2 with
        | none => rfl
        | some v => exact absurd ((e14.trans e5) _ _ z) (by rw [hq2]; exact nofun)
      refine ⟨_, _, q2, _, rfl, e.trans e26, qn, upd_same, ?_⟩
      rw [tk, rowsB, ← List.append_cons zs (.ref tp) ws]
      rw [← List.append_cons zs (.ref tp) ws] at e6 e26
      exact paired_append (pd_imp (fun q => RowP.same q e26) hzz) (.cons ⟨tp, .ref t, rfl, (((e3.trans e4).trans e5).trans e6) _ _ upd_same, hxb0.same (e.trans e26)⟩ (pd_imp (fun q => RowP.same q e6) hws))
    · obtain ⟨z1, z2, F1, zs, rfl, e, hF, hz, hzz⟩ := q
      rw [ll, List.take_of_length_le (Nat.le_refl _)] at hzz
      exact ⟨_, rfl, k F1 H' zs e hF hz hzz⟩
theorem G3__law_all (T : Tx K mg d) : ∀ m, FnR P w K mg base CX0 (m + 1) d._law_all (spPAll m) := by
  intro m
  induction m with
  | zero =>
    intro A outer s H us vs Q E hr e0 r h
    obtain ⟨ex, a, g, ar, xs, l, _, _, _, _, _, dl, _⟩ := h
    exact absurd dl (Nat.not_lt_zero _)
  | succ m ih =>
    obtain ⟨fd, F⟩ := T.D__law_all
    obtain ⟨ds0, r0, b0⟩ := F.binds1 (ps := ["_law_boxes_here", "_law_begin", "_law_around"]) 3 2 (by simp) rfl fun T kV doc pm an cdv ct us its h1 h2 => match us, its, h1, h2 with
      | [_, _, _], [_, _], _, _ => ⟨_, rfl, by dsimp only; rfl⟩
    exact (FnOk.raw (OK__law_all T F m ih) b0 r0).imp fun vs H Q E h => by rw [show vs ++ List.drop 2 [V.int 0, V.non] = vs from List.append_nil vs]; exact h
/-- told of the outermost boxes alone -/
theorem G__law_all (T : Tx K mg d) (m : Nat) : FnR P w K mg base CX0 (m + 2) d._law_all (fun vs H Q E => spPAll (m + 1) (vs ++ [.int 0, .non]) H Q E) := by
  obtain ⟨fd, F⟩ := T.D__law_all
  obtain ⟨ds1, r1, b1⟩ := F.binds1 (ps := ["_law_boxes_here", "_law_begin", "_law_around"]) 1 0 (by simp) rfl fun T kV doc pm an cdv ct us its h1 h2 => match us, its, h1, h2 with
    | [_], [_, _], _, _ => ⟨_, rfl, by dsimp only; rfl⟩
  exact FnOk.raw (OK__law_all T F m (G3__law_all T m)) b1 r1
end

end AZ
namespace AZ
open PySem L2
/-! ## a page made of plain boxes -/
theorem OkL.take {l : List Bx} (h : OkL l) (i : Nat) : OkL (l.take i) := by
  have e := namesL_app (a := l.take i) (b := l.drop i)
  rw [List.take_append_drop] at e
  refine ⟨wfL_all.mpr fun b hb => wfL_all.mp h.1 b (List.mem_of_mem_take hb), ?_, Nat.le_trans (namesL_take_len l i) h.2.2⟩
  have nd := h.2.1
  rw [e] at nd
  exact (List.nodup_append.mp nd).1
theorem OkP.take {l : List Bx} (h : OkP l) (i : Nat) : OkP (l.take i) := ⟨h.1.take i, Nat.le_trans (namesL_take_len l i) h.2⟩
theorem dep_take : ∀ {l : List Bx} {i : Nat}, depL (l.take i) ≤ depL l
  | [], i => by rw [List.take_nil]; exact Nat.le_refl _
  | b :: r, 0 => by rw [List.take_zero, depL]; exact Nat.zero_le _
  | b :: r, i + 1 => by
    have := dep_take (l := r) (i := i)
    rw [List.take_succ_cons, depL, depL]
    omega
def spPPage (C D : Addr) : Sp := fun vs H Q _ => ∃ (ex : List Addr) (a : Addr) (xs : List V) (l : List Bx), vs = [.ref a] ∧ H a = some (.lst xs) ∧ Held ex H ∧ IsPL ex H xs l ∧ OkP l ∧ thinL l ∧ depL l < 12 ∧ NewPg C D H Q l
section
variable {P : Program} {w : World} {K : PySem.W.Frag} {mg : Str → Option Value} {base : Heap} {d : Ad}
theorem G__law_page_made (T : Tx K mg d) : FnR P w K mg base CX0 26 d._law_page_made (spPPage d.Page d.Box) := by
  have G__law_box_made := G__law_box_made (P := P) (w := w) (base := base) T 12
  have G_Page___init__ := G_Page___init__ (P := P) (w := w) (base := base) T
  have G_Page_with_box := G_Page_with_box (P := P) (w := w) (base := base) T
  obtain ⟨fd, F⟩ := T.F__law_page_made
  refine FnR.imp (FnOk.raw (F.ok sc__law_page_made (k := 25) (sp := spPPage d.Page d.Box) (fun vs H Q E h => ?_) (fun cdv A outer s H vs Q E hr h => ?_)) (F.binds fun _ _ _ _ _ _ us hl => match us, hl with | [_], _ => rfl) .nil) fun vs H Q E h => by rw [List.append_nil]; exact h
  · obtain ⟨ex, a, xs, l, rfl, _⟩ := h
    rfl
  · obtain ⟨ex, a, xs, l, rfl, ha, hex, hb, ok, th, dl, k⟩ := h
    -- slots: 0 _law_boxes_here, 1 _law_found, 2 _law_box
    refine ⟨_, (pss_cons (ps_set (i := 1) sc__law_page_made.nd rfl (Or.inl rfl) (pe_makeR0 T.mk_Page G_Page___init__ (hr.mono (by decide)) rfl T.m_Page pass0))
      (pss_cons (ps_for PassesOwn.never rfl (pi_list (pv 0)) (pg_name (i := 2) sc__law_page_made.nd rfl (Or.inl rfl)) (pss_one (ps_set (i := 1) sc__law_page_made.nd rfl (Or.inl rfl) (pe_mR (pv 1) T.c_Page T.h_Page_with_box G_Page_with_box (hr.mono (by decide)) pass0 (pa_cons (pe_fnR G__law_box_made (hr.mono (by decide)) T.k__law_box_made T.m__law_box_made pass0 (pa_cons (pv 2) pa_nil)) pa_nil)))))
      (pss_one (ps_ret (pv 1))))), ?_⟩
    have ll := hb.len
    have thm : ∀ (l : List Bx) (b : Bx), thinL l → b ∈ l → thinB b := fun l b h hb => by
      induction l with
      | nil => cases hb
      | cons c r ih =>
        rw [thinL] at h
        rcases List.mem_cons.mp hb with rfl | hb
        · exact h.1
        · exact ih h.2 hb
    refine fun p0 dx0 np nd _ => pg_make (l := []) np nd (by rw [IsBs]) ⟨⟨by rw [WfL]; trivial, List.nodup_nil, Nat.zero_le _⟩, Nat.zero_le _⟩ fun H0 e0 hp0 => ⟨rfl, ?_⟩
    refine ⟨_, rfl, a, rfl, ⟨xs, SqL.of (e0 _ _ ha)⟩, for_list (xs := xs) (fun i σ' H' => ∃ (z : Option V) (v : V), σ' = [some (.ref a), some v, z] ∧ Same H H' ∧ IsPg d.Page d.Box H' v (l.take i)) ⟨_, _, rfl, e0, by rw [List.take_zero]; exact hp0⟩ (fun i σ' H' _ g => by obtain ⟨_, _, _, e, _⟩ := g; exact SqL.of (e _ _ ha)) (fun i y σ' H' hy g => ?_) (fun σ' H' g => ?_)⟩
    · obtain ⟨z, v, rfl, e, hv⟩ := g
      obtain ⟨b, hbi, hxb⟩ := pd_at (isPL_pd.mp hb) hy
      have bm := List.mem_of_getElem? hbi
      have hdep := dep_mem bm
      obtain ⟨a', dx, tb, tn, td, xs', kvs, rs, rfl, h1, _⟩ := id hv
      refine ⟨_, rfl, a', dx, _, rfl, h1, rfl, _, rfl, ex, y, b, rfl, hex.same e, hxb.same e, ok.1.mem bm, thm _ _ th bm, by omega, fun x H2 e2 hx => Or.inr ⟨_, _, b, none, l.take i, rfl, hv.same e2, ok.take i, hx, ok.1.mem bm, nofun, ?_, Nat.lt_of_le_of_lt dep_take dl, fun v3 H3 e3 hv3 => ?_⟩⟩
      · show OkP (l.take i ++ [b])
        rw [← take_at hbi]
        exact ok.take (i + 1)
      · refine ⟨_, v3, rfl, (e.trans e2).trans e3, ?_⟩
        rw [take_at hbi]
        exact hv3
    · obtain ⟨z, v, rfl, e, hv⟩ := g
      rw [ll, List.take_of_length_le (Nat.le_refl _)] at hv
      exact ⟨_, rfl, k v H' e hv⟩
end

end AZ
namespace AZ
open PySem L2
/-! ## what stands around a box is told ahead of it -/
mutual
theorem ar_rowsB {g : Int} {ar : Option Str} : ∀ {b : Bx} {A : List Row} {r : Row} {B : List Row}, rowsB g ar b = A ++ r :: B → r.ar = ar ∨ ∃ x, r.ar = some x ∧ x ∈ A.map Row.nm
  | .mk n o u l, [], r, B, h => by
    rw [rowsB, List.nil_append] at h
    injection h with h _
    subst h
    exact Or.inl rfl
  | .mk n o u l, a :: A, r, B, h => by
    rw [rowsB, List.cons_append] at h
    injection h with h1 h2
    subst h1
    rcases ar_rowsL h2 with h3 | ⟨x, h3, h4⟩
    · exact Or.inr ⟨n, h3, List.mem_cons_self ..⟩
    · exact Or.inr ⟨x, h3, List.mem_cons_of_mem _ h4⟩
theorem ar_rowsL {g : Int} {ar : Option Str} : ∀ {l : List Bx} {A : List Row} {r : Row} {B : List Row}, rowsL g ar l = A ++ r :: B → r.ar = ar ∨ ∃ x, r.ar = some x ∧ x ∈ A.map Row.nm
  | [], A, r, B, h => by
    rw [rowsL] at h
    cases A <;> cases h
  | b :: l, A, r, B, h => by
    rw [rowsL] at h
    rcases List.append_eq_append_iff.mp h with ⟨C, h1, h2⟩ | ⟨C, h1, h2⟩
    · rcases ar_rowsL h2 with h3 | ⟨x, h3, h4⟩
      · exact Or.inl h3
      · exact Or.inr ⟨x, h3, by rw [h1, List.map_append]; exact List.mem_append_right _ h4⟩
    · cases C with
      | nil =>
        rw [List.nil_append] at h2
        rcases ar_rowsL (A := []) h2.symm with h3 | ⟨x, h3, h4⟩
        · exact Or.inl h3
        · cases h4
      | cons c C =>
        rw [List.cons_append] at h2
        injection h2 with h2 h4
        subst h2
        exact ar_rowsB h1
end

end AZ
namespace AZ
open PySem L2
/-! ## the names of a page put together row by row -/
def nmB : Bx → Str
  | .mk n _ _ _ => n
mutual
theorem nm_rowsB {g : Int} {ar : Option Str} : ∀ {b : Bx} {r : Row}, r ∈ rowsB g ar b → nmB r.bx = r.nm
  | .mk n o u l, r, h => by
    rw [rowsB] at h
    rcases List.mem_cons.mp h with rfl | h
    · rfl
    · exact nm_rowsL h
theorem nm_rowsL {g : Int} {ar : Option Str} : ∀ {l : List Bx} {r : Row}, r ∈ rowsL g ar l → nmB r.bx = r.nm
  | [], r, h => by rw [rowsL] at h; cases h
  | b :: l, r, h => by
    rw [rowsL] at h
    rcases List.mem_append.mp h with h | h
    · exact nm_rowsB h
    · exact nm_rowsL h
end
theorem pre_names {l : List Bx} (nd : (namesL l).Nodup) : ∀ i, (namesL (((rowsL 0 none l).take i).foldl putRow [])).Perm (((rowsL 0 none l).take i).map Row.nm)
  | 0 => by
    rw [List.take_zero]
    exact List.Perm.refl _
  | i + 1 => by
    have ih := pre_names nd i
    cases hr : (rowsL 0 none l)[i]? with
    | none =>
      have : (rowsL 0 none l).length ≤ i := List.getElem?_eq_none_iff.mp hr
      rw [List.take_of_length_le (by omega)] at ih ⊢
      exact ih
    | some r =>
      have il := (List.getElem?_eq_some_iff.mp hr).1
      rw [take_at hr, List.foldl_append, List.map_append]
      show (namesL (putRow (((rowsL 0 none l).take i).foldl putRow []) r)).Perm _
      generalize hp : ((rowsL 0 none l).take i).foldl putRow [] = p at ih ⊢
      have sp : rowsL 0 none l = (rowsL 0 none l).take i ++ r :: (rowsL 0 none l).drop (i + 1) := by
        have := List.take_append_drop (i + 1) (rowsL 0 none l)
        rw [take_at hr, List.append_assoc] at this
        exact this.symm
      have ndp : (namesL p).Nodup := by
        rw [ih.nodup_iff]
        have h := nd
        rw [← rowsL_nm (g := 0) (ar := none)] at h
        exact ((List.take_sublist i (rowsL 0 none l)).map Row.nm).nodup h
      have hn := nm_rowsL (List.mem_of_getElem? hr)
      obtain ⟨nm, bg, en, ar, bx⟩ := r
      cases bx with | mk n o u inn =>
      have hn : n = nm := hn
      subst hn
      show (namesL (withB p (.mk n o u []) ar)).Perm _
      refine (withB_perm ndp fun x hx => ?_).trans ?_
      · rcases ar_rowsL sp with h | ⟨y, h1, h2⟩
        · have h : ar = none := h
          rw [h] at hx; cases hx
        · have h1 : ar = some y := h1
          rw [h1] at hx
          injection hx with hx
          subst hx
          exact ih.mem_iff.mpr h2
      · rw [namesB, namesL]
        exact ih.append_right _

end AZ
namespace AZ
open PySem L2
/-! ## what is put together keeps its bounds all the way -/
theorem depL_app : ∀ {a b : List Bx}, depL (a ++ b) = max (depL a) (depL b)
  | [], b => by rw [List.nil_append, depL]; omega
  | c :: a, b => by rw [List.cons_append, depL, depL, depL_app]; omega
mutual
theorem dep_putB {x : Str} {m : Bx} : ∀ {b : Bx}, depB b ≤ depB (putB x m b)
  | .mk n o u l => by
    have h := dep_putL (x := x) (m := m) (l := l)
    rw [putB]
    by_cases e : n = x
    · rw [if_pos e, depB, depB, depL_app]
      omega
    · rw [if_neg e, depB, depB]
      omega
theorem dep_putL {x : Str} {m : Bx} : ∀ {l : List Bx}, depL l ≤ depL (putL x m l)
  | [] => by rw [putL]; exact Nat.le_refl _
  | b :: r => by
    have h1 := dep_putB (x := x) (m := m) (b := b)
    have h2 := dep_putL (x := x) (m := m) (l := r)
    rw [putL, depL, depL]
    omega
end
mutual
theorem wf_putB {x : Str} {m : Bx} {k : Nat} : ∀ {b : Bx}, WfB k (putB x m b) → WfB k b
  | .mk n o u l, h => by
    rw [putB] at h
    by_cases e : n = x
    · rw [if_pos e, WfB] at h
      rw [WfB]
      refine ⟨h.1, h.2.1, h.2.2.1, h.2.2.2.1, wf_putL (x := x) (m := m) (wfL_all.mpr fun b hb => wfL_all.mp h.2.2.2.2 b (List.mem_append_left _ hb))⟩
    · rw [if_neg e, WfB] at h
      rw [WfB]
      exact ⟨h.1, h.2.1, h.2.2.1, h.2.2.2.1, wf_putL h.2.2.2.2⟩
theorem wf_putL {x : Str} {m : Bx} {k : Nat} : ∀ {l : List Bx}, WfL k (putL x m l) → WfL k l
  | [], _ => by rw [WfL]; trivial
  | b :: r, h => by
    rw [putL, WfL] at h
    rw [WfL]
    exact ⟨wf_putB h.1, wf_putL h.2⟩
end
theorem wf_row {k : Nat} {p : List Bx} {r : Row} (h : WfL k (putRow p r)) : WfL k p := by
  obtain ⟨nm, bg, en, ar, bx⟩ := r
  cases bx with | mk n o u inn =>
  cases ar with
  | none => exact wfL_all.mpr fun b hb => wfL_all.mp (show WfL k (p ++ [.mk n o u []]) from h) b (List.mem_append_left _ hb)
  | some x => exact wf_putL (show WfL k (putL x (.mk n o u []) p) from h)
theorem dep_row {p : List Bx} {r : Row} : depL p ≤ depL (putRow p r) := by
  obtain ⟨nm, bg, en, ar, bx⟩ := r
  cases bx with | mk n o u inn =>
  cases ar with
  | none =>
    show depL p ≤ depL (p ++ [.mk n o u []])
    rw [depL_app]
    omega
  | some x => exact dep_putL
theorem wf_fold {k : Nat} : ∀ {rs : List Row} {p : List Bx}, WfL k (rs.foldl putRow p) → WfL k p
  | [], _, h => h
  | _ :: _, _, h => wf_row (wf_fold h)
theorem dep_fold : ∀ {rs : List Row} {p : List Bx}, depL p ≤ depL (rs.foldl putRow p)
  | [], _ => Nat.le_refl _
  | _ :: _, _ => Nat.le_trans dep_row dep_fold
/-- each page on the way is in bounds -/
theorem pre_ok {l : List Bx} (ok : OkP l) (i : Nat) : OkP (((rowsL 0 none l).take i).foldl putRow []) ∧ depL (((rowsL 0 none l).take i).foldl putRow []) ≤ depL l := by
  have all : (rowsL 0 none l).foldl putRow [] = l := put_rows ok.1.2.1 nofun
  have sp : ((rowsL 0 none l).drop i).foldl putRow (((rowsL 0 none l).take i).foldl putRow []) = l := by rw [← List.foldl_append, List.take_append_drop, all]
  have pn := pre_names ok.1.2.1 i
  have sub : (((rowsL 0 none l).take i).map Row.nm).Sublist (namesL l) := by
    rw [← rowsL_nm (g := 0) (ar := none)]
    exact (List.take_sublist i _).map Row.nm
  have ln : (namesL (((rowsL 0 none l).take i).foldl putRow [])).length ≤ (namesL l).length := by rw [pn.length_eq]; exact sub.length_le
  refine ⟨⟨⟨wf_fold (rs := (rowsL 0 none l).drop i) (by rw [sp]; exact ok.1.1), pn.nodup_iff.mpr (sub.nodup ok.1.2.1), Nat.le_trans ln ok.1.2.2⟩, Nat.le_trans ln ok.2⟩, ?_⟩
  have := dep_fold (rs := (rowsL 0 none l).drop i) (p := ((rowsL 0 none l).take i).foldl putRow [])
  rw [sp] at this
  exact this

end AZ
namespace AZ
open PySem L2
/-! ## the page put together, each box within the one around it -/
mutual
theorem wf_rowsB {g : Int} {ar : Option Str} {k : Nat} : ∀ {b : Bx} {r : Row}, WfB k b → r ∈ rowsB g ar b → WfB k r.bx
  | .mk n o u l, r, w, h => by
    rw [rowsB] at h
    rcases List.mem_cons.mp h with rfl | h
    · exact w
    · rw [WfB] at w
      exact wf_rowsL w.2.2.2.2 h
theorem wf_rowsL {g : Int} {ar : Option Str} {k : Nat} : ∀ {l : List Bx} {r : Row}, WfL k l → r ∈ rowsL g ar l → WfB k r.bx
  | [], r, _, h => by rw [rowsL] at h; cases h
  | b :: l, r, w, h => by
    rw [rowsL] at h
    rw [WfL] at w
    rcases List.mem_append.mp h with h | h
    · exact wf_rowsB w.1 h
    · exact wf_rowsL w.2 h
end
def spPPagePut (C D : Addr) : Sp := fun vs H Q _ => ∃ (ex : List Addr) (a : Addr) (xs : List V) (l : List Bx), vs = [.ref a] ∧ H a = some (.lst xs) ∧ Held ex H ∧ IsPL ex H xs l ∧ OkP l ∧ depL l < 12 ∧ NewPg C D H Q l
section
variable {P : Program} {w : World} {K : PySem.W.Frag} {mg : Str → Option Value} {base : Heap} {d : Ad}
end

end AZ
namespace AZ
open PySem L2
/-! ## a page is drawn -/
theorem pen_mono {H : Hp} {p l : Addr} {n m : Nat} (h : PenL H p l n) (e : n ≤ m) : PenL H p l m := by
  obtain ⟨ns, spot, great, h1, h2, h3, h4, h5, h6⟩ := h
  exact ⟨ns, spot, great, h1, h2, h3, h4, h5, by omega⟩
theorem pen_up {H H' : Hp} {p l : Addr} {n : Nat} (h : PenL H p l n) (e : Same H H') : PenL H' p l n := by
  obtain ⟨ns, spot, great, h1, h2, h3, h4⟩ := h
  exact ⟨ns, spot, great, h1, e _ _ h2, e _ _ h3, h4⟩
theorem pen_at {H : Hp} {p l q : Addr} {n : Nat} {o : HO} (h : PenL H p l n) (hp : q ≠ p) (hl : q ≠ l) : PenL (upd H q o) p l n := by
  obtain ⟨ns, spot, great, h1, h2, h3, h4⟩ := h
  exact ⟨ns, spot, great, h1, by rw [upd_ne hp.symm]; exact h2, by rw [upd_ne hl.symm]; exact h3, h4⟩
theorem pen_ne {H : Hp} {p l q : Addr} {n : Nat} (h : PenL H p l n) (hq : H q = none) : q ≠ p ∧ q ≠ l := by
  obtain ⟨ns, spot, great, h1, h2, h3, h4⟩ := h
  exact ⟨(ne_of_none h2 hq).symm, (ne_of_none h3 hq).symm⟩
theorem pen_in {H : Hp} {p l : Addr} {n : Nat} (h : PenL H p l n) : ∃ xs, H p = some (.lst xs) := by
  obtain ⟨ns, spot, great, h1, h2, h3, h4⟩ := h
  exact ⟨_, h2⟩
theorem up_at {H H' : Hp} {p q : Addr} {o : HO} (e : Up p H H') (h : H q = none) : Up p H (upd H' q o) := fun b x hb hn => by
  rw [upd_ne (fun z => by rw [z, h] at hb; cases hb)]
  exact e b x hb hn
/-- all but some lists stay -/
def Upx (ex : List Addr) (H H' : Hp) : Prop := ∀ b o, H b = some o → (b ∈ ex → isL o = false) → H' b = some o
theorem Upx.refl (ex : List Addr) (H : Hp) : Upx ex H H := fun _ _ h _ => h
theorem Upx.trans {ex : List Addr} {H H1 H2 : Hp} (a : Upx ex H H1) (b : Upx ex H1 H2) : Upx ex H H2 := fun c o h n => b c o (a c o h n) n
theorem Upx.same {ex : List Addr} {H H' : Hp} (e : Same H H') : Upx ex H H' := fun b o h _ => e b o h
theorem Upx.up {ex : List Addr} {p : Addr} {H H' : Hp} (e : Up p H H') (hp : p ∈ ex) : Upx ex H H' := fun b o h n => e b o h fun z => n (z ▸ hp)
theorem Upx.put {ex : List Addr} {a : Addr} {H : Hp} {xs : List V} {o : HO} (h : H a = some (.lst xs)) (ha : a ∈ ex) : Upx ex H (upd H a o) := Upx.up (Up.put h) ha
theorem Upx.at_ {ex : List Addr} {H H' : Hp} {q : Addr} {o : HO} (e : Upx ex H H') (h : H q = none) : Upx ex H (upd H' q o) := fun b x hb hn => by
  rw [upd_ne (fun z => by rw [z, h] at hb; cases hb)]
  exact e b x hb hn
theorem Upx.tup {ex : List Addr} {a : Addr} {H H' : Hp} {xs : List V} (e : Upx ex H H') (h : H a = some (.tup xs)) : H' a = some (.tup xs) := e _ _ h fun _ => rfl
theorem Upx.lst {ex : List Addr} {a : Addr} {H H' : Hp} {xs : List V} (e : Upx ex H H') (h : H a = some (.lst xs)) (n : a ∉ ex) : H' a = some (.lst xs) := e _ _ h fun z => absurd z n
theorem Upx.drop {p q : Addr} {H H' : Hp} (e : Upx [p, q] H H') {H0 : Hp} (u : Up p H0 H) (hq : H0 q = none) : Up p H0 H' := fun b o h n => e b o (u b o h n) fun z => by
  rcases List.mem_cons.mp z with z | z
  · exact n z
  · rw [List.mem_singleton.mp z, hq] at h; cases h
section
variable {ex ey : List Addr} {H H' : Hp} {b : Bx} {l : List Bx} {v : V} {xs : List V}
theorem IsPB.upx (h : IsPB ey H v b) (e : Upx ex H H') (s : ∀ a ∈ ex, a ∈ ey) : IsPB ey H' v b := h.mono (fun _ _ _ q => q) (fun _ _ q => e.tup q) fun _ _ n q => e.lst q fun z => n (s _ z)
theorem IsPL.upx (h : IsPL ey H xs l) (e : Upx ex H H') (s : ∀ a ∈ ex, a ∈ ey) : IsPL ey H' xs l := h.mono (fun _ _ _ q => q) (fun _ _ q => e.tup q) fun _ _ n q => e.lst q fun z => n (s _ z)
theorem Held.upx (h : Held ey H) (e : Upx ex H H') (hx : Held ex H') : Held ey H' := fun a ha => by
  obtain ⟨o, q⟩ := h a ha
  by_cases z : a ∈ ex
  · exact hx a z
  · exact ⟨o, e _ _ q fun w => absurd w z⟩
end
theorem held2 {p q : Addr} {H : Hp} {o u : HO} (h1 : H p = some o) (h2 : H q = some u) : Held [p, q] H := fun a ha => by
  rcases List.mem_cons.mp ha with z | z
  · exact ⟨o, by rw [z]; exact h1⟩
  · exact ⟨u, by rw [List.mem_singleton.mp z]; exact h2⟩
/-- how often the pen is asked, by depth -/
def drs : Nat → Nat
  | 0 => 0
  | k + 1 => 13 + 3 * drs k
/-- what is drawn within bounds -/
def Dr (k : Nat) (l : List Bx) : Prop := WfL 100 l ∧ thinL l ∧ l.length ≤ 3 ∧ depL l ≤ k
theorem thinL_snoc {l : List Bx} {b : Bx} (h : thinL l) (hb : thinB b) : thinL (l ++ [b]) := by
  induction l with
  | nil => exact ⟨hb, trivial⟩
  | cons c r ih =>
    rw [thinL] at h
    rw [List.cons_append, thinL]
    exact ⟨h.1, ih h.2⟩
theorem wfL_snoc {k : Nat} {l : List Bx} {b : Bx} (h : WfL k l) (hb : WfB k b) : WfL k (l ++ [b]) := wfL_all.mpr fun c hc => by
  rcases List.mem_append.mp hc with hc | hc
  · exact wfL_all.mp h c hc
  · rw [List.mem_singleton.mp hc]; exact hb
def spPDraw (m : Nat) : Sp := fun vs H Q _ => ∃ (ex : List Addr) (p lp na : Addr) (n k : Nat) (ns : List Str), vs = [.ref p, .ref na, .int (k : Int)] ∧ k < m ∧ p ∈ ex ∧ na ∈ ex ∧ Held ex H ∧ PenL H p lp n ∧ n + drs (k + 1) < 99000 ∧ H na = some (.lst (ns.map V.str)) ∧ na ≠ p ∧ na ≠ lp ∧ ns.length ≤ 12 ∧ (∀ x ∈ ns, isNm x = true) ∧
  ∀ D H' xs l rest, H D = none → H' D = some (.lst xs) → IsPL ex H' xs l → ns = rest ++ (namesL l).reverse → H' na = some (.lst (rest.map V.str)) → Dr (k + 1) l → PenL H' p lp (n + drs (k + 1)) → Upx [p, na] H H' → Q (.ref D) H'
/-- a box drawn, put behind those that stand -/
theorem pl_putx {ex : List Addr} {H2 : Hp} {D tp li : Addr} {zs ys : List V} {n : Str} {o u : Int} {l r : List Bx} (hz : H2 D = some (.lst zs)) (hzz : IsPL (D :: ex) H2 zs r) (hli : li ∉ D :: ex) (hp2 : H2 li = some (.lst ys)) (hys : IsPL (D :: ex) H2 ys l) (htp : H2 tp = none) :
    IsPL (D :: ex) (upd (upd H2 tp (.tup [.str n, .int o, .int u, .ref li])) D (.lst (zs ++ [.ref tp]))) (zs ++ [.ref tp]) (r ++ [.mk n o u l]) := by
  have e2 : Same H2 (upd H2 tp (.tup [.str n, .int o, .int u, .ref li])) := sameNew htp
  have hz2 := e2 _ _ hz
  refine isPL_snoc ((hzz.same e2).grow hz2) (IsPB.grow ?_ hz2)
  rw [IsPB]
  exact ⟨tp, li, ys, rfl, hli, upd_same, e2 _ _ hp2, hys.same e2⟩
section
variable {P : Program} {w : World} {K : PySem.W.Frag} {mg : Str → Option Value} {base : Heap} {d : Ad}
theorem G__law_boxes (T : Tx K mg d) : ∀ m, FnR P w K mg base CX0 (m + 3) d._law_boxes (spPDraw m) := by
  intro m
  induction m with
  | zero =>
    intro A outer s H us vs Q E hr e0 r h
    obtain ⟨ex, p, lp, na, n, k, ns, _, km, _⟩ := h
    exact absurd km (Nat.not_lt_zero _)
  | succ m G__law_boxes =>
  have G__law_draw : FnR P w K mg base CX0 1 d._law_draw spDrawL := G__law_drawL T
  have G__law_pick : FnR P w K mg base CX0 2 d._law_pick spPickL := G__law_pickL T
  obtain ⟨fd, F⟩ := T.F__law_boxes
  refine FnR.imp (FnOk.raw (F.ok sc__law_boxes (k := m + 3) (sp := spPDraw (m + 1)) (fun vs H Q E h => ?_) (fun cdv A outer s H vs Q E hr h => ?_)) (F.binds fun _ _ _ _ _ _ us hl => match us, hl with | [_, _, _], _ => rfl) .nil) fun vs H Q E h => by rw [List.append_nil]; exact h
  · obtain ⟨ex, p, lp, na, n, k, ns, rfl, _⟩ := h
    rfl
  · obtain ⟨ex, p, lp, na, n, k, ns, rfl, km, hpe, hne, hex, hp, hn, hna, nap, nal, nl, nn, kk⟩ := h
    -- slots: 0 _law_pen_here, 1 _law_names, 2 _law_deep, 3 _law_found, 4 _law_turn, 5 _law_name, 6 _law_offset, 7 _law_units
    refine ⟨_, (pss_cons (ps_set (i := 3) sc__law_boxes.nd rfl (Or.inl rfl) (pe_lst pa_nil))
      (pss_cons (ps_for PassesOwn.never rfl (pi_range1 rfl T.n_range (pa_cons (pe_fnR G__law_draw (hr.mono (by omega)) T.k__law_draw T.m__law_draw pass0 (pa_cons (pv 0) (pa_cons pe_int pa_nil))) pa_nil)) (pg_name (i := 4) sc__law_boxes.nd rfl (Or.inl rfl)) (pss_one (ps_if (pt_cmpR (uNeE (hr.mono (by omega))) (pv 1) (pe_lst pa_nil) (nomark _)) (pss_cons (ps_par (i := 5) (j := 6) (by rfl) sc__law_boxes.nd rfl rfl (by decide) rfl rfl (pa_cons (pe_bm0 PySem.F.plainAttrs_list PySem.F.slot_list_pop PySem.F.type_list_pop mt_pop (pv 1)) (pa_cons (pe_fnR G__law_pick (hr.mono (by omega)) T.k__law_pick T.m__law_pick pass0 (pa_cons (pv 0) (pa_cons (pe_lst (pa_cons pe_int (pa_cons pe_int (pa_cons pe_int (pa_cons pe_int (pa_cons (pe_un uNeg pe_int) (pa_cons (pe_fnR G__law_draw (hr.mono (by omega)) T.k__law_draw T.m__law_draw pass0 (pa_cons (pv 0) (pa_cons pe_int pa_nil))) (pa_cons (pe_op op_pow pe_int pe_int) pa_nil)))))))) pa_nil))) pa_nil)) (by rfl))
      (pss_cons (ps_set (i := 7) sc__law_boxes.nd rfl (Or.inl rfl) (pe_fnR G__law_pick (hr.mono (by omega)) T.k__law_pick T.m__law_pick pass0 (pa_cons (pv 0) (pa_cons (pe_lst (pa_cons pe_int (pa_cons pe_int (pa_cons pe_int (pa_cons pe_int (pa_cons pe_int (pa_cons (pe_fnR G__law_draw (hr.mono (by omega)) T.k__law_draw T.m__law_draw pass0 (pa_cons (pv 0) (pa_cons pe_int pa_nil))) (pa_cons (pe_op op_pow pe_int pe_int) pa_nil)))))))) pa_nil))))
      (pss_one (ps_expr (pe_bm PySem.F.plainAttrs_list PySem.F.slot_list_append PySem.F.type_list_append mt_append (pv 3) (pa_cons (pe_tup (pa_cons (pv 5) (pa_cons (pv 6) (pa_cons (pv 7) (pa_cons (pe_ifExp (pt_cmpR uGt (pv 2) pe_int (nomark _)) (pe_fnR G__law_boxes (hr.mono (by omega)) T.k__law_boxes T.m__law_boxes pass0 (pa_cons (pv 0) (pa_cons (pv 1) (pa_cons (pe_op uSub (pv 2) pe_int) pa_nil)))) (pe_lst pa_nil)) pa_nil))))) pa_nil)))))) pss_nil)))
      (pss_one (ps_ret (pv 3))))), ?_⟩
    have dd : drs (k + 1) = 13 + 3 * drs k := rfl
    rw [dd] at hn kk
    obtain ⟨c, hc⟩ : ∃ c, c = 4 + drs k := ⟨_, rfl⟩
    refine ⟨(by show 0 ≤ sizeLine; decide), fun D hD => ?_⟩
    obtain ⟨nDp, nDl⟩ := pen_ne hp hD
    have nDa : D ≠ na := fun z => by rw [z, hna] at hD; cases hD
    have u0 : Same H (upd H D (.lst [])) := sameNew hD
    have hp0 := pen_up hp u0
    have hD0 : upd H D (.lst []) D = some (.lst []) := upd_same
    have hna0 := u0 _ _ hna
    have hex0 := hex.same u0
    generalize upd H D (HO.lst []) = H0 at u0 hp0 hD0 hna0 hex0 ⊢
    try dsimp only [List.set, L2.start]
    refine ⟨_, rfl, p, lp, n, 4, rfl, hp0, by omega, by decide, by decide, fun j H1 j0 j1 hp1 u1 => ?_⟩
    obtain ⟨j, rfl⟩ : ∃ i : Nat, j = (i : Int) := ⟨j.toNat, by omega⟩
    have hD1 := u1.lst hD0 nDp
    refine ⟨j, rfl, ?_, ?_, for_range (n := j) (fun i σ' H' => ∃ (z4 z5 z6 z7 : Option V) (zs : List V) (l : List Bx) (rest : List Str), σ' = [some (.ref p), some (.ref na), some (.int (k : Int)), some (.ref D), z4, z5, z6, z7] ∧ H' D = some (.lst zs) ∧ IsPL (D :: ex) H' zs l ∧ ns = rest ++ (namesL l).reverse ∧ H' na = some (.lst (rest.map V.str)) ∧
        WfL 100 l ∧ thinL l ∧ l.length ≤ i ∧ depL l ≤ k + 1 ∧ PenL H' p lp (n + 1 + c * i) ∧ Upx [p, na] H H')
      ⟨none, none, none, none, [], [], ns, rfl, hD1, (by rw [IsPL]), (by rw [namesL]; simp), u1.lst hna0 nap, (by rw [WfL]; trivial), (by rw [thinL]; trivial), Nat.le_refl 0, (by rw [depL]; exact Nat.zero_le _), pen_mono hp1 (by omega), (Upx.same u0).trans (Upx.up u1 (List.mem_cons_self ..))⟩ (fun i σ' H2 hi q => ?_) (fun σ' H2 q => ?_)⟩
    · omega
    · omega
    · obtain ⟨z4, z5, z6, z7, zs, l, rest, rfl, hz, hzz, hns, hr2, wf, th, ll, dl, hp2, u2⟩ := q
      have hi4 : i ≤ 2 := by omega
      have ci : c * i ≤ c * 2 := Nat.mul_le_mul_left _ hi4
      have cs : c * (i + 1) = c * i + c := Nat.mul_succ c i
      dsimp only [gName, List.set]
      refine ⟨_, rfl, (by show 0 ≤ sizeLine; decide), fun r hr1 => Or.inr ⟨_, bl_nil (sameNew hr1 _ _ hr2) upd_same, fun H3 e3 => ⟨_, rfl, ?_⟩⟩⟩
      have e3 : Same H2 H3 := (sameNew hr1).trans e3
      rcases List.eq_nil_or_concat rest with rfl | ⟨rest, x, rfl⟩
      · exact iteF ⟨_, _, _, _, zs, l, [], rfl, e3 _ _ hz, hzz.same e3, hns, e3 _ _ hr2, wf, th, by omega, dl, pen_mono (pen_up hp2 e3) (by omega), u2.trans (Upx.same e3)⟩
      · rw [List.concat_eq_append] at hns hr2
        have hr3 : H3 na = some (.lst (rest.map V.str ++ [V.str x])) := by rw [e3 _ _ hr2, List.map_append]; rfl
        have sub : ∀ a ∈ [p, na], a ∈ D :: ex := fun a ha => by
          rcases List.mem_cons.mp ha with z | z
          · exact List.mem_cons_of_mem _ (z ▸ hpe)
          · exact List.mem_cons_of_mem _ (List.mem_singleton.mp z ▸ hne)
        have Dx : D ∉ [p, na] := fun ha => by
          rcases List.mem_cons.mp ha with z | z
          · exact nDp z
          · exact nDa (List.mem_singleton.mp z)
        have hin : ∀ y ∈ rest ++ [x], y ∈ ns := fun y hy => by rw [hns]; exact List.mem_append_left _ hy
        have nl2 : rest.length ≤ 12 := by
          rw [hns, List.length_append, List.length_append] at nl
          omega
        refine ifT (by simp) ?_
        refine ⟨_, rfl, Or.inl ⟨rfl, _, SqL.of hr3⟩, na, _, V.str x, rfl, rfl, hr3, by simp, ?_⟩
        rw [List.dropLast_concat]
        have hz4 : upd H3 na (.lst (rest.map V.str)) D = some (.lst zs) := by rw [upd_ne nDa]; exact e3 _ _ hz
        have u4 : Upx [p, na] H3 (upd H3 na (.lst (rest.map V.str))) := Upx.put hr3 (by simp)
        have hzz4 := (hzz.same e3).upx u4 sub
        have hp4 := pen_at (pen_up hp2 e3) nap nal (o := .lst (rest.map V.str))
        have hr4 : upd H3 na (.lst (rest.map V.str)) na = some (.lst (rest.map V.str)) := upd_same
        have uu := (u2.trans (Upx.same e3)).trans u4
        generalize upd H3 na (.lst (rest.map V.str)) = H4 at hz4 u4 hzz4 hp4 hr4 uu ⊢
        clear u4 hr3 e3 hr1 hzz hz hr2 hp2 u2
        have pin : p ∈ [p, na] := List.mem_cons_self ..
        refine ⟨_, rfl, Or.inl ⟨_, rfl, ⟨_, rfl, p, lp, _, 30, rfl, hp4, by omega, by decide, by decide, fun e H5 e0 e1 hp5 u5 => ⟨_, _, rfl, rfl, ⟨by decide, by decide, by decide⟩, (by show 7 ≤ sizeLine; decide), fun q hq => ⟨p, lp, q, _, _, rfl, pen_up hp5 (sameNew hq), by omega, Or.inl ⟨upd_same, (pen_ne hp5 hq).1⟩, (by show 0 < 7; decide), (by show 7 ≤ 1000; decide), fun y H6 hy hp6 u6 => ?_⟩⟩⟩⟩⟩
        have up6 : Up p H4 H6 := (u5.trans (Up.same (sameNew hq))).trans u6
        obtain ⟨o, rfl, ho⟩ : ∃ o, y = V.int o ∧ o.natAbs < 2 ^ 100 := by
          simp only [List.mem_cons, List.not_mem_nil, or_false] at hy
          rcases hy with rfl | rfl | rfl | rfl | rfl | rfl | rfl
          case inr.inr.inr.inr.inr.inl => exact ⟨_, rfl, Nat.lt_of_lt_of_le (show e.natAbs < 30 by omega) (by decide)⟩
          all_goals exact ⟨_, rfl, by decide⟩
        have hz6 := up6.lst hz4 nDp
        have hr6 := up6.lst hr4 nap
        have hzz6 := hzz4.upx (Upx.up up6 pin) sub
        have uu6 := uu.trans (Upx.up up6 pin)
        clear hz4 hr4 hzz4 hp4 uu hp5 u5 hq up6 hy u6 e0 e1
        refine ⟨_, _, rfl, ?_⟩
        dsimp only [List.set]
        refine ⟨_, rfl, ⟨_, rfl, p, lp, _, 20, rfl, hp6, by omega, by decide, by decide, fun e H5 e0 e1 hp5 u5 => ⟨_, _, rfl, rfl, ⟨by decide, by decide, by decide⟩, (by show 7 ≤ sizeLine; decide), fun q hq => ⟨p, lp, q, _, _, rfl, pen_up hp5 (sameNew hq), by omega, Or.inl ⟨upd_same, (pen_ne hp5 hq).1⟩, (by show 0 < 7; decide), (by show 7 ≤ 1000; decide), fun y H7 hy hp7 u6 => ?_⟩⟩⟩⟩
        have up6 : Up p H6 H7 := (u5.trans (Up.same (sameNew hq))).trans u6
        obtain ⟨u, rfl, hu0, hu⟩ : ∃ u, y = V.int u ∧ 0 ≤ u ∧ u.natAbs < 2 ^ 100 := by
          simp only [List.mem_cons, List.not_mem_nil, or_false] at hy
          rcases hy with rfl | rfl | rfl | rfl | rfl | rfl | rfl
          case inr.inr.inr.inr.inr.inl => exact ⟨_, rfl, e0, Nat.lt_of_lt_of_le (show e.natAbs < 20 by omega) (by decide)⟩
          all_goals exact ⟨_, rfl, by decide, by decide⟩
        have hz7 := up6.lst hz6 nDp
        have hr7 := up6.lst hr6 nap
        have hzz7 := hzz6.upx (Upx.up up6 pin) sub
        have uu7 := uu6.trans (Upx.up up6 pin)
        clear hz6 hr6 hzz6 hp6 uu6 hp5 u5 hq up6 hy u6 e0 e1
        have lk : l.length ≤ 2 := by omega
        have zl : zs.length < sizeLine := by rw [hzz7.len]; exact Nat.lt_of_le_of_lt lk (by decide)
        have held7 : Held (D :: ex) H7 := (hex.upx uu7 (held2 (pen_in hp7).choose_spec hr7)).cons hz7
        have nx : isNm x = true := nn x (hin x (by simp))
        have fin : ∀ (H8 : Hp) (li : Addr) (ys : List V) (inn : List Bx) (rest2 : List Str) (tp : Addr), H8 D = some (.lst zs) → IsPL (D :: ex) H8 zs l → li ∉ D :: ex → H8 li = some (.lst ys) → IsPL (D :: ex) H8 ys inn → rest = rest2 ++ (namesL inn).reverse → H8 na = some (.lst (rest2.map V.str)) →
            Dr k inn → PenL H8 p lp (n + 1 + c * (i + 1)) → Upx [p, na] H H8 → H8 tp = none → ∃ (zs' : List V) (l' : List Bx) (rest' : List Str), upd (upd H8 tp (.tup [.str x, .int o, .int u, .ref li])) D (.lst (zs ++ [.ref tp])) D = some (.lst zs') ∧ IsPL (D :: ex) (upd (upd H8 tp (.tup [.str x, .int o, .int u, .ref li])) D (.lst (zs ++ [.ref tp]))) zs' l' ∧ ns = rest' ++ (namesL l').reverse ∧
              upd (upd H8 tp (.tup [.str x, .int o, .int u, .ref li])) D (.lst (zs ++ [.ref tp])) na = some (.lst (rest'.map V.str)) ∧ WfL 100 l' ∧ thinL l' ∧ l'.length ≤ i + 1 ∧ depL l' ≤ k + 1 ∧ PenL (upd (upd H8 tp (.tup [.str x, .int o, .int u, .ref li])) D (.lst (zs ++ [.ref tp]))) p lp (n + 1 + c * (i + 1)) ∧ Upx [p, na] H (upd (upd H8 tp (.tup [.str x, .int o, .int u, .ref li])) D (.lst (zs ++ [.ref tp]))) := fun H8 li ys inn rest2 tp g1 g2 g3 g4 g5 g6 g7 g8 g9 g10 g11 => by
          have e8 := sameNew g11 (o := .tup [.str x, .int o, .int u, .ref li])
          refine ⟨_, l ++ [.mk x o u inn], rest2, upd_same, pl_putx g1 g2 g3 g4 g5 g11, ?_, ?_, wfL_snoc wf ?_, thinL_snoc th ?_, ?_, ?_, pen_at (pen_up g9 e8) nDp nDl, (g10.trans (Upx.same e8)).at_ hD⟩
          · rw [hns, g6, namesL_app, namesL_one, namesB]
            simp
          · rw [upd_ne nDa.symm]
            exact e8 _ _ g7
          · rw [WfB]
            exact ⟨nx, hu0, ho, hu, g8.1⟩
          · rw [thinB]
            exact ⟨g8.2.2.1, g8.2.1⟩
          · rw [List.length_append]
            exact Nat.succ_le_succ ll
          · have := g8.2.2.2
            rw [depL_app, depL, depB, depL]
            omega
        refine ⟨_, rfl, Or.inl ⟨rfl, zs, SqL.of hz7⟩, _, rfl, _, rfl, _, rfl, _, rfl, Or.inl ⟨_, _, rfl, rfl, _, rfl, ?_⟩⟩
        cases k with
        | zero =>
          refine iteF ⟨Nat.zero_le _, fun r hr => ⟨(by show 4 ≤ sizeLine; decide), fun tp htp => ?_⟩⟩
          have e8 := sameNew hr (o := .lst [])
          refine ⟨D, zs, .ref tp, rfl, rfl, (sameNew htp) _ _ (e8 _ _ hz7), zl, ?_⟩
          obtain ⟨zs', l', rest', g⟩ := fin _ r [] [] rest tp (e8 _ _ hz7) (hzz7.same e8) (held7.new hr) upd_same (by rw [IsPL]) (by rw [namesL]; simp) (e8 _ _ hr7) ⟨by rw [WfL]; trivial, by rw [thinL]; trivial, Nat.zero_le _, by rw [depL]; exact Nat.le_refl _⟩ (pen_mono (pen_up hp7 e8) (by omega)) (uu7.trans (Upx.same e8)) htp
          exact ⟨_, _, _, _, zs', l', rest', rfl, g⟩
        | succ k =>
          have dk : drs (k + 1) = 13 + 3 * drs k := rfl
          have km1 : ((k + 1 : Nat) : Int) - 1 = (k : Int) := by omega
          refine ifT (by simp) ⟨_, rfl, _, rfl, _, rfl, Or.inl ⟨_, _, rfl, rfl, D :: ex, p, lp, na, _, k, rest, by dsimp only; rw [km1], by omega, List.mem_cons_of_mem _ hpe, List.mem_cons_of_mem _ hne, held7, hp7, by omega, hr7, nap, nal, nl2, fun y hy => nn y (hin y (by simp [hy])), fun L H8 ys inn rest2 hL hL8 hys hrs hr8 dr hp8 u8 => ?_⟩⟩
          refine ⟨(by show 4 ≤ sizeLine; decide), fun tp htp => ?_⟩
          have hz8 := u8.lst hz7 Dx
          refine ⟨D, zs, .ref tp, rfl, rfl, (sameNew htp) _ _ hz8, zl, ?_⟩
          obtain ⟨zs', l', rest', g⟩ := fin H8 L ys inn rest2 tp hz8 (hzz7.upx u8 sub) (held7.new hL) hL8 hys hrs hr8 dr (pen_mono hp8 (by omega)) (uu7.trans u8) htp
          exact ⟨_, _, _, _, zs', l', rest', rfl, g⟩
    · obtain ⟨z4, z5, z6, z7, zs, l, rest, rfl, hz, hzz, hns, hr2, wf, th, ll, dl, hp2, u2⟩ := q
      have cj : c * j ≤ c * 3 := Nat.mul_le_mul_left _ (by omega)
      exact ⟨_, rfl, kk D H2 zs l rest hD hz hzz.less hns hr2 ⟨wf, th, by omega, dl⟩ (pen_mono hp2 (by omega)) u2⟩
end

end AZ
namespace AZ
open PySem L2
/-! ## bounds of pages that are changed -/
theorem mulb {a b : Int} {k j : Nat} (ha : a.natAbs < 2 ^ k) (hb : b.natAbs < 2 ^ j) : (a * b).natAbs < 2 ^ (k + j) := by
  rw [Int.natAbs_mul, Nat.pow_add]
  exact Nat.mul_lt_mul'' ha hb
mutual
theorem wf_monoB {j k : Nat} (h : j ≤ k) : ∀ {b : Bx}, WfB j b → WfB k b
  | .mk n o u l, w => by
    rw [WfB] at w ⊢
    have p := Nat.pow_le_pow_right (n := 2) (by decide) h
    exact ⟨w.1, w.2.1, Nat.lt_of_lt_of_le w.2.2.1 p, Nat.lt_of_lt_of_le w.2.2.2.1 p, wf_monoL h w.2.2.2.2⟩
theorem wf_monoL {j k : Nat} (h : j ≤ k) : ∀ {l : List Bx}, WfL j l → WfL k l
  | [], _ => by rw [WfL]; trivial
  | b :: l, w => by
    rw [WfL] at w ⊢
    exact ⟨wf_monoB h w.1, wf_monoL h w.2⟩
end
mutual
theorem wf_timB {j k : Nat} {t : Int} (t0 : 0 ≤ t) (ht : t.natAbs < 2 ^ j) : ∀ {b : Bx}, WfB k b → WfB (k + j) (timB t b)
  | .mk n o u l, w => by
    rw [WfB] at w
    rw [timB, WfB]
    exact ⟨w.1, Int.mul_nonneg w.2.1 t0, mulb w.2.2.1 ht, mulb w.2.2.2.1 ht, wf_timL t0 ht w.2.2.2.2⟩
theorem wf_timL {j k : Nat} {t : Int} (t0 : 0 ≤ t) (ht : t.natAbs < 2 ^ j) : ∀ {l : List Bx}, WfL k l → WfL (k + j) (timL t l)
  | [], _ => by rw [timL, WfL]; trivial
  | b :: l, w => by
    rw [WfL] at w
    rw [timL, WfL]
    exact ⟨wf_timB t0 ht w.1, wf_timL t0 ht w.2⟩
end
mutual
theorem dep_timB {t : Int} : ∀ {b : Bx}, depB (timB t b) = depB b
  | .mk n o u l => by rw [timB, depB, depB, dep_timL]
theorem dep_timL {t : Int} : ∀ {l : List Bx}, depL (timL t l) = depL l
  | [] => by rw [timL]
  | b :: l => by rw [timL, depL, depL, dep_timB, dep_timL]
end
mutual
theorem dep_outB {x : Str} : ∀ {b : Bx}, depL (outB x b) ≤ depB b
  | .mk n o u l => by
    have h := dep_outL (x := x) (l := l)
    rw [outB]
    by_cases e : n = x
    · rw [if_pos e, depL]
      exact Nat.zero_le _
    · rw [if_neg e, depL, depL, depB, depB]
      omega
theorem dep_outL {x : Str} : ∀ {l : List Bx}, depL (outL x l) ≤ depL l
  | [] => by rw [outL]; exact Nat.le_refl _
  | b :: r => by
    have h1 := dep_outB (x := x) (b := b)
    have h2 := dep_outL (x := x) (l := r)
    rw [outL, depL_app, depL]
    omega
end
mutual
theorem dep_put1B {x n : Str} {o u : Int} : ∀ {b : Bx}, depB (putB x (.mk n o u []) b) ≤ depB b + 1
  | .mk n1 o1 u1 l => by
    have h := dep_put1L (x := x) (n := n) (o := o) (u := u) (l := l)
    have e1 : depL [Bx.mk n o u []] = 1 := by rw [depL, depB, depL]; rfl
    rw [putB, depB, depB]
    by_cases e : n1 = x
    · rw [if_pos e, depL_app, e1]
      omega
    · rw [if_neg e]
      omega
theorem dep_put1L {x n : Str} {o u : Int} : ∀ {l : List Bx}, depL (putL x (.mk n o u []) l) ≤ depL l + 1
  | [] => by rw [putL, depL]; omega
  | b :: r => by
    have h1 := dep_put1B (x := x) (n := n) (o := o) (u := u) (b := b)
    have h2 := dep_put1L (x := x) (n := n) (o := o) (u := u) (l := r)
    rw [putL, depL, depL]
    omega
end
mutual
theorem wf_putB2 {x : Str} {m : Bx} {k : Nat} (hm : WfB k m) : ∀ {b : Bx}, WfB k b → WfB k (putB x m b)
  | .mk n o u l, h => by
    rw [WfB] at h
    rw [putB, WfB]
    refine ⟨h.1, h.2.1, h.2.2.1, h.2.2.2.1, ?_⟩
    have q := wf_putL2 (x := x) hm h.2.2.2.2
    by_cases e : n = x
    · rw [if_pos e]
      exact wfL_snoc q hm
    · rw [if_neg e]
      exact q
theorem wf_putL2 {x : Str} {m : Bx} {k : Nat} (hm : WfB k m) : ∀ {l : List Bx}, WfL k l → WfL k (putL x m l)
  | [], _ => by rw [putL, WfL]; trivial
  | b :: r, h => by
    rw [WfL] at h
    rw [putL, WfL]
    exact ⟨wf_putB2 hm h.1, wf_putL2 hm h.2⟩
end
/-! what is gone begins with the name of the box taken out -/
mutual
theorem out_notB {x : Str} : ∀ {b : Bx}, x ∉ namesL (outB x b)
  | .mk n o u l => by
    rw [outB]
    by_cases e : n = x
    · rw [if_pos e, namesL]
      exact nofun
    · rw [if_neg e, namesL_one, namesB, List.mem_cons, not_or]
      exact ⟨fun z => e z.symm, out_notL⟩
theorem out_notL {x : Str} : ∀ {l : List Bx}, x ∉ namesL (outL x l)
  | [] => by rw [outL, namesL]; exact nofun
  | b :: r => by
    rw [outL, namesL_app, List.mem_append, not_or]
    exact ⟨out_notB, out_notL⟩
end
mutual
theorem goneB {x : Str} : ∀ {b : Bx}, x ∈ namesB b → ∃ A B, namesB b = A ++ x :: B ∧ ∀ y ∈ A, y ∈ namesL (outB x b)
  | .mk n o u l, h => by
    rw [namesB] at h ⊢
    by_cases e : n = x
    · exact ⟨[], namesL l, by rw [e]; rfl, nofun⟩
    · obtain ⟨A, B, h1, h2⟩ := goneL (List.mem_cons.mp h |>.resolve_left fun z => e z.symm)
      refine ⟨n :: A, B, by rw [h1]; rfl, fun y hy => ?_⟩
      rw [outB, if_neg e, namesL_one, namesB, List.mem_cons]
      rcases List.mem_cons.mp hy with z | z
      · exact Or.inl z
      · exact Or.inr (h2 y z)
theorem goneL {x : Str} : ∀ {l : List Bx}, x ∈ namesL l → ∃ A B, namesL l = A ++ x :: B ∧ ∀ y ∈ A, y ∈ namesL (outL x l)
  | [], h => by rw [namesL] at h; cases h
  | b :: r, h => by
    rw [namesL] at h ⊢
    by_cases c : x ∈ namesB b
    · obtain ⟨A, B, h1, h2⟩ := goneB c
      refine ⟨A, B ++ namesL r, by rw [h1, List.append_assoc]; rfl, fun y hy => ?_⟩
      rw [outL, namesL_app]
      exact List.mem_append_left _ (h2 y hy)
    · obtain ⟨A, B, h1, h2⟩ := goneL ((List.mem_append.mp h).resolve_left c)
      refine ⟨namesB b ++ A, B, by rw [h1, List.append_assoc], fun y hy => ?_⟩
      rw [outL, namesL_app, outB_no c, namesL_one]
      rcases List.mem_append.mp hy with z | z
      · exact List.mem_append_left _ z
      · exact List.mem_append_right _ (h2 y z)
end
theorem gone_first {x : Str} {l : List Bx} (h : x ∈ namesL l) : ∃ r, (namesL l).filter (fun y => !decide (y ∈ namesL (outL x l))) = x :: r := by
  obtain ⟨A, B, h1, h2⟩ := goneL h
  have hA : A.filter (fun y => !decide (y ∈ namesL (outL x l))) = [] := List.filter_eq_nil_iff.mpr fun y hy => by
    rw [decide_eq_true (h2 y hy)]
    decide
  refine ⟨B.filter (fun y => !decide (y ∈ namesL (outL x l))), ?_⟩
  rw [h1, List.filter_append, hA, List.nil_append, List.filter_cons, if_pos]
  rw [decide_eq_false out_notL]
  rfl
/-! ## the pages of the turns -/
def names12 : List Str := ["a", "b", "head", "row", "cell", "zz", "abcdefgh", "edge", "left", "style", "none", "q"]
def news5 : List Str := ["newa", "newb", "newc", "newd", "newe"]
def nw (i : Nat) : Str := news5.getD i "newe"
theorem nw_ok : ∀ i, i < 5 → isNm (nw i) = true := by
  have h : ∀ i : Fin 5, isNm (nw i.val) = true := by decide +kernel
  exact fun i hi => h ⟨i, hi⟩
theorem nw_12 : ∀ i, i < 5 → nw i ∉ names12 := by
  have h : ∀ i : Fin 5, nw i.val ∉ names12 := by decide +kernel
  exact fun i hi => h ⟨i, hi⟩
theorem nw_ne : ∀ j i, j < i → i < 5 → nw i ≠ nw j := by
  have h : ∀ i j : Fin 5, j.val < i.val → nw i.val ≠ nw j.val := by decide +kernel
  exact fun j i hj hi => h ⟨i, hi⟩ ⟨j, by omega⟩ hj
def Lv (i : Nat) (l : List Bx) : Prop := WfL (105 + 31 * i) l ∧ (namesL l).Nodup ∧ (namesL l).length ≤ 12 + i ∧ (∀ y ∈ namesL l, y ∈ names12 ∨ ∃ j, j < i ∧ y = nw j) ∧ depL l ≤ 3 + i
section
variable {i : Nat} {l : List Bx}
theorem Lv.okp (h : Lv i l) (hi : i ≤ 5) : OkP l := ⟨⟨wf_monoL (by omega) h.1, h.2.1, by have := h.2.2.1; omega⟩, by have := h.2.2.1; omega⟩
theorem Lv.dep (h : Lv i l) (hi : i ≤ 5) : depL l < 12 := by have := h.2.2.2.2; omega
theorem Lv.new (h : Lv i l) (hi : i < 5) : nw i ∉ namesL l := fun z => by
  rcases h.2.2.2.1 _ z with q | ⟨j, hj, q⟩
  · exact nw_12 i hi q
  · exact nw_ne j i hj hi q
theorem Lv.more (h : Lv i l) : ∀ y ∈ namesL l, y ∈ names12 ∨ ∃ j, j < i + 1 ∧ y = nw j := fun y hy => (h.2.2.2.1 y hy).imp_right fun ⟨j, hj, e⟩ => ⟨j, by omega, e⟩
theorem Lv.tim (h : Lv i l) {t : Int} (t0 : 0 ≤ t) (ht : t.natAbs < 2 ^ 31) : Lv (i + 1) (timL t l) :=
  ⟨wf_monoL (by omega) (wf_timL t0 ht h.1), by rw [names_timL]; exact h.2.1, by rw [names_timL]; have := h.2.2.1; omega, by rw [names_timL]; exact h.more, by rw [dep_timL]; have := h.2.2.2.2; omega⟩
theorem Lv.out (h : Lv i l) {x : Str} : Lv (i + 1) (outL x l) :=
  ⟨wf_monoL (by omega) (wf_outL h.1), names_outL.nodup h.2.1, Nat.le_trans names_outL.length_le (by have := h.2.2.1; omega), fun y hy => h.more y (names_outL.subset hy), Nat.le_trans dep_outL (by have := h.2.2.2.2; omega)⟩
theorem Lv.tim2 (h : Lv i l) (hi : i ≤ 5) {t : Int} (t0 : 0 ≤ t) (ht : t.natAbs < 2 ^ 40) : OkP (timL t l) :=
  ⟨⟨wf_monoL (by omega) (wf_timL t0 ht h.1), by rw [names_timL]; exact h.2.1, by rw [names_timL]; have := h.2.2.1; omega⟩, by rw [names_timL]; have := h.2.2.1; omega⟩
theorem Lv.put (h : Lv i l) (hi : i < 5) {o u : Int} (ho : o.natAbs < 2 ^ 105) (u0 : 0 ≤ u) (hu : u.natAbs < 2 ^ 105) {ar : Option Str} (ha : ∀ x, ar = some x → x ∈ namesL l) : Lv (i + 1) (withB l (.mk (nw i) o u []) ar) := by
  have pm := withB_perm (b := .mk (nw i) o u []) h.2.1 ha
  have hn : namesB (.mk (nw i) o u []) = [nw i] := by rw [namesB, namesL]
  rw [hn] at pm
  have pw := Nat.pow_le_pow_right (n := 2) (by decide) (show 105 ≤ 105 + 31 * (i + 1) by omega)
  have wm : WfB (105 + 31 * (i + 1)) (.mk (nw i) o u []) := by
    rw [WfB, WfL]
    exact ⟨nw_ok i hi, u0, Nat.lt_of_lt_of_le ho pw, Nat.lt_of_lt_of_le hu pw, trivial⟩
  have wl := wf_monoL (show 105 + 31 * i ≤ 105 + 31 * (i + 1) by omega) h.1
  have e1 : depL [Bx.mk (nw i) o u []] = 1 := by rw [depL, depB, depL]; rfl
  have dl := h.2.2.2.2
  refine ⟨?_, pm.nodup_iff.mpr ?_, ?_, fun y hy => ?_, ?_⟩
  · cases ar with
    | none => exact wfL_snoc wl wm
    | some x => exact wf_putL2 wm wl
  · exact List.nodup_append.mpr ⟨h.2.1, by simp, fun a ha b hb e => by rw [List.mem_singleton.mp hb] at e; exact h.new hi (e ▸ ha)⟩
  · rw [pm.length_eq, List.length_append]
    have := h.2.2.1
    show _ + 1 ≤ _
    omega
  · rcases List.mem_append.mp (pm.mem_iff.mp hy) with z | z
    · exact h.more y z
    · exact Or.inr ⟨i, by omega, List.mem_singleton.mp z⟩
  · cases ar with
    | none =>
      show depL (l ++ [_]) ≤ _
      rw [depL_app, e1]
      omega
    | some x =>
      have := dep_put1L (x := x) (n := nw i) (o := o) (u := u) (l := l)
      show depL (putL x _ l) ≤ _
      omega
theorem Lv.back (h : Lv i l) (hi : i < 5) {o u : Int} {ar : Option Str} : outL (nw i) (withB l (.mk (nw i) o u []) ar) = l := by
  cases ar with
  | none =>
    show outL (nw i) (l ++ [_]) = l
    rw [outL_app, outL_no (h.new hi), outL, outB, if_pos rfl]
    simp [outL]
  | some x => exact out_putL (h.new hi)
end

end AZ
namespace AZ
open PySem L2
/-! ## the names shuffled, a page drawn -/
def spPPgDraw : Sp := fun vs H Q _ => ∃ (p lp : Addr) (n : Nat), vs = [.ref p] ∧ PenL H p lp n ∧ n < 90000 ∧
  ∀ D H' xs l, H D = none → H' D = some (.lst xs) → IsPL [p] H' xs l → Lv 0 l → thinL l → PenL H' p lp (n + 200) → Up p H H' → Q (.ref D) H'
section
variable {P : Program} {w : World} {K : PySem.W.Frag} {mg : Str → Option Value} {base : Heap} {d : Ad}
theorem G__law_page (T : Tx K mg d) : FnR P w K mg base CX0 7 d._law_page spPPgDraw := by
  have G__law_draw : FnR P w K mg base CX0 1 d._law_draw spDrawL := G__law_drawL T
  have G__law_boxes := G__law_boxes (P := P) (w := w) (base := base) T 3
  obtain ⟨fd, F⟩ := T.F__law_page
  refine FnR.imp (FnOk.raw (F.ok sc__law_page (k := 6) (sp := spPPgDraw) (fun vs H Q E h => ?_) (fun cdv A outer s H vs Q E hr h => ?_)) (F.binds fun _ _ _ _ _ _ us hl => match us, hl with | [_], _ => rfl) .nil) fun vs H Q E h => by rw [List.append_nil]; exact h
  · obtain ⟨p, lp, n, rfl, _⟩ := h
    rfl
  · obtain ⟨p, lp, n, rfl, hp, hn, k⟩ := h
    -- slots: 0 _law_pen_here, 1 _law_some, 2 _law_names
    refine ⟨_, (pss_cons (ps_par (i := 1) (j := 2) (by rfl) sc__law_page.nd rfl rfl (by decide) rfl rfl (pa_cons (pe_lst (pa_cons pe_str (pa_cons pe_str (pa_cons pe_str (pa_cons pe_str (pa_cons pe_str (pa_cons pe_str (pa_cons pe_str (pa_cons pe_str (pa_cons pe_str (pa_cons pe_str (pa_cons pe_str (pa_cons pe_str pa_nil))))))))))))) (pa_cons (pe_lst pa_nil) pa_nil)) (by rfl))
      (pss_cons (ps_while PassesOwn.never (pt_cmpR (uNeE (hr.mono (by omega))) (pv 1) (pe_lst pa_nil) (nomark _)) (pss_one (ps_expr (pe_bm PySem.F.plainAttrs_list PySem.F.slot_list_append PySem.F.type_list_append mt_append (pv 2) (pa_cons (pe_bm PySem.F.plainAttrs_list PySem.F.slot_list_pop PySem.F.type_list_pop mt_popAt (pv 1) (pa_cons (pe_fnR G__law_draw (hr.mono (by decide)) T.k__law_draw T.m__law_draw pass0 (pa_cons (pv 0) (pa_cons (pe_callB call_len_seq (by rfl) T.n_len (by decide +kernel) (pa_cons (pv 1) pa_nil)) pa_nil))) pa_nil)) pa_nil)))))
      (pss_one (ps_ret (pe_fnR G__law_boxes (hr.mono (by decide)) T.k__law_boxes T.m__law_boxes pass0 (pa_cons (pv 0) (pa_cons (pv 2) (pa_cons pe_int pa_nil)))))))), ?_⟩
    refine ⟨(by show 12 ≤ sizeLine; decide), fun sa hsa => ⟨Nat.zero_le _, fun na hna => ⟨_, _, rfl, ?_⟩⟩⟩
    dsimp only [List.set, L2.start]
    have e1 := sameNew hsa (o := .lst (names12.map V.str))
    have e2 := sameNew hna (o := .lst [])
    have e12 := e1.trans e2
    have hs0 := e2 _ _ (upd_same (H := H) (a := sa) (o := .lst (names12.map V.str)))
    have hz0 : upd (upd H sa (.lst (names12.map V.str))) na (.lst []) na = some (.lst []) := upd_same
    have hp0 := pen_up hp e12
    obtain ⟨nsp, nsl⟩ := pen_ne hp hsa
    obtain ⟨nnp, nnl⟩ := pen_ne (pen_up hp e1) hna
    have nsn : sa ≠ na := ne_of_none (upd_same (H := H) (a := sa) (o := .lst (names12.map V.str))) hna
    have hna' : H na = none := e1.free hna
    change _ = _ at hna
    have nd12 : names12.Nodup := by decide +kernel
    have nm12 : ∀ x ∈ names12, isNm x = true := by decide +kernel
    refine while_to (fun σ' H' => ∃ (ss zs : List Str), σ' = [some (.ref p), some (.ref sa), some (.ref na)] ∧ H' sa = some (.lst (ss.map V.str)) ∧ H' na = some (.lst (zs.map V.str)) ∧ (zs ++ ss).Perm names12 ∧ PenL H' p lp (n + zs.length) ∧ Up p H H')
      (fun _ H' => match H' sa with | some (.lst xs) => xs.length | _ => 0) ⟨names12, [], rfl, hs0, hz0, List.Perm.refl _, hp0, Up.same e12⟩ (fun σ' H1 q => ?_)
    obtain ⟨ss, zs, rfl, hs, hz, pm, hp1, u1⟩ := q
    have pl : zs.length + ss.length = 12 := by rw [← List.length_append, pm.length_eq]; rfl
    refine ⟨_, rfl, (by show 0 ≤ sizeLine; decide), fun r hr1 => Or.inr ⟨_, bl_nil (sameNew hr1 _ _ hs) upd_same, fun H3 e3 => ⟨_, rfl, ?_⟩⟩⟩
    have e3 : Same H1 H3 := (sameNew hr1).trans e3
    cases ss with
    | nil =>
      refine iteF ?_
      have hz3 := e3 _ _ hz
      rw [List.append_nil] at pm
      have zl : zs.length = 12 := pl
      have d3 : drs 3 = 169 := by decide
      refine ⟨_, rfl, _, rfl, [p, na], p, lp, na, _, 2, zs, rfl, by decide, by simp, by simp, held2 (pen_in (pen_up hp1 e3)).choose_spec hz3, pen_up hp1 e3, by rw [d3]; omega, hz3, nnp, nnl, by omega, fun x hx => nm12 x (pm.mem_iff.mp hx), fun D H' xs l rest hD hD' hl hns hr' dr hp' u' => ?_⟩
      have zn : zs.Nodup := pm.nodup_iff.mpr nd12
      rw [hns] at zn zl
      have ln : (namesL l).Nodup := (List.reverse_perm _).nodup_iff.mp (List.nodup_append.mp zn).2.1
      rw [List.length_append, List.length_reverse] at zl
      have u13 := u1.trans (Up.same e3)
      refine k D H' xs l ?_ hD' (hl.mono (fun a o _ n z => n (by rw [List.mem_singleton.mp z]; simp)) (fun _ _ q => q) fun _ _ _ q => q) ⟨wf_monoL (by decide) dr.1, ln, by omega, fun y hy => Or.inl (pm.mem_iff.mp (by rw [hns]; simp [hy])), dr.2.2.2⟩ dr.2.1 (pen_mono hp' (by rw [d3]; omega)) (u'.drop u13 hna')
      cases z : H D with
      | none => rfl
      | some o =>
        exfalso
        by_cases e : D = p
        · obtain ⟨_, q⟩ := pen_in (pen_up hp1 e3)
          rw [e, q] at hD
          cases hD
        · have := u13 _ _ z fun w => absurd w e
          rw [hD] at this
          cases this
    | cons s0 ss =>
      refine iteT ⟨fun σ' H' => ∃ m', m' < (match H1 sa with | some (.lst xs) => xs.length | _ => 0) ∧ m' = (match H' sa with | some (.lst xs) => xs.length | _ => 0) ∧ ∃ (ss zs : List Str), σ' = [some (.ref p), some (.ref sa), some (.ref na)] ∧ H' sa = some (.lst (ss.map V.str)) ∧ H' na = some (.lst (zs.map V.str)) ∧ (zs ++ ss).Perm names12 ∧ PenL H' p lp (n + zs.length) ∧ Up p H H', fun _ _ q => q, ?_⟩
      refine ⟨_, rfl, Or.inl ⟨rfl, _, SqL.of (e3 _ _ hz)⟩, _, rfl, Or.inl ⟨rfl, _, SqL.of (e3 _ _ hs)⟩, _, rfl, _, rfl, _, _, rfl, Or.inl (SqL.of (e3 _ _ hs)), p, lp, _, _, rfl, pen_up hp1 e3, by omega, by rw [List.length_map, List.length_cons]; omega, by rw [List.length_map]; omega, fun e H5 g0 g1 hp5 u5 => ?_⟩
      obtain ⟨j, rfl⟩ : ∃ j : Nat, e = (j : Int) := ⟨e.toNat, by omega⟩
      rw [List.length_map] at g1
      have jl : j < (s0 :: ss).length := by omega
      obtain ⟨y, hy⟩ : ∃ y, (s0 :: ss)[j]? = some y := ⟨_, List.getElem?_eq_getElem jl⟩
      have hs5 := u5.lst (e3 _ _ hs) nsp
      have hz5 := u5.lst (e3 _ _ hz) nnp
      have si : seqIndex? (j : Int) ((s0 :: ss).map V.str).length = some j := by
        have := PySem.StrLaws.seqIndex_nonneg (i := (j : Int)) (n := ((s0 :: ss).map V.str).length) (by omega) (by rw [List.length_map]; omega)
        simpa using this
      refine ⟨sa, _, (j : Int), j, V.str y, rfl, rfl, hs5, by omega, by omega, si, by rw [List.getElem?_map, hy]; rfl, ?_⟩
      have er : ((s0 :: ss).map V.str).eraseIdx j = ((s0 :: ss).eraseIdx j).map V.str := by
        rw [List.eraseIdx_eq_take_drop_succ, List.eraseIdx_eq_take_drop_succ, List.map_append, List.map_take, List.map_drop]
      rw [er]
      have el : ((s0 :: ss).eraseIdx j).length + 1 = (s0 :: ss).length := by
        rw [List.length_eraseIdx, if_pos jl]
        simp
      have pe : ((zs ++ [y]) ++ (s0 :: ss).eraseIdx j).Perm (zs ++ s0 :: ss) := by
        have sp : s0 :: ss = (s0 :: ss).take j ++ y :: (s0 :: ss).drop (j + 1) := by
          have := List.take_append_drop (j + 1) (s0 :: ss)
          rw [take_at hy, List.append_assoc] at this
          exact this.symm
        rw [List.append_assoc, List.eraseIdx_eq_take_drop_succ]
        refine List.Perm.append_left zs ?_
        refine List.Perm.trans ?_ (List.Perm.of_eq sp.symm)
        show (y :: ((s0 :: ss).take j ++ (s0 :: ss).drop (j + 1))).Perm _
        exact List.perm_middle.symm
      have u6 : Up p H (upd H5 sa (.lst (((s0 :: ss).eraseIdx j).map V.str))) := up_at ((u1.trans (Up.same e3)).trans u5) hsa
      have hz6 : upd H5 sa (.lst (((s0 :: ss).eraseIdx j).map V.str)) na = some (.lst (zs.map V.str)) := by rw [upd_ne nsn.symm]; exact hz5
      refine ⟨na, _, V.str y, rfl, rfl, hz6, Nat.lt_of_le_of_lt (show (zs.map V.str).length ≤ 12 by rw [List.length_map]; omega) (by decide), ?_⟩
      have hs7 : upd (upd H5 sa (.lst (((s0 :: ss).eraseIdx j).map V.str))) na (.lst (zs.map V.str ++ [V.str y])) sa = some (.lst (((s0 :: ss).eraseIdx j).map V.str)) := by rw [upd_ne nsn]; exact upd_same
      refine ⟨_, ?_, rfl, (s0 :: ss).eraseIdx j, zs ++ [y], rfl, hs7, by rw [upd_same, List.map_append]; rfl, pe.trans pm, ?_, up_at u6 hna'⟩
      · rw [hs7, hs]
        dsimp only
        rw [List.length_map, List.length_map]
        omega
      · rw [List.length_append]
        exact pen_at (pen_at hp5 nsp nsl) nnp nnl
end

end AZ
namespace AZ
open PySem L2
/-! ## texts tell boxes apart -/
theorem cut32 : ∀ {x x' r r' : List Nat}, 32 ∉ x → 32 ∉ x' → (r = [] ∨ ∃ t, r = 32 :: t) → (r' = [] ∨ ∃ t, r' = 32 :: t) → x ++ r = x' ++ r' → x = x' ∧ r = r'
  | [], [], _, _, _, _, _, _, e => ⟨rfl, e⟩
  | [], c :: x', r, r', _, h, hr, _, e => by
    rcases hr with rfl | ⟨t, rfl⟩
    · cases e
    · rw [List.nil_append, List.cons_append] at e
      injection e with e _
      exact absurd (List.mem_cons.mpr (Or.inl e)) h
  | c :: x, [], r, r', h, _, _, hr, e => by
    rcases hr with rfl | ⟨t, rfl⟩
    · cases e
    · rw [List.nil_append, List.cons_append] at e
      injection e with e _
      exact absurd (List.mem_cons.mpr (Or.inl e.symm)) h
  | c :: x, c' :: x', r, r', h, h', hr, hr', e => by
    rw [List.cons_append, List.cons_append] at e
    injection e with e1 e2
    obtain ⟨a, b⟩ := cut32 (fun z => h (List.mem_cons_of_mem _ z)) (fun z => h' (List.mem_cons_of_mem _ z)) hr hr' e2
    exact ⟨by rw [e1, a], b⟩
theorem cl_app (a b : Str) : (a ++ b).cps.toList = a.cps.toList ++ b.cps.toList := by
  show (a.cps ++ b.cps).toList = _
  rw [Array.toList_append]
theorem cl_inj {a b : Str} (h : a.cps.toList = b.cps.toList) : a = b := by
  cases a with | mk a => cases b with | mk b =>
  rw [show a = b from Array.toList_inj.mp h]
mutual
def chB : Bx → List Nat
  | .mk n o u l => n.cps.toList ++ 32 :: ((toString o : Str).cps.toList ++ 32 :: ((toString u : Str).cps.toList ++ match l with
    | [] => []
    | b :: r => 32 :: 40 :: 32 :: (chB b ++ chR r ++ [32, 41])))
def chR : List Bx → List Nat
  | [] => []
  | b :: r => 32 :: 59 :: 32 :: (chB b ++ chR r)
end
theorem cl_join (b : Bx) : ∀ r : List Bx, (∀ x ∈ b :: r, (txB x).cps.toList = chB x) → (Txt.join (" ; " : Str) ((b :: r).map txB)).cps.toList = chB b ++ chR r := by
  intro r
  induction r generalizing b with
  | nil => intro h; rw [List.map_cons, List.map_nil, join_one, h b (List.mem_cons_self ..), chR, List.append_nil]
  | cons c r ih =>
    intro h
    rw [List.map_cons, List.map_cons, join_step, cl_app, cl_app, ← List.map_cons, ih c (fun x hx => h x (List.mem_cons_of_mem _ hx)), h b (List.mem_cons_self ..), chR, List.append_assoc]
    have e : ((" ; " : Str)).cps.toList = [32, 59, 32] := by decide +kernel
    rw [e]
    rfl
mutual
theorem cl_txB : ∀ b : Bx, (txB b).cps.toList = chB b
  | .mk n o u [] => by
    have e : ((" " : Str)).cps.toList = [32] := by decide +kernel
    rw [txB_nil, chB]
    unfold hdB
    rw [cl_app, cl_app, cl_app, cl_app, e]
    simp
  | .mk n o u (b :: r) => by
    have e : ((" " : Str)).cps.toList = [32] := by decide +kernel
    have e1 : ((" ( " : Str)).cps.toList = [32, 40, 32] := by decide +kernel
    have e2 : ((" )" : Str)).cps.toList = [32, 41] := by decide +kernel
    rw [txB_cons, chB, cl_app, cl_app, cl_app, cl_join b r (cl_txL (b :: r))]
    unfold hdB
    rw [cl_app, cl_app, cl_app, cl_app, e, e1, e2]
    simp
theorem cl_txL : ∀ (l : List Bx), ∀ x ∈ l, (txB x).cps.toList = chB x
  | [] => fun x h => by cases h
  | b :: r => fun x h => by
    rcases List.mem_cons.mp h with e | h
    · rw [e]; exact cl_txB b
    · exact cl_txL r x h
end
theorem nm_sp {n : Str} (h : isNm n = true) : 32 ∉ n.cps.toList := fun z => by
  unfold isNm at h
  have a : Txt.isalpha n = true := by
    simp only [Bool.and_eq_true] at h
    exact h.2.2.1
  unfold Txt.isalpha at a
  have q := (Bool.and_eq_true_iff.mp a).2
  rw [Array.all_eq_true'] at q
  have := q 32 (Array.mem_toList_iff.mp z)
  revert this
  decide +kernel
/-- what stands behind a box -/
def Follow (r : List Nat) : Prop := r = [] ∨ ∃ t, r = 32 :: 59 :: t ∨ r = 32 :: 41 :: t
theorem follow_R {l : List Bx} {r : List Nat} : Follow (chR l ++ 32 :: 41 :: r) := by
  cases l with
  | nil => rw [chR]; exact Or.inr ⟨r, Or.inr rfl⟩
  | cons b l => rw [chR]; exact Or.inr ⟨_, Or.inl rfl⟩
theorem follow_sp {r : List Nat} (h : Follow r) : r = [] ∨ ∃ t, r = 32 :: t := by
  rcases h with h | ⟨t, h | h⟩
  · exact Or.inl h
  · exact Or.inr ⟨_, h⟩
  · exact Or.inr ⟨_, h⟩
def chT : List Bx → List Nat
  | [] => []
  | b :: r => 32 :: 40 :: 32 :: (chB b ++ chR r ++ [32, 41])
theorem chB_T (n : Str) (o u : Int) (l : List Bx) : chB (.mk n o u l) = n.cps.toList ++ 32 :: ((toString o : Str).cps.toList ++ 32 :: ((toString u : Str).cps.toList ++ chT l)) := by
  cases l with
  | nil => rw [chB, chT]
  | cons b r => rw [chB, chT]
theorem T_sp {l : List Bx} {r : List Nat} (h : Follow r) : chT l ++ r = [] ∨ ∃ t, chT l ++ r = 32 :: t := by
  cases l with
  | nil => rw [chT]; exact follow_sp h
  | cons b l => rw [chT]; exact Or.inr ⟨_, rfl⟩
mutual
theorem injB {k : Nat} : ∀ {b b' : Bx} {r r' : List Nat}, WfB k b → WfB k b' → Follow r → Follow r' → chB b ++ r = chB b' ++ r' → b = b' ∧ r = r'
  | .mk n o u l, .mk n' o' u' l', r, r', w, w', f, f', ea => by
    rw [WfB] at w w'
    rw [chB_T, chB_T, List.append_assoc, List.append_assoc] at ea
    obtain ⟨e1, eb⟩ := cut32 (nm_sp w.1) (nm_sp w'.1) (Or.inr ⟨_, rfl⟩) (Or.inr ⟨_, rfl⟩) ea
    have ec : (toString o : Str).cps.toList ++ 32 :: ((toString u : Str).cps.toList ++ chT l) ++ r = (toString o' : Str).cps.toList ++ 32 :: ((toString u' : Str).cps.toList ++ chT l') ++ r' := (List.cons.inj eb).2
    rw [List.append_assoc, List.append_assoc] at ec
    obtain ⟨e2, ed⟩ := cut32 (itx_sp o) (itx_sp o') (Or.inr ⟨_, rfl⟩) (Or.inr ⟨_, rfl⟩) ec
    have ee : (toString u : Str).cps.toList ++ chT l ++ r = (toString u' : Str).cps.toList ++ chT l' ++ r' := (List.cons.inj ed).2
    rw [List.append_assoc, List.append_assoc] at ee
    obtain ⟨e3, e⟩ := cut32 (itx_sp u) (itx_sp u') (T_sp f) (T_sp f') ee
    clear ea eb ec ed ee
    obtain rfl := cl_inj e1
    obtain rfl := itx_inj (cl_inj e2)
    obtain rfl := itx_inj (cl_inj e3)
    cases l with
    | nil =>
      cases l' with
      | nil =>
        rw [chT] at e
        exact ⟨rfl, e⟩
      | cons b' s' =>
        exfalso
        rw [chT, chT] at e
        rcases f with rfl | ⟨t, rfl | rfl⟩ <;> cases e
    | cons b s =>
      cases l' with
      | nil =>
        exfalso
        rw [chT, chT] at e
        rcases f' with rfl | ⟨t, rfl | rfl⟩ <;> cases e
      | cons b' s' =>
        rw [chT, chT] at e
        have e : chR (b :: s) ++ 32 :: 41 :: r = chR (b' :: s') ++ 32 :: 41 :: r' := by
          rw [chR, chR]
          injection e with _ e
          injection e with _ e
          injection e with _ e
          have e : chB b ++ chR s ++ [32, 41] ++ r = chB b' ++ chR s' ++ [32, 41] ++ r' := e
          show 32 :: 59 :: 32 :: ((chB b ++ chR s) ++ 32 :: 41 :: r) = 32 :: 59 :: 32 :: ((chB b' ++ chR s') ++ 32 :: 41 :: r')
          rw [List.append_assoc, List.append_assoc (chB b' ++ chR s')] at e
          rw [show (32 :: 41 :: r) = [32, 41] ++ r from rfl, show (32 :: 41 :: r') = [32, 41] ++ r' from rfl, e]
        obtain ⟨e4, e5⟩ := injR w.2.2.2.2 w'.2.2.2.2 e
        exact ⟨by rw [e4], e5⟩
theorem injR {k : Nat} : ∀ {s s' : List Bx} {r r' : List Nat}, WfL k s → WfL k s' → chR s ++ 32 :: 41 :: r = chR s' ++ 32 :: 41 :: r' → s = s' ∧ r = r'
  | [], [], r, r', _, _, e => by
    rw [chR] at e
    injection e with _ e
    injection e with _ e
    exact ⟨rfl, e⟩
  | [], b :: s', r, r', _, _, e => by
    rw [chR, chR] at e
    cases e
  | b :: s, [], r, r', _, _, e => by
    rw [chR, chR] at e
    cases e
  | b :: s, b' :: s', r, r', w, w', e => by
    rw [WfL] at w w'
    rw [chR, chR] at e
    injection e with _ e
    injection e with _ e
    injection e with _ e
    have e : chB b ++ chR s ++ 32 :: 41 :: r = chB b' ++ chR s' ++ 32 :: 41 :: r' := e
    rw [List.append_assoc, List.append_assoc] at e
    obtain ⟨e1, e2⟩ := injB w.1 w'.1 follow_R follow_R e
    obtain ⟨e3, e4⟩ := injR w.2 w'.2 e2
    exact ⟨by rw [e1, e3], e4⟩
end
theorem txB_inj {k : Nat} {b b' : Bx} (w : WfB k b) (w' : WfB k b') (h : txB b = txB b') : b = b' := by
  have e : chB b = chB b' := by rw [← cl_txB, ← cl_txB, h]
  exact (injB (r := []) (r' := []) w w' (Or.inl rfl) (Or.inl rfl) (by rw [List.append_nil, List.append_nil]; exact e)).1
theorem txL_inj {k : Nat} : ∀ {l l' : List Bx}, WfL k l → WfL k l' → l.map txB = l'.map txB → l = l'
  | [], [], _, _, _ => rfl
  | [], _ :: _, _, _, h => by cases h
  | _ :: _, [], _, _, h => by cases h
  | b :: l, b' :: l', w, w', h => by
    rw [WfL] at w w'
    rw [List.map_cons, List.map_cons] at h
    injection h with h1 h2
    rw [txB_inj w.1 w'.1 h1, txL_inj w.2 w'.2 h2]

end AZ
namespace AZ
open PySem L2
/-! ## pages asked -/
def unB : Bx → Int
  | .mk _ _ u _ => u
def inB : Bx → List Bx
  | .mk _ _ _ l => l
mutual
theorem row_enB {g : Int} {ar : Option Str} : ∀ {b : Bx} {r : Row}, r ∈ rowsB g ar b → r.en = r.bg + unB r.bx
  | .mk n o u l, r, h => by
    rw [rowsB] at h
    rcases List.mem_cons.mp h with rfl | h
    · rfl
    · exact row_enL h
theorem row_enL {g : Int} {ar : Option Str} : ∀ {l : List Bx} {r : Row}, r ∈ rowsL g ar l → r.en = r.bg + unB r.bx
  | [], r, h => by rw [rowsL] at h; cases h
  | b :: l, r, h => by
    rw [rowsL] at h
    rcases List.mem_append.mp h with h | h
    · exact row_enB h
    · exact row_enL h
end
mutual
theorem row_subB {g : Int} {ar : Option Str} : ∀ {b : Bx} {r : Row}, r ∈ rowsB g ar b → (namesB r.bx).Sublist (namesB b)
  | .mk n o u l, r, h => by
    rw [rowsB] at h
    rcases List.mem_cons.mp h with rfl | h
    · exact List.Sublist.refl _
    · rw [namesB]
      exact (row_subL h).trans (List.sublist_cons_self ..)
theorem row_subL {g : Int} {ar : Option Str} : ∀ {l : List Bx} {r : Row}, r ∈ rowsL g ar l → (namesB r.bx).Sublist (namesL l)
  | [], r, h => by rw [rowsL] at h; cases h
  | b :: l, r, h => by
    rw [rowsL] at h
    rw [namesL]
    rcases List.mem_append.mp h with h | h
    · exact (row_subB h).trans (List.sublist_append_left ..)
    · exact (row_subL h).trans (List.sublist_append_right ..)
end
mutual
theorem row_depB {g : Int} {ar : Option Str} : ∀ {b : Bx} {r : Row}, r ∈ rowsB g ar b → depB r.bx ≤ depB b
  | .mk n o u l, r, h => by
    rw [rowsB] at h
    rcases List.mem_cons.mp h with rfl | h
    · exact Nat.le_refl _
    · rw [depB]
      exact Nat.le_succ_of_le (row_depL h)
theorem row_depL {g : Int} {ar : Option Str} : ∀ {l : List Bx} {r : Row}, r ∈ rowsL g ar l → depB r.bx ≤ depL l
  | [], r, h => by rw [rowsL] at h; cases h
  | b :: l, r, h => by
    rw [rowsL] at h
    rw [depL]
    rcases List.mem_append.mp h with h | h
    · exact Nat.le_trans (row_depB h) (Nat.le_max_left _ _)
    · exact Nat.le_trans (row_depL h) (Nat.le_max_right _ _)
end
mutual
theorem row_thinB {g : Int} {ar : Option Str} : ∀ {b : Bx} {r : Row}, thinB b → r ∈ rowsB g ar b → thinB r.bx
  | .mk n o u l, r, w, h => by
    rw [rowsB] at h
    rcases List.mem_cons.mp h with rfl | h
    · exact w
    · rw [thinB] at w
      exact row_thinL w.2 h
theorem row_thinL {g : Int} {ar : Option Str} : ∀ {l : List Bx} {r : Row}, thinL l → r ∈ rowsL g ar l → thinB r.bx
  | [], r, _, h => by rw [rowsL] at h; cases h
  | b :: l, r, w, h => by
    rw [rowsL] at h
    rw [thinL] at w
    rcases List.mem_append.mp h with h | h
    · exact row_thinB w.1 h
    · exact row_thinL w.2 h
end
theorem row_one {l : List Bx} (nd : (namesL l).Nodup) {r r' : Row} (h : r ∈ rowsL 0 none l) (h' : r' ∈ rowsL 0 none l) (e : r.nm = r'.nm) : r = r' := by
  rw [← rowsL_nm (g := 0) (ar := none)] at nd
  obtain ⟨i, hi⟩ := List.getElem?_of_mem h
  obtain ⟨j, hj⟩ := List.getElem?_of_mem h'
  have il := (List.getElem?_eq_some_iff.mp hi).1
  have ei : ((rowsL 0 none l).map Row.nm)[i]? = some r.nm := by rw [List.getElem?_map, hi]; rfl
  have ej : ((rowsL 0 none l).map Row.nm)[j]? = some r.nm := by rw [List.getElem?_map, hj, e]; rfl
  have ij := (List.getElem?_inj (by rw [List.length_map]; exact il) nd).mp (ei.trans ej.symm)
  subst ij
  rw [hi] at hj
  injection hj
theorem row_ok {l : List Bx} (ok : OkP l) {r : Row} (h : r ∈ rowsL 0 none l) : OkB r.bx ∧ (namesB r.bx).length ≤ 24 := by
  have s := row_subL h
  exact ⟨⟨wf_rowsL ok.1.1 h, s.nodup ok.1.2.1, Nat.le_trans s.length_le ok.1.2.2⟩, Nat.le_trans s.length_le ok.2⟩
theorem row_inn {l : List Bx} (ok : OkP l) {r : Row} (h : r ∈ rowsL 0 none l) : OkP (inB r.bx) := by
  obtain ⟨q, n⟩ := row_ok ok h
  cases hb : r.bx with | mk n1 o u inn =>
  rw [hb] at q n
  refine ⟨q.inn, ?_⟩
  rw [namesB, List.length_cons] at n
  show (namesL inn).length ≤ 24
  omega
theorem ok_cut {l : List Bx} (ok : OkP l) (i j : Nat) : OkP ((l.take j).drop i) := by
  have h := ok.take j
  have e := namesL_app (a := (l.take j).take i) (b := (l.take j).drop i)
  rw [List.take_append_drop] at e
  have s : (namesL ((l.take j).drop i)).Sublist (namesL (l.take j)) := by rw [e]; exact List.sublist_append_right ..
  exact ⟨⟨wfL_all.mpr fun b hb => wfL_all.mp h.1.1 b (List.mem_of_mem_drop hb), s.nodup h.1.2.1, Nat.le_trans s.length_le h.1.2.2⟩, Nat.le_trans s.length_le h.2⟩
theorem cut_both {xs : List V} {i j : Nat} (h : i ≤ j) : cutV xs (some (i : Int)) (some (j : Int)) = (xs.take j).drop i := by
  unfold cutV
  rw [HT.sIx_nat, HT.sIx_nat]
  rcases Nat.le_total j xs.length with h2 | h2
  · rw [Nat.min_eq_left h2, Nat.min_eq_left (Nat.le_trans h h2), List.drop_take]
  · rw [Nat.min_eq_right h2, List.take_of_length_le h2]
    rcases Nat.le_total i xs.length with h3 | h3
    · rw [Nat.min_eq_left h3]
      exact List.take_of_length_le (by rw [List.length_drop]; exact Nat.le_refl _)
    · rw [Nat.min_eq_right h3, List.drop_of_length_le h3, List.drop_of_length_le (Nat.le_refl _), List.take_nil]
/-! boxes and pages compared, whatever they are -/
def RB2 (C : Addr) : Addr → V → Hp → Bool → Prop := fun a v H r => ∃ b b', IsBx C H (.ref a) b ∧ IsBx C H v b' ∧ r = decide (txB b = txB b')
abbrev BB2 (C : Addr) : Eqw := BOwn C (RB2 C)
theorem monB_b2 {C : Addr} : MonB (BB2 C) := monB_own fun _ _ _ _ _ e ⟨b, b', h1, h2, h⟩ => ⟨b, b', h1.same e, h2.same e, h⟩
theorem bx_told {C : Addr} {H : Hp} {v : V} {b b' : Bx} (h : IsBx C H v b) (h' : IsBx C H v b') : txB b = txB b' := by
  cases b with | mk n o u l =>
  cases b' with | mk n' o' u' l' =>
  rw [IsBx] at h h'
  obtain ⟨a, dx, ti, tn, xs, rfl, h1, _⟩ := h
  obtain ⟨a', dx', ti', tn', xs', e, h2, _⟩ := h'
  injection e with e
  subst e
  rw [h1] at h2
  injection h2 with h2
  injection h2 with _ _ h2
  unfold bxF at h2
  simp only [List.cons.injEq, Prod.mk.injEq, V.str.injEq] at h2
  exact h2.2.2.2.2.2.1.2
theorem rb2_rfl {C : Addr} (a : Addr) (H : Hp) (r : Bool) (h : RB2 C a (.ref a) H r) : r = true := by
  obtain ⟨b, b', h1, h2, rfl⟩ := h
  exact decide_eq_true (bx_told h1 h2)
theorem bb2_tu {C : Addr} {H : Hp} {a b : Addr} {xs ys : List V} {l l' : List Bx} (ha : H a = some (.tup xs)) (hb : H b = some (.tup ys)) (h1 : IsBs C H xs l) (h2 : IsBs C H ys l') : BTu (BB2 C) (.ref a) (.ref b) H (decide (l.map txB = l'.map txB)) := by
  have pr : ∀ {xs : List V} {l : List Bx}, IsBs C H xs l → Paired (fun v t => ∃ b, IsBx C H v b ∧ t = txB b) xs (l.map txB) := fun {xs l} h => by
    have q := isBs_pd.mp h
    clear h
    induction q with
    | nil => exact .nil
    | cons r _ ih => exact .cons ⟨_, r, rfl⟩ ih
  refine bTu_of (fun x y m n hx hy => ?_) ha hb (pr h1) (pr h2)
  obtain ⟨c, hc, rfl⟩ := hx
  obtain ⟨c', hc', rfl⟩ := hy
  have w1 := hc
  have w2 := hc'
  cases c with | mk n o u inn =>
  cases c' with | mk n' o' u' inn' =>
  rw [IsBx] at w1 w2
  obtain ⟨bx, dx, ti, tn, xs2, rfl, hi, _⟩ := w1
  obtain ⟨bx2, dx2, ti2, tn2, xs3, rfl, hi2, _⟩ := w2
  exact ⟨bx, dx, _, rfl, hi, Or.inr ⟨bx2, dx2, _, rfl, hi2⟩, _, _, hc, hc', rfl⟩
theorem uEqB {X : Cx} {C f : Addr} {k : Nat} (M : CmpM X.K C .Eq f) (F : FnR X.prog X.w X.K X.mg X.base CX0 k f (spEqB (RB2 C))) (hr : Room (k + 1) X.A) : OpR X (compareOp .Eq) (orR rEq (orR (rOwnC X .Eq) (rEqB (BTu (BB2 C))))) :=
  op_or2 op_eq (op_or2 (op_ownC _) (op_eqB (rcB_tu monB_b2 (eqB_own F M pass0 rb2_rfl)) hr))
def gk11 {α : Type} : List α → List α → List α
  | [a], [b] => [a, b]
  | _, _ => []
theorem vals_gk11 : ∀ {vs zs : List V} {us ws : List Value}, Vals vs us → Vals zs ws → Vals (gk11 vs zs) (gk11 us ws)
  | _, _, _, _, .nil, _ => .nil
  | _, _, _, _, .cons _ (.cons _ _), _ => .nil
  | _, _, _, _, .cons _ .nil, .nil => .nil
  | _, _, _, _, .cons _ .nil, .cons _ (.cons _ _) => .nil
  | _, _, _, _, .cons a .nil, .cons b .nil => .cons a (.cons b .nil)
theorem gk11_len {α : Type} : ∀ {vs zs : List α}, (gk11 vs zs).length = 2 → vs.length = 1 ∧ zs.length = 1
  | [_], [_], _ => ⟨rfl, rfl⟩
  | [], _, h => by cases h
  | [_], [], h => by cases h
  | [_], _ :: _ :: _, h => by cases h
  | _ :: _ :: _, _, h => by cases h
def spPEq2 (K : PySem.W.Frag) (C D : Addr) : Sp := fun vs H Q _ => ∃ (a v : V) (l : List Bx), vs = [a, v] ∧ IsPg C D H a l ∧ ((∃ l', IsPg C D H v l' ∧ ∀ H', Same H H' → Q (.bl (decide (l.map txB = l'.map txB))) H') ∨ ∃ t, TyX K H v t ∧ PySem.W.kitOne K t (.ref C) = some false ∧ Q (.bl false) H)
def spBEq2 (K : PySem.W.Frag) (C : Addr) : Sp := fun vs H Q _ => ∃ (a v : V) (b : Bx), vs = [a, v] ∧ IsBx C H a b ∧ ((∃ b', IsBx C H v b' ∧ Q (.bl (decide (txB b = txB b'))) H) ∨ ∃ t, TyX K H v t ∧ PySem.W.kitOne K t (.ref C) = some false ∧ Q (.bl false) H)
def spPLen (C D : Addr) : Sp := fun vs H Q _ => ∃ (a : V) (l : List Bx), vs = [a] ∧ IsPg C D H a l ∧ Q (.int ((namesL l).length : Nat)) H
def spPGet (C D : Addr) : Sp := fun vs H Q _ => ∃ (a : V) (x : Str) (l : List Bx), vs = [a, .str x] ∧ IsPg C D H a l ∧ OkP l ∧ x ∈ namesL l ∧ ∀ p H' r, Same H H' → r ∈ rowsL 0 none l → r.nm = x → H' p = some (.tup [.int r.bg, .int r.en]) → Q (.ref p) H'
def spPAr (C D : Addr) : Sp := fun vs H Q _ => ∃ (a : V) (x : Str) (l : List Bx), vs = [a, .str x] ∧ IsPg C D H a l ∧ OkP l ∧ x ∈ namesL l ∧ ∀ H' r, Same H H' → r ∈ rowsL 0 none l → r.nm = x → Q (arV r.ar) H'
def spPIn (C D : Addr) : Sp := fun vs H Q _ => ∃ (a : V) (x : Str) (l : List Bx), vs = [a, .str x] ∧ IsPg C D H a l ∧ OkP l ∧ x ∈ namesL l ∧ ∀ v H' r, Same H H' → r ∈ rowsL 0 none l → r.nm = x → IsPg C D H' v (inB r.bx) → Q v H'
def spPSome (C D : Addr) : Sp := fun vs H Q _ => ∃ (a : V) (i j : Nat) (l : List Bx), vs = [a, .int (i : Int), .int (j : Int)] ∧ IsPg C D H a l ∧ OkP l ∧ i ≤ j ∧ j ≤ l.length ∧ NewPg C D H Q ((l.take j).drop i)
def spPIter (C D : Addr) (n : Nat) : Sp := fun vs H Q _ => ∃ (a : V) (l : List Bx), vs = [a] ∧ IsPg C D H a l ∧ ∀ t it, TupF H t ((namesL l).map V.str) → H it = Option.none → n ≤ it → Q (.ref it) (upd H it (ItT t it))
/-- whether any value is a name of a box -/
def spHasX (K : PySem.W.Frag) (C D : Addr) : Sp := fun vs H Q _ => ∃ (a v : V) (l : List Bx), vs = [a, v] ∧ IsPg C D H a l ∧ OkP l ∧ ((∃ x, v = .str x ∧ x.length ≤ 1000 ∧ ∀ H', Same H H' → Q (.bl (decide (x ∈ namesL l))) H') ∨ ∃ t, TyX K H v t ∧ PySem.W.kitOne K t (.type "str") = some false ∧ ∀ H', Same H H' → Q (.bl false) H')
def spNmX (K : PySem.W.Frag) : Sp := fun vs H Q _ => ∃ v t, vs = [v] ∧ TyX K H v t ∧ PySem.W.kitOne K t (.type "str") = some false ∧ Q (.bl false) H
section
variable {P : Program} {w : World} {K : PySem.W.Frag} {mg : Str → Option Value} {base : Heap} {d : Ad}
theorem GX_is_name (T : Tx K mg d) : FnR P w K mg base CX0 1 d.is_name (spNmX K) := by
  obtain ⟨fd, F⟩ := T.F_is_name
  refine FnR.imp (FnOk.raw (F.ok sc_is_name (k := 0) (sp := spNmX K) (fun vs H Q E h => ?_) (fun cdv A outer s H vs Q E hr h => ?_)) (F.binds fun _ _ _ _ _ _ us hl => match us, hl with | [_], _ => rfl) .nil) fun vs H Q E h => by rw [List.append_nil]; exact h
  · obtain ⟨x, t, rfl, _⟩ := h
    rfl
  · obtain ⟨x, t, rfl, ty, kt, k⟩ := h
    -- slots: 0 value
    refine ⟨_, (pss_cons (ps_if (PW.pt (pw_or (pt_not (pt_val (pe_callB uIsi (by rfl) T.n_isinstance (by decide +kernel) (pa_cons (pv 0) (pa_cons (pe_bltn (v := .ty "str") (by rfl) T.n_str (by decide +kernel) rfl) pa_nil))))) (pw_or1 (pt_cmpR uGt (pe_callB call_len_str (by rfl) T.n_len (by decide +kernel) (pa_cons (pv 0) pa_nil)) (pe_glob (v := .int 8) rfl T.mi_MOST_LETTERS.choose_spec ⟨_, rfl⟩) (nomark _))))) (pss_one (ps_ret pe_bl)) pss_nil)
      (pss_one (ps_ret (pe_and (pe_m0 PySem.F.slot_str_isascii PySem.F.type_str_isascii mt_isascii (pv 0)) (pe_and (pe_m0 PySem.F.slot_str_isalpha PySem.F.type_str_isalpha mt_isalpha (pv 0)) (pe_and (pe_m0 PySem.F.slot_str_islower PySem.F.type_str_islower mt_islower (pv 0)) (pe_one (pe_cmpR op_notIn_seq (pv 0) (pe_tup (pa_cons pe_str (pa_cons pe_str pa_nil))) rfl)))))))), ?_⟩
    exact ⟨_, rfl, Or.inl ⟨_, _, _, _, false, rfl, .ty _, ty, kt, false, rfl, iteT k⟩⟩
theorem GX_Page___contains__ (T : Tx K mg d) : FnR P w K mg base CX0 2 d.Page___contains__ (spHasX K d.Page d.Box) := by
  have G_is_name : FnR P w K mg base CX0 1 d.is_name _ := FnR.or (G_is_name (P := P) (w := w) (base := base) T) (GX_is_name (P := P) (w := w) (base := base) T)
  obtain ⟨fd, F⟩ := T.F_Page___contains__
  refine FnR.imp (FnOk.raw (F.ok sc_Page___contains__ (k := 1) (sp := spHasX K d.Page d.Box) (fun vs H Q E h => ?_) (fun cdv A outer s H vs Q E hr h => ?_)) (F.binds fun _ _ _ _ _ _ us hl => match us, hl with | [_, _], _ => rfl) .nil) fun vs H Q E h => by rw [List.append_nil]; exact h
  · obtain ⟨a, x, l, rfl, _⟩ := h
    rfl
  · obtain ⟨a, v, l, rfl, hp, ok, hv⟩ := h
    -- slots: 0 self, 1 x
    refine ⟨_, (pss_one (ps_ret (pe_and (pe_fnR G_is_name (hr.mono (by decide)) T.k_is_name T.m_is_name pass0 (pa_cons (pv 1) pa_nil)) (pe_one (pe_cmp (pc_din (hu_of hr) (pv 1) (pe_fld (pv 0) rfl)) rfl))))), ?_⟩
    obtain ⟨a, dx, tb, tn, td, xs, kvs, rs, rfl, h1, h2, h3, h4, h5, h6, h7⟩ := hp
    have pm : (rs.map Row.nm).Perm (namesL l) := by rw [← rowsL_nm (g := 0) (ar := none)]; exact h6.map _
    rcases hv with ⟨x, rfl, hx, k⟩ | ⟨t, ty, kt, k⟩
    · refine ⟨_, rfl, Or.inl ⟨x, rfl, hx, fun H1 e1 => ⟨isNm x, rfl, ?_⟩⟩⟩
      cases q : isNm x with
      | false =>
        have : x ∉ namesL l := fun z => by rw [wf_nmL ok.1.1 z] at q; cases q
        rw [decide_eq_false this] at k
        exact iteF (k _ e1)
      | true =>
        refine iteT ⟨_, rfl, _, rfl, a, d.Page, dx, _, _, rfl, e1 _ _ h1, T.c_Page, T.a_Page_rows, rfl, td, _, rfl, DGet.k (k := .inr x) (e1 _ _ h5), ?_⟩
        rcases rows_get (x := x) h7 with ⟨g1, v, r, g2, g3, g4, g5⟩ | ⟨g1, g2⟩
        · rw [decide_eq_true (pm.mem_iff.mp g1)] at k
          rw [g2]
          exact k _ e1
        · rw [decide_eq_false (fun z => g1 (pm.mem_iff.mpr z))] at k
          rw [g2]
          exact k _ e1
    · exact ⟨_, rfl, Or.inr ⟨_, t, rfl, ty, kt, false, rfl, iteF (k _ (Same.refl _))⟩⟩
theorem G2_Box___eq__ (T : Tx K mg d) : FnR P w K mg base CX0 1 d.Box___eq__ (spBEq2 K d.Box) := by
  obtain ⟨fd, F⟩ := T.F_Box___eq__
  refine FnR.imp (FnOk.raw (F.ok sc_Box___eq__ (k := 0) (sp := spBEq2 K d.Box) (fun vs H Q E h => ?_) (fun cdv A outer s H vs Q E hr h => ?_)) (F.binds fun _ _ _ _ _ _ us hl => match us, hl with | [_, _], _ => rfl) .nil) fun vs H Q E h => by rw [List.append_nil]; exact h
  · obtain ⟨a, y, b, rfl, _⟩ := h
    rfl
  · obtain ⟨a, y, b, rfl, h1, hy⟩ := h
    -- slots: 0 self, 1 other
    refine ⟨_, (pss_one (ps_ret (pe_and (pe_callB uIsi (by rfl) T.n_isinstance (by decide +kernel) (pa_cons (pv 1) (pa_cons (pe_glob (v := .ref _) rfl T.m_Box rfl) pa_nil))) (pe_one (pe_cmpR (uEq hr.units) (pe_fld (pv 0) rfl) (pe_fld (pv 1) rfl) (nomark _)))))), ?_⟩
    rcases hy with ⟨b', h2, k⟩ | ⟨t, ty, kt, k⟩
    · cases b with | mk n o u inn =>
      cases b' with | mk n' o' u' inn' =>
      rw [IsBx] at h1 h2
      obtain ⟨a2, dx, ti, tn, xs2, rfl, hi, _⟩ := h1
      obtain ⟨bx2, dx2, ti2, tn2, xs3, rfl, hi2, _⟩ := h2
      refine ⟨_, rfl, Or.inl ⟨_, _, _, _, true, rfl, .own _, T.y_Box.ty T.c_Box hi2, T.i_Box_is_Box, true, rfl, iteT ?_⟩⟩
      refine ⟨_, rfl, a2, d.Box, dx, _, _, rfl, hi, T.c_Box, T.a_Box_told, rfl, _, rfl, bx2, d.Box, dx2, _, _, rfl, hi2, T.c_Box, T.a_Box_told, rfl, Or.inl ⟨rfl, ?_⟩⟩
      have e : decide (V.str (txB (.mk n o u inn)) = V.str (txB (.mk n' o' u' inn'))) = decide (txB (.mk n o u inn) = txB (.mk n' o' u' inn')) := by simp
      rw [e]
      exact k
    · exact ⟨_, rfl, Or.inl ⟨_, _, _, _, false, rfl, .own _, ty, kt, false, rfl, iteF k⟩⟩
theorem G3_Box___eq__ (T : Tx K mg d) : FnR P w K mg base CX0 1 d.Box___eq__ (spEqB (RB2 d.Box)) :=
  (G2_Box___eq__ T).imp fun vs H Q E ⟨a, y, r, h1, ⟨b, b', h2, h3, h4⟩, k⟩ => ⟨.ref a, y, b, h1, h2, Or.inl ⟨b', h3, by rw [← h4]; exact k _ (Same.refl _)⟩⟩
theorem G2_Page___eq__ (T : Tx K mg d) : FnR P w K mg base CX0 4 d.Page___eq__ (spPEq2 K d.Page d.Box) := by
  have G_eq := G3_Box___eq__ (P := P) (w := w) (base := base) T
  obtain ⟨fd, F⟩ := T.F_Page___eq__
  refine FnR.imp (FnOk.raw (F.ok sc_Page___eq__ (k := 3) (sp := spPEq2 K d.Page d.Box) (fun vs H Q E h => ?_) (fun cdv A outer s H vs Q E hr h => ?_)) (F.binds fun _ _ _ _ _ _ us hl => match us, hl with | [_, _], _ => rfl) .nil) fun vs H Q E h => by rw [List.append_nil]; exact h
  · obtain ⟨a, b, l, rfl, _⟩ := h
    rfl
  · obtain ⟨a, v, l, rfl, h1, hv⟩ := h
    -- slots: 0 self, 1 other
    refine ⟨_, (pss_one (ps_ret (pe_and (pe_callB uIsi (by rfl) T.n_isinstance (by decide +kernel) (pa_cons (pv 1) (pa_cons (pe_glob (v := .ref _) rfl T.m_Page rfl) pa_nil))) (pe_one (pe_cmpR (uEqB T.q_Box_eq G_eq (hr.mono (by decide))) (pe_fld (pv 0) rfl) (pe_fld (pv 1) rfl) (nomark _)))))), ?_⟩
    obtain ⟨a', dx, tb, tn, td, xs, kvs, rs, rfl, g1, g2, g3, _⟩ := id h1
    rcases hv with ⟨l', h2, k⟩ | ⟨t, ty, kt, k⟩
    · obtain ⟨b', dx', tb', tn', td', xs', kvs', rs', rfl, f1, f2, f3, _⟩ := id h2
      refine ⟨_, rfl, Or.inl ⟨_, _, _, _, true, rfl, .own _, T.y_Page.ty T.c_Page f1, T.i_Page_is_Page, true, rfl, iteT ?_⟩⟩
      exact ⟨_, rfl, a', d.Page, dx, _, _, rfl, g1, T.c_Page, T.a_Page_boxes, rfl, _, rfl, b', d.Page, dx', _, _, rfl, f1, T.c_Page, T.a_Page_boxes, rfl, Or.inr (Or.inr ⟨_, bb2_tu g2 f2 g3 f3, k⟩)⟩
    · exact ⟨_, rfl, Or.inl ⟨_, _, _, _, false, rfl, .own _, ty, kt, false, rfl, iteF k⟩⟩
theorem G_Page___len__ (T : Tx K mg d) : FnR P w K mg base CX0 1 d.Page___len__ (spPLen d.Page d.Box) := by
  obtain ⟨fd, F⟩ := T.F_Page___len__
  refine FnR.imp (FnOk.raw (F.ok sc_Page___len__ (k := 0) (sp := spPLen d.Page d.Box) (fun vs H Q E h => ?_) (fun cdv A outer s H vs Q E hr h => ?_)) (F.binds fun _ _ _ _ _ _ us hl => match us, hl with | [_], _ => rfl) .nil) fun vs H Q E h => by rw [List.append_nil]; exact h
  · obtain ⟨a, l, rfl, _⟩ := h
    rfl
  · obtain ⟨a, l, rfl, hp, k⟩ := h
    -- slots: 0 self
    refine ⟨_, (pss_one (ps_ret (pe_callB call_len_seq (by rfl) T.n_len (by decide +kernel) (pa_cons (pe_fld (pv 0) rfl) pa_nil)))), ?_⟩
    obtain ⟨a, dx, tb, tn, td, xs, kvs, rs, rfl, h1, h2, h3, h4, _⟩ := hp
    refine ⟨_, rfl, a, d.Page, dx, _, _, rfl, h1, T.c_Page, T.a_Page_all_names, rfl, tn, _, rfl, Or.inr h4.sq, ?_⟩
    rw [List.length_map]
    exact k
theorem G_Page___getitem__ (T : Tx K mg d) : FnR P w K mg base CX0 6 d.Page___getitem__ (spPGet d.Page d.Box) := by
  have G_Page_row := G_Page_row (P := P) (w := w) (base := base) T
  obtain ⟨fd, F⟩ := T.F_Page___getitem__
  refine FnR.imp (FnOk.raw (F.ok sc_Page___getitem__ (k := 5) (sp := spPGet d.Page d.Box) (fun vs H Q E h => ?_) (fun cdv A outer s H vs Q E hr h => ?_)) (F.binds fun _ _ _ _ _ _ us hl => match us, hl with | [_, _], _ => rfl) .nil) fun vs H Q E h => by rw [List.append_nil]; exact h
  · obtain ⟨a, x, l, rfl, _⟩ := h
    rfl
  · obtain ⟨a, x, l, rfl, hp, ok, hx, k⟩ := h
    -- slots: 0 self, 1 at, 2 box, 3 begin, 4 _
    refine ⟨_, (pss_cons (ps_asg (pe_mR (pv 0) T.c_Page T.h_Page_row G_Page_row (hr.mono (by decide)) pass0 (pa_cons (pv 1) pa_nil)) (pg_tup (by rfl) (pgs_cons (pg_name (i := 2) sc_Page___getitem__.nd rfl (Or.inl rfl)) (pgs_cons (pg_name (i := 3) sc_Page___getitem__.nd rfl (Or.inl rfl)) (pgs_cons (pg_name (i := 4) sc_Page___getitem__.nd rfl (Or.inl rfl)) pgs_nil)))))
      (pss_one (ps_ret (pe_tup (pa_cons (pv 3) (pa_cons (pe_op uAdd (pv 3) (pe_fld (pv 2) rfl)) pa_nil)))))), ?_⟩
    obtain ⟨a', dx, tb, tn, td, xs, kvs, rs, rfl, h1, _⟩ := id hp
    refine ⟨_, rfl, a', dx, _, rfl, h1, rfl, _, rfl, _, x, l, rfl, hp, ok, hx, fun v H' r e hr2 hn hv => ?_⟩
    obtain ⟨tp, bv, rfl, g1, g2⟩ := hv
    have en := row_enL hr2
    cases hb : r.bx with | mk n o u inn =>
    rw [hb] at g2 en
    rw [IsBx] at g2
    obtain ⟨bx, dx2, ti, tn2, xs2, rfl, hi, _⟩ := g2
    refine ⟨tp, _, rfl, SqT.of g1, rfl, _, _, rfl, _, _, rfl, _, _, rfl, rfl, ?_⟩
    dsimp only [List.set, L2.start]
    refine ⟨_, rfl, _, rfl, _, rfl, bx, d.Box, dx2, _, _, rfl, hi, T.c_Box, T.a_Box_units, rfl, Or.inl ⟨r.bg, u, rfl, rfl, (by show 2 ≤ sizeLine; decide), fun p hp2 => ?_⟩⟩
    refine k p _ r (e.trans (sameNew hp2)) hr2 hn ?_
    rw [upd_same, en]
    rfl
theorem OK_Page_box (T : Tx K mg d) {fd : FuncData} (F : L2.Fun K "box" "Page.box" s_Page_box d.Page_box fd) : FnOk P w K mg base CX0 6 d.Page_box fd ["self", "name"] (spPBox d.Page d.Box) := by
  have G_Page_row := G_Page_row (P := P) (w := w) (base := base) T
  refine F.ok sc_Page_box (k := 5) (sp := spPBox d.Page d.Box) (fun vs H Q E h => ?_) (fun cdv A outer s H vs Q E hr h => ?_)
  · obtain ⟨a, x, l, rfl, _⟩ := h
    rfl
  · obtain ⟨a, x, l, rfl, hp, ok, hx, k⟩ := h
    -- slots: 0 self, 1 name
    refine ⟨_, (pss_one (ps_ret (pe_ix ix_seq (pe_mR (pv 0) T.c_Page T.h_Page_row G_Page_row (hr.mono (by decide)) pass0 (pa_cons (pv 1) pa_nil)) pe_int (fun _ _ => rfl)))), ?_⟩
    obtain ⟨a', dx, tb, tn, td, xs, kvs, rs, rfl, h1, _⟩ := id hp
    refine ⟨_, rfl, a', dx, _, rfl, h1, rfl, _, rfl, _, x, l, rfl, hp, ok, hx, fun v H' r e hr2 hn hv => ?_⟩
    obtain ⟨tp, bv, rfl, g1, g2⟩ := hv
    exact ixt (j := 0) g1 rfl (k _ _ r e hr2 hn g2)
theorem GK_Page_box (T : Tx K mg d) : FnRk P w K mg base CX0 6 d.Page_box ["name"] gk11 (spPBox d.Page d.Box) := by
  obtain ⟨fd, F⟩ := T.F_Page_box
  refine FnOk.rawkn (n := 1) (g := gk11) (OK_Page_box T F) ⟨?_, vals_gk11⟩ fun vs zs h => gk11_len h
  obtain ⟨oc, od, kV, doc, pm, an, cdv, ct, osl, rfl, lk, hcd⟩ := F.ex
  intro s us ws _ l1 l2
  match us, ws, l1, l2 with
  | [a], [b], _, _ => exact BindsTo.of_looks fun M => PySem.W.Looks.of_pure rfl
theorem OK_Page_around (T : Tx K mg d) {fd : FuncData} (F : L2.Fun K "around" "Page.around" s_Page_around d.Page_around fd) : FnOk P w K mg base CX0 6 d.Page_around fd ["self", "name"] (spPAr d.Page d.Box) := by
  have G_Page_row := G_Page_row (P := P) (w := w) (base := base) T
  refine F.ok sc_Page_around (k := 5) (sp := spPAr d.Page d.Box) (fun vs H Q E h => ?_) (fun cdv A outer s H vs Q E hr h => ?_)
  · obtain ⟨a, x, l, rfl, _⟩ := h
    rfl
  · obtain ⟨a, x, l, rfl, hp, ok, hx, k⟩ := h
    -- slots: 0 self, 1 name
    refine ⟨_, (pss_one (ps_ret (pe_ix ix_seq (pe_mR (pv 0) T.c_Page T.h_Page_row G_Page_row (hr.mono (by decide)) pass0 (pa_cons (pv 1) pa_nil)) pe_int (fun _ _ => rfl)))), ?_⟩
    obtain ⟨a', dx, tb, tn, td, xs, kvs, rs, rfl, h1, _⟩ := id hp
    refine ⟨_, rfl, a', dx, _, rfl, h1, rfl, _, rfl, _, x, l, rfl, hp, ok, hx, fun v H' r e hr2 hn hv => ?_⟩
    obtain ⟨tp, bv, rfl, g1, g2⟩ := hv
    exact ixt (j := 2) g1 rfl (k _ r e hr2 hn)
theorem G_Page_around (T : Tx K mg d) : FnR P w K mg base CX0 6 d.Page_around (spPAr d.Page d.Box) := by
  obtain ⟨fd, F⟩ := T.F_Page_around
  exact (FnOk.raw (OK_Page_around T F) (F.binds fun _ _ _ _ _ _ us hl => match us, hl with | [_, _], _ => rfl) .nil).imp fun vs H Q E h => by rw [List.append_nil]; exact h
theorem GK_Page_around (T : Tx K mg d) : FnRk P w K mg base CX0 6 d.Page_around ["name"] gk11 (spPAr d.Page d.Box) := by
  obtain ⟨fd, F⟩ := T.F_Page_around
  refine FnOk.rawkn (n := 1) (g := gk11) (OK_Page_around T F) ⟨?_, vals_gk11⟩ fun vs zs h => gk11_len h
  obtain ⟨oc, od, kV, doc, pm, an, cdv, ct, osl, rfl, lk, hcd⟩ := F.ex
  intro s us ws _ l1 l2
  match us, ws, l1, l2 with
  | [a], [b], _, _ => exact BindsTo.of_looks fun M => PySem.W.Looks.of_pure rfl
theorem OK_Page_within (T : Tx K mg d) {fd : FuncData} (F : L2.Fun K "within" "Page.within" s_Page_within d.Page_within fd) : FnOk P w K mg base CX0 8 d.Page_within fd ["self", "name"] (spPIn d.Page d.Box) := by
  have G_Page_box := G_Page_box (P := P) (w := w) (base := base) T
  have G_Page___init__ := G_Page___init__ (P := P) (w := w) (base := base) T
  refine F.ok sc_Page_within (k := 7) (sp := spPIn d.Page d.Box) (fun vs H Q E h => ?_) (fun cdv A outer s H vs Q E hr h => ?_)
  · obtain ⟨a, x, l, rfl, _⟩ := h
    rfl
  · obtain ⟨a, x, l, rfl, hp, ok, hx, k⟩ := h
    -- slots: 0 self, 1 name, 2 inner
    refine ⟨_, (pss_cons (ps_set (i := 2) sc_Page_within.nd rfl (Or.inl rfl) (pe_fld (pe_mR (pv 0) T.c_Page T.h_Page_box G_Page_box (hr.mono (by decide)) pass0 (pa_cons (pv 1) pa_nil)) rfl))
      (pss_one (ps_ret (pe_makeS1 T.mk_Page G_Page___init__ (hr.mono (by decide)) rfl T.m_Page pass0 (pv 2))))), ?_⟩
    obtain ⟨a', dx, tb, tn, td, xs, kvs, rs, rfl, h1, _⟩ := id hp
    refine ⟨_, rfl, a', dx, _, rfl, h1, rfl, _, rfl, _, x, l, rfl, hp, ok, hx, fun v H' r e hr2 hn hv => ?_⟩
    have oki := row_inn ok hr2
    have k2 := fun v H'' e => k v H'' r e hr2 hn
    cases hb : r.bx with | mk n o u inn =>
    rw [hb] at hv oki k2
    rw [IsBx] at hv
    obtain ⟨bx, dx2, ti, tn2, xs2, rfl, hi, hti, _, hinn⟩ := hv
    refine ⟨bx, d.Box, dx2, _, _, rfl, hi, T.c_Box, T.a_Box_inner, rfl, ?_⟩
    refine ⟨_, rfl, ti, xs2, rfl, Or.inl (SqT.of hti), fun c dx2 nc nd _ => ?_⟩
    rw [List.append_nil]
    exact pg_make nc nd hinn oki fun H3 e3 h => ⟨rfl, k2 _ _ (e.trans e3) h⟩
theorem G_Page_within (T : Tx K mg d) : FnR P w K mg base CX0 8 d.Page_within (spPIn d.Page d.Box) := by
  obtain ⟨fd, F⟩ := T.F_Page_within
  exact (FnOk.raw (OK_Page_within T F) (F.binds fun _ _ _ _ _ _ us hl => match us, hl with | [_, _], _ => rfl) .nil).imp fun vs H Q E h => by rw [List.append_nil]; exact h
theorem GK_Page_within (T : Tx K mg d) : FnRk P w K mg base CX0 8 d.Page_within ["name"] gk11 (spPIn d.Page d.Box) := by
  obtain ⟨fd, F⟩ := T.F_Page_within
  refine FnOk.rawkn (n := 1) (g := gk11) (OK_Page_within T F) ⟨?_, vals_gk11⟩ fun vs zs h => gk11_len h
  obtain ⟨oc, od, kV, doc, pm, an, cdv, ct, osl, rfl, lk, hcd⟩ := F.ex
  intro s us ws _ l1 l2
  match us, ws, l1, l2 with
  | [a], [b], _, _ => exact BindsTo.of_looks fun M => PySem.W.Looks.of_pure rfl
theorem GI_Page___iter__ (T : Tx K mg d) : FnN P w K mg base CX0 1 d.Page___iter__ (spPIter d.Page d.Box) := by
  obtain ⟨fd, F⟩ := T.F_Page___iter__
  refine fnN_of (k := 0) F sc_Page___iter__ (sp := spPIter d.Page d.Box) (fun n vs H Q E h => ?_) (fun cdv A outer s H vs Q E hr h => ?_) (F.binds fun _ _ _ _ _ _ us hl => match us, hl with | [_], _ => rfl)
  · obtain ⟨a, l, rfl, _⟩ := h
    rfl
  · obtain ⟨a, l, rfl, hp, k⟩ := h
    -- slots: 0 self
    refine ⟨_, (pss_one (ps_ret (pe_callB call_iterT (by rfl) T.n_iter (by decide +kernel) (pa_cons (pe_fld (pv 0) rfl) pa_nil)))), ?_⟩
    obtain ⟨a, dx, tb, tn, td, xs, kvs, rs, rfl, h1, h2, h3, h4, _⟩ := hp
    exact ⟨_, rfl, a, d.Page, dx, _, _, rfl, h1, T.c_Page, T.a_Page_all_names, rfl, tn, _, rfl, h4.sq, fun it hit hn => k tn it h4 hit hn⟩
theorem OK_Page_some (T : Tx K mg d) {fd : FuncData} (F : L2.Fun K "some" "Page.some" s_Page_some d.Page_some fd) : FnOk P w K mg base CX0 8 d.Page_some fd ["self", "first", "last"] (spPSome d.Page d.Box) := by
  have G_is_integer := G_is_integer (P := P) (w := w) (base := base) T
  have G_Page___init__ := G_Page___init__ (P := P) (w := w) (base := base) T
  refine F.ok sc_Page_some (k := 7) (sp := spPSome d.Page d.Box) (fun vs H Q E h => ?_) (fun cdv A outer s H vs Q E hr h => ?_)
  · obtain ⟨a, i, j, l, rfl, _⟩ := h
    rfl
  · obtain ⟨a, i, j, l, rfl, hp, ok, ij, jl, k⟩ := h
    -- slots: 0 self, 1 first, 2 last, 3 boxes
    refine ⟨_, (pss_cons (ps_if (PW.pt (pw_or (pt_not (pt_val (pe_fnR G_is_integer (hr.mono (by decide)) T.k_is_integer T.m_is_integer pass0 (pa_cons (pv 1) pa_nil)))) (pw_or (pt_cmpR uLt (pv 1) pe_int (nomark _)) (pw_or1 (pt_cmpR uGt (pv 1) (pe_callB call_len_seq (by rfl) T.n_len (by decide +kernel) (pa_cons (pe_fld (pv 0) rfl) pa_nil)) (nomark _)))))) pss_never pss_nil)
      (pss_cons (ps_if (PW.pt (pw_or (pt_not (pt_val (pe_fnR G_is_integer (hr.mono (by decide)) T.k_is_integer T.m_is_integer pass0 (pa_cons (pv 2) pa_nil)))) (pw_or (pt_cmpR uLt (pv 2) (pv 1) (nomark _)) (pw_or1 (pt_cmpR uGt (pv 2) (pe_callB call_len_seq (by rfl) T.n_len (by decide +kernel) (pa_cons (pe_fld (pv 0) rfl) pa_nil)) (nomark _)))))) pss_never pss_nil)
      (pss_cons (ps_set (i := 3) sc_Page_some.nd rfl (Or.inl rfl) (pe_slice sl_tupA (pe_fld (pv 0) rfl) (po_some (pv 1)) (po_some (pv 2))))
      (pss_one (ps_ret (pe_makeS1 T.mk_Page G_Page___init__ (hr.mono (by decide)) rfl T.m_Page pass0 (pv 3))))))), ?_⟩
    obtain ⟨a', dx, tb, tn, td, xs, kvs, rs, rfl, h1, h2, h3, _⟩ := id hp
    have xl := h3.len
    refine ⟨_, rfl, _, true, rfl, isI_int T, _, rfl, iteF ⟨_, rfl, Or.inl ⟨_, _, rfl, rfl, _, rfl, ifF (decide_eq_false (by omega)) ?_⟩⟩⟩
    refine ⟨_, rfl, _, rfl, a', d.Page, dx, _, _, rfl, h1, T.c_Page, T.a_Page_boxes, rfl, tb, _, rfl, Or.inr (SqT.of h2), Or.inl ⟨_, _, rfl, rfl, _, rfl, ifF (decide_eq_false (by omega)) ?_⟩⟩
    dsimp only [tNext, L2.start]
    refine ⟨_, rfl, _, true, rfl, isI_int T, _, rfl, iteF ⟨_, rfl, _, rfl, Or.inl ⟨_, _, rfl, rfl, _, rfl, ifF (decide_eq_false (by omega)) ?_⟩⟩⟩
    refine ⟨_, rfl, _, rfl, a', d.Page, dx, _, _, rfl, h1, T.c_Page, T.a_Page_boxes, rfl, tb, _, rfl, Or.inr (SqT.of h2), Or.inl ⟨_, _, rfl, rfl, _, rfl, ifF (decide_eq_false (by omega)) ?_⟩⟩
    have hcut : IsBs d.Box H ((xs.take j).drop i) ((l.take j).drop i) := isBs_pd.mpr (pd_drop i (pd_take j (isBs_pd.mp h3)))
    refine ⟨_, rfl, a', d.Page, dx, _, _, rfl, h1, T.c_Page, T.a_Page_boxes, rfl, _, rfl, _, rfl, _, rfl, _, rfl, tb, xs, rfl, SqT.of h2, fun wh => ?_, fun _ p hp2 => ?_⟩
    · rw [HT.sIx_nat, HT.sIx_nat] at wh
      have e : (xs.take j).drop i = xs := by
        have h0 : min i xs.length = 0 := wh.1
        have h2 : min j xs.length = xs.length := wh.2
        rw [List.take_of_length_le (by omega)]
        rcases Nat.eq_zero_or_pos i with z | z
        · rw [z, List.drop_zero]
        · have : xs.length = 0 := by omega
          rw [List.length_eq_zero_iff.mp this, List.drop_nil]
      refine ⟨_, rfl, tb, _, rfl, Or.inl (SqT.of h2), fun c dx2 nc nd _ => ?_⟩
      rw [List.append_nil]
      exact pg_make nc nd (by rw [e] at hcut; exact hcut) (ok_cut ok i j) fun H3 e3 h => ⟨rfl, k _ _ e3 h⟩
    · have e4 := sameNew hp2 (o := .tup (cutV xs (some (i : Int)) (some (j : Int))))
      refine ⟨_, rfl, p, _, rfl, Or.inl (SqT.of upd_same), fun c dx2 nc nd _ => ?_⟩
      rw [List.append_nil, cut_both ij]
      rw [cut_both ij] at e4 nc nd
      exact pg_make nc nd (hcut.same e4) (ok_cut ok i j) fun H3 e3 h => ⟨rfl, k _ _ (e4.trans e3) h⟩
theorem G_Page_some (T : Tx K mg d) : FnR P w K mg base CX0 8 d.Page_some (spPSome d.Page d.Box) := by
  obtain ⟨fd, F⟩ := T.F_Page_some
  exact (FnOk.raw (OK_Page_some T F) (F.binds fun _ _ _ _ _ _ us hl => match us, hl with | [_, _, _], _ => rfl) .nil).imp fun vs H Q E h => by rw [List.append_nil]; exact h
theorem GK_Page_some (T : Tx K mg d) : FnRk P w K mg base CX0 8 d.Page_some ["last", "first"] g12 (spPSome d.Page d.Box) := by
  obtain ⟨fd, F⟩ := T.F_Page_some
  refine FnOk.rawkn (n := 1) (g := g12) (OK_Page_some T F) ⟨?_, vals_g12⟩ fun vs zs h => ?_
  · obtain ⟨oc, od, kV, doc, pm, an, cdv, ct, osl, rfl, lk, hcd⟩ := F.ex
    intro s us ws _ l1 l2
    match us, ws, l1, l2 with
    | [a], [b, c], _, _ => exact BindsTo.of_looks fun M => PySem.W.Looks.of_pure rfl
  · match vs, zs, h with
    | [_], [_, _], _ => exact ⟨rfl, rfl⟩
    | [], _, h => cases h
    | [_], [], h => cases h
    | [_], [_], h => cases h
    | [_], _ :: _ :: _ :: _, h => cases h
    | _ :: _ :: _, _, h => cases h
end

end AZ
namespace AZ
open PySem L2
/-! ## a Box is a plain box -/
section
variable {X : Cx}
theorem uNeP (hr : Room 1 X.A) : OpR X (compareOp .NotEq) (orR rNe (orR (rOwnN X) (orR (rNeB (BList BFlat)) (rNeB (BTup X.K BFlat))))) :=
  op_or2 op_ne (op_or2 op_ownN (op_or2 (op_neB (ncB_list monB_flat eqB_flat) hr) (op_neB (ncB_tup monB_flat eqB_flat) hr)))
theorem uEqL (hr : Room 1 X.A) : OpR X (compareOp .Eq) (orR rEq (orR (rOwnC X .Eq) (rEqB (BList BFlat)))) :=
  op_or2 op_eq (op_or2 (op_ownC _) (op_eqB (rcB_list monB_flat eqB_flat) hr))
end
theorem held1 {p lp : Addr} {H : Hp} {n : Nat} (h : PenL H p lp n) : Held [p] H := fun a ha => by
  obtain ⟨xs, q⟩ := pen_in h
  exact ⟨_, by rw [List.mem_singleton.mp ha]; exact q⟩
theorem itx_len9 {i : Int} (h : i.natAbs < 2 ^ 110) : (toString i : Str).length ≤ 111 ∧ i.natAbs.log2 < 1920 := by
  have l : i.natAbs.log2 < 110 := by
    by_cases z : i.natAbs = 0
    · rw [z]; decide
    · exact (Nat.log2_lt z).mpr h
  refine ⟨?_, by omega⟩
  have := int_text_length_le (k := 110) (by decide) l
  show (Str.ofString (toString i)).length ≤ 111
  rw [show (Str.ofString (toString i)).length = (toString i).length from ofString_length _]
  exact this
theorem dp_nm {n : Str} (h : isNm n = true) : (PyData.shown (.str n)).length ≤ 82 := by
  have h8 := isNm_len h
  have hx : ∀ c ∈ n.cps.toList, c < 16 ^ 8 := fun c hc => by
    unfold isNm at h
    simp only [Bool.and_eq_true] at h
    have a := h.2.1
    unfold Txt.isascii at a
    rw [Array.all_eq_true'] at a
    have := of_decide_eq_true (a c (Array.mem_toList_iff.mp hc))
    exact Nat.lt_trans this (by decide)
  have := StrLaws.reprText_len n hx
  show (reprText n).length ≤ 82
  omega
theorem shn_nii {n : Str} {o u : Int} (h : isNm n = true) (ho : o.natAbs < 2 ^ 110) (hu : u.natAbs < 2 ^ 110) : Shn (.list [.str n, .int o, .int u]) := by
  have a := dp_nm h
  obtain ⟨b1, b2⟩ := itx_len9 ho
  obtain ⟨c1, c2⟩ := itx_len9 hu
  refine ⟨?_, ?_, ?_⟩
  · simp only [PyData.showable, PyData.showableAll, decide_eq_true b2, decide_eq_true c2]
    rfl
  · simp [PyData.depth, PyData.depthAll]
  · have := listText_len_le (PyData.shownAll [.str n, .int o, .int u])
    show (listText (PyData.shownAll [.str n, .int o, .int u])).length ≤ 2000
    simp only [PyData.shownAll, List.map_cons, List.map_nil, List.sum_cons, List.sum_nil, List.length_cons, List.length_nil] at this
    have e1 : (PyData.shown (.int o)) = (toString o : Str) := by simp only [PyData.shown]
    have e2 : (PyData.shown (.int u)) = (toString u : Str) := by simp only [PyData.shown]
    simp only [PyData.shownAll]
    rw [e1, e2] at this ⊢
    omega
theorem sh_nii {K : PySem.W.Frag} {H : Hp} {l : Addr} {n : Str} {o u : Int} (h : H l = some (.lst [.str n, .int o, .int u])) : Sh K H (.ref l) (.list [.str n, .int o, .int u]) :=
  .dp (.lst (SqL.of h) (.cons (.str n) (.cons (.int o) (.cons (.int u) .nil)))) rfl
def spBoxR (D : Addr) (m : Nat) : Sp := fun vs H Q _ => ∃ (ex : List Addr) (v pv : V) (b : Bx), vs = [v, pv] ∧ Held ex H ∧ IsPB ex H pv b ∧ IsBx D H v b ∧ WfB 105 b ∧ OkB b ∧ depB b < m ∧ ∀ H', Same H H' → Q (.bl true) H'
section
variable {P : Program} {w : World} {K : PySem.W.Frag} {mg : Str → Option Value} {base : Heap} {d : Ad}
theorem G__law_box_right (T : Tx K mg d) : ∀ m, FnG P w K mg base CX0 (m + 3) d._law_box_right (spBoxR d.Box m) := by
  intro m
  induction m with
  | zero =>
    intro A out z G us vs Q E ng hr e0 r h
    obtain ⟨ex, v, qv, b, _, _, _, _, _, _, dl, _⟩ := h
    exact absurd dl (Nat.not_lt_zero _)
  | succ m G__law_box_right =>
  obtain ⟨fd, F⟩ := T.F__law_box_right
  refine fnG_of (k := m + 3) F sc__law_box_right (sp := spBoxR d.Box (m + 1)) (fun vs H Q E h => ?_) (fun cdv A outer s H vs Q E ng hr h => ?_) (F.binds fun _ _ _ _ _ _ us hl => match us, hl with | [_, _], _ => rfl)
  · obtain ⟨ex, v, qv, b, rfl, _⟩ := h
    rfl
  · obtain ⟨ex, v, qv, b, rfl, hex, hb, hx, wf, ok, dl, k⟩ := h
    -- slots: 0 _law_box, 1 _law_plain, 2 _law_name, 3 _law_offset, 4 _law_units, 5 _law_inner, 6 _law_one, 7 _law_other
    refine ⟨_, (pss_cons (ps_asg (pv 1) (pg_tup (by rfl) (pgs_cons (pg_name (i := 2) sc__law_box_right.nd rfl (Or.inl rfl)) (pgs_cons (pg_name (i := 3) sc__law_box_right.nd rfl (Or.inl rfl)) (pgs_cons (pg_name (i := 4) sc__law_box_right.nd rfl (Or.inl rfl)) (pgs_cons (pg_name (i := 5) sc__law_box_right.nd rfl (Or.inl rfl)) pgs_nil))))))
      (pss_cons (ps_if (PW.pt (pw_or (pt_not (pt_val (pe_callB uIsi (by rfl) T.n_isinstance (by decide +kernel) (pa_cons (pv 0) (pa_cons (pe_glob (v := .ref _) rfl T.m_Box rfl) pa_nil))))) (pw_or (pt_cmpR (op_ne) (pe_callB (call_reprS ng hr.units70) (by rfl) T.n_repr (by decide +kernel) (pa_cons (pe_lst (pa_cons (pe_fld (pv 0) rfl) (pa_cons (pe_fld (pv 0) rfl) (pa_cons (pe_fld (pv 0) rfl) pa_nil)))) pa_nil)) (pe_callB (call_reprS ng hr.units70) (by rfl) T.n_repr (by decide +kernel) (pa_cons (pe_lst (pa_cons (pv 2) (pa_cons (pv 3) (pa_cons (pv 4) pa_nil)))) pa_nil)) (nomark _)) (pw_or1 (pt_not (pt_val (pe_callB uIsi (by rfl) T.n_isinstance (by decide +kernel) (pa_cons (pe_fld (pv 0) rfl) (pa_cons (pe_bltn (v := .ty "tuple") (by rfl) T.n_tuple (by decide +kernel) rfl) pa_nil))))))))) (pss_one (ps_ret pe_bl)) pss_nil)
      (pss_one (ps_ret (pe_and (pe_cmpR (uEqL (hr.mono (by omega))) (pe_callB call_len_seq (by rfl) T.n_len (by decide +kernel) (pa_cons (pe_fld (pv 0) rfl) pa_nil)) (pe_callB call_len_seq (by rfl) T.n_len (by decide +kernel) (pa_cons (pv 5) pa_nil)) (nomark _)) (pe_one (pe_cmpR (uEqL (hr.mono (by omega))) (pe_lc (own := [("_law_one", 6), ("_law_other", 7)]) (g := gTup K 2 (gCons (gName 6) (gCons (gName 7) gNil))) (by rfl) sc__law_box_right.nd (pi_zipM rfl T.n_zip (pa_cons (pe_fld (pv 0) rfl) (pa_cons (pv 5) pa_nil))) (blkOk_by (own := [("_law_one", 6), ("_law_other", 7)]) (N := ["_law_box", "_law_plain", "_law_name", "_law_offset", "_law_units", "_law_inner", "_law_one", "_law_other"]) (sc := defScope s__law_box_right) (by decide +kernel)) (fun _ _ _ _ _ => pg_tup (by rfl) (pgs_cons (pg_name (i := 6) sc__law_box_right.nd rfl (Or.inl rfl)) (pgs_cons (pg_name (i := 7) sc__law_box_right.nd rfl (Or.inl rfl)) pgs_nil))) (fun _ _ _ _ _ => pts_one (pt_not (pt_val (pe_fnG G__law_box_right ng (hr.mono (by omega)) T.k__law_box_right T.m__law_box_right pass0 (pa_cons (pv 6) (pa_cons (pv 7) pa_nil)))))) (fun _ _ _ _ _ => pe_int)) (pe_lst pa_nil) (nomark _)))))))), ?_⟩
    cases b with | mk n o u inn =>
    rw [IsPB] at hb
    obtain ⟨t, li, xs2, rfl, hli, ht, hl2, hinn⟩ := hb
    rw [IsBx] at hx
    obtain ⟨bx, dx, ti, tn, ys, rfl, hi, hti, _, hbs⟩ := hx
    rw [WfB] at wf
    rw [depB] at dl
    have oi := ok.inn
    rw [show L2.start ["_law_box", "_law_plain", "_law_name", "_law_offset", "_law_units", "_law_inner", "_law_one", "_law_other"] [V.ref bx, V.ref t] = [some (V.ref bx), some (V.ref t), none, none, none, none, none, none] from rfl]
    refine ⟨_, rfl, t, _, rfl, SqT.of ht, rfl, _, _, rfl, _, _, rfl, _, _, rfl, _, _, rfl, rfl, ?_⟩
    dsimp only [List.set]
    refine ⟨_, rfl, Or.inl ⟨_, _, _, _, true, rfl, .own _, T.y_Box.ty T.c_Box hi, T.i_Box_is_Box, true, rfl, iteF ?_⟩⟩
    have o10 : o.natAbs < 2 ^ 110 := Nat.lt_of_lt_of_le wf.2.2.1 (by decide)
    have u10 : u.natAbs < 2 ^ 110 := Nat.lt_of_lt_of_le wf.2.2.2.1 (by decide)
    refine ⟨_, rfl, bx, d.Box, dx, _, _, rfl, hi, T.c_Box, T.a_Box_name, rfl, _, rfl, bx, d.Box, dx, _, _, rfl, hi, T.c_Box, T.a_Box_offset, rfl, _, rfl, bx, d.Box, dx, _, _, rfl, hi, T.c_Box, T.a_Box_units, rfl, (by show 3 ≤ sizeLine; decide), fun l1 h1 => ⟨.ref l1, _, rfl, sh_nii upd_same, shn_nii wf.1 o10 u10, ?_⟩⟩
    have e1 := sameNew h1 (o := .lst [.str n, .int o, .int u])
    refine ⟨_, rfl, _, rfl, _, rfl, (by show 3 ≤ sizeLine; decide), fun l2 h2 => ⟨.ref l2, _, rfl, sh_nii upd_same, shn_nii wf.1 o10 u10, rfl, _, rfl, ifF (by simp) ?_⟩⟩
    have e2 := e1.trans (sameNew h2 (o := .lst [.str n, .int o, .int u]))
    generalize upd (upd H l1 (HO.lst [V.str n, .int o, .int u])) l2 (HO.lst [V.str n, .int o, .int u]) = H2 at e2 ⊢
    clear e1 h1 h2
    have hti2 := e2 _ _ hti
    have hl22 := e2 _ _ hl2
    refine ⟨_, rfl, bx, d.Box, dx, _, _, rfl, e2 _ _ hi, T.c_Box, T.a_Box_inner, rfl, Or.inl ⟨_, _, _, _, true, rfl, .ty _, .base (.tup hti2), T.i_tuple_is_tuple, true, rfl, iteF ?_⟩⟩
    have yl := hbs.len
    have xl := hinn.len
    refine ⟨_, rfl, bx, d.Box, dx, _, _, rfl, e2 _ _ hi, T.c_Box, T.a_Box_inner, rfl, ti, _, rfl, Or.inr (SqT.of hti2), _, rfl, li, _, rfl, Or.inl (SqL.of hl22), Or.inl ⟨rfl, _, rfl, ifT (by rw [yl, xl]; simp) ?_⟩⟩
    refine ⟨_, rfl, bx, d.Box, dx, _, _, rfl, e2 _ _ hi, T.c_Box, T.a_Box_inner, rfl, _, rfl, ti, li, ys, xs2, rfl, SqT.of hti2, SqL.of hl22, fun D hD => ?_⟩
    refine lc_zipM (yl.trans xl.symm) (fun i H' => Same H2 H' ∧ H' D = some (.lst [])) ⟨sameNew hD, upd_same⟩ (fun i H' g => ⟨SqT.of (g.1 _ _ hti2), SqL.of (g.1 _ _ hl22)⟩) (fun i x y tp H' hx hy htp g => ?_) (fun H' g => ?_)
    · obtain ⟨e, hd⟩ := g
      obtain ⟨b, hbi, hxb⟩ := pd_at (isBs_pd.mp hbs) hx
      obtain ⟨b2, hbi2, hyb⟩ := pd_at (isPL_pd.mp hinn) hy
      rw [hbi] at hbi2
      injection hbi2 with hbi2
      subst hbi2
      have bm := List.mem_of_getElem? hbi
      have hdep := dep_mem bm
      have e3 := sameNew htp (o := .tup [x, y])
      have e23 := (e2.trans e).trans e3
      refine ⟨tp, _, rfl, SqT.of upd_same, rfl, _, _, rfl, _, _, rfl, rfl, ?_⟩
      refine ⟨rfl, ?_⟩
      refine ⟨_, rfl, _, rfl, ex, x, y, b, rfl, hex.same e23, hyb.same e23, hxb.same e23, wfL_all.mp wf.2.2.2.2 b bm, oi.mem bm, by omega, fun H4 e4 => ?_⟩
      exact ⟨true, rfl, iteF ⟨(e.trans e3).trans e4, e4 _ _ (e3 _ _ hd)⟩⟩
    · obtain ⟨e, hd⟩ := g
      exact ⟨Nat.zero_le _, fun r hr1 => Or.inr (Or.inr ⟨true, bl_nil (sameNew hr1 _ _ hd) upd_same, fun H6 e6 => k _ (((e2.trans e).trans (sameNew hr1)).trans e6)⟩)⟩
end

end AZ
namespace AZ
open PySem L2
/-! ## plain boxes compared -/
def DB : Nat → Eqw
  | 0 => BFlat
  | k + 1 => fun x y H r => BFlat x y H r ∨ BList (BTu (DB k)) x y H r
theorem monB_db : ∀ k, MonB (DB k)
  | 0 => monB_flat
  | k + 1 => MonB.or monB_flat (monB_list (monB_tu (monB_db k)))
theorem rflF_db : ∀ k, RflF (DB k)
  | 0 => rflF_flat
  | k + 1 => fun x H r d => d.elim (rflF_flat x H r) (rflF_list (rflF_tu (rflF_db k)) x H r)
theorem eqB_db {X : Cx} : ∀ k, EqB X (2 * k) (DB k)
  | 0 => eqB_flat
  | k + 1 => EqB.or (eqB_flat.mono (Nat.zero_le _)) (eqB_list (monB_tu (monB_db k)) (eqB_tu (monB_db k) (eqB_db k) (rflF_db k)) (rflF_tu (rflF_db k)))
theorem uEqD {X : Cx} (hr : Room 8 X.A) : OpR X (compareOp .Eq) (orR rEq (orR (rOwnC X .Eq) (rEqB (BList (BTu (DB 3)))))) :=
  op_or2 op_eq (op_or2 (op_ownC _) (op_eqB (rcB_list (monB_tu (monB_db 3)) (eqB_tu (monB_db 3) (eqB_db 3) (rflF_db 3))) hr))
section
variable {X : Cx}
theorem op_inR {CX : CXT} {C f : Addr} {k : Nat} {sp : Sp} {E : XK} (M : InM X.K C f) (F : FnR X.prog X.w X.K X.mg X.base CX k f sp) (hr : Room k X.A) (hx : Passes CX X E) : OpR X (compareOp .In) (rInO C sp E) := by
  intro pins s σ H x y v u Q I rx ry h
  obtain ⟨a, dx, fs, rfl, ha, q⟩ := h
  obtain rfl : u = Value.ref a := ry
  have run : wpAny (model X.prog X.w) X.A (call (.ref f) [.ref a, v]) (fun r s' => wpAny (model X.prog X.w) X.A (truthy r) (fun b s2 => EP X pins σ Q (.bool b) s2) X.xe s') X.xe s :=
    thn (wpAny_call (run_fnR (us := [.ref a, v]) (vs := [.ref a, x]) F hr hx I (.cons rfl (.cons rx .nil)) q)) fun r s1 z => by
      obtain ⟨z, H1, J, rz, b, rfl, q⟩ := z
      obtain rfl : r = Value.bool b := rz
      exact wpAny_truthy_bool ⟨.bl b, H1, J, rfl, q⟩
  obtain ⟨mA, J, _⟩ := ins_get I.hok ha
  obtain ⟨od, J, _⟩ := J.look
  obtain ⟨m, hF⟩ := I.fr
  exact PySem.W.in_K hF I.ok.mod.kin J M.hs M.hf run
end
def rOwnNV (K : PySem.W.Frag) (C : Addr) (sp : Sp) (E : XK) : R2 := fun x y H Q => ∃ (a dx : Addr) (fs : List (Str × V)) (tb : Value), x = .ref a ∧ H a = some (.ins C dx fs) ∧ TyX K H y tb ∧ PySem.W.notFirst K C tb = true ∧ sp [x, y] H (fun v H1 => ∃ r, v = .bl r ∧ Q (.bl (!r)) H1) E
section
open PyProof.Rows
variable {X : Cx} {C : Addr} {CX : CXT} {k : Nat} {sp : Sp} {E : XK}
theorem op_ownNV {f : Addr} (hM : NeM X.K C f) (F : FnR X.prog X.w X.K X.mg X.base CX k f sp) (hr : Room (k + 1) X.A) (hx : Passes CX X E) : OpR X (compareOp .NotEq) (rOwnNV X.K C sp E) := by
  intro pins s σ H x y v u Q I rx ry h
  obtain ⟨a, dx, fs, tb, rfl, ha, ty, nf, hs⟩ := h
  obtain rfl : v = Value.ref a := rx
  have hc : wpAny (model X.prog X.w) X.A.in1 (call (.ref f) [.ref a, u]) (fun v s' => ∃ r, v = .bool r ∧ EP X pins σ Q (.bool (!r)) s') X.xe s :=
    thn (wpAny_call (run_fnS (us := [.ref a, u]) (vs := [.ref a, y]) ⟨hr.in1, rfl⟩ F hx I (.cons rfl (.cons ry .nil)) hs)) fun v s1 z => by
      obtain ⟨z, H1, I1, rz, r, rfl, q⟩ := z
      obtain rfl : v = Value.bool r := rz
      exact ⟨r, rfl, .bl (!r), H1, I1, rfl, q⟩
  obtain ⟨mA, J, _⟩ := ins_get I.hok ha
  obtain ⟨od, J, _⟩ := J.look
  obtain ⟨m, hF⟩ := I.fr
  obtain ⟨Pz, Z, pz, _⟩ := kit_of I ry ty
  have hu : X.A.units + 1 < cLine := by have := hr.units; omega
  show wpAny (model X.prog X.w) X.A (richCompare .NotEq (.ref a) u) (EP X pins σ Q) X.xe s
  exact ne_K (tb := tb) hu hF I.ok.mod.kin J (Z.ty _ _ I.kIn pz) nf hM.hne hM.hs hM.hf hM.hm hc
end
theorem thin_all : ∀ {l : List Bx}, thinL l ↔ ∀ b ∈ l, thinB b
  | [] => by rw [thinL]; simp
  | b :: l => by rw [thinL, thin_all]; simp
theorem dep_cut {l : List Bx} {i j : Nat} : depL ((l.take j).drop i) ≤ depL l := by
  have a := dep_take (l := l) (i := j)
  have e := depL_app (a := (l.take j).take i) (b := (l.take j).drop i)
  rw [List.take_append_drop] at e
  omega
theorem pb_eq {ex ex' : List Addr} {H : Hp} : ∀ (k : Nat) {b b' : Bx} {v v' : V}, IsPB ex H v b → IsPB ex' H v' b' → WfB 1000 b → WfB 1000 b' → depB b ≤ k → depB b' ≤ k → BTu (DB k) v v' H (decide (txB b = txB b')) := by
  intro k
  induction k with
  | zero =>
    intro b b' v v' _ _ _ _ d _
    cases b with | mk n o u l =>
    rw [depB] at d
    omega
  | succ k ih =>
    intro b b' v v' hb hb' w w' d d'
    have w0 := w
    have w0' := w'
    cases b with | mk n o u l =>
    cases b' with | mk n' o' u' l' =>
    rw [IsPB] at hb hb'
    obtain ⟨t, li, xs, rfl, _, ht, hl, hp⟩ := hb
    obtain ⟨t', li', xs', rfl, _, ht', hl', hp'⟩ := hb'
    rw [WfB] at w w'
    rw [depB] at d d'
    have pr : ∀ {ex : List Addr} {xs : List V} {l : List Bx}, IsPL ex H xs l → WfL 1000 l → depL l ≤ k → Paired (fun v t => ∃ b, IsPB ex H v b ∧ WfB 1000 b ∧ depB b ≤ k ∧ t = txB b) xs (l.map txB) := fun {ex xs l} h wl dl => by
      have q := isPL_pd.mp h
      clear h
      induction q with
      | nil => exact .nil
      | cons r _ ih2 =>
        rw [WfL] at wl
        rw [depL] at dl
        exact .cons ⟨_, r, wl.1, by omega, rfl⟩ (ih2 wl.2 (by omega))
    have inner : BList (BTu (DB k)) (.ref li) (.ref li') H (decide (l.map txB = l'.map txB)) := bList_of (fun x y m n hx hy => by
      obtain ⟨c, h1, h2, h3, rfl⟩ := hx
      obtain ⟨c', g1, g2, g3, rfl⟩ := hy
      exact ih h1 g1 h2 g2 h3 g3) hl hl' (pr hp w.2.2.2.2 (by omega)) (pr hp' w'.2.2.2.2 (by omega))
    refine ⟨t, t', _, _, rfl, rfl, ht, ht', fun i => match i with | 0 => decide (n = n') | 1 => decide (o = o') | 2 => decide (u = u') | _ => decide (l.map txB = l'.map txB), fun i x y hx hy => ?_, ?_⟩
    · match i, hx, hy with
      | 0, hx, hy =>
        cases hx; cases hy
        exact Or.inl ⟨rfl, rfl, by show (n == n') = decide (n = n'); by_cases h : n = n' <;> simp [h]⟩
      | 1, hx, hy =>
        cases hx; cases hy
        exact Or.inl ⟨rfl, rfl, by show (o == o') = decide (o = o'); by_cases h : o = o' <;> simp [h]⟩
      | 2, hx, hy =>
        cases hx; cases hy
        exact Or.inl ⟨rfl, rfl, by show (u == u') = decide (u = u'); by_cases h : u = u' <;> simp [h]⟩
      | 3, hx, hy =>
        cases hx; cases hy
        exact Or.inr inner
      | i + 4, hx, _ => simp at hx
    · show decide _ = ((decide (n = n') && (decide (o = o') && (decide (u = u') && (decide (l.map txB = l'.map txB) && true)))) && true)
      by_cases h : txB (.mk n o u l) = txB (.mk n' o' u' l')
      · have e := txB_inj w0 w0' h
        injection e with e1 e2 e3 e4
        subst e1 e2 e3 e4
        simp
      · rw [decide_eq_false h]
        by_cases h1 : n = n'
        · by_cases h2 : o = o'
          · by_cases h3 : u = u'
            · by_cases h4 : l.map txB = l'.map txB
              · exfalso
                have := txL_inj w.2.2.2.2 w'.2.2.2.2 h4
                subst h1 h2 h3 this
                exact h rfl
              · simp [h4]
            · simp [h3]
          · simp [h2]
        · simp [h1]
theorem pl_eq {ex ex' : List Addr} {H : Hp} {a a' : Addr} {xs xs' : List V} {l l' : List Bx} (ha : H a = some (.lst xs)) (ha' : H a' = some (.lst xs')) (h : IsPL ex H xs l) (h' : IsPL ex' H xs' l') (w : WfL 1000 l) (w' : WfL 1000 l') (d : depL l ≤ 3) (d' : depL l' ≤ 3) : BList (BTu (DB 3)) (.ref a) (.ref a') H (decide (l.map txB = l'.map txB)) := by
  have pr : ∀ {ex : List Addr} {xs : List V} {l : List Bx}, IsPL ex H xs l → WfL 1000 l → depL l ≤ 3 → Paired (fun v t => ∃ b, IsPB ex H v b ∧ WfB 1000 b ∧ depB b ≤ 3 ∧ t = txB b) xs (l.map txB) := fun {ex xs l} h wl dl => by
    have q := isPL_pd.mp h
    clear h
    induction q with
    | nil => exact .nil
    | cons r _ ih2 =>
      rw [WfL] at wl
      rw [depL] at dl
      exact .cons ⟨_, r, wl.1, by omega, rfl⟩ (ih2 wl.2 (by omega))
  exact bList_of (fun x y m n hx hy => by
    obtain ⟨c, h1, h2, h3, rfl⟩ := hx
    obtain ⟨c', g1, g2, g3, rfl⟩ := hy
    exact pb_eq 3 h1 g1 h2 g2 h3 g3) ha ha' (pr h w d) (pr h' w' d')
mutual
theorem row_bdB {k : Nat} : ∀ {b : Bx} {N : Nat} {g : Int} {ar : Option Str} {r : Row}, WfB k b → g.natAbs ≤ N * 2 ^ k → r ∈ rowsB g ar b → r.bg.natAbs ≤ (N + depB b) * 2 ^ k
  | .mk n o u l, N, g, ar, r, w, hg, h => by
    rw [WfB] at w
    rw [rowsB] at h
    rw [depB]
    have g2 : (g + o).natAbs ≤ (N + 1) * 2 ^ k := by
      rw [Nat.add_mul]
      have := w.2.2.1
      omega
    rcases List.mem_cons.mp h with rfl | h
    · exact Nat.le_trans g2 (Nat.mul_le_mul_right _ (by omega))
    · have := row_bdL w.2.2.2.2 g2 h
      rw [show N + (depL l + 1) = N + 1 + depL l by omega]
      exact this
theorem row_bdL {k : Nat} : ∀ {l : List Bx} {N : Nat} {g : Int} {ar : Option Str} {r : Row}, WfL k l → g.natAbs ≤ N * 2 ^ k → r ∈ rowsL g ar l → r.bg.natAbs ≤ (N + depL l) * 2 ^ k
  | [], N, g, ar, r, w, hg, h => by rw [rowsL] at h; cases h
  | b :: l, N, g, ar, r, w, hg, h => by
    rw [WfL] at w
    rw [rowsL] at h
    rw [depL]
    rcases List.mem_append.mp h with h | h
    · exact Nat.le_trans (row_bdB w.1 hg h) (Nat.mul_le_mul_right _ (by omega))
    · exact Nat.le_trans (row_bdL w.2 hg h) (Nat.mul_le_mul_right _ (by omega))
end
theorem row_bd {l : List Bx} (w : WfL 105 l) (d : depL l ≤ 3) {r : Row} (h : r ∈ rowsL 0 none l) : r.bg.natAbs < 2 ^ 110 ∧ r.en.natAbs < 2 ^ 110 := by
  have b := row_bdL (N := 0) w (by simp) h
  have wb := wf_rowsL w h
  have en := row_enL h
  cases hb : r.bx with | mk n o u inn =>
  rw [hb] at wb en
  rw [WfB] at wb
  have hu := wb.2.2.2.1
  have en : r.en = r.bg + u := en
  have b3 : r.bg.natAbs ≤ 3 * 2 ^ 105 := Nat.le_trans b (Nat.mul_le_mul_right _ (by omega))
  omega
theorem shn_ib {i : Int} {b : Bool} (h : i.natAbs < 2 ^ 110) : Shn (.list [.int i, .bool b]) := by
  obtain ⟨b1, b2⟩ := itx_len9 h
  refine ⟨?_, ?_, ?_⟩
  · simp only [PyData.showable, PyData.showableAll, decide_eq_true b2]
    rfl
  · simp [PyData.depth, PyData.depthAll]
  · have := listText_len_le (PyData.shownAll [.int i, .bool b])
    show (listText (PyData.shownAll [.int i, .bool b])).length ≤ 2000
    simp only [PyData.shownAll, List.map_cons, List.map_nil, List.sum_cons, List.sum_nil, List.length_cons, List.length_nil] at this
    have e1 : (PyData.shown (.int i)) = (toString i : Str) := by simp only [PyData.shown]
    have e2 : (PyData.shown (.bool b)).length ≤ 5 := by cases b <;> decide +kernel
    simp only [PyData.shownAll]
    rw [e1] at this ⊢
    omega
theorem sh_ib {K : PySem.W.Frag} {H : Hp} {l : Addr} {i : Int} {b : Bool} (h : H l = some (.lst [.int i, .bl b])) : Sh K H (.ref l) (.list [.int i, .bool b]) :=
  .dp (.lst (SqL.of h) (.cons (.int i) (.cons (.bl b) .nil))) rfl
theorem shn_ii {i j : Int} (h : i.natAbs < 2 ^ 110) (hj : j.natAbs < 2 ^ 110) : Shn (.tuple [.int i, .int j]) := by
  obtain ⟨b1, b2⟩ := itx_len9 h
  obtain ⟨c1, c2⟩ := itx_len9 hj
  refine ⟨?_, ?_, ?_⟩
  · simp only [PyData.showable, PyData.showableAll, decide_eq_true b2, decide_eq_true c2]
    rfl
  · simp [PyData.depth, PyData.depthAll]
  · have := tupleText_len_le (PyData.shownAll [.int i, .int j])
    show (tupleText (PyData.shownAll [.int i, .int j])).length ≤ 2000
    simp only [PyData.shownAll, List.map_cons, List.map_nil, List.sum_cons, List.sum_nil, List.length_cons, List.length_nil] at this
    have e1 : ∀ k : Int, (PyData.shown (.int k)) = (toString k : Str) := fun k => by simp only [PyData.shown]
    simp only [PyData.shownAll]
    rw [e1, e1] at this ⊢
    omega
theorem sh_ii {K : PySem.W.Frag} {H : Hp} {t : Addr} {i j : Int} (h : H t = some (.tup [.int i, .int j])) : Sh K H (.ref t) (.tuple [.int i, .int j]) :=
  .dp (.tup (SqT.of h) (.cons (.int i) (.cons (.int j) .nil))) rfl
theorem bt_same {K : PySem.W.Frag} {H : Hp} {a b : Addr} {ns : List Str} (ha : SqT K H a (ns.map V.str)) (hb : SqT K H b (ns.map V.str)) : BTup K BFlat (.ref a) (.ref b) H true := by
  refine ⟨a, b, _, _, rfl, rfl, ha, hb, fun _ => true, fun i x y hx hy => ?_, by rw [allT_true (fun _ _ => rfl)]; simp⟩
  rw [hx] at hy
  injection hy with hy
  subst hy
  rw [List.getElem?_map] at hx
  obtain ⟨z, _, rfl⟩ := Option.map_eq_some_iff.mp hx
  exact ⟨rfl, rfl, beq_self_eq_true z⟩
theorem bl_same {H : Hp} {a b : Addr} {ns : List Str} (ha : H a = some (.lst (ns.map V.str))) (hb : H b = some (.lst (ns.map V.str))) : BList BFlat (.ref a) (.ref b) H true := by
  refine ⟨a, b, _, _, rfl, rfl, ha, hb, Or.inr ⟨rfl, fun _ => true, fun i x y hx hy => ?_, (allT_true (fun _ _ => rfl)).symm⟩⟩
  rw [hx] at hy
  injection hy with hy
  subst hy
  rw [List.getElem?_map] at hx
  obtain ⟨z, _, rfl⟩ := Option.map_eq_some_iff.mp hx
  exact ⟨rfl, rfl, beq_self_eq_true z⟩
theorem if_known {tc : TT} {tb te : TS} {D : Ends} {σ : L2.St} {H : Hp} (b : Bool) (I : Hp → Prop) (h : ∀ N : Bool → Hp → Prop, (∀ H', I H' → N b H') → tc σ H N) (g : ∀ H', I H' → if b = true then tb D σ H' else te D σ H') : tIfS tc tb te D σ H := h _ g
theorem seq_join {s u : TS} {D : Ends} {σ : L2.St} {H : Hp} (I : L2.St → Hp → Prop) (h : ∀ N : L2.St → Hp → Prop, (∀ σ' H', I σ' H' → N σ' H') → s { D with nx := N } σ H) (k : ∀ σ' H', I σ' H' → u D σ' H') : tSeq s u D σ H := h (u D) k
def spPRight : Sp := fun vs H Q _ => ∃ (p lp : Addr) (n : Nat), vs = [.ref p] ∧ PenL H p lp n ∧ n < 80000 ∧ ∀ H', PenL H' p lp (n + 500) → Q (.bl true) H'
section
variable {P : Program} {w : World} {K : PySem.W.Frag} {mg : Str → Option Value} {base : Heap} {d : Ad}
theorem G__law_right (T : Tx K mg d) : FnG P w K mg base CX0 27 d._law_right spPRight := by
  have G__law_draw : FnR P w K mg base CX0 1 d._law_draw spDrawL := G__law_drawL T
  have G__law_page := G__law_page (P := P) (w := w) (base := base) T
  have G__law_page_made := G__law_page_made (P := P) (w := w) (base := base) T
  have G__law_box_right := G__law_box_right (P := P) (w := w) (base := base) T 12
  have G__law_all := G__law_all (P := P) (w := w) (base := base) T 11
  have G_Page_names := G_Page_names (P := P) (w := w) (base := base) T
  have G_Page___str__ := G_Page___str__ (P := P) (w := w) (base := base) T
  have G_Page___eq__ := G2_Page___eq__ (P := P) (w := w) (base := base) T
  have G_Page___contains__ := GX_Page___contains__ (P := P) (w := w) (base := base) T
  have G_Page___len__ := G_Page___len__ (P := P) (w := w) (base := base) T
  have G_Page___getitem__ := G_Page___getitem__ (P := P) (w := w) (base := base) T
  have GI_Page___iter__ := GI_Page___iter__ (P := P) (w := w) (base := base) T
  have G_Page_around := G_Page_around (P := P) (w := w) (base := base) T
  have GK_Page_around := GK_Page_around (P := P) (w := w) (base := base) T
  have GK_Page_box := GK_Page_box (P := P) (w := w) (base := base) T
  have GK_Page_within := GK_Page_within (P := P) (w := w) (base := base) T
  have G_Page_some := G_Page_some (P := P) (w := w) (base := base) T
  have GK_Page_some := GK_Page_some (P := P) (w := w) (base := base) T
  obtain ⟨fd, F⟩ := T.F__law_right
  refine fnG_of (k := 26) F sc__law_right (sp := spPRight) (fun vs H Q E h => ?_) (fun cdv A outer s H vs Q E ng hr h => ?_) (F.binds fun _ _ _ _ _ _ us hl => match us, hl with | [_], _ => rfl)
  · obtain ⟨p, lp, n, rfl, _⟩ := h
    rfl
  · obtain ⟨p, lp, n, rfl, hp, hn, k⟩ := h
    -- T.z_Page T.q_Page_eq T.t_Page T.pr_Page_names T.w_Page_str T.w_Page_tuple T.i_list_is_Page T.i_str_is_Page T.i_tuple_is_Page T.i_dict_is_str T.i_list_is_str T.i_tuple_is_str T.i_int_is_str T.i_bool_is_str T.i_NoneType_is_str T.ln_Page T.nb_Page T.gi_Page
    -- slots: 0 _law_pen_here, 1 _law_boxes_here, 2 _law_made, 3 _law_rows, 4 _law_names, 5 _law_row, 6 _law_name, 7 _law_one, 8 _law_other, 9 _law_begin, 10 _law_end, 11 _law_around, 12 _law_plain, 13 _law_odd, 14 _law_first, 15 _law_last
    refine ⟨_, (pss_cons (ps_set (i := 1) sc__law_right.nd rfl (Or.inl rfl) (pe_fnR G__law_page (hr.mono (by decide)) T.k__law_page T.m__law_page pass0 (pa_cons (pv 0) pa_nil)))
      (pss_cons (ps_par (i := 2) (j := 3) (by rfl) sc__law_right.nd rfl rfl (by decide) rfl rfl (pa_cons (pe_fnR G__law_page_made (hr.mono (by decide)) T.k__law_page_made T.m__law_page_made pass0 (pa_cons (pv 1) pa_nil)) (pa_cons (pe_fnR G__law_all (hr.mono (by decide)) T.k__law_all T.m__law_all pass0 (pa_cons (pv 1) pa_nil)) pa_nil)) (by rfl))
      (pss_cons (ps_setLc (own := [("_law_row", 5)]) (g := gName 5) (i := 4) (by rfl) sc__law_right.nd rfl rfl (sw_true rfl rfl rfl rfl) (pi_list (pv 3)) (blkOk_by (own := [("_law_row", 5)]) (N := ["_law_pen_here", "_law_boxes_here", "_law_made", "_law_rows", "_law_names", "_law_row", "_law_name", "_law_one", "_law_other", "_law_begin", "_law_end", "_law_around", "_law_plain", "_law_odd", "_law_first", "_law_last"]) (sc := defScope s__law_right) (by decide +kernel)) (fun _ _ _ _ _ => pg_name (i := 5) sc__law_right.nd rfl (Or.inl rfl)) (fun _ _ _ _ _ => pts_nil) (fun _ _ _ _ _ => (pe_ix (ix_seqK (K := K) rfl) (pv 5) pe_int (fun _ _ => rfl))))
      (pss_cons (ps_if (PW.pt (pw_or (pt_cmpR (op_or2 (uNeP (hr.mono (by decide))) (op_ownNV T.z_Page G_Page___eq__ (hr.mono (by decide)) pass0)) (pe_propR (pv 2) T.c_Page T.pr_Page_names G_Page_names (hr.mono (by decide)) pass0) (pe_callTy call_tuple_of (by rfl) T.n_tuple (by decide +kernel) (pa_cons (pv 4) pa_nil)) (nomark _)) (pw_or (pt_cmpR (op_or2 (uNeP (hr.mono (by decide))) (op_ownNV T.z_Page G_Page___eq__ (hr.mono (by decide)) pass0)) (pe_lc (own := [("_law_name", 6)]) (g := gName 6) (by rfl) sc__law_right.nd (pi_ownT T.it_Page GI_Page___iter__ (hr.mono (by decide)) pass0 (pv 2)) (blkOk_by (own := [("_law_name", 6)]) (N := ["_law_pen_here", "_law_boxes_here", "_law_made", "_law_rows", "_law_names", "_law_row", "_law_name", "_law_one", "_law_other", "_law_begin", "_law_end", "_law_around", "_law_plain", "_law_odd", "_law_first", "_law_last"]) (sc := defScope s__law_right) (by decide +kernel)) (fun _ _ _ _ _ => pg_name (i := 6) sc__law_right.nd rfl (Or.inl rfl)) (fun _ _ _ _ _ => pts_nil) (fun _ _ _ _ _ => (pv 6))) (pv 4) (nomark _)) (pw_or1 (pt_cmpR (op_or2 (uNeP (hr.mono (by decide))) (op_ownNV T.z_Page G_Page___eq__ (hr.mono (by decide)) pass0)) (pe_callB (call_reprS ng hr.units70) (by rfl) T.n_repr (by decide +kernel) (pa_cons (pe_lst (pa_cons (pe_callB (CallR.or' call_len_seq (call_lenF T.ln_Page G_Page___len__ (hr.mono (by decide)) pass0)) (by rfl) T.n_len (by decide +kernel) (pa_cons (pv 2) pa_nil)) (pa_cons (pe_callTy (call_boolL T.ln_Page T.nb_Page G_Page___len__ (hr.mono (by decide)) pass0) (by rfl) T.n_bool (by decide +kernel) (pa_cons (pv 2) pa_nil)) pa_nil))) pa_nil)) (pe_callB (call_reprS ng hr.units70) (by rfl) T.n_repr (by decide +kernel) (pa_cons (pe_lst (pa_cons (pe_callB (CallR.or' call_len_seq (call_lenF T.ln_Page G_Page___len__ (hr.mono (by decide)) pass0)) (by rfl) T.n_len (by decide +kernel) (pa_cons (pv 4) pa_nil)) (pa_cons (pe_cmpR (op_or2 (uNeP (hr.mono (by decide))) (op_ownNV T.z_Page G_Page___eq__ (hr.mono (by decide)) pass0)) (pv 4) (pe_lst pa_nil) (nomark _)) pa_nil))) pa_nil)) (nomark _)))))) (pss_one (ps_ret pe_bl)) pss_nil)
      (pss_cons (ps_if (PW.pt (pw_or (pt_not (pt_val (pe_callB uIsi (by rfl) T.n_isinstance (by decide +kernel) (pa_cons (pe_fld (pv 2) rfl) (pa_cons (pe_bltn (v := .ty "tuple") (by rfl) T.n_tuple (by decide +kernel) rfl) pa_nil))))) (pw_or (pt_cmpR (op_or2 (uNeP (hr.mono (by decide))) (op_ownNV T.z_Page G_Page___eq__ (hr.mono (by decide)) pass0)) (pe_callB (CallR.or' call_len_seq (call_lenF T.ln_Page G_Page___len__ (hr.mono (by decide)) pass0)) (by rfl) T.n_len (by decide +kernel) (pa_cons (pe_fld (pv 2) rfl) pa_nil)) (pe_callB (CallR.or' call_len_seq (call_lenF T.ln_Page G_Page___len__ (hr.mono (by decide)) pass0)) (by rfl) T.n_len (by decide +kernel) (pa_cons (pv 1) pa_nil)) (nomark _)) (pw_or1 (pt_cmpR (op_or2 (uNeP (hr.mono (by decide))) (op_ownNV T.z_Page G_Page___eq__ (hr.mono (by decide)) pass0)) (pe_lc (own := [("_law_one", 7), ("_law_other", 8)]) (g := gTup K 2 (gCons (gName 7) (gCons (gName 8) gNil))) (by rfl) sc__law_right.nd (pi_zipM rfl T.n_zip (pa_cons (pe_fld (pv 2) rfl) (pa_cons (pv 1) pa_nil))) (blkOk_by (own := [("_law_one", 7), ("_law_other", 8)]) (N := ["_law_pen_here", "_law_boxes_here", "_law_made", "_law_rows", "_law_names", "_law_row", "_law_name", "_law_one", "_law_other", "_law_begin", "_law_end", "_law_around", "_law_plain", "_law_odd", "_law_first", "_law_last"]) (sc := defScope s__law_right) (by decide +kernel)) (fun _ _ _ _ _ => pg_tup (by rfl) (pgs_cons (pg_name (i := 7) sc__law_right.nd rfl (Or.inl rfl)) (pgs_cons (pg_name (i := 8) sc__law_right.nd rfl (Or.inl rfl)) pgs_nil))) (fun _ _ _ _ _ => pts_one (pt_not (pt_val (pe_fnG G__law_box_right ng (hr.mono (by decide)) T.k__law_box_right T.m__law_box_right pass0 (pa_cons (pv 7) (pa_cons (pv 8) pa_nil)))))) (fun _ _ _ _ _ => pe_int)) (pe_lst pa_nil) (nomark _)))))) (pss_one (ps_ret pe_bl)) pss_nil)
      (pss_cons (ps_for PassesOwn.never rfl (pi_list (pv 3)) (pg_tup (by rfl) (pgs_cons (pg_name (i := 6) sc__law_right.nd rfl (Or.inl rfl)) (pgs_cons (pg_name (i := 9) sc__law_right.nd rfl (Or.inl rfl)) (pgs_cons (pg_name (i := 10) sc__law_right.nd rfl (Or.inl rfl)) (pgs_cons (pg_name (i := 11) sc__law_right.nd rfl (Or.inl rfl)) (pgs_cons (pg_name (i := 12) sc__law_right.nd rfl (Or.inl rfl)) pgs_nil)))))) (pss_cons (ps_if (PW.pt (pw_or (pt_cmpR (op_or2 (uNeP (hr.mono (by decide))) (op_ownNV T.z_Page G_Page___eq__ (hr.mono (by decide)) pass0)) (pe_callB (call_reprS ng hr.units70) (by rfl) T.n_repr (by decide +kernel) (pa_cons (pe_ixO T.gi_Page G_Page___getitem__ (hr.mono (by decide)) pass0 (pv 2) (pv 6) (fun _ _ => rfl)) pa_nil)) (pe_callB (call_reprS ng hr.units70) (by rfl) T.n_repr (by decide +kernel) (pa_cons (pe_tup (pa_cons (pv 9) (pa_cons (pv 10) pa_nil))) pa_nil)) (nomark _)) (pw_or (pt_cmpR (op_or2 (uNeP (hr.mono (by decide))) (op_ownNV T.z_Page G_Page___eq__ (hr.mono (by decide)) pass0)) (pe_mR (pv 2) T.c_Page T.h_Page_around G_Page_around (hr.mono (by decide)) pass0 (pa_cons (pv 6) pa_nil)) (pv 11) (nomark _)) (pw_or1 (pt_not (pt_val (pe_fnG G__law_box_right ng (hr.mono (by decide)) T.k__law_box_right T.m__law_box_right pass0 (pa_cons (pe_mRk (pv 2) T.c_Page T.h_Page_box GK_Page_box (hr.mono (by decide)) pass0 (pk_cons (pv 6) pk_nil)) (pa_cons (pv 12) pa_nil))))))))) (pss_one (ps_ret pe_bl)) pss_nil)
      (pss_one (ps_if (PW.pt (pw_or (pt_cmpR (op_or2 (uNeP (hr.mono (by decide))) (op_ownNV T.z_Page G_Page___eq__ (hr.mono (by decide)) pass0)) (pe_mRk (pv 2) T.c_Page T.h_Page_within GK_Page_within (hr.mono (by decide)) pass0 (pk_cons (pv 6) pk_nil)) (pe_fnR G__law_page_made (hr.mono (by decide)) T.k__law_page_made T.m__law_page_made pass0 (pa_cons (pe_ix ix_seq (pv 12) pe_int (fun _ _ => rfl)) pa_nil)) (nomark _)) (pw_or (pt_cmpR (op_notInR T.in_Page G_Page___contains__ (hr.mono (by decide)) pass0) (pv 6) (pv 2) rfl) (pw_or1 (pt_cmpR (op_or2 (uNeP (hr.mono (by decide))) (op_ownNV T.z_Page G_Page___eq__ (hr.mono (by decide)) pass0)) (pe_mRk (pv 2) T.c_Page T.h_Page_around GK_Page_around (hr.mono (by decide)) pass0 (pk_cons (pv 6) pk_nil)) (pv 11) (nomark _)))))) (pss_one (ps_ret pe_bl)) pss_nil))))
      (pss_cons (ps_for PassesOwn.never rfl (pi_list (pe_lst (pa_cons pe_str (pa_cons pe_str (pa_cons pe_non (pa_cons pe_int (pa_cons pe_bl (pa_cons (pe_tup (pa_cons pe_str pa_nil)) (pa_cons (pe_lst (pa_cons pe_str pa_nil)) (pa_cons pe_dnewK pa_nil)))))))))) (pg_name (i := 13) sc__law_right.nd rfl (Or.inl rfl)) (pss_one (ps_if (pt_cmpR (op_inR T.in_Page G_Page___contains__ (hr.mono (by decide)) pass0) (pv 13) (pv 2) rfl) (pss_one (ps_ret pe_bl)) pss_nil)))
      (pss_cons (ps_set (i := 14) sc__law_right.nd rfl (Or.inl rfl) (pe_fnR G__law_draw (hr.mono (by decide)) T.k__law_draw T.m__law_draw pass0 (pa_cons (pv 0) (pa_cons (pe_op uAdd (pe_callB (CallR.or' call_len_seq (call_lenF T.ln_Page G_Page___len__ (hr.mono (by decide)) pass0)) (by rfl) T.n_len (by decide +kernel) (pa_cons (pv 1) pa_nil)) pe_int) pa_nil))))
      (pss_cons (ps_set (i := 15) sc__law_right.nd rfl (Or.inl rfl) (pe_op uAdd (pv 14) (pe_fnR G__law_draw (hr.mono (by decide)) T.k__law_draw T.m__law_draw pass0 (pa_cons (pv 0) (pa_cons (pe_op uAdd (pe_op uSub (pe_callB (CallR.or' call_len_seq (call_lenF T.ln_Page G_Page___len__ (hr.mono (by decide)) pass0)) (by rfl) T.n_len (by decide +kernel) (pa_cons (pv 1) pa_nil)) (pv 14)) pe_int) pa_nil)))))
      (pss_cons (ps_if (PW.pt (pw_or (pt_cmpR (op_or2 (uNeP (hr.mono (by decide))) (op_ownNV T.z_Page G_Page___eq__ (hr.mono (by decide)) pass0)) (pe_mR (pv 2) T.c_Page T.h_Page_some G_Page_some (hr.mono (by decide)) pass0 (pa_cons (pv 14) (pa_cons (pv 15) pa_nil))) (pe_fnR G__law_page_made (hr.mono (by decide)) T.k__law_page_made T.m__law_page_made pass0 (pa_cons (pe_slice sl_list (pv 1) (po_some (pv 14)) (po_some (pv 15))) pa_nil)) (nomark _)) (pw_or1 (pt_cmpR (op_or2 (uNeP (hr.mono (by decide))) (op_ownNV T.z_Page G_Page___eq__ (hr.mono (by decide)) pass0)) (pe_mRk (pv 2) T.c_Page T.h_Page_some GK_Page_some (hr.mono (by decide)) pass0 (pk_cons (pv 15) (pk_cons (pv 14) pk_nil))) (pe_mR (pv 2) T.c_Page T.h_Page_some G_Page_some (hr.mono (by decide)) pass0 (pa_cons (pv 14) (pa_cons (pv 15) pa_nil))) (nomark _))))) (pss_one (ps_ret pe_bl)) pss_nil)
      (pss_cons (ps_set (i := 8) sc__law_right.nd rfl (Or.inl rfl) (pe_fnR G__law_page (hr.mono (by decide)) T.k__law_page T.m__law_page pass0 (pa_cons (pv 0) pa_nil)))
      (pss_one (ps_ret (pe_and (pe_cmpR (uEqD (hr.mono (by decide))) (pe_cmpR (uEqD (hr.mono (by decide))) (pv 2) (pe_fnR G__law_page_made (hr.mono (by decide)) T.k__law_page_made T.m__law_page_made pass0 (pa_cons (pv 8) pa_nil)) (nomark _)) (pe_cmpR (uEqD (hr.mono (by decide))) (pv 1) (pv 8) (nomark _)) (nomark _)) (pe_and (pe_cmpR (uEqD (hr.mono (by decide))) (pv 2) (pe_fnR G__law_page_made (hr.mono (by decide)) T.k__law_page_made T.m__law_page_made pass0 (pa_cons (pv 1) pa_nil)) (nomark _)) (pe_and (pe_cmpR (op_or2 (uNeP (hr.mono (by decide))) (op_ownNV T.z_Page G_Page___eq__ (hr.mono (by decide)) pass0)) (pv 2) (pe_callTy (uStrF T.t_Page G_Page___str__ (hr.mono (by decide)) pass0) (by rfl) T.n_str (by decide +kernel) (pa_cons (pv 2) pa_nil)) (nomark _)) (pe_one (pe_cmpR (op_or2 (uNeP (hr.mono (by decide))) (op_ownNV T.z_Page G_Page___eq__ (hr.mono (by decide)) pass0)) (pv 2) (pe_fld (pv 2) rfl) (nomark _))))))))))))))))))), ?_⟩
    refine ⟨_, rfl, p, lp, n, rfl, hp, by omega, fun a H1 xs l ha ha1 hl lv th hp1 u1 => ?_⟩
    have wfl : WfL 105 l := lv.1
    have hap := (pen_ne hp ha).1
    clear hp ha u1
    have okp := lv.okp (by decide)
    have dep := lv.dep (by decide)
    dsimp only [List.set, L2.start]
    refine ⟨_, rfl, [p], a, xs, l, rfl, ha1, held1 hp1, hl, okp, th, dep, fun v H2 e2 hv => ?_⟩
    have hp2 := pen_up hp1 e2
    refine ⟨_, rfl, [p], a, 0, none, xs, l, rfl, e2 _ _ ha1, held1 hp2, hl.same e2, okp.1, dep, fun ra H3 zs e3 hra hra3 hzz => ⟨_, _, rfl, ?_⟩⟩
    have e23 := e2.trans e3
    have ha3 := e23 _ _ ha1
    have hl3 := hl.same e23
    have hv3 := hv.same e3
    have hp3 := pen_up hp1 e23
    have hrap := (pen_ne hp2 hra).1
    clear ha1 hl hv hp1 hp2 e2 e3 e23 hra
    have zlen := pd_len hzz
    have rl : (rowsL 0 none l).map Row.nm = namesL l := rowsL_nm
    dsimp only [List.set]
    refine ⟨_, rfl, ra, rfl, ⟨zs, SqL.of hra3⟩, fun D hD => ?_⟩
    have hDp : D ≠ p := (pen_ne hp3 hD).1
    refine lc_list (xs := zs) (fun j H' => Same H3 H' ∧ H' D = some (.lst (((rowsL 0 none l).take j).map fun r => V.str r.nm))) ⟨sameNew hD, upd_same⟩ (fun j H' _ g => SqL.of (g.1 _ _ hra3)) (fun j y H' hy g => ?_) (fun H4 g => ?_)
    · obtain ⟨e, hd⟩ := g
      obtain ⟨r, hr1, hrow⟩ := pd_at hzz hy
      obtain ⟨t, bv, rfl, ht, _⟩ := hrow
      refine ⟨rfl, yes_then ⟨_, rfl, ixt (j := 0) (e _ _ ht) rfl ⟨_, hd, ?_, same_at e hD, ?_⟩⟩⟩
      · rw [List.length_map, List.length_take]
        have := (List.getElem?_eq_some_iff.mp hr1).1
        have l2 := congrArg List.length rl
        rw [List.length_map] at l2
        have := okp.2
        exact Nat.lt_of_le_of_lt (show _ ≤ 24 by omega) (by decide)
      · rw [upd_same, take_at hr1, List.map_append]
        rfl
    obtain ⟨e4, hd⟩ := g
    rw [zlen, List.take_of_length_le (Nat.le_refl _)] at hd
    have hd : H4 D = some (.lst ((namesL l).map V.str)) := by rw [hd, ← rl, List.map_map]; rfl
    have ha4 := e4 _ _ ha3
    have hl4 := hl3.same e4
    have hv4 := hv3.same e4
    have hp4 := pen_up hp3 e4
    have hr4 := e4 _ _ hra3
    have hzz4 := pd_imp (fun q => RowP.same q e4) hzz
    clear e4 ha3 hl3 hv3 hp3 hra3 hzz hD
    obtain ⟨va, vx, vb, vn, vd, vxs, vkvs, vrs, rfl, hv1, _⟩ := id hv4
    dsimp only [gName, List.set]
    refine seq_join (fun σ' H' => σ' = [some (.ref p), some (.ref a), some (.ref va), some (.ref ra), some (.ref D), none, none, none, none, none, none, none, none, none, none, none] ∧ Same H4 H') (fun N hN => ?_) (fun σ' H5 q => ?_)
    · refine if_known false (fun H' => Same H4 H') (fun N2 hN2 => ?_) (fun H5 e5 => iteF (hN _ _ ⟨rfl, e5⟩))
      refine ⟨_, rfl, va, _, _, rfl, hv1, ?_⟩
      refine ⟨_, l, rfl, hv4, fun pn hpn => ?_⟩
      refine ⟨_, rfl, D, _, rfl, Or.inl ⟨SqL.of hd, fun tu htu => Or.inl (Or.inr (Or.inr (Or.inr ⟨true, bt_same ((hpn.same (sameNew htu)).sq) (SqT.of upd_same), fun H5 e5 => ⟨_, rfl, ?_⟩⟩)))⟩⟩
      have e5 : Same H4 H5 := (sameNew htu).trans e5
      refine ifF rfl ?_
      have hd5 := e5 _ _ hd
      have hv5 := hv4.same e5
      refine ⟨_, rfl, va, vx, _, rfl, e5 _ _ hv1, fun nn => ⟨_, l, rfl, hv5, fun t it ht ni nle => ⟨it, t, rfl, nle, upd_same, ?_⟩⟩⟩
      rw [ItX.dropH_upd ni]
      intro D2 hD2
      have nl : (namesL l).length ≤ 24 := okp.2
      refine lc_tup (xs := (namesL l).map V.str) (fun j H' => Same H5 H' ∧ H' D2 = some (.lst (((namesL l).take j).map V.str))) ⟨sameNew hD2, upd_same⟩ (fun j H' _ g => (ht.same g.1).sq) (fun j y H' hy g => ?_) (fun H6 g => ?_)
      · obtain ⟨e, hd2⟩ := g
        rw [List.getElem?_map] at hy
        obtain ⟨z, hz, rfl⟩ := Option.map_eq_some_iff.mp hy
        refine ⟨rfl, yes_then ⟨_, rfl, _, hd2, ?_, same_at e hD2, ?_⟩⟩
        · rw [List.length_map, List.length_take]
          exact Nat.lt_of_le_of_lt (show _ ≤ 24 by omega) (by decide)
        · rw [upd_same, take_at hz, List.map_append]
          rfl
      obtain ⟨e6, hd6⟩ := g
      rw [List.length_map, List.take_of_length_le (Nat.le_refl _)] at hd6
      have hv6 := hv5.same e6
      have e46 := e5.trans e6
      refine ⟨_, rfl, Or.inl (Or.inr (Or.inr (Or.inl ⟨true, bl_same hd6 (e6 _ _ hd5), fun H7 e7 => ⟨_, rfl, ifF rfl ?_⟩⟩)))⟩
      have hv7 := hv6.same e7
      have hd7 := e7 _ _ (e6 _ _ hd5)
      have e47 := e46.trans e7
      have nb : ((((namesL l).length : Nat) : Int)).natAbs < 2 ^ 110 := by
        have : ((((namesL l).length : Nat) : Int)).natAbs < 2 ^ 5 := by omega
        exact Nat.lt_of_lt_of_le this (by decide)
      have n62 : (namesL l).length < 2 ^ 62 := Nat.lt_of_le_of_lt nl (by decide)
      have eb : (!((namesL l).map V.str).isEmpty) = ((((namesL l).length : Nat) : Int) != 0) := by
        cases namesL l with
        | nil => rfl
        | cons a b => simp; omega
      refine ⟨_, rfl, Or.inr ⟨va, vx, _, rfl, e47 _ _ hv1, ⟨_, l, rfl, hv7, ⟨_, rfl, n62, ?_⟩⟩⟩⟩
      refine ⟨_, rfl, va, vx, _, rfl, e47 _ _ hv1, ⟨_, l, rfl, hv7, ⟨_, rfl, n62, (by show 2 ≤ sizeLine; decide), fun l1 h1 => ⟨.ref l1, _, rfl, sh_ib upd_same, shn_ib nb, ?_⟩⟩⟩⟩
      have e8 := sameNew h1 (o := .lst [.int ((namesL l).length : Nat), .bl ((((namesL l).length : Nat) : Int) != 0)])
      refine ⟨_, rfl, Or.inl ⟨D, _, rfl, Or.inl (SqL.of (e8 _ _ hd7)), ?_⟩⟩
      refine ⟨_, rfl, Nat.zero_le _, fun r hr1 => Or.inl (Or.inr (Or.inr (Or.inl ⟨_, bl_nil (sameNew hr1 _ _ (e8 _ _ hd7)) upd_same, fun H9 e9 => ⟨(by show 2 ≤ sizeLine; decide), fun l2 h2 => ?_⟩⟩)))⟩
      rw [eb, List.length_map]
      refine ⟨.ref l2, _, rfl, sh_ib upd_same, shn_ib nb, Or.inl (Or.inl ⟨rfl, _, rfl, ?_⟩)⟩
      have e10 := (e47.trans e8).trans ((sameNew hr1).trans e9)
      rw [show (!decide (V.str (PyData.list [.int ((namesL l).length : Nat), .bool ((((namesL l).length : Nat) : Int) != 0)]).shown = V.str (PyData.list [.int ((namesL l).length : Nat), .bool ((((namesL l).length : Nat) : Int) != 0)]).shown)) = false by simp]
      exact hN2 _ (e10.trans (sameNew h2))
    · obtain ⟨rfl, e5⟩ := q
      have ha5 := e5 _ _ ha4
      have hl5 := hl4.same e5
      have hv5 := hv4.same e5
      have hv51 := e5 _ _ hv1
      have hp5 := pen_up hp4 e5
      have hr5 := e5 _ _ hr4
      have hzz5 := pd_imp (fun q => RowP.same q e5) hzz4
      clear e5 ha4 hl4 hv4 hv1 hp4 hr4 hzz4 hd
      refine seq_join (fun σ' H' => σ' = [some (.ref p), some (.ref a), some (.ref va), some (.ref ra), some (.ref D), none, none, none, none, none, none, none, none, none, none, none] ∧ Same H5 H') (fun N hN => ?_) (fun σ' H6 q => ?_)
      · refine if_known false (fun H' => Same H5 H') (fun N2 hN2 => ?_) (fun H6 e6 => iteF (hN _ _ ⟨rfl, e6⟩))
        obtain ⟨va2, vx2, vb2, vn2, vd2, vxs2, vkvs2, vrs2, eva, hv52, hb5, hbs5, _⟩ := id hv5
        injection eva with eva
        subst eva
        have bl := hbs5.len
        have xl := hl5.len
        refine ⟨_, rfl, va, d.Page, vx2, _, _, rfl, hv52, T.c_Page, T.a_Page_boxes, rfl, Or.inl ⟨_, _, _, _, true, rfl, .ty _, .base (.tup hb5), T.i_tuple_is_tuple, true, rfl, iteF ?_⟩⟩
        refine ⟨_, rfl, va, d.Page, vx2, _, _, rfl, hv52, T.c_Page, T.a_Page_boxes, rfl, Or.inl ⟨vb2, _, rfl, Or.inr (SqT.of hb5), _, rfl, Or.inl ⟨a, _, rfl, Or.inl (SqL.of ha5), Or.inl (Or.inl ⟨rfl, _, rfl, ifF (by rw [bl, xl]; simp) ?_⟩)⟩⟩⟩
        refine ⟨_, rfl, va, d.Page, vx2, _, _, rfl, hv52, T.c_Page, T.a_Page_boxes, rfl, _, rfl, vb2, a, vxs2, xs, rfl, SqT.of hb5, SqL.of ha5, fun D2 hD2 => ?_⟩
        refine lc_zipM (bl.trans xl.symm) (fun i H' => Same H5 H' ∧ H' D2 = some (.lst [])) ⟨sameNew hD2, upd_same⟩ (fun i H' g => ⟨SqT.of (g.1 _ _ hb5), SqL.of (g.1 _ _ ha5)⟩) (fun i x y tp H' hx hy htp g => ?_) (fun H' g => ?_)
        · obtain ⟨e, hd2⟩ := g
          obtain ⟨b, hbi, hxb⟩ := pd_at (isBs_pd.mp hbs5) hx
          obtain ⟨b2, hbi2, hyb⟩ := pd_at (isPL_pd.mp hl5) hy
          rw [hbi] at hbi2
          injection hbi2 with hbi2
          subst hbi2
          have bm := List.mem_of_getElem? hbi
          have hdep := dep_mem bm
          have e3 := sameNew htp (o := .tup [x, y])
          have e23 := e.trans e3
          refine ⟨tp, _, rfl, SqT.of upd_same, rfl, _, _, rfl, _, _, rfl, rfl, rfl, ?_⟩
          refine ⟨_, rfl, _, rfl, [p], x, y, b, rfl, (held1 hp5).same e23, hyb.same e23, hxb.same e23, wfL_all.mp wfl b bm, okp.1.mem bm, by omega, fun H7 e7 => ?_⟩
          exact ⟨true, rfl, iteF ⟨e23.trans e7, e7 _ _ (e3 _ _ hd2)⟩⟩
        · obtain ⟨e, hd2⟩ := g
          refine ⟨Nat.zero_le _, fun r hr1 => Or.inl (Or.inr (Or.inr (Or.inl ⟨true, bl_nil (sameNew hr1 _ _ hd2) upd_same, fun H7 e7 => ⟨_, rfl, ?_⟩⟩)))⟩
          exact hN2 _ ((e.trans (sameNew hr1)).trans e7)
      · obtain ⟨rfl, e6⟩ := q
        have ha6 := e6 _ _ ha5
        have hl6 := hl5.same e6
        have hv6 := hv5.same e6
        have hv61 := e6 _ _ hv51
        have hp6 := pen_up hp5 e6
        have hr6 := e6 _ _ hr5
        have hzz6 := pd_imp (fun q => RowP.same q e6) hzz5
        clear e6 ha5 hl5 hv5 hv51 hp5 hr5 hzz5
        have wf3 : depL l ≤ 3 := lv.2.2.2.2
        have zl24 : zs.length ≤ 24 := by
          have l2 := congrArg List.length rl
          rw [List.length_map] at l2
          rw [zlen, l2]
          exact okp.2
        refine seq_join (fun σ' H' => ∃ (z6 z9 z10 z11 z12 : Option V), σ' = [some (.ref p), some (.ref a), some (.ref va), some (.ref ra), some (.ref D), none, z6, none, none, z9, z10, z11, z12, none, none, none] ∧ Same H6 H') (fun N hN => ?_) (fun σ' H7 q => ?_)
        · refine ⟨_, rfl, ra, rfl, ⟨zs, SqL.of hr6⟩, for_list (D := { nx := N, rt := Q }) (xs := zs) (fun j σ' H' => ∃ (z6 z9 z10 z11 z12 : Option V), σ' = [some (.ref p), some (.ref a), some (.ref va), some (.ref ra), some (.ref D), none, z6, none, none, z9, z10, z11, z12, none, none, none] ∧ Same H6 H')
            ⟨_, _, _, _, _, rfl, Same.refl _⟩ (fun j σ' H' _ g => by obtain ⟨_, _, _, _, _, _, e⟩ := g; exact SqL.of (e _ _ hr6)) (fun j y σ' H7 hy g => ?_) (fun σ' H' g => by obtain ⟨z6, z9, z10, z11, z12, e, g⟩ := g; exact hN _ _ ⟨z6, z9, z10, z11, z12, e, g⟩)⟩
          obtain ⟨z6, z9, z10, z11, z12, rfl, e7⟩ := g
          obtain ⟨r, hri, hrow⟩ := pd_at hzz6 hy
          have rm := List.mem_of_getElem? hri
          obtain ⟨t, bv, rfl, ht, hbv⟩ := hrow
          have hx : r.nm ∈ namesL l := by rw [← rl]; exact List.mem_map.mpr ⟨r, rm, rfl⟩
          have nml := isNm_len (wf_nmL okp.1.1 hx)
          have one : ∀ r2 : Row, r2 ∈ rowsL 0 none l → r2.nm = r.nm → r2 = r := fun r2 h e => row_one okp.1.2.1 h rm e
          obtain ⟨bgb, enb⟩ := row_bd wfl wf3 rm
          refine ⟨t, _, rfl, SqT.of (e7 _ _ ht), rfl, _, _, rfl, _, _, rfl, _, _, rfl, _, _, rfl, _, _, rfl, rfl, ?_⟩
          dsimp only [List.set]
          refine seq_join (fun σ' H' => σ' = [some (.ref p), some (.ref a), some (.ref va), some (.ref ra), some (.ref D), none, some (.str r.nm), none, none, some (.int r.bg), some (.int r.en), some (arV r.ar), some bv, none, none, none] ∧ Same H6 H') (fun N3 hN3 => ?_) (fun σ' H8 q => ?_)
          · refine if_known false (fun H' => Same H6 H') (fun N2 hN2 => ?_) (fun H8 e8 => iteF (hN3 _ _ ⟨rfl, e8⟩))
            refine ⟨_, rfl, _, rfl, va, _, _, rfl, e7 _ _ hv61, ⟨_, r.nm, l, rfl, hv6.same e7, okp, hx, fun pp H8 r2 e8 hr2 hn2 hpp => ⟨.ref pp, _, rfl, sh_ii hpp, ?_, ?_⟩⟩⟩
            · rw [one r2 hr2 hn2]; exact shn_ii bgb enb
            rw [one r2 hr2 hn2]
            have e68 := e7.trans e8
            refine ⟨_, rfl, _, rfl, (by show 2 ≤ sizeLine; decide), fun t2 ht2 => ⟨.ref t2, _, rfl, sh_ii upd_same, shn_ii bgb enb, Or.inl (Or.inl ⟨rfl, _, rfl, ifF (by simp) ?_⟩)⟩⟩
            have e69 := e68.trans (sameNew ht2 (o := .tup [.int r.bg, .int r.en]))
            generalize upd H8 t2 (HO.tup [V.int r.bg, .int r.en]) = H9 at e69 ⊢
            clear e68 e8 hpp ht2
            refine ⟨_, rfl, va, _, _, rfl, e69 _ _ hv61, rfl, _, rfl, ⟨_, r.nm, l, rfl, hv6.same e69, okp, hx, fun H10 r3 e10 hr3 hn3 => ⟨_, rfl, Or.inl (Or.inl ⟨?_, _, rfl, ifF ?_ ?_⟩)⟩⟩⟩
            · rw [one r3 hr3 hn3]; cases r.ar <;> rfl
            · rw [one r3 hr3 hn3]; simp
            have e6a := e69.trans e10
            refine ⟨_, rfl, va, _, _, rfl, e6a _ _ hv61, rfl, _, rfl, ⟨_, r.nm, l, rfl, hv6.same e6a, okp, hx, fun bxv H11 r4 e11 hr4 hn4 hbx => ?_⟩⟩
            rw [one r4 hr4 hn4] at hbx
            have e6b := e6a.trans e11
            refine ⟨_, rfl, [p], bxv, bv, r.bx, rfl, (held1 hp6).same e6b, hbv.same e6b, hbx, wf_rowsL wfl rm, (row_ok okp rm).1, Nat.lt_of_le_of_lt (row_depL rm) dep, fun H12 e12 => ⟨true, rfl, ?_⟩⟩
            exact hN2 _ (e6b.trans e12)
          · obtain ⟨rfl, e8⟩ := q
            refine if_known false (fun H' => Same H6 H') (fun N2 hN2 => ?_) (fun H9 e9 => iteF ⟨_, _, _, _, _, rfl, e9⟩)
            refine ⟨_, rfl, va, _, _, rfl, e8 _ _ hv61, rfl, _, rfl, ⟨_, r.nm, l, rfl, hv6.same e8, okp, hx, fun wv H9 r2 e9 hr2 hn2 hw => ?_⟩⟩
            rw [one r2 hr2 hn2] at hw
            have e69 := e8.trans e9
            have hbv9 := hbv.same e69
            have oki := row_inn okp rm
            have thb := row_thinL th rm
            have dpb := row_depL rm
            cases hb : r.bx with | mk n1 o1 u1 inn =>
            rw [hb] at hw hbv9 oki thb dpb
            rw [IsPB] at hbv9
            obtain ⟨tb, li, xs2, rfl, _, htb, hli, hinn⟩ := hbv9
            rw [thinB] at thb
            rw [depB] at dpb
            refine ⟨_, rfl, ixt (j := 3) htb rfl ⟨[p], li, xs2, inn, rfl, hli, (held1 hp6).same e69, hinn, oki, thb.2, by omega, fun v3 H10 e10 hv3 => ?_⟩⟩
            have hw10 := hw.same e10
            obtain ⟨a4, x4, b4, n4, d4, xs4, kvs4, rs4, rfl, h41, _⟩ := id hw10
            obtain ⟨a5, x5, b5, n5, d5, xs5, kvs5, rs5, rfl, h51, _⟩ := id hv3
            refine Or.inl (Or.inr (Or.inl ⟨a4, d.Page, x4, _, _, CX0, 4, _, E0, rfl, h41, Or.inr ⟨a5, x5, _, rfl, h51⟩, T.z_Page, G_Page___eq__, hr.mono (by decide), pass0, ⟨_, _, inn, rfl, hw10, Or.inl ⟨inn, hv3, fun H11 e11 => ⟨_, rfl, _, rfl, ifF (by simp) ?_⟩⟩⟩⟩))
            have e6b := (e69.trans e10).trans e11
            refine ⟨_, rfl, _, rfl, va, _, _, rfl, e6b _ _ hv61, ⟨_, _, l, rfl, hv6.same e6b, okp, Or.inl ⟨r.nm, rfl, Nat.le_trans nml (by decide), fun H12 e12 => ⟨_, rfl, _, rfl, ifF (by rw [decide_eq_true hx]; rfl) ?_⟩⟩⟩⟩
            have e6c := e6b.trans e12
            refine ⟨_, rfl, va, _, _, rfl, e6c _ _ hv61, rfl, _, rfl, ⟨_, r.nm, l, rfl, hv6.same e6c, okp, hx, fun H13 r3 e13 hr3 hn3 => ⟨_, rfl, Or.inl (Or.inl ⟨?_, _, rfl, ?_⟩)⟩⟩⟩
            · rw [one r3 hr3 hn3]; cases r.ar <;> rfl
            rw [one r3 hr3 hn3, show (!decide (arV r.ar = arV r.ar)) = false by simp]
            exact hN2 _ (e6c.trans e13)
        · obtain ⟨z6, z9, z10, z11, z12, rfl, e7⟩ := q
          have ha7 := e7 _ _ ha6
          have hl7 := hl6.same e7
          have hv7 := hv6.same e7
          have hv71 := e7 _ _ hv61
          have hp7 := pen_up hp6 e7
          clear e7 ha6 hl6 hv6 hv61 hp6 hr6 hzz6
          have nob : ∀ x : Str, x ∉ names12 → x ∉ namesL l := fun x hx hm => by
            rcases lv.2.2.2.1 x hm with q | ⟨j, hj, _⟩
            · exact hx q
            · exact absurd hj (Nat.not_lt_zero _)
          refine seq_join (fun σ' H' => ∃ (z6 z9 z10 z11 z12 z13 : Option V), σ' = [some (.ref p), some (.ref a), some (.ref va), some (.ref ra), some (.ref D), none, z6, none, none, z9, z10, z11, z12, z13, none, none] ∧ Same H7 H') (fun N hN => ?_) (fun σ' H8 q => ?_)
          · refine ⟨(by show 1 ≤ sizeLine; decide), fun t1 h1 => ⟨(by show 1 ≤ sizeLine; decide), fun l1 h2 dd hdd => ⟨(by show 8 ≤ sizeLine; decide), fun L hL => ?_⟩⟩⟩
            have e1 := sameNew h1 (o := .tup [.str "a"])
            have e2 := sameNew h2 (o := .lst [.str "a"])
            have e3 := sameNew hdd (o := .dK [])
            have e4 := sameNew hL (o := .lst [.str "nobody", .str "", .non, .int 0, .bl true, .ref t1, .ref l1, .ref dd])
            have ht1 := e4 _ _ (e3 _ _ (e2 _ _ (upd_same (H := H7) (a := t1) (o := .tup [.str "a"]))))
            have hl1 := e4 _ _ (e3 _ _ (upd_same (H := upd H7 t1 (.tup [.str "a"])) (a := l1) (o := .lst [.str "a"])))
            have hd1 := e4 _ _ (upd_same (H := upd (upd H7 t1 (.tup [.str "a"])) l1 (.lst [.str "a"])) (a := dd) (o := .dK []))
            have hL1 : upd (upd (upd (upd H7 t1 (.tup [.str "a"])) l1 (.lst [.str "a"])) dd (.dK [])) L (.lst [.str "nobody", .str "", .non, .int 0, .bl true, .ref t1, .ref l1, .ref dd]) L = some (.lst [.str "nobody", .str "", .non, .int 0, .bl true, .ref t1, .ref l1, .ref dd]) := upd_same
            have e14 := ((e1.trans e2).trans e3).trans e4
            generalize upd (upd (upd (upd H7 t1 (.tup [.str "a"])) l1 (.lst [.str "a"])) dd (.dK [])) L (.lst [.str "nobody", .str "", .non, .int 0, .bl true, .ref t1, .ref l1, .ref dd]) = H8 at ht1 hl1 hd1 hL1 e14 ⊢
            clear e1 e2 e3 e4 h1 h2 hdd hL
            have odd : ∀ y ∈ ([.str "nobody", .str "", .non, .int 0, .bl true, .ref t1, .ref l1, .ref dd] : List V), ∀ H', Same H8 H' → (∃ x, y = .str x ∧ x.length ≤ 1000 ∧ x ∉ namesL l) ∨ ∃ t, TyX K H' y t ∧ PySem.W.kitOne K t (.type "str") = some false := fun y hy H' e => by
              simp only [List.mem_cons, List.not_mem_nil, or_false] at hy
              rcases hy with rfl | rfl | rfl | rfl | rfl | rfl | rfl | rfl
              · exact Or.inl ⟨_, rfl, by decide +kernel, nob _ (by decide +kernel)⟩
              · exact Or.inl ⟨_, rfl, by decide +kernel, nob _ (by decide +kernel)⟩
              · exact Or.inr ⟨_, .base .non, T.i_NoneType_is_str⟩
              · exact Or.inr ⟨_, .base (.int 0), T.i_int_is_str⟩
              · exact Or.inr ⟨_, .base (.bl true), T.i_bool_is_str⟩
              · exact Or.inr ⟨_, .base (.tup (e _ _ ht1)), T.i_tuple_is_str⟩
              · exact Or.inr ⟨_, .base (.lst (e _ _ hl1)), T.i_list_is_str⟩
              · exact Or.inr ⟨_, .base (.dK (e _ _ hd1)), T.i_dict_is_str⟩
            refine ⟨L, rfl, ⟨_, SqL.of hL1⟩, for_list (D := { nx := N, rt := Q }) (xs := [.str "nobody", .str "", .non, .int 0, .bl true, .ref t1, .ref l1, .ref dd]) (fun j σ' H' => ∃ (z13 : Option V), σ' = [some (.ref p), some (.ref a), some (.ref va), some (.ref ra), some (.ref D), none, z6, none, none, z9, z10, z11, z12, z13, none, none] ∧ Same H8 H')
              ⟨_, rfl, Same.refl _⟩ (fun j σ' H' _ g => by obtain ⟨_, _, e⟩ := g; exact SqL.of (e _ _ hL1)) (fun j y σ' H9 hy g => ?_) (fun σ' H' g => by obtain ⟨z13, e, g⟩ := g; exact hN _ _ ⟨_, _, _, _, _, z13, e, e14.trans g⟩)⟩
            obtain ⟨z13, rfl, e9⟩ := g
            have e79 := e14.trans e9
            refine ⟨_, rfl, _, rfl, va, _, _, rfl, e79 _ _ hv71, ⟨_, y, l, rfl, hv7.same e79, okp, ?_⟩⟩
            rcases odd y (List.mem_of_getElem? hy) H9 e9 with ⟨x, rfl, xl, xn⟩ | ⟨t, ty, kt⟩
            · exact Or.inl ⟨x, rfl, xl, fun H' e => ⟨_, rfl, _, rfl, ifF (decide_eq_false xn) ⟨_, rfl, e9.trans e⟩⟩⟩
            · exact Or.inr ⟨t, ty, kt, fun H' e => ⟨_, rfl, _, rfl, iteF ⟨_, rfl, e9.trans e⟩⟩⟩
          · obtain ⟨z6, z9, z10, z11, z12, z13, rfl, e8⟩ := q
            have ha8 := e8 _ _ ha7
            have hl8 := hl7.same e8
            have hv8 := hv7.same e8
            have hv81 := e8 _ _ hv71
            have hp8 := pen_up hp7 e8
            clear e8 ha7 hl7 hv7 hv71 hp7
            have xl := hl8.len
            have ll := okp.1.len
            refine ⟨_, rfl, _, rfl, Or.inl ⟨a, _, rfl, Or.inl (SqL.of ha8), Or.inl ⟨_, _, rfl, rfl, p, lp, _, _, rfl, hp8, by omega, by omega, by omega, fun f H9 f0 f1 hp9 u9 => ?_⟩⟩⟩
            obtain ⟨i, rfl⟩ : ∃ i : Nat, f = (i : Int) := ⟨f.toNat, by omega⟩
            have ha9 := u9.lst ha8 hap
            have hl9 : IsPL [p] H9 xs l := hl8.upx (Upx.up u9 (List.mem_cons_self ..)) fun _ h => h
            have hv9 := hv8.up u9
            have hv91 := u9.ins hv81
            clear u9 ha8 hl8 hv8 hv81 hp8
            dsimp only [List.set]
            refine ⟨_, rfl, _, rfl, _, rfl, Or.inl ⟨a, _, rfl, Or.inl (SqL.of ha9), _, rfl, Or.inl ⟨_, _, rfl, rfl, Or.inl ⟨_, _, rfl, rfl, p, lp, _, _, rfl, hp9, by omega, by omega, by omega, fun f2 H10 f20 f21 hp10 u10 => Or.inl ⟨_, _, rfl, rfl, ?_⟩⟩⟩⟩⟩
            obtain ⟨dn, rfl⟩ : ∃ i : Nat, f2 = (i : Int) := ⟨f2.toNat, by omega⟩
            have ha10 := u10.lst ha9 hap
            have hl10 : IsPL [p] H10 xs l := hl9.upx (Upx.up u10 (List.mem_cons_self ..)) fun _ h => h
            have hv10 := hv9.up u10
            have hv101 := u10.ins hv91
            clear u10 ha9 hl9 hv9 hv91 hp9
            dsimp only [gName, List.set]
            rw [show ((i : Int) + (dn : Int)) = ((i + dn : Nat) : Int) from rfl]
            obtain ⟨j, hj⟩ : ∃ j, j = i + dn := ⟨_, rfl⟩
            rw [← hj]
            have ij : i ≤ j := by omega
            have jl : j ≤ l.length := by omega
            clear f0 f1 f20 f21
            have oc := ok_cut okp i j
            have hcut : ∀ {H' : Hp}, Same H10 H' → IsPL [p] H' ((xs.take j).drop i) ((l.take j).drop i) := fun e => isPL_pd.mpr (pd_drop i (pd_take j (isPL_pd.mp (hl10.same e))))
            have thc : thinL ((l.take j).drop i) := thin_all.mpr fun b hb => thin_all.mp th b (List.mem_of_mem_take (List.mem_of_mem_drop hb))
            have dpc : depL ((l.take j).drop i) < 12 := Nat.lt_of_le_of_lt dep_cut dep
            refine seq_join (fun σ' H' => σ' = [some (.ref p), some (.ref a), some (.ref va), some (.ref ra), some (.ref D), none, z6, none, none, z9, z10, z11, z12, z13, some (.int (i : Int)), some (.int (j : Int))] ∧ Same H10 H') (fun N hN => ?_) (fun σ' H11 q => ?_)
            · refine if_known false (fun H' => Same H10 H') (fun N2 hN2 => ?_) (fun H11 e11 => iteF (hN _ _ ⟨rfl, e11⟩))
              refine ⟨_, rfl, va, _, _, rfl, hv101, rfl, _, rfl, _, rfl, ⟨_, i, j, l, rfl, hv10, okp, ij, jl, fun v2 H11 e11 hv2 => ?_⟩⟩
              refine ⟨_, rfl, _, rfl, _, rfl, _, rfl, _, rfl, a, xs, rfl, SqL.of (e11 _ _ ha10), fun q hq => ?_⟩
              rw [cut_both ij]
              have e12 := e11.trans (sameNew hq (o := .lst ((xs.take j).drop i)))
              refine ⟨[p], q, _, _, rfl, upd_same, held1 (pen_up hp10 e12), hcut e12, oc, thc, dpc, fun v3 H12 e3 hv3 => ?_⟩
              have hv22 := (hv2.same (sameNew hq (o := .lst ((xs.take j).drop i)))).same e3
              obtain ⟨a4, x4, b4, n4, d4, xs4, kvs4, rs4, rfl, h41, _⟩ := id hv22
              obtain ⟨a5, x5, b5, n5, d5, xs5, kvs5, rs5, rfl, h51, _⟩ := id hv3
              refine Or.inl (Or.inr (Or.inl ⟨a4, d.Page, x4, _, _, CX0, 4, _, E0, rfl, h41, Or.inr ⟨a5, x5, _, rfl, h51⟩, T.z_Page, G_Page___eq__, hr.mono (by decide), pass0, ⟨_, _, _, rfl, hv22, Or.inl ⟨_, hv3, fun H13 e13 => ⟨_, rfl, _, rfl, ifF (by simp) ?_⟩⟩⟩⟩))
              have e113 := (e12.trans e3).trans e13
              refine ⟨_, rfl, va, _, _, rfl, e113 _ _ hv101, rfl, _, rfl, _, rfl, ⟨_, i, j, l, rfl, hv10.same e113, okp, ij, jl, fun v4 H14 e14 hv4 => ?_⟩⟩
              have e114 := e113.trans e14
              refine ⟨_, rfl, va, _, _, rfl, e114 _ _ hv101, rfl, _, rfl, _, rfl, ⟨_, i, j, l, rfl, hv10.same e114, okp, ij, jl, fun v5 H15 e15 hv5 => ?_⟩⟩
              have hv45 := hv4.same e15
              obtain ⟨a6, x6, b6, n6, d6, xs6, kvs6, rs6, rfl, h61, _⟩ := id hv45
              obtain ⟨a7, x7, b7, n7, d7, xs7, kvs7, rs7, rfl, h71, _⟩ := id hv5
              refine Or.inl (Or.inr (Or.inl ⟨a6, d.Page, x6, _, _, CX0, 4, _, E0, rfl, h61, Or.inr ⟨a7, x7, _, rfl, h71⟩, T.z_Page, G_Page___eq__, hr.mono (by decide), pass0, ⟨_, _, _, rfl, hv45, Or.inl ⟨_, hv5, fun H16 e16 => ⟨_, rfl, _, rfl, ?_⟩⟩⟩⟩))
              rw [show (!decide (((l.take j).drop i).map txB = ((l.take j).drop i).map txB)) = false by simp]
              exact hN2 _ ((e114.trans e15).trans e16)
            · obtain ⟨rfl, e11⟩ := q
              have hp11 := pen_up hp10 e11
              have ha11 := e11 _ _ ha10
              have hl11 := hl10.same e11
              have hv11 := hv10.same e11
              clear e11 hp10 ha10 hl10 hv10 hv101 hcut
              refine ⟨_, rfl, p, lp, _, rfl, hp11, by omega, fun a2 H12 xs2 l2 na2 ha2 hl2 lv2 th2 hp12 u12 => ?_⟩
              have ha2p := (pen_ne hp11 na2).1
              have ha12 := u12.lst ha11 hap
              have hl12 : IsPL [p] H12 xs l := hl11.upx (Upx.up u12 (List.mem_cons_self ..)) fun _ h => h
              have hv12 := hv11.up u12
              have okp2 := lv2.okp (by decide)
              clear u12 ha11 hl11 hv11 hp11 na2
              dsimp only [gName, List.set]
              refine ⟨_, rfl, _, rfl, [p], a2, xs2, l2, rfl, ha2, held1 hp12, hl2, okp2, th2, lv2.dep (by decide), fun v2 H13 e13 hv2 => ?_⟩
              have hv13 := hv12.same e13
              obtain ⟨va2, x4, b4, n4, d4, xs4, kvs4, rs4, eva, h41, hb4, _⟩ := id hv13
              injection eva with eva
              subst eva
              obtain ⟨a5, x5, b5, n5, d5, xs5, kvs5, rs5, rfl, h51, _⟩ := id hv2
              refine Or.inr (Or.inl ⟨va, d.Page, x4, _, _, CX0, 4, _, E0, rfl, h41, Or.inr ⟨a5, x5, _, rfl, h51⟩, T.q_Page_eq, G_Page___eq__, hr.mono (by decide), pass0, ⟨_, _, l, rfl, hv13, Or.inl ⟨l2, hv2, fun H14 e14 => ?_⟩⟩⟩)
              have e134 := e13.trans e14
              refine ⟨_, rfl, _, rfl, Or.inr (Or.inr ⟨_, pl_eq (e134 _ _ ha12) (e134 _ _ ha2) (hl12.same e134) (hl2.same e134) okp.1.1 okp2.1.1 wf3 lv2.2.2.2.2, fun H15 e15 => Or.inl ⟨rfl, ?_⟩⟩)⟩
              have e135 := e134.trans e15
              refine ⟨_, rfl, ifT (by simp) ?_⟩
              refine ⟨_, rfl, _, rfl, [p], a, xs, l, rfl, e135 _ _ ha12, held1 (pen_up hp12 e135), hl12.same e135, okp, th, dep, fun v3 H16 e16 hv3 => ?_⟩
              have e136 := e135.trans e16
              have hv16 := hv12.same e136
              obtain ⟨va2, x6, b6, n6, d6, xs6, kvs6, rs6, eva, h61, hb6, _⟩ := id hv16
              injection eva with eva
              subst eva
              obtain ⟨a7, x7, b7, n7, d7, xs7, kvs7, rs7, rfl, h71, _⟩ := id hv3
              refine Or.inr (Or.inl ⟨va, d.Page, x6, _, _, CX0, 4, _, E0, rfl, h61, Or.inr ⟨a7, x7, _, rfl, h71⟩, T.q_Page_eq, G_Page___eq__, hr.mono (by decide), pass0, ⟨_, _, l, rfl, hv16, Or.inl ⟨l, hv3, fun H17 e17 => ⟨_, rfl, ifT (by simp) ?_⟩⟩⟩⟩)
              refine ⟨_, rfl, _, rfl, va, x6, _, rfl, e17 _ _ h61, ⟨_, l, rfl, hv16.same e17, okp, fun H18 e18 => ⟨_, rfl, ?_⟩⟩⟩
              have e68 := e17.trans e18
              refine Or.inr ⟨va, x6, _, _, rfl, e68 _ _ h61, .base (.str _), T.w_Page_str, ⟨_, _, l, rfl, hv16.same e68, Or.inr ⟨_, .base (.str _), T.i_str_is_Page, ⟨_, rfl, _, rfl, ifT rfl ?_⟩⟩⟩⟩
              refine ⟨_, rfl, _, rfl, va, d.Page, x6, _, _, rfl, e68 _ _ h61, T.c_Page, T.a_Page_boxes, rfl, Or.inr ⟨va, x6, _, _, rfl, e68 _ _ h61, .base (.tup (e68 _ _ hb6)), T.w_Page_tuple, ⟨_, _, l, rfl, hv16.same e68, Or.inr ⟨_, .base (.tup (e68 _ _ hb6)), T.i_tuple_is_Page, ⟨_, rfl, ?_⟩⟩⟩⟩⟩
              exact k _ (pen_mono (pen_up hp12 ((e136.trans e17).trans e18)) (by omega))
end

end AZ
namespace AZ
open PySem L2
/-! ## the law -/
def levelLaw : Nat := 29
def spLaw (K : PySem.W.Frag) : Sp := fun vs H Q _ => ∃ (a : Addr) (ns : List Int), vs = [.ref a] ∧ SqL K H a (ns.map V.int) ∧ ns.length ≤ 63 ∧ ∀ H', Q (.bl true) H'
/-- how three values by their names, the other way round, are bound -/
def gk13 {α : Type} : List α → List α → List α
  | [a], [u, o, n] => [a, n, o, u]
  | _, _ => []
theorem vals_gk13 : ∀ {vs zs : List V} {us ws : List Value}, Vals vs us → Vals zs ws → Vals (gk13 vs zs) (gk13 us ws)
  | _, _, _, _, .nil, _ => .nil
  | _, _, _, _, .cons _ (.cons _ _), _ => .nil
  | _, _, _, _, .cons _ .nil, .nil => .nil
  | _, _, _, _, .cons _ .nil, .cons _ .nil => .nil
  | _, _, _, _, .cons _ .nil, .cons _ (.cons _ .nil) => .nil
  | _, _, _, _, .cons _ .nil, .cons _ (.cons _ (.cons _ (.cons _ _))) => .nil
  | _, _, _, _, .cons a .nil, .cons u (.cons o (.cons n .nil)) => .cons a (.cons n (.cons o (.cons u .nil)))
/-- flat values, and pairs of them -/
def BTwo : Eqw := fun x y H r => BFlat x y H r ∨ BTu BFlat x y H r
theorem monB_two : MonB BTwo := MonB.or monB_flat (monB_tu monB_flat)
theorem eqB_two {X : Cx} : EqB X 1 BTwo := EqB.or (eqB_flat.mono (Nat.zero_le _)) (eqB_tu monB_flat eqB_flat rflF_flat)
/-! what the small page is -/
def xMark : Bx := .mk "mark" 1 1 []
def xTwo : Bx := .mk "two" 4 4 [xMark]
def xHead : Bx := .mk "head" 0 12 []
def xList : Bx := .mk "list" 2 9 []
def xPage : List Bx := [xHead, xList, xTwo]
theorem p1000 (i : Int) (h : i.natAbs < 2 ^ 10) : i.natAbs < 2 ^ 1000 := Nat.lt_of_lt_of_le h (Nat.pow_le_pow_right (by decide) (by decide))
theorem wfx {n : Str} {o u : Int} {l : List Bx} (hn : isNm n = true) (u0 : 0 ≤ u) (ho : o.natAbs < 2 ^ 10) (hu : u.natAbs < 2 ^ 10) (hl : WfL 1000 l) : WfB 1000 (.mk n o u l) := by
  rw [WfB]
  exact ⟨hn, u0, p1000 _ ho, p1000 _ hu, hl⟩
theorem wnil : WfL 1000 [] := by rw [WfL]; trivial
theorem wcons {b : Bx} {l : List Bx} (h : WfB 1000 b) (hl : WfL 1000 l) : WfL 1000 (b :: l) := by rw [WfL]; exact ⟨h, hl⟩
theorem w_mark : WfB 1000 xMark := wfx (by decide +kernel) (by decide) (by decide) (by decide) wnil
theorem w_two : WfB 1000 xTwo := wfx (by decide +kernel) (by decide) (by decide) (by decide) (wcons w_mark wnil)
theorem w_head : WfB 1000 xHead := wfx (by decide +kernel) (by decide) (by decide) (by decide) wnil
theorem w_list : WfB 1000 xList := wfx (by decide +kernel) (by decide) (by decide) (by decide) wnil
theorem k_mark : OkB xMark := ⟨w_mark, by decide +kernel, by decide +kernel⟩
theorem k_two : OkB xTwo := ⟨w_two, by decide +kernel, by decide +kernel⟩
theorem k_head : OkB xHead := ⟨w_head, by decide +kernel, by decide +kernel⟩
theorem k_list : OkB xList := ⟨w_list, by decide +kernel, by decide +kernel⟩
theorem w_two0 : OkB (.mk "two" 4 4 []) := ⟨wfx (by decide +kernel) (by decide) (by decide) (by decide) wnil, by decide +kernel, by decide +kernel⟩
theorem k_page : OkP xPage := ⟨⟨wcons w_head (wcons w_list (wcons w_two wnil)), by decide +kernel, by decide +kernel⟩, by decide +kernel⟩
theorem k_twos : OkP [xTwo] := ⟨⟨wcons w_two wnil, by decide +kernel, by decide +kernel⟩, by decide +kernel⟩
theorem rows_x : rowsL 0 none xPage = [⟨"head", 0, 12, none, xHead⟩, ⟨"list", 2, 11, none, xList⟩, ⟨"two", 4, 8, none, xTwo⟩, ⟨"mark", 5, 6, some "two", xMark⟩] := by
  simp only [xPage, xHead, xList, xTwo, xMark, rowsL, rowsB, List.nil_append, List.append_nil, List.cons_append]
  rfl
theorem row_x {r : Row} (h : r ∈ rowsL 0 none xPage) : (r.nm = "mark" → r.bg = 5 ∧ r.en = 6 ∧ r.ar = some "two") ∧ (r.nm = "list" → r.bg = 2 ∧ r.en = 11) ∧ (r.nm = "two" → r.ar = none) := by
  rw [rows_x] at h
  simp only [List.mem_cons, List.not_mem_nil, or_false] at h
  have h1 : ("head" : Str) ≠ "mark" := by decide +kernel
  have h2 : ("head" : Str) ≠ "list" := by decide +kernel
  have h3 : ("head" : Str) ≠ "two" := by decide +kernel
  have h4 : ("list" : Str) ≠ "mark" := by decide +kernel
  have h5 : ("list" : Str) ≠ "two" := by decide +kernel
  have h6 : ("two" : Str) ≠ "mark" := by decide +kernel
  have h7 : ("two" : Str) ≠ "list" := by decide +kernel
  rcases h with rfl | rfl | rfl | rfl
  · exact ⟨fun e => absurd e h1, fun e => absurd e h2, fun e => absurd e h3⟩
  · exact ⟨fun e => absurd e h4, fun _ => ⟨rfl, rfl⟩, fun e => absurd e h5⟩
  · exact ⟨fun e => absurd e h6, fun e => absurd e h7, fun _ => rfl⟩
  · exact ⟨fun _ => ⟨rfl, rfl, rfl⟩, fun e => absurd e h4.symm, fun e => absurd e.symm h6⟩
theorem row_t {r : Row} (h : r ∈ rowsL 0 none [xTwo]) (e : r.nm = "two") : r.bx = xTwo := by
  have rw2 : rowsL 0 none [xTwo] = [⟨"two", 4, 8, none, xTwo⟩, ⟨"mark", 5, 6, some "two", xMark⟩] := by
    simp only [xTwo, xMark, rowsL, rowsB, List.nil_append, List.append_nil, List.cons_append]
    rfl
  rw [rw2] at h
  simp only [List.mem_cons, List.not_mem_nil, or_false] at h
  have h6 : ("two" : Str) ≠ "mark" := by decide +kernel
  rcases h with rfl | rfl
  · rfl
  · exact absurd e.symm h6
theorem b_two {H : Hp} {l1 l2 a b c d : Addr} (h1 : H l1 = some (.lst [.ref a, .ref b, .str "two", .non, .int 4, .int 24])) (h2 : H l2 = some (.lst [.ref c, .ref d, .str "two", .non, .int 4, .int 24])) (ac : BTu BFlat (.ref a) (.ref c) H true) (bd : BTu BFlat (.ref b) (.ref d) H true) : BList BTwo (.ref l1) (.ref l2) H true := by
  refine ⟨l1, l2, _, _, rfl, rfl, h1, h2, Or.inr ⟨rfl, fun _ => true, fun i u v hu hv => ?_, (allT_true (fun _ _ => rfl)).symm⟩⟩
  match i, hu, hv with
  | 0, hu, hv => cases hu; cases hv; exact Or.inr ac
  | 1, hu, hv => cases hu; cases hv; exact Or.inr bd
  | 2, hu, hv => cases hu; cases hv; exact Or.inl ⟨rfl, rfl, by decide +kernel⟩
  | 3, hu, hv => cases hu; cases hv; exact Or.inl ⟨rfl, rfl, rfl⟩
  | 4, hu, hv => cases hu; cases hv; exact Or.inl ⟨rfl, rfl, rfl⟩
  | 5, hu, hv => cases hu; cases hv; exact Or.inl ⟨rfl, rfl, rfl⟩
  | i + 6, hu, _ => simp at hu
theorem bt_ii {H : Hp} {a b : Addr} {x y : Int} (ha : H a = some (.tup [.int x, .int y])) (hb : H b = some (.tup [.int x, .int y])) : BTu BFlat (.ref a) (.ref b) H true := by
  refine ⟨a, b, _, _, rfl, rfl, ha, hb, fun _ => true, fun i u v hu hv => ?_, by rw [allT_true (fun _ _ => rfl)]; simp⟩
  rw [hu] at hv
  injection hv with hv
  subst hv
  have hm := List.mem_of_getElem? hu
  simp only [List.mem_cons, List.not_mem_nil, or_false] at hm
  rcases hm with rfl | rfl
  · exact ⟨rfl, rfl, beq_self_eq_true x⟩
  · exact ⟨rfl, rfl, beq_self_eq_true y⟩
section
variable {P : Program} {w : World} {K : PySem.W.Frag} {mg : Str → Option Value} {base : Heap} {d : Ad}
theorem GK_Box___init__ (T : Tx K mg d) : FnRk P w K mg base CX0 6 d.Box___init__ ["units", "offset", "name"] gk13 (fun vs H Q E => vs.length = 4 ∧ ∀ p, H p = Option.none → spBxI d.Box K (vs ++ [V.ref p]) (upd H p (.tup [])) Q E) := by
  obtain ⟨fd, F⟩ := T.F_Box___init__
  refine Fun.okSK (ps := ["self", "name", "offset", "units"]) (pv := "inner") (k := 5) (sp := spBxI d.Box K) F sc_Box___init__ vals_gk13 (fun kV doc pm an cdv ct us ws hl => ?_) (fun cdv A outer s H vs Q E hr h => body_Box___init__ T cdv A outer s H vs Q E hr h)
  match us, ws, hl with
  | [a], [u, o, n], _ => rfl
  | [], _, h => cases h
  | [_], [], h => cases h
  | [_], [_], h => cases h
  | [_], [_, _], h => cases h
  | [_], _ :: _ :: _ :: _ :: _, h => cases h
  | _ :: _ :: _, _, h => cases h
theorem G_law (T : Tx K mg d) : FnG P w K mg base CX0 levelLaw d.law (spLaw K) := by
  have G__law_pen : FnR P w K mg base CX0 1 d._law_pen (spPenL K) := G__law_penL T
  have G__law_right := G__law_right (P := P) (w := w) (base := base) T
  have G_Page___init__ := G_Page___init__ (P := P) (w := w) (base := base) T
  have G_Box___init__ := G_Box___init__ (P := P) (w := w) (base := base) T
  have GK_Box___init__ := GK_Box___init__ (P := P) (w := w) (base := base) T
  have G_Page_around := G_Page_around (P := P) (w := w) (base := base) T
  have G_Page_box := G_Page_box (P := P) (w := w) (base := base) T
  have G_Page___len__ := G_Page___len__ (P := P) (w := w) (base := base) T
  have G_Page___getitem__ := G_Page___getitem__ (P := P) (w := w) (base := base) T
  have G_Box___eq__ := G2_Box___eq__ (P := P) (w := w) (base := base) T
  obtain ⟨fd, F⟩ := T.F_law
  refine fnG_of (k := 28) F sc_law (sp := spLaw K) (fun vs H Q E h => ?_) (fun cdv A outer s H vs Q E ng hr h => ?_) (F.binds fun _ _ _ _ _ _ us hl => match us, hl with | [_], _ => rfl)
  · obtain ⟨a, ns, rfl, _⟩ := h
    rfl
  · obtain ⟨a, ns, rfl, ha, hl, k⟩ := h
    -- T.z_Box T.q_Box_eq T.w_Box_Page T.i_Page_is_Box
    obtain ⟨mc, u, cr, cv⟩ := T.cv_Page_MOST_BOXES
    -- slots: 0 _law_script, 1 _law_pen_here, 2 _law_turn, 3 _law_two, 4 _law_page_here
    refine ⟨_, (pss_cons (ps_set (i := 1) sc_law.nd rfl (Or.inl rfl) (pe_fnR G__law_pen (hr.mono (by decide)) T.k__law_pen T.m__law_pen pass0 (pa_cons (pv 0) pa_nil)))
      (pss_cons (ps_for PassesOwn.never rfl (pi_range1 rfl T.n_range (pa_cons pe_int pa_nil)) (pg_name (i := 2) sc_law.nd rfl (Or.inl rfl)) (pss_one (ps_if (pt_not (pt_val (pe_fnG G__law_right ng (hr.mono (by decide)) T.k__law_right T.m__law_right pass0 (pa_cons (pv 1) pa_nil)))) (pss_one (ps_ret pe_bl)) pss_nil)))
      (pss_cons (ps_set (i := 3) sc_law.nd rfl (Or.inl rfl) (StX.pe_makeR T.mk_Box G_Box___init__ (hr.mono (by decide)) rfl T.m_Box pass0 (pa_cons pe_str (pa_cons pe_int (pa_cons pe_int (pa_cons (StX.pe_makeR T.mk_Box G_Box___init__ (hr.mono (by decide)) rfl T.m_Box pass0 (pa_cons pe_str (pa_cons pe_int (pa_cons pe_int pa_nil)))) pa_nil))))))
      (pss_cons (ps_set (i := 4) sc_law.nd rfl (Or.inl rfl) (StX.pe_makeR T.mk_Page G_Page___init__ (hr.mono (by decide)) rfl T.m_Page pass0 (pa_cons (StX.pe_makeR T.mk_Box G_Box___init__ (hr.mono (by decide)) rfl T.m_Box pass0 (pa_cons pe_str (pa_cons pe_int (pa_cons pe_int pa_nil)))) (pa_cons (pe_makeRk T.mk_Box GK_Box___init__ (hr.mono (by decide)) rfl T.m_Box pass0 (pk_cons pe_int (pk_cons pe_int (pk_cons pe_str pk_nil)))) (pa_cons (pv 3) pa_nil)))))
      (pss_cons (ps_if (pt_cmpR (op_or2 (op_neB (ncB_list monB_two eqB_two) (hr.mono (by decide))) (op_or2 op_ownN (op_ownNV T.z_Box G_Box___eq__ (hr.mono (by decide)) pass0))) (pe_lst (pa_cons (pe_ixO T.gi_Page G_Page___getitem__ (hr.mono (by decide)) pass0 (pv 4) pe_str (fun _ _ => rfl)) (pa_cons (pe_ixO T.gi_Page G_Page___getitem__ (hr.mono (by decide)) pass0 (pv 4) pe_str (fun _ _ => rfl)) (pa_cons (pe_mR (pv 4) T.c_Page T.h_Page_around G_Page_around (hr.mono (by decide)) pass0 (pa_cons pe_str pa_nil)) (pa_cons (pe_mR (pv 4) T.c_Page T.h_Page_around G_Page_around (hr.mono (by decide)) pass0 (pa_cons pe_str pa_nil)) (pa_cons (pe_callB (call_lenF T.ln_Page G_Page___len__ (hr.mono (by decide)) pass0) (by rfl) T.n_len (by decide +kernel) (pa_cons (pv 4) pa_nil)) (pa_cons (ClX.pe_cval (pe_glob (v := .ref _) rfl T.m_Page rfl)) pa_nil))))))) (pe_lst (pa_cons (pe_tup (pa_cons pe_int (pa_cons pe_int pa_nil))) (pa_cons (pe_tup (pa_cons pe_int (pa_cons pe_int pa_nil))) (pa_cons pe_str (pa_cons pe_non (pa_cons pe_int (pa_cons pe_int pa_nil))))))) (nomark _)) (pss_one (ps_ret pe_bl)) pss_nil)
      (pss_one (ps_ret (pe_and (pe_cmpR (op_ownC _) (pv 3) (StX.pe_makeR T.mk_Box G_Box___init__ (hr.mono (by decide)) rfl T.m_Box pass0 (pa_cons pe_str (pa_cons pe_int (pa_cons pe_int (pa_cons (StX.pe_makeR T.mk_Box G_Box___init__ (hr.mono (by decide)) rfl T.m_Box pass0 (pa_cons pe_str (pa_cons pe_int (pa_cons pe_int pa_nil)))) pa_nil))))) (nomark _)) (pe_and (pe_cmpR (op_or2 (op_neB (ncB_list monB_two eqB_two) (hr.mono (by decide))) (op_or2 op_ownN (op_ownNV T.z_Box G_Box___eq__ (hr.mono (by decide)) pass0))) (pv 3) (StX.pe_makeR T.mk_Box G_Box___init__ (hr.mono (by decide)) rfl T.m_Box pass0 (pa_cons pe_str (pa_cons pe_int (pa_cons pe_int pa_nil)))) (nomark _)) (pe_and (pe_cmpR (op_or2 (op_neB (ncB_list monB_two eqB_two) (hr.mono (by decide))) (op_or2 op_ownN (op_ownNV T.z_Box G_Box___eq__ (hr.mono (by decide)) pass0))) (pv 3) (pv 4) (nomark _)) (pe_one (pe_cmpR (op_ownC _) (pe_mR (StX.pe_makeR T.mk_Page G_Page___init__ (hr.mono (by decide)) rfl T.m_Page pass0 (pa_cons (pv 3) pa_nil)) T.c_Page T.h_Page_box G_Page_box (hr.mono (by decide)) pass0 (pa_cons pe_str pa_nil)) (pv 3) (nomark _))))))))))))), ?_⟩
    refine ⟨_, rfl, a, ns, rfl, ha, hl, fun p lp H1 np nl e1 hp => ?_⟩
    clear ha np nl e1
    try dsimp only [tNext, gName, List.set, L2.start]
    refine ⟨7, rfl, by decide, by decide, for_range (n := 7) (fun i σ H' => ∃ z2, σ = [some (.ref a), some (.ref p), z2, none, none] ∧ PenL H' p lp (500 * i)) ⟨_, rfl, hp⟩ (fun i σ H' hi h => ?_) (fun σ H' h => ?_)⟩
    · obtain ⟨z2, rfl, hp⟩ := h
      dsimp only [gName, List.set]
      exact ⟨_, rfl, ⟨p, lp, 500 * i, rfl, hp, by omega, fun H2 hp2 => ⟨true, rfl, iteF ⟨_, rfl, by rw [Nat.mul_succ]; exact hp2⟩⟩⟩⟩
    · obtain ⟨z2, rfl, hp⟩ := h
      clear hp
      refine fun x dx nx nd _ => bx_make (xs := []) (l := []) nx nd (by rw [IsBs]) k_mark fun H2 e2 hm => ⟨rfl, ?_⟩
      refine fun y dy ny ndy _ => bx_make (xs := [.ref x]) (l := [xMark]) ny ndy (isBs_pd.mpr (.cons hm .nil)) k_two fun H3 e3 htw => ⟨rfl, ?_⟩
      clear e2 e3 nx nd ny ndy hm
      dsimp only [gName, List.set]
      refine fun x dx nx nd _ => bx_make (xs := []) (l := []) nx nd (by rw [IsBs]) k_head fun H4 e4 hh => ⟨rfl, ?_⟩
      refine fun z dz nz ndz _ => ⟨rfl, fun q hq => ?_⟩
      have g1 : Same H4 (upd (upd H4 dz (.own z)) z (.ins d.Box dz [])) := same_at (sameNew ndz) nz
      have zq : z ≠ q := fun e => by rw [← e, upd_same] at hq; cases hq
      have qn : H4 q = none := g1.free hq
      have g2 := same_at g1 qn (o := .tup [])
      refine ⟨z, dz, "list", 2, 9, q, [], [], rfl, by rw [upd_ne zq]; exact upd_same, upd_same, by rw [IsBs], k_list, fun H5 mono hls => ⟨rfl, ?_⟩⟩
      have e5 : Same H4 H5 := fun b o hb => mono b o (g2 _ _ hb) fun e => by rw [e, nz] at hb; cases hb
      have htw5 := (htw.same e4).same e5
      refine ⟨_, rfl, fun v dv nv ndv _ => pg_make (xs := [.ref x, .ref z, .ref y]) (l := xPage) nv ndv (isBs_pd.mpr (.cons (hh.same e5) (.cons hls (.cons htw5 .nil)))) k_page fun H6 e6 hv => ⟨rfl, ?_⟩⟩
      have htw6 := htw5.same e6
      clear g1 g2 mono hls hh e4 e5 e6 nz ndz nx nd hq zq qn nv ndv htw htw5
      obtain ⟨v2, vx, vb, vn, vd, vxs, vkvs, vrs, ev, hv1, _⟩ := id hv
      injection ev with ev
      subst ev
      dsimp only [gName, List.set]
      have mm : ("mark" : Str) ∈ namesL xPage := by decide +kernel
      have ml : ("list" : Str) ∈ namesL xPage := by decide +kernel
      have mt : ("two" : Str) ∈ namesL xPage := by decide +kernel
      refine ⟨_, rfl, v, vx, _, rfl, hv1, ⟨_, "mark", xPage, rfl, hv, k_page, mm, fun p1 H7 r e7 hr1 hn hp1 => ?_⟩⟩
      obtain ⟨b1, b2, _⟩ := (row_x hr1).1 hn
      rw [b1, b2] at hp1
      refine ⟨_, rfl, v, vx, _, rfl, e7 _ _ hv1, ⟨_, "list", xPage, rfl, hv.same e7, k_page, ml, fun p2 H8 r2 e8 hr2 hn2 hp2 => ?_⟩⟩
      obtain ⟨c1, c2⟩ := (row_x hr2).2.1 hn2
      rw [c1, c2] at hp2
      have e78 := e7.trans e8
      refine ⟨_, rfl, v, vx, _, rfl, e78 _ _ hv1, rfl, ⟨_, "mark", xPage, rfl, hv.same e78, k_page, mm, fun H9 r3 e9 hr3 hn3 => ?_⟩⟩
      rw [((row_x hr3).1 hn3).2.2]
      have e79 := e78.trans e9
      refine ⟨_, rfl, v, vx, _, rfl, e79 _ _ hv1, rfl, ⟨_, "two", xPage, rfl, hv.same e79, k_page, mt, fun H10 r4 e10 hr4 hn4 => ?_⟩⟩
      rw [(row_x hr4).2.2 hn4]
      have e710 := e79.trans e10
      have n4 : (namesL xPage).length = 4 := by decide +kernel
      refine ⟨_, rfl, v, vx, _, rfl, e710 _ _ hv1, ⟨_, xPage, rfl, hv.same e710, ⟨_, rfl, by rw [n4]; decide, ?_⟩⟩⟩
      rw [n4]
      refine ⟨d.Page, mc, .int 24, u, rfl, cr, cv, (by show 6 ≤ sizeLine; decide), fun L1 hL1 => ?_⟩
      have f1 := sameNew hL1 (o := .lst [.ref p1, .ref p2, .str "two", .non, .int 4, .int 24])
      refine ⟨(by show 2 ≤ sizeLine; decide), fun t5 ht5 => ⟨(by show 2 ≤ sizeLine; decide), fun t6 ht6 => ⟨(by show 6 ≤ sizeLine; decide), fun L2 hL2 => ?_⟩⟩⟩
      have f2 := sameNew ht5 (o := .tup [.int 5, .int 6])
      have f3 := sameNew ht6 (o := .tup [.int 2, .int 11])
      have f4 := sameNew hL2 (o := .lst [.ref t5, .ref t6, .str "two", .non, .int 4, .int 24])
      have f24 := (f2.trans f3).trans f4
      have f14 := f1.trans f24
      have hp1e := (((e8.trans e9).trans e10).trans f14) _ _ hp1
      have hp2e := ((e9.trans e10).trans f14) _ _ hp2
      refine Or.inl ⟨true, b_two (f24 _ _ upd_same) upd_same (bt_ii hp1e (f4 _ _ (f3 _ _ upd_same))) (bt_ii hp2e (f4 _ _ upd_same)), fun H11 e11 => ⟨_, rfl, ifF rfl ?_⟩⟩
      have e6e := (e710.trans f14).trans e11
      have htwe := htw6.same e6e
      have hve := hv.same e6e
      have hv1e := e6e _ _ hv1
      clear hp1 hp2 hp1e hp2e f1 f2 f3 f4 f24 f14 hL1 ht5 ht6 hL2 e7 e8 e9 e10 e78 e79 e710 e11 e6e htw6 hv hv1
      refine ⟨_, rfl, fun x dx nx nd _ => bx_make (xs := []) (l := []) nx nd (by rw [IsBs]) k_mark fun H12 e12 hm => ⟨rfl, ?_⟩⟩
      refine fun y2 dy2 ny2 ndy2 _ => bx_make (xs := [.ref x]) (l := [xMark]) ny2 ndy2 (isBs_pd.mpr (.cons hm .nil)) k_two fun H13 e13 htw2 => ⟨rfl, ?_⟩
      have e113 := e12.trans e13
      have ins : ∀ {H' : Hp} {c : Addr} {b : Bx}, IsBx d.Box H' (.ref c) b → ∃ dx fs, H' c = some (.ins d.Box dx fs) := fun {H' c b} h => by
        cases b with | mk n o u inn =>
        rw [IsBx] at h
        obtain ⟨a0, dx0, ti0, tn0, xs0, e0, h0, _⟩ := h
        injection e0 with e0
        subst e0
        exact ⟨_, _, h0⟩
      have htw13 := htwe.same e113
      obtain ⟨dx1, fs1, i1⟩ := ins htw13
      obtain ⟨dx2, fs2, i2⟩ := ins htw2
      refine ⟨y, d.Box, dx1, fs1, _, CX0, 1, _, E0, rfl, i1, Or.inr ⟨y2, dx2, fs2, rfl, i2⟩, T.q_Box_eq, G_Box___eq__, hr.mono (by decide), pass0, ⟨_, _, xTwo, rfl, htw13, Or.inl ⟨xTwo, htw2, ⟨_, rfl, ifT (by simp) ?_⟩⟩⟩⟩
      refine ⟨_, rfl, fun y3 dy3 ny3 ndy3 _ => bx_make (xs := []) (l := []) ny3 ndy3 (by rw [IsBs]) w_two0 fun H14 e14 hb3 => ⟨rfl, ?_⟩⟩
      obtain ⟨dx3, fs3, i3⟩ := ins hb3
      have htw14 := htw13.same e14
      refine Or.inr (Or.inl ⟨y, d.Box, dx1, fs1, _, CX0, 1, _, E0, rfl, e14 _ _ i1, Or.inr ⟨y3, dx3, fs3, rfl, i3⟩, T.z_Box, G_Box___eq__, hr.mono (by decide), pass0, ⟨_, _, xTwo, rfl, htw14, Or.inl ⟨_, hb3, ⟨_, rfl, _, rfl, ifT (by decide +kernel) ?_⟩⟩⟩⟩)
      have e114 := e113.trans e14
      refine ⟨_, rfl, _, rfl, Or.inr (Or.inr ⟨y, dx1, fs1, _, rfl, e14 _ _ i1, T.y_Page.ty T.c_Page (e114 _ _ hv1e), T.w_Box_Page, ⟨_, _, xTwo, rfl, htw14, Or.inr ⟨_, T.y_Page.ty T.c_Page (e114 _ _ hv1e), T.i_Page_is_Box, ⟨_, rfl, _, rfl, ifT rfl ?_⟩⟩⟩⟩)⟩
      refine ⟨_, rfl, fun v3 dv3 nv3 ndv3 _ => pg_make (xs := [.ref y]) (l := [xTwo]) nv3 ndv3 (isBs_pd.mpr (.cons htw14 .nil)) k_twos fun H15 e15 hv3 => ⟨rfl, ?_⟩⟩
      obtain ⟨v4, vx4, vb4, vn4, vd4, vxs4, vkvs4, vrs4, ev, hv41, _⟩ := id hv3
      injection ev with ev
      subst ev
      refine ⟨v3, vx4, _, rfl, hv41, rfl, ⟨_, "two", [xTwo], rfl, hv3, k_twos, by decide +kernel, fun bv H16 r e16 hr6 hn6 hbv => ?_⟩⟩
      rw [row_t hr6 hn6] at hbv
      have hbv0 := hbv
      unfold xTwo at hbv
      rw [IsBx] at hbv
      obtain ⟨a0, dx0, ti0, tn0, xs0, rfl, h0, _⟩ := hbv
      have htw16 := (htw14.same e15).same e16
      obtain ⟨dx6, fs6, i6⟩ := ins htw16
      refine ⟨_, rfl, a0, d.Box, dx0, _, _, CX0, 1, _, E0, rfl, h0, Or.inr ⟨y, dx6, fs6, rfl, i6⟩, T.q_Box_eq, G_Box___eq__, hr.mono (by decide), pass0, ⟨_, _, xTwo, rfl, hbv0, Or.inl ⟨xTwo, htw16, ?_⟩⟩⟩
      rw [decide_eq_true rfl]
      exact k _
theorem law_end {fa : Addr} {h : Heap} (hfa : mg "law" = some (.ref fa)) (T : Tx K mg d) : ∀ base : Heap, K.In base → base.Ns mainGlobals mg → FnG P w K mg base CX0 levelLaw fa (spLaw K) := by
  have e := hfa.symm.trans T.m_law
  cases e
  exact fun base _ _ => G_law T
end

end AZ
theorem PySem.Challenge.cw_allzooms_k58_pages_made_and_asked_holds : PySem.Challenge.rw_allzooms_k58_pages_made_and_asked.Holds :=
  AZ.pre fun {_ _ _ _ _ _} hd hn hY  fs => AZ.walk (l := PySem.Challenge.rw_allzooms_k58_pages_made_and_asked) rfl hd hY fun w mg _ h KX G hmg => fs w mg h KX G _ fun L__law_pen L__law_draw L__law_pick L_is_integer L_is_name L_check_unlike L_names_of L_Box L_boxes_text L_with_inner L_boxes_without L_boxes_scaled L_boxes_with L_check_names L_Page L__law_box_made L__law_all L__law_page_made L__law_boxes L__law_page L__law_box_right L__law_right L_law L_Box___str__ L_Box___init__ L_Page___init__ L_Page___contains__ L_Page_row L_Page_box L_Page___sub__ L_Page___mul__ L_Page___str__ L_Page_with_box L_Box___eq__ L_Page___eq__ L_Page___rmul__ L_Page___len__ L_Page___getitem__ L_Page_around L_Page_within L_Page___iter__ L_Page_some pr_Page_names_a pr_Page_names_q F__law_pen_l F__law_draw_l F__law_pick_l F_is_integer_l F_is_name_l F_check_unlike_l F_names_of_l F_Box___str___l F_boxes_text_l F_Box___init___l F_with_inner_l F_boxes_without_l F_boxes_scaled_l F_boxes_with_l F_check_names_l F_Page___init___l F_Page___contains___l F_Page_row_l F_Page_box_l F_Page_names_l F_Page___sub___l F_Page___mul___l F_Page___str___l D_Page_with_box_l F_Box___eq___l F_Page___eq___l F_Page___rmul___l F__law_box_made_l D__law_all_l F__law_page_made_l F__law_boxes_l F__law_page_l F_Page___len___l F_Page___getitem___l F_Page_around_l F_Page_within_l F_Page___iter___l F_Page_some_l F__law_box_right_l F__law_right_l F_law_l F__law_pen_c F__law_pen_k n_list_a F__law_draw_c F__law_draw_k n_int_a n_len_a n_abs_a F__law_pick_c F__law_pick_k F_is_integer_c F_is_integer_k n_isinstance_a n_bool_a F_is_name_c F_is_name_k n_str_a mi_MOST_LETTERS_a F_check_unlike_c F_check_unlike_k F_names_of_c F_names_of_k n_tuple_a c_Box_p c_Box_h c_Box_o c_Box_s a_Box_names_inside_a F_Box___str___c F_Box___str___k a_Box_told_a F_boxes_text_c F_boxes_text_k t_Box_f t_Box_g t_Box_m y_Box_a y_Box_n y_Box_t a_Box_name_a a_Box_offset_a a_Box_units_a a_Box_inner_a F_Box___init___c F_Box___init___k F_with_inner_c F_with_inner_k mk_Box_m mk_Box_f mk_Box_k F_boxes_without_c F_boxes_without_k F_boxes_scaled_c F_boxes_scaled_k F_boxes_with_c F_boxes_with_k F_check_names_c F_check_names_k cv_Page_MOST_BOXES_r cv_Page_MOST_BOXES_g cv_Page_MOST_BOXES_v F_Page___init___c F_Page___init___k n_enumerate_a c_Page_p c_Page_h c_Page_o c_Page_s a_Page_boxes_a a_Page_all_names_a a_Page_rows_a F_Page___contains___c F_Page___contains___k F_Page_row_c F_Page_row_k in_Page_f F_Page_box_c F_Page_box_k h_Page_row_f F_Page_names_c F_Page_names_k F_Page___sub___c F_Page___sub___k mk_Page_m mk_Page_f mk_Page_k F_Page___mul___c F_Page___mul___k F_Page___str___c F_Page___str___k D_Page_with_box_c D_Page_with_box_k D_Page_with_box_t h_Page_box_f F_Box___eq___c F_Box___eq___k F_Page___eq___c F_Page___eq___k q_Box_eq_f q_Box_eq_n y_Page_a y_Page_m F_Page___rmul___c F_Page___rmul___k b_Page_mul_f b_Page_mul_c b_Page_mul_t b_Page_mul_u b_Page_mul_w F__law_box_made_c F__law_box_made_k D__law_all_c D__law_all_k D__law_all_t F__law_page_made_c F__law_page_made_k h_Page_with_box_f F__law_boxes_c F__law_boxes_k n_range_a F__law_page_c F__law_page_k F_Page___len___c F_Page___len___k F_Page___getitem___c F_Page___getitem___k F_Page_around_c F_Page_around_k F_Page_within_c F_Page_within_k F_Page___iter___c F_Page___iter___k n_iter_a F_Page_some_c F_Page_some_k F__law_box_right_c F__law_box_right_k n_repr_a n_zip_a F__law_right_c F__law_right_k z_Page_e z_Page_f z_Page_n t_Page_f t_Page_g pr_Page_names_g pr_Page_names_t w_Page_str_n w_Page_tuple_n i_list_is_Page_c i_list_is_Page_t i_list_is_Page_a i_str_is_Page_a i_tuple_is_Page_a ln_Page_f nb_Page_s gi_Page_f gi_Page_i it_Page_f h_Page_around_f h_Page_within_f h_Page_some_f F_law_c F_law_k z_Box_e w_Box_Page_n i_Page_is_Box_n i_Page_is_Box_c i_Page_is_Box_t i_Page_is_Box_a => AZ.law_end (h := h)  (hn ▸ hmg) (AZ.tx_mk KX G L__law_pen L__law_draw L__law_pick L_is_integer L_is_name L_check_unlike L_names_of L_Box L_boxes_text L_with_inner L_boxes_without L_boxes_scaled L_boxes_with L_check_names L_Page L__law_box_made L__law_all L__law_page_made L__law_boxes L__law_page L__law_box_right L__law_right L_law L_Box___str__ L_Box___init__ L_Page___init__ L_Page___contains__ L_Page_row L_Page_box L_Page___sub__ L_Page___mul__ L_Page___str__ L_Page_with_box L_Box___eq__ L_Page___eq__ L_Page___rmul__ L_Page___len__ L_Page___getitem__ L_Page_around L_Page_within L_Page___iter__ L_Page_some pr_Page_names_a pr_Page_names_q F__law_pen_l F__law_draw_l F__law_pick_l F_is_integer_l F_is_name_l F_check_unlike_l F_names_of_l F_Box___str___l F_boxes_text_l F_Box___init___l F_with_inner_l F_boxes_without_l F_boxes_scaled_l F_boxes_with_l F_check_names_l F_Page___init___l F_Page___contains___l F_Page_row_l F_Page_box_l F_Page_names_l F_Page___sub___l F_Page___mul___l F_Page___str___l D_Page_with_box_l F_Box___eq___l F_Page___eq___l F_Page___rmul___l F__law_box_made_l D__law_all_l F__law_page_made_l F__law_boxes_l F__law_page_l F_Page___len___l F_Page___getitem___l F_Page_around_l F_Page_within_l F_Page___iter___l F_Page_some_l F__law_box_right_l F__law_right_l F_law_l F__law_pen_c F__law_pen_k n_list_a F__law_draw_c F__law_draw_k n_int_a n_len_a n_abs_a F__law_pick_c F__law_pick_k F_is_integer_c F_is_integer_k n_isinstance_a n_bool_a F_is_name_c F_is_name_k n_str_a mi_MOST_LETTERS_a F_check_unlike_c F_check_unlike_k F_names_of_c F_names_of_k n_tuple_a c_Box_p c_Box_h c_Box_o c_Box_s a_Box_names_inside_a F_Box___str___c F_Box___str___k a_Box_told_a F_boxes_text_c F_boxes_text_k t_Box_f t_Box_g t_Box_m y_Box_a y_Box_n y_Box_t a_Box_name_a a_Box_offset_a a_Box_units_a a_Box_inner_a F_Box___init___c F_Box___init___k F_with_inner_c F_with_inner_k mk_Box_m mk_Box_f mk_Box_k F_boxes_without_c F_boxes_without_k F_boxes_scaled_c F_boxes_scaled_k F_boxes_with_c F_boxes_with_k F_check_names_c F_check_names_k cv_Page_MOST_BOXES_r cv_Page_MOST_BOXES_g cv_Page_MOST_BOXES_v F_Page___init___c F_Page___init___k n_enumerate_a c_Page_p c_Page_h c_Page_o c_Page_s a_Page_boxes_a a_Page_all_names_a a_Page_rows_a F_Page___contains___c F_Page___contains___k F_Page_row_c F_Page_row_k in_Page_f F_Page_box_c F_Page_box_k h_Page_row_f F_Page_names_c F_Page_names_k F_Page___sub___c F_Page___sub___k mk_Page_m mk_Page_f mk_Page_k F_Page___mul___c F_Page___mul___k F_Page___str___c F_Page___str___k D_Page_with_box_c D_Page_with_box_k D_Page_with_box_t h_Page_box_f F_Box___eq___c F_Box___eq___k F_Page___eq___c F_Page___eq___k q_Box_eq_f q_Box_eq_n y_Page_a y_Page_m F_Page___rmul___c F_Page___rmul___k b_Page_mul_f b_Page_mul_c b_Page_mul_t b_Page_mul_u b_Page_mul_w F__law_box_made_c F__law_box_made_k D__law_all_c D__law_all_k D__law_all_t F__law_page_made_c F__law_page_made_k h_Page_with_box_f F__law_boxes_c F__law_boxes_k n_range_a F__law_page_c F__law_page_k F_Page___len___c F_Page___len___k F_Page___getitem___c F_Page___getitem___k F_Page_around_c F_Page_around_k F_Page_within_c F_Page_within_k F_Page___iter___c F_Page___iter___k n_iter_a F_Page_some_c F_Page_some_k F__law_box_right_c F__law_box_right_k n_repr_a n_zip_a F__law_right_c F__law_right_k z_Page_e z_Page_f z_Page_n t_Page_f t_Page_g pr_Page_names_g pr_Page_names_t w_Page_str_n w_Page_tuple_n i_list_is_Page_c i_list_is_Page_t i_list_is_Page_a i_str_is_Page_a i_tuple_is_Page_a ln_Page_f nb_Page_s gi_Page_f gi_Page_i it_Page_f h_Page_around_f h_Page_within_f h_Page_some_f F_law_c F_law_k z_Box_e w_Box_Page_n i_Page_is_Box_n i_Page_is_Box_c i_Page_is_Box_t i_Page_is_Box_a)
