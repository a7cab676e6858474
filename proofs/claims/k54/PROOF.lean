import PyProof.Rows.All
import Wide.All
import OpenK.AllK
import Wide.FinOn
import HandS.ForMost
import HandS.ForExc
import HandS.Wide
import HandS.Gcd
import HandS.IsInst
import HandS.Defaults
import HandS.Flow
import HandS.EndBits
import HandS.Property
import HandS.Walk
import HandS.Style
import PySem.Challenge.RW_valvelevels_k54_scripts_that_are_none
import HandS.Evl
import HandS.Steps
import PyProof.ReprRoads
import HandS.Head0
import HandS.Head1
import HandS.Head2
import HandS.Head3
import HandS.HeadHook1
import HandS.HeadHook2
import HandS.More
import HandS.Star
import KE.KExcIs
import HandS.TryOnly
import HandS.ExcInit
import HandS.ExcField
import HandS.ExcOwn
import HandS.ExcIs
import HandS.Iter
import HandS.Dict
import HandS.Deep
import HandS.MakeKwOnly
import HandS.Exc
import HandS.WordsExc
import HandS.OwnEq
import HandS.HotCalls
import HandS.Lambda
import HandS.Text
import PyProof.ReprReads
import PyProof.Rows.Digits
import PyProof.StrReplace2
import KE.KUnpack
import PyProof.CollectIter
import KE.IntTextText
import HandS.Comp
import HandS.ExcCtx
import HandS.ExcInitHot
import HandS.SuiteRaise
import PyProof.NeData
import HandS.SetFor
import HandS.SortInts
import HandS.Strs
import HandS.ReplaceLit
import HandS.ReplaceDef
import PyProof.Rows.StrRev
import HandS.ReplaceList
import PyProof.StrBlock2
import KE.KFmtOwn
set_option Elab.async false
set_option linter.all false
set_option maxRecDepth 100000
set_option maxHeartbeats 20000000
set_option exponentiation.threshold 100000
namespace V2
open PySem L2
/-! the text by its places -/
def topS (i : Nat) : Stmt := PySem.Challenge.pw_valvelevels_k54_scripts_that_are_none.main.body.getD i (.Pass ⟨0, 0, 0, 0⟩)
/-- a def in a class's body -/
def inClass (st : Stmt) (i : Nat) : Stmt := match st with
  | .ClassDef _ _ _ body _ _ _ _ _ _ _ => body.getD i (.Pass ⟨0, 0, 0, 0⟩)
  | _ => .Pass ⟨0, 0, 0, 0⟩

abbrev s__wall : Stmt := topS 1
abbrev n__wall : List Str := ["k"]
abbrev p__wall : List Str := ["k"]
theorem sc__wall : FnScope n__wall p__wall (defScope s__wall) := ⟨rfl, rfl, rfl, by decide +kernel, rfl, by decide +kernel, by decide +kernel⟩
abbrev s_order_of_fractions : Stmt := topS 3
abbrev n_order_of_fractions : List Str := ["one", "other"]
abbrev p_order_of_fractions : List Str := ["one", "other"]
theorem sc_order_of_fractions : FnScope n_order_of_fractions p_order_of_fractions (defScope s_order_of_fractions) := ⟨rfl, rfl, rfl, by decide +kernel, rfl, by decide +kernel, by decide +kernel⟩
abbrev s_sign_of : Stmt := topS 4
abbrev n_sign_of : List Str := ["number"]
abbrev p_sign_of : List Str := ["number"]
theorem sc_sign_of : FnScope n_sign_of p_sign_of (defScope s_sign_of) := ⟨rfl, rfl, rfl, by decide +kernel, rfl, by decide +kernel, by decide +kernel⟩
abbrev s_TE_init : Stmt := inClass (topS 6) 0
abbrev n_TE_init : List Str := ["self", "value"]
abbrev p_TE_init : List Str := ["self", "value"]
theorem sc_TE_init : FnScope n_TE_init p_TE_init (defScope s_TE_init) := ⟨rfl, rfl, rfl, by decide +kernel, rfl, by decide +kernel, by decide +kernel⟩
abbrev s_copied : Stmt := topS 14
abbrev n_copied : List Str := ["thing", "part"]
abbrev p_copied : List Str := ["thing"]
theorem sc_copied : FnScope n_copied p_copied (defScope s_copied) := ⟨rfl, rfl, rfl, by decide +kernel, rfl, by decide +kernel, by decide +kernel⟩
abbrev s_is_integer : Stmt := topS 15
abbrev n_is_integer : List Str := ["thing"]
abbrev p_is_integer : List Str := ["thing"]
theorem sc_is_integer : FnScope n_is_integer p_is_integer (defScope s_is_integer) := ⟨rfl, rfl, rfl, by decide +kernel, rfl, by decide +kernel, by decide +kernel⟩
abbrev s_is_fraction : Stmt := topS 16
abbrev n_is_fraction : List Str := ["thing", "above", "below"]
abbrev p_is_fraction : List Str := ["thing"]
theorem sc_is_fraction : FnScope n_is_fraction p_is_fraction (defScope s_is_fraction) := ⟨rfl, rfl, rfl, by decide +kernel, rfl, by decide +kernel, by decide +kernel⟩
abbrev s_is_amount : Stmt := topS 19
abbrev n_is_amount : List Str := ["thing"]
abbrev p_is_amount : List Str := ["thing"]
theorem sc_is_amount : FnScope n_is_amount p_is_amount (defScope s_is_amount) := ⟨rfl, rfl, rfl, by decide +kernel, rfl, by decide +kernel, by decide +kernel⟩
abbrev s_is_tank : Stmt := topS 20
abbrev n_is_tank : List Str := ["thing", "width", "amount"]
abbrev p_is_tank : List Str := ["thing"]
theorem sc_is_tank : FnScope n_is_tank p_is_tank (defScope s_is_tank) := ⟨rfl, rfl, rfl, by decide +kernel, rfl, by decide +kernel, by decide +kernel⟩
abbrev s_check_tanks : Stmt := topS 21
abbrev n_check_tanks : List Str := ["tanks", "tank"]
abbrev p_check_tanks : List Str := ["tanks"]
theorem sc_check_tanks : FnScope n_check_tanks p_check_tanks (defScope s_check_tanks) := ⟨rfl, rfl, rfl, by decide +kernel, rfl, by decide +kernel, by decide +kernel⟩
abbrev s_is_ascending : Stmt := topS 22
abbrev n_is_ascending : List Str := ["told", "number", "k"]
abbrev p_is_ascending : List Str := ["told"]
theorem sc_is_ascending : FnScope n_is_ascending p_is_ascending (defScope s_is_ascending) := ⟨rfl, rfl, rfl, by decide +kernel, rfl, by decide +kernel, by decide +kernel⟩
abbrev s_is_step : Stmt := topS 23
abbrev n_is_step : List Str := ["thing", "word"]
abbrev p_is_step : List Str := ["thing"]
theorem sc_is_step : FnScope n_is_step p_is_step (defScope s_is_step) := ⟨rfl, rfl, rfl, by decide +kernel, rfl, by decide +kernel, by decide +kernel⟩
abbrev s_tanks_of : Stmt := topS 24
abbrev n_tanks_of : List Str := ["step"]
abbrev p_tanks_of : List Str := ["step"]
theorem sc_tanks_of : FnScope n_tanks_of p_tanks_of (defScope s_tanks_of) := ⟨rfl, rfl, rfl, by decide +kernel, rfl, by decide +kernel, by decide +kernel⟩
abbrev s_check_numbers : Stmt := topS 25
abbrev n_check_numbers : List Str := ["numbers", "many", "number"]
abbrev p_check_numbers : List Str := ["numbers", "many"]
theorem sc_check_numbers : FnScope n_check_numbers p_check_numbers (defScope s_check_numbers) := ⟨rfl, rfl, rfl, by decide +kernel, rfl, by decide +kernel, by decide +kernel⟩
abbrev s_check_part : Stmt := topS 26
abbrev n_check_part : List Str := ["part"]
abbrev p_check_part : List Str := ["part"]
theorem sc_check_part : FnScope n_check_part p_check_part (defScope s_check_part) := ⟨rfl, rfl, rfl, by decide +kernel, rfl, by decide +kernel, by decide +kernel⟩
abbrev s_check_step : Stmt := topS 27
abbrev n_check_step : List Str := ["step", "many"]
abbrev p_check_step : List Str := ["step", "many"]
theorem sc_check_step : FnScope n_check_step p_check_step (defScope s_check_step) := ⟨rfl, rfl, rfl, by decide +kernel, rfl, by decide +kernel, by decide +kernel⟩
abbrev s_check_index : Stmt := topS 28
abbrev n_check_index : List Str := ["index", "many"]
abbrev p_check_index : List Str := ["index", "many"]
theorem sc_check_index : FnScope n_check_index p_check_index (defScope s_check_index) := ⟨rfl, rfl, rfl, by decide +kernel, rfl, by decide +kernel, by decide +kernel⟩
abbrev s_Sc_init : Stmt := inClass (topS 30) 0
abbrev n_Sc_init : List Str := ["self", "tanks", "steps", "step"]
abbrev p_Sc_init : List Str := ["self", "tanks", "steps"]
theorem sc_Sc_init : FnScope n_Sc_init p_Sc_init (defScope s_Sc_init) := ⟨rfl, rfl, rfl, by decide +kernel, rfl, by decide +kernel, by decide +kernel⟩
abbrev s_Sc_tanks : Stmt := inClass (topS 30) 1
abbrev n_Sc_tanks : List Str := ["self"]
abbrev p_Sc_tanks : List Str := ["self"]
theorem sc_Sc_tanks : FnScope n_Sc_tanks p_Sc_tanks (defScope s_Sc_tanks) := ⟨rfl, rfl, rfl, by decide +kernel, rfl, by decide +kernel, by decide +kernel⟩
abbrev s_Sc_steps : Stmt := inClass (topS 30) 2
abbrev n_Sc_steps : List Str := ["self"]
abbrev p_Sc_steps : List Str := ["self"]
theorem sc_Sc_steps : FnScope n_Sc_steps p_Sc_steps (defScope s_Sc_steps) := ⟨rfl, rfl, rfl, by decide +kernel, rfl, by decide +kernel, by decide +kernel⟩
abbrev s_Sc_unknown : Stmt := inClass (topS 30) 3
abbrev n_Sc_unknown : List Str := ["self", "width", "_"]
abbrev p_Sc_unknown : List Str := ["self"]
theorem sc_Sc_unknown : FnScope n_Sc_unknown p_Sc_unknown (defScope s_Sc_unknown) := ⟨rfl, rfl, rfl, by decide +kernel, rfl, by decide +kernel, by decide +kernel⟩
abbrev s_Sc_getitem : Stmt := inClass (topS 30) 4
abbrev n_Sc_getitem : List Str := ["self", "at"]
abbrev p_Sc_getitem : List Str := ["self", "at"]
theorem sc_Sc_getitem : FnScope n_Sc_getitem p_Sc_getitem (defScope s_Sc_getitem) := ⟨rfl, rfl, rfl, by decide +kernel, rfl, by decide +kernel, by decide +kernel⟩
abbrev s_Sc_iter : Stmt := inClass (topS 30) 5
abbrev n_Sc_iter : List Str := ["self"]
abbrev p_Sc_iter : List Str := ["self"]
theorem sc_Sc_iter : FnScope n_Sc_iter p_Sc_iter (defScope s_Sc_iter) := ⟨rfl, rfl, rfl, by decide +kernel, rfl, by decide +kernel, by decide +kernel⟩
abbrev s_Sc_without : Stmt := inClass (topS 30) 6
abbrev n_Sc_without : List Str := ["self", "index"]
abbrev p_Sc_without : List Str := ["self", "index"]
theorem sc_Sc_without : FnScope n_Sc_without p_Sc_without (defScope s_Sc_without) := ⟨rfl, rfl, rfl, by decide +kernel, rfl, by decide +kernel, by decide +kernel⟩
abbrev s_Sc_exchanged : Stmt := inClass (topS 30) 7
abbrev n_Sc_exchanged : List Str := ["self", "index"]
abbrev p_Sc_exchanged : List Str := ["self", "index"]
theorem sc_Sc_exchanged : FnScope n_Sc_exchanged p_Sc_exchanged (defScope s_Sc_exchanged) := ⟨rfl, rfl, rfl, by decide +kernel, rfl, by decide +kernel, by decide +kernel⟩
abbrev s_Sc_len : Stmt := inClass (topS 30) 8
abbrev n_Sc_len : List Str := ["self"]
abbrev p_Sc_len : List Str := ["self"]
theorem sc_Sc_len : FnScope n_Sc_len p_Sc_len (defScope s_Sc_len) := ⟨rfl, rfl, rfl, by decide +kernel, rfl, by decide +kernel, by decide +kernel⟩
abbrev s_Sc_eq : Stmt := inClass (topS 30) 9
abbrev n_Sc_eq : List Str := ["self", "other"]
abbrev p_Sc_eq : List Str := ["self", "other"]
theorem sc_Sc_eq : FnScope n_Sc_eq p_Sc_eq (defScope s_Sc_eq) := ⟨rfl, rfl, rfl, by decide +kernel, rfl, by decide +kernel, by decide +kernel⟩
abbrev s_read_script : Stmt := topS 32
abbrev n_read_script : List Str := ["text", "first", "others", "tanks", "part"]
abbrev p_read_script : List Str := ["text"]
theorem sc_read_script : FnScope n_read_script p_read_script (defScope s_read_script) := ⟨rfl, rfl, rfl, by decide +kernel, rfl, by decide +kernel, by decide +kernel⟩
abbrev s_read_tank : Stmt := topS 33
abbrev n_read_tank : List Str := ["text", "parts", "width"]
abbrev p_read_tank : List Str := ["text"]
theorem sc_read_tank : FnScope n_read_tank p_read_tank (defScope s_read_tank) := ⟨rfl, rfl, rfl, by decide +kernel, rfl, by decide +kernel, by decide +kernel⟩
abbrev s_read_step : Stmt := topS 34
abbrev n_read_step : List Str := ["text", "word", "things", "part"]
abbrev p_read_step : List Str := ["text"]
theorem sc_read_step : FnScope n_read_step p_read_step (defScope s_read_step) := ⟨rfl, rfl, rfl, by decide +kernel, rfl, by decide +kernel, by decide +kernel⟩
abbrev s_read_thing : Stmt := topS 35
abbrev n_read_thing : List Str := ["text", "part"]
abbrev p_read_thing : List Str := ["text"]
theorem sc_read_thing : FnScope n_read_thing p_read_thing (defScope s_read_thing) := ⟨rfl, rfl, rfl, by decide +kernel, rfl, by decide +kernel, by decide +kernel⟩
abbrev s_read_integer : Stmt := topS 36
abbrev n_read_integer : List Str := ["text", "digits", "sign"]
abbrev p_read_integer : List Str := ["text"]
theorem sc_read_integer : FnScope n_read_integer p_read_integer (defScope s_read_integer) := ⟨rfl, rfl, rfl, by decide +kernel, rfl, by decide +kernel, by decide +kernel⟩
abbrev s_show_script : Stmt := topS 38
abbrev n_show_script : List Str := ["plan", "tanks", "tank", "step", "thing"]
abbrev p_show_script : List Str := ["plan"]
theorem sc_show_script : FnScope n_show_script p_show_script (defScope s_show_script) := ⟨rfl, rfl, rfl, by decide +kernel, rfl, by decide +kernel, by decide +kernel⟩
abbrev s_show_tank : Stmt := topS 39
abbrev n_show_tank : List Str := ["tank", "width", "amount"]
abbrev p_show_tank : List Str := ["tank"]
theorem sc_show_tank : FnScope n_show_tank p_show_tank (defScope s_show_tank) := ⟨rfl, rfl, rfl, by decide +kernel, rfl, by decide +kernel, by decide +kernel⟩
abbrev s_show_thing : Stmt := topS 40
abbrev n_show_thing : List Str := ["thing", "number"]
abbrev p_show_thing : List Str := ["thing"]
theorem sc_show_thing : FnScope n_show_thing p_show_thing (defScope s_show_thing) := ⟨rfl, rfl, rfl, by decide +kernel, rfl, by decide +kernel, by decide +kernel⟩
abbrev s_show_integer : Stmt := topS 41
abbrev n_show_integer : List Str := ["number", "left", "parts", "part"]
abbrev p_show_integer : List Str := ["number"]
theorem sc_show_integer : FnScope n_show_integer p_show_integer (defScope s_show_integer) := ⟨rfl, rfl, rfl, by decide +kernel, rfl, by decide +kernel, by decide +kernel⟩
abbrev s_l_purse : Stmt := topS 43
abbrev n_l_purse : List Str := ["script", "place", "cell"]
abbrev p_l_purse : List Str := ["script", "place"]
theorem sc_l_purse : FnScope n_l_purse p_l_purse (defScope s_l_purse) := ⟨rfl, rfl, rfl, by decide +kernel, rfl, by decide +kernel, by decide +kernel⟩
abbrev s_l_coin : Stmt := topS 44
abbrev n_l_coin : List Str := ["purse", "many", "drawn", "stirred"]
abbrev p_l_coin : List Str := ["purse", "many"]
theorem sc_l_coin : FnScope n_l_coin p_l_coin (defScope s_l_coin) := ⟨rfl, rfl, rfl, by decide +kernel, rfl, by decide +kernel, by decide +kernel⟩
abbrev s_l_shared : Stmt := topS 45
abbrev n_l_shared : List Str := ["one", "other", "turn"]
abbrev p_l_shared : List Str := ["one", "other"]
theorem sc_l_shared : FnScope n_l_shared p_l_shared (defScope s_l_shared) := ⟨rfl, rfl, rfl, by decide +kernel, rfl, by decide +kernel, by decide +kernel⟩
abbrev s_l_ratio : Stmt := topS 46
abbrev n_l_ratio : List Str := ["above_now", "below", "share"]
abbrev p_l_ratio : List Str := ["above_now", "below"]
theorem sc_l_ratio : FnScope n_l_ratio p_l_ratio (defScope s_l_ratio) := ⟨rfl, rfl, rfl, by decide +kernel, rfl, by decide +kernel, by decide +kernel⟩
abbrev s_l_drawn_part : Stmt := topS 47
abbrev n_l_drawn_part : List Str := ["purse", "most", "below"]
abbrev p_l_drawn_part : List Str := ["purse", "most"]
theorem sc_l_drawn_part : FnScope n_l_drawn_part p_l_drawn_part (defScope s_l_drawn_part) := ⟨rfl, rfl, rfl, by decide +kernel, rfl, by decide +kernel, by decide +kernel⟩
abbrev s_l_drawn_tanks : Stmt := topS 48
abbrev n_l_drawn_tanks : List Str := ["purse", "many", "most", "rank", "found", "at", "amount", "width_here"]
abbrev p_l_drawn_tanks : List Str := ["purse", "many", "most"]
theorem sc_l_drawn_tanks : FnScope n_l_drawn_tanks p_l_drawn_tanks (defScope s_l_drawn_tanks) := ⟨rfl, rfl, rfl, by decide +kernel, rfl, by decide +kernel, by decide +kernel⟩
abbrev s_l_pair : Stmt := topS 49
abbrev n_l_pair : List Str := ["purse", "many", "one"]
abbrev p_l_pair : List Str := ["purse", "many"]
theorem sc_l_pair : FnScope n_l_pair p_l_pair (defScope s_l_pair) := ⟨rfl, rfl, rfl, by decide +kernel, rfl, by decide +kernel, by decide +kernel⟩
abbrev s_l_drawn_step : Stmt := topS 50
abbrev n_l_drawn_step : List Str := ["purse", "many", "most", "words", "word", "one", "other", "some", "at"]
abbrev p_l_drawn_step : List Str := ["purse", "many", "most", "words"]
theorem sc_l_drawn_step : FnScope n_l_drawn_step p_l_drawn_step (defScope s_l_drawn_step) := ⟨rfl, rfl, rfl, by decide +kernel, rfl, by decide +kernel, by decide +kernel⟩
abbrev s_l_drawn_plan : Stmt := topS 51
abbrev n_l_drawn_plan : List Str := ["purse", "most", "tanks_here", "steps_here", "opens", "stops", "turn", "words", "step", "word"]
abbrev p_l_drawn_plan : List Str := ["purse"]
theorem sc_l_drawn_plan : FnScope n_l_drawn_plan p_l_drawn_plan (defScope s_l_drawn_plan) := ⟨rfl, rfl, rfl, by decide +kernel, rfl, by decide +kernel, by decide +kernel⟩
abbrev s_l_great_plan : Stmt := topS 52
abbrev n_l_great_plan : List Str := ["purse", "many", "words", "steps_here", "turn"]
abbrev p_l_great_plan : List Str := ["purse"]
theorem sc_l_great_plan : FnScope n_l_great_plan p_l_great_plan (defScope s_l_great_plan) := ⟨rfl, rfl, rfl, by decide +kernel, rfl, by decide +kernel, by decide +kernel⟩
abbrev s_l_step_text : Stmt := topS 53
abbrev n_l_step_text : List Str := ["step", "found", "thing", "tank_here"]
abbrev p_l_step_text : List Str := ["step"]
theorem sc_l_step_text : FnScope n_l_step_text p_l_step_text (defScope s_l_step_text) := ⟨rfl, rfl, rfl, by decide +kernel, rfl, by decide +kernel, by decide +kernel⟩
abbrev s_l_script_text : Stmt := topS 54
abbrev n_l_script_text : List Str := ["shape", "tanks_here", "width_here", "amount", "told", "rows", "step"]
abbrev p_l_script_text : List Str := ["shape"]
theorem sc_l_script_text : FnScope n_l_script_text p_l_script_text (defScope s_l_script_text) := ⟨rfl, rfl, rfl, by decide +kernel, rfl, by decide +kernel, by decide +kernel⟩
abbrev s_l_number_of : Stmt := topS 55
abbrev n_l_number_of : List Str := ["piece", "sign_now"]
abbrev p_l_number_of : List Str := ["piece"]
theorem sc_l_number_of : FnScope n_l_number_of p_l_number_of (defScope s_l_number_of) := ⟨rfl, rfl, rfl, by decide +kernel, rfl, by decide +kernel, by decide +kernel⟩
abbrev s_l_is_part : Stmt := topS 56
abbrev n_l_is_part : List Str := ["piece", "sides_here", "one"]
abbrev p_l_is_part : List Str := ["piece"]
theorem sc_l_is_part : FnScope n_l_is_part p_l_is_part (defScope s_l_is_part) := ⟨rfl, rfl, rfl, by decide +kernel, rfl, by decide +kernel, by decide +kernel⟩
abbrev s_l_is_list : Stmt := topS 57
abbrev n_l_is_list : List Str := ["piece", "many", "some", "one"]
abbrev p_l_is_list : List Str := ["piece", "many"]
theorem sc_l_is_list : FnScope n_l_is_list p_l_is_list (defScope s_l_is_list) := ⟨rfl, rfl, rfl, by decide +kernel, rfl, by decide +kernel, by decide +kernel⟩
abbrev s_l_is_step : Stmt := topS 58
abbrev n_l_is_step : List Str := ["wording", "many", "pieces_now", "size", "end", "some", "one"]
abbrev p_l_is_step : List Str := ["wording", "many"]
theorem sc_l_is_step : FnScope n_l_is_step p_l_is_step (defScope s_l_is_step) := ⟨rfl, rfl, rfl, by decide +kernel, rfl, by decide +kernel, by decide +kernel⟩
abbrev s_l_is_script : Stmt := topS 59
abbrev n_l_is_script : List Str := ["wording", "parts_here", "tanks_here", "count", "one", "pieces_now"]
abbrev p_l_is_script : List Str := ["wording"]
theorem sc_l_is_script : FnScope n_l_is_script p_l_is_script (defScope s_l_is_script) := ⟨rfl, rfl, rfl, by decide +kernel, rfl, by decide +kernel, by decide +kernel⟩
abbrev s_l_caught_script : Stmt := topS 60
abbrev n_l_caught_script : List Str := ["wording", "way", "found", "again", "e", "odd"]
abbrev p_l_caught_script : List Str := ["wording", "way"]
theorem sc_l_caught_script : FnScope n_l_caught_script p_l_caught_script (defScope s_l_caught_script) := ⟨rfl, rfl, rfl, by decide +kernel, rfl, by decide +kernel, by decide +kernel⟩
abbrev s_l_odd_script : Stmt := topS 61
abbrev n_l_odd_script : List Str := ["purse", "wording", "menu", "kept", "many", "one"]
abbrev p_l_odd_script : List Str := ["purse", "wording"]
theorem sc_l_odd_script : FnScope n_l_odd_script p_l_odd_script (defScope s_l_odd_script) := ⟨rfl, rfl, rfl, by decide +kernel, rfl, by decide +kernel, by decide +kernel⟩
abbrev s_l_marred_script : Stmt := topS 62
abbrev n_l_marred_script : List Str := ["purse", "wording", "spot", "way", "wide", "signs", "sign_now", "between", "pieces_now", "left", "right", "piece"]
abbrev p_l_marred_script : List Str := ["purse", "wording"]
theorem sc_l_marred_script : FnScope n_l_marred_script p_l_marred_script (defScope s_l_marred_script) := ⟨rfl, rfl, rfl, by decide +kernel, rfl, by decide +kernel, by decide +kernel⟩
abbrev s_l_right : Stmt := topS 63
abbrev n_l_right : List Str := ["purse", "shape", "wording", "turn", "bent", "owed"]
abbrev p_l_right : List Str := ["purse"]
theorem sc_l_right : FnScope n_l_right p_l_right (defScope s_l_right) := ⟨rfl, rfl, rfl, by decide +kernel, rfl, by decide +kernel, by decide +kernel⟩
abbrev s_law : Stmt := topS 64
abbrev n_law : List Str := ["script", "spot", "purse", "turn"]
abbrev p_law : List Str := ["script"]
theorem sc_law : FnScope n_law p_law (defScope s_law) := ⟨rfl, rfl, rfl, by decide +kernel, rfl, by decide +kernel, by decide +kernel⟩
end V2


namespace V2
open PySem L2
open PySem.Spec PyProof.Rows
def CPowX (i j : Int) : Prop := 0 ≤ j ∧ (Builtin.Int.intBits i : Int) * j ≤ 2 ^ 27
theorem op_powX {X : Cx} : OpR X (binaryOp .Pow) (rI CPowX fun i j => .int (i ^ j.toNat)) :=
  opI fun _ _ _ _ _ _ _ hc q => pow_int hc.1 hc.2 q
theorem pow_ok {i : Int} {k n : Nat} (hi : i.natAbs < 2 ^ k) (h : k * n ≤ 134217728) : CPowX i (n : Int) := by
  (refine ⟨Int.natCast_nonneg _, ?_⟩)
  have h1 := intBits_le hi
  have h2 : Builtin.Int.intBits i * n ≤ k * n := Nat.mul_le_mul_right n h1
  have h3 : ((Builtin.Int.intBits i * n : Nat) : Int) ≤ 134217728 := by omega
  have e : (2 : Int) ^ 27 = 134217728 := (by decide)
  rw [e, ← Int.natCast_mul]
  exact h3
/-- all but the list at p is as it was (and there may be new things) -/
def But (p : Addr) (H H' : Hp) : Prop := ∀ b o, b ≠ p → H b = some o → H' b = some o
theorem But.refl (p : Addr) (H : Hp) : But p H H := fun _ _ _ h => h
theorem But.trans {p : Addr} {H H1 H2 : Hp} (a : But p H H1) (b : But p H1 H2) : But p H H2 := fun c o n h => b c o n (a c o n h)
theorem But.of_ex {p : Addr} {H H' : Hp} (e : Evl.Ex H H') : But p H H' := fun b o _ h => e b o h
theorem But.upd {p : Addr} {H : Hp} {o : HO} : But p H (upd H p o) := fun b u n h => by
  rw [upd_ne n]; exact h
/-- the law's sack at p: three ints, at most m draws so far -/
def Sk (H : Hp) (p : Addr) (m : Nat) : Prop := ∃ a b c : Int, H p = some (.lst [.int a, .int b, .int c]) ∧ 0 ≤ a ∧ 0 ≤ b ∧ b < 2 ^ 80 ∧ 0 ≤ c ∧ c ≤ m
theorem Sk.le {H : Hp} {p : Addr} {m n : Nat} (h : Sk H p m) (l : m ≤ n) : Sk H p n := by
  obtain ⟨a, b, c, h1, h2, h3, h4, h5, h6⟩ := h
  exact ⟨a, b, c, h1, h2, h3, h4, h5, by omega⟩
theorem Sk.ex {H H' : Hp} {p : Addr} {m : Nat} (h : Sk H p m) (e : Evl.Ex H H') : Sk H' p m := by
  obtain ⟨a, b, c, h1, h2⟩ := h
  exact ⟨a, b, c, e _ _ h1, h2⟩
/-- a draw: any number below many, the sack goes on -/
def spCoin : Sp := fun vs H Q _ => ∃ (p : Addr) (many : Int) (m : Nat), vs = [.ref p, .int many] ∧ Sk H p m ∧ m ≤ 100000 ∧ 0 < many ∧ many.natAbs < 2 ^ 200 ∧
  ∀ (r : Int) (H' : Hp), 0 ≤ r → r < many → But p H H' → Sk H' p (m + 1) → (∀ q, H q = none → H' q = none) → Q (.int r) H'
structure T0 (mg : Str → Option Value) : Prop where
  len : mg "len" = none
  max : mg "max" = none
  abs : mg "abs" = none
  int : mg "int" = none
theorem at0 {a b c : V} : atI [a, b, c] 0 = some a := by rfl
theorem at1 {a b c : V} : atI [a, b, c] 1 = some b := by rfl
theorem at2 {a b c : V} : atI [a, b, c] 2 = some c := by rfl
theorem ixN3 (j : Nat) (h : j < 3) : ixN 3 (j : Int) = some j := Evl.ixN_nat h
section
variable {base : Heap} {mg : Str → Option Value} {K : PySem.W.Frag} {w : World} {P : Program}
end
end V2



namespace V2
/-- how many zeros a list begins with -/
def zer : List Int → Nat
  | [] => 0
  | x :: r => if x = 0 then zer r + 1 else 0
theorem zer_le : ∀ l : List Int, zer l ≤ l.length
  | [] => Nat.le_refl _
  | x :: r => by
    unfold zer
    split
    · have := zer_le r; simp only [List.length_cons]; omega
    · exact Nat.zero_le _
theorem zer_in : ∀ (l : List Int) (j : Nat), j < zer l → l[j]? = some 0
  | [], j, h => absurd h (Nat.not_lt_zero _)
  | x :: r, j, h => by
    unfold zer at h
    split at h
    · rename_i e
      cases j with
      | zero => simp [e]
      | succ j => simpa using zer_in r j (by omega)
    · exact absurd h (Nat.not_lt_zero _)
theorem zer_at : ∀ (l : List Int), zer l < l.length → ∃ x, l[zer l]? = some x ∧ x ≠ 0
  | [], h => absurd h (Nat.not_lt_zero _)
  | x :: r, h => by
    unfold zer at h ⊢
    split
    · rename_i e
      rw [if_pos e, List.length_cons] at h
      obtain ⟨y, h1, h2⟩ := zer_at r (by omega)
      exact ⟨y, by simpa using h1, h2⟩
    · rename_i e
      exact ⟨x, rfl, e⟩
/-- how many zeros stand at the end -/
def tz (ns : List Int) : Nat := zer ns.reverse
theorem tz_le (ns : List Int) : tz ns ≤ ns.length := by
  have := zer_le ns.reverse
  rwa [List.length_reverse] at this
theorem tz_in (ns : List Int) (j : Nat) (h : j < tz ns) : ns[ns.length - 1 - j]? = some 0 := by
  have h1 := zer_in ns.reverse j h
  have h2 := tz_le ns
  rwa [List.getElem?_reverse (by omega)] at h1
theorem tz_at (ns : List Int) (h : tz ns < ns.length) : ∃ x, ns[ns.length - 1 - tz ns]? = some x ∧ x ≠ 0 := by
  have h1 := zer_at ns.reverse (by rwa [List.length_reverse])
  obtain ⟨x, h2, h3⟩ := h1
  refine ⟨x, ?_, h3⟩
  change ns.reverse[tz ns]? = some x at h2
  rwa [List.getElem?_reverse h] at h2
/-- without the zeros at the end -/
def trm (ns : List Int) : List Int := ns.take (ns.length - tz ns)
/-- no 0 at the end -/
def Pol (ns : List Int) : Prop := ∀ x, ns[ns.length - 1]? = some x → x ≠ 0
theorem pol_trm (ns : List Int) : Pol (trm ns) := by
  intro x h
  unfold trm at h
  have h2 := tz_le ns
  rw [List.length_take, Nat.min_eq_left (Nat.sub_le _ _)] at h
  by_cases h3 : tz ns < ns.length
  · obtain ⟨y, h4, h5⟩ := tz_at ns h3
    rw [List.getElem?_take, if_pos (by omega), show ns.length - tz ns - 1 = ns.length - 1 - tz ns by omega, h4] at h
    cases h; exact h5
  · rw [List.getElem?_take, if_neg (by omega)] at h
    cases h
theorem trm_len (ns : List Int) : (trm ns).length ≤ ns.length := by
  unfold trm; rw [List.length_take]; omega
theorem trm_mem {ns : List Int} {x : Int} (h : x ∈ trm ns) : x ∈ ns := List.mem_of_mem_take h
theorem mod_half {l r : Nat} (h0 : 0 < r) (h : r < l) : r * (l % r) * 2 ≤ l * r := by
  have h1 := Nat.mod_lt l h0
  have h2 : l % r + r ≤ l := by
    have := Nat.div_add_mod l r
    have h3 : 1 ≤ l / r := Nat.div_pos (Nat.le_of_lt h) h0
    have h4 : r * 1 ≤ r * (l / r) := Nat.mul_le_mul_left r h3
    omega
  have h5 : (l % r) * 2 ≤ l := by omega
  calc r * (l % r) * 2 = r * ((l % r) * 2) := by rw [Nat.mul_assoc]
    _ ≤ r * l := Nat.mul_le_mul_left r h5
    _ = l * r := Nat.mul_comm _ _
/-- behind i turns -/
def Euc (B x y i l r : Nat) : Prop := Nat.gcd l r = Nat.gcd x y ∧ l < 2 ^ B ∧ r < 2 ^ B ∧ (i = 0 ∨ (r < l ∧ l * r * 2 ^ (i - 1) < 2 ^ (2 * B)))
theorem euc_0 {B x y : Nat} (hx : x < 2 ^ B) (hy : y < 2 ^ B) : Euc B x y 0 x y := ⟨rfl, hx, hy, .inl rfl⟩
theorem euc_s {B x y i l r : Nat} (h : Euc B x y i l r) (h0 : 0 < r) : Euc B x y (i + 1) r (l % r) := by
  obtain ⟨hg, hl, hr, hi⟩ := h
  have hm := Nat.mod_lt l h0
  refine ⟨?_, hr, Nat.lt_trans hm hr, .inr ⟨hm, ?_⟩⟩
  · rw [← hg, Nat.gcd_comm r, ← Nat.gcd_rec, Nat.gcd_comm]
  · rw [Nat.add_sub_cancel]
    rcases hi with rfl | ⟨hlt, hb⟩
    · rw [Nat.pow_zero, Nat.mul_one, Nat.two_mul, Nat.pow_add]
      exact Nat.mul_lt_mul'' hr (Nat.lt_trans hm hr)
    · cases i with
      | zero =>
        rw [Nat.pow_zero, Nat.mul_one, Nat.two_mul, Nat.pow_add]
        exact Nat.mul_lt_mul'' hr (Nat.lt_trans hm hr)
      | succ i =>
        rw [Nat.add_sub_cancel] at hb
        refine Nat.lt_of_le_of_lt ?_ hb
        rw [Nat.pow_succ, Nat.mul_comm (2 ^ i) 2, ← Nat.mul_assoc]
        exact Nat.mul_le_mul_right _ (mod_half h0 hlt)
theorem euc_end {B x y i l r : Nat} (h : Euc B x y i l r) (hi : 2 * B + 1 ≤ i) : r = 0 := by
  obtain ⟨_, _, _, h | ⟨hlt, hb⟩⟩ := h
  · omega
  · rcases Nat.eq_zero_or_pos r with e | e
    · exact e
    · exfalso
      have h1 : 1 * 2 ^ (2 * B) ≤ l * r * 2 ^ (i - 1) := Nat.mul_le_mul (Nat.mul_pos (by omega) e) (Nat.pow_le_pow_right (by decide) (by omega))
      omega
theorem euc_val {B x y i l : Nat} (h : Euc B x y i l 0) : l = Nat.gcd x y := by
  rw [← h.1, Nat.gcd_zero_right]
def fr (u d : Int) : Int × Int := (u / (Int.gcd u d : Int), d / (Int.gcd u d : Int))
theorem gcd_pos {u d : Int} (h : 0 < d) : (0 : Int) < (Int.gcd u d : Int) := by
  have := Int.gcd_pos_of_ne_zero_right u (show d ≠ 0 by omega)
  omega
theorem fr_mul {u d : Int} (h : 0 < d) : u = (fr u d).1 * (Int.gcd u d : Int) ∧ d = (fr u d).2 * (Int.gcd u d : Int) :=
  ⟨(Int.ediv_mul_cancel (Int.gcd_dvd_left ..)).symm, (Int.ediv_mul_cancel (Int.gcd_dvd_right ..)).symm⟩
theorem fr_pos {u d : Int} (h : 0 < d) : 0 < (fr u d).2 := by
  have g := gcd_pos (u := u) h
  have e := (fr_mul (u := u) h).2
  rcases Int.lt_or_le 0 (fr u d).2 with h1 | h1
  · exact h1
  · exfalso
    have : (fr u d).2 * (Int.gcd u d : Int) ≤ 0 := Int.mul_nonpos_of_nonpos_of_nonneg h1 (by omega)
    omega
theorem fr_cop {u d : Int} (h : 0 < d) : Int.gcd (fr u d).1 (fr u d).2 = 1 := by
  have g := gcd_pos (u := u) h
  unfold fr
  exact Int.gcd_ediv_gcd_ediv_gcd (by omega)
theorem fr_abs1 {a b : Int} (hb : 0 < b) : (fr a b).1.natAbs ≤ a.natAbs := by
  obtain ⟨h1, _⟩ := fr_mul (u := a) hb
  have g := gcd_pos (u := a) hb
  generalize Int.gcd a b = n at h1 g
  have e : a.natAbs = (fr a b).1.natAbs * n := by
    have := congrArg Int.natAbs h1
    rw [Int.natAbs_mul, Int.natAbs_natCast] at this
    exact this
  rw [e]
  exact Nat.le_mul_of_pos_right _ (by omega)
theorem fr_abs2 {a b : Int} (hb : 0 < b) : (fr a b).2.natAbs ≤ b.natAbs := by
  obtain ⟨_, h1⟩ := fr_mul (u := a) hb
  have g := gcd_pos (u := a) hb
  generalize Int.gcd a b = n at h1 g
  have e : b.natAbs = (fr a b).2.natAbs * n := by
    have := congrArg Int.natAbs h1
    rw [Int.natAbs_mul, Int.natAbs_natCast] at this
    exact this
  rw [e]
  exact Nat.le_mul_of_pos_right _ (by omega)
end V2


namespace V2
open PySem L2
open PySem.Spec PyProof.Rows
def RetU (xs : List V) (H : Hp) (Q : VK) : Prop := ∀ p H2, H p = none → Evl.Ex H H2 → H2 p = some (.tup xs) → Q (.ref p) H2
def iV (ns : List Int) : List V := ns.map V.int
theorem iV_len (ns : List Int) : (iV ns).length = ns.length := List.length_map ..
theorem iV_at {ns : List Int} {j : Nat} {n : Int} (h : ns[j]? = some n) : (iV ns)[j]? = some (.int n) := by
  unfold iV; rw [List.getElem?_map, h]; rfl
/-- the script, the rank: a new sack -/
def spSack (K : PySem.W.Frag) : Sp := fun vs H Q _ => ∃ (a : Addr) (ns : List Int) (r : Nat), vs = [.ref a, .int (r : Int)] ∧ SqL K H a (iV ns) ∧ ns.length ≤ 63 ∧ r ≤ 63 ∧
  ∀ (q : Addr) (H' : Hp), H q = none → Evl.Ex H H' → Sk H' q 0 → Q (.ref q) H'
section
variable {base : Heap} {mg : Str → Option Value} {K : PySem.W.Frag} {w : World} {P : Program}
end
end V2


namespace V2
open PySem L2
open PySem.Spec PyProof.Rows
/-- a def that may be called by its name x -/
def Cal (P : Program) (w : World) (K : PySem.W.Frag) (mg : Str → Option Value) (base : Heap) (k : Nat) (x : Str) (ps : List Str) (sp : Sp) : Prop :=
  ∃ (f : Addr) (fd : FuncData), FnOk P w K mg base CX0 k f fd ps sp ∧ mg x = some (.ref f) ∧ PySem.W.keepIn K (.ref f) = true ∧ Binds K fd ps []
theorem pe_c {X : Cx} {k : Nat} {x : Str} {ps : List Str} {sp : Sp} {e : Expr} {es : List Expr} {t : TA} {p pos : Pos} (c : Cal X.prog X.w X.K X.mg X.base k x ps sp) (hr : Room k X.A) (ha : PA X (e :: es) t) (hg : Gl X x := by rfl)
    (he : starEach (e :: es) X.env = (false, eval e X.env) :: starEach es X.env := by rfl)
    (hpl : (backTo pos (starEach es X.env)).any (fun b => b.1) = false := by rfl) (hdb : (x == ("__debug__" : Str)) = false := by decide) :
    PE X (.Call (.Name x p) (e :: es) [] pos) (tCall sp [] E0 t) := by
  obtain ⟨f, fd, F, hm, hk, hb⟩ := c
  exact pe_call F hr hg hm hk hb .nil pass0 ha hdb he hpl
section
variable {base : Heap} {mg : Str → Option Value} {K : PySem.W.Frag} {w : World} {P : Program}
end
end V2


namespace V2
def vec (N : Nat) (f : Nat → Int) : List Int := (List.range N).map f
theorem vec_len (N : Nat) (f : Nat → Int) : (vec N f).length = N := by unfold vec; simp
theorem vec_get {N : Nat} {f : Nat → Int} {i : Nat} (h : i < N) : (vec N f)[i]? = some (f i) := by
  unfold vec; simp [h]
theorem getD_at {l : List Int} {k : Nat} {x : Int} (h : l[k]? = some x) : l.getD k 0 = x := by
  rw [List.getD_eq_getElem?_getD, h]; rfl
theorem getD_out {l : List Int} {k : Nat} (h : l.length ≤ k) : l.getD k 0 = 0 := by
  rw [List.getD_eq_getElem?_getD, List.getElem?_eq_none h]; rfl
end V2


namespace V2
open PySem L2
open PySem.Spec PyProof.Rows
section
variable {base : Heap} {mg : Str → Option Value} {K : PySem.W.Frag} {w : World} {P : Program}
theorem if_t {c : Bool} {A B : Prop} (hc : c = true) (h : A) : if c = true then A else B := by
  rw [if_pos hc]; exact h
theorem if_f {c : Bool} {A B : Prop} (hc : c = false) (h : B) : if c = true then A else B := by
  rw [hc, if_neg Bool.false_ne_true]; exact h
end
end V2


namespace V2
open PySem L2
open PySem.Spec PyProof.Rows
/-- a list of ints at a -/
def Li (H : Hp) (a : Addr) (ns : List Int) : Prop := H a = some (.lst (iV ns))
theorem Li.sq {K : PySem.W.Frag} {H : Hp} {a : Addr} {ns : List Int} (h : Li H a ns) : SqL K H a (iV ns) := SqL.of h
theorem iV_get {ns : List Int} {i : Nat} {x : V} (h : (iV ns)[i]? = some x) : ∃ n, ns[i]? = some n ∧ x = .int n := by
  unfold iV at h
  rw [List.getElem?_map] at h
  cases e : ns[i]? with
  | none =>
    rw [e] at h
    cases h
  | some n => rw [e] at h; exact ⟨n, rfl, (Option.some.inj h).symm⟩
/-- a polynomial that may be handed over: at most 16 numbers below 2 ^ 64 -/
def Pn (ns : List Int) : Prop := Pol ns ∧ ns.length ≤ 16 ∧ ∀ x ∈ ns, -(2 ^ 64) < x ∧ x < 2 ^ 64
section
variable {base : Heap} {mg : Str → Option Value} {K : PySem.W.Frag} {w : World} {P : Program}
end
end V2


namespace V2
open PySem L2
open PySem.Spec PyProof.Rows
theorem iV_app (xs ys : List Int) : iV xs ++ iV ys = iV (xs ++ ys) := by unfold iV; rw [List.map_append]
section
variable {base : Heap} {mg : Str → Option Value} {K : PySem.W.Frag} {w : World} {P : Program}
end
end V2


namespace V2
def hT (p q : Int) : List Int → Int
  | [] => 0
  | a :: r => hT p q r * p + a * q ^ r.length
def hA (p q : Int) : List Int → Int
  | [] => 0
  | a :: r => a * q ^ (r.length + 1) + p * hA p q r
end V2


namespace V2
open PySem L2
open PySem.Spec PyProof.Rows
/-- a fraction's tuple at a -/
def Fr (H : Hp) (a : Addr) (p q : Int) : Prop := H a = some (.tup [.int p, .int q])
def Qn (p q : Int) : Prop := 0 < q ∧ Int.gcd p q = 1 ∧ p.natAbs < 2 ^ 50 ∧ q.natAbs < 2 ^ 50
section
variable {base : Heap} {mg : Str → Option Value} {K : PySem.W.Frag} {w : World} {P : Program}
end
end V2


namespace V2
open PySem L2
open PySem.Spec PyProof.Rows
theorem big {x : Int} {n m : Nat} (h : x.natAbs < 2 ^ n) (l : n ≤ m) : x.natAbs < 2 ^ m := Nat.lt_of_lt_of_le h (Nat.pow_le_pow_right (by decide) l)
section
variable {base : Heap} {mg : Str → Option Value} {K : PySem.W.Frag} {w : World} {P : Program}
end
end V2


namespace V2
open PySem L2
open PySem.Spec PyProof.Rows
structure T3 (mg : Str → Option Value) : Prop where
  isi : mg "isinstance" = none
  int : mg "int" = none
  bool : mg "bool" = none
  lst : mg "list" = none
  tup : mg "tuple" = none
  len : mg "len" = none
  all : mg "all" = none
  gcd : mg "gcd" = some (.builtin "math.gcd")
def spInt : Sp := fun vs H Q _ => ∃ n : Int, vs = [.int n] ∧ Evl.RetV (.bl true) H Q
theorem atI_end {ns : List Int} (h0 : ns ≠ []) : ∃ x, ns[ns.length - 1]? = some x ∧ atI (iV ns) (-1) = some (.int x) := by
  have e := List.dropLast_concat_getLast h0
  refine ⟨ns.getLast h0, ?_, ?_⟩
  · rw [← List.getLast?_eq_getElem?, List.getLast?_eq_some_getLast h0]
  · have e2 : iV ns = iV ns.dropLast ++ [.int (ns.getLast h0)] := by
      conv => lhs; rw [← e]
      unfold iV
      rw [List.map_append]
      rfl
    rw [e2]
    exact atI_last _ _
theorem rep_snoc (n : Nat) (x : V) : List.replicate n x ++ [x] = List.replicate (n + 1) x := by
  rw [List.replicate_succ']
section
variable {base : Heap} {mg : Str → Option Value} {K : PySem.W.Frag} {w : World} {P : Program}
theorem ok_is_integer {f : Addr} {fd : FuncData} (F : Fun K "is_integer" "is_integer" s_is_integer f fd) (T : T3 mg) : FnOk P w K mg base CX0 1 f fd p_is_integer spInt := by
  refine F.ok sc_is_integer (fun vs H Q E h => ?_) (fun cdv A outer s H vs Q E hr h => ?_)
  · obtain ⟨n, rfl, _⟩ := h
    rfl
  · obtain ⟨n, rfl, k⟩ := h
    refine ⟨_, pss_one (ps_ret (pe_and (pe_callB call_isi (by rfl) T.isi (by decide +kernel) (pa_cons (pv 0) (pa_cons (pe_bltn (v := .ty "int") (by rfl) T.int (by decide +kernel) rfl) pa_nil)))
      (pe_one (pe_not (pe_callB call_isi (by rfl) T.isi (by decide +kernel) (pa_cons (pv 0) (pa_cons (pe_bltn (v := .ty "bool") (by rfl) T.bool (by decide +kernel) rfl) pa_nil))))))), ?_⟩
    refine ⟨_, rfl, _, _, _, _, true, rfl, .ty "int", .base (.int n), kit_ty (by decide +kernel), true, rfl, if_t rfl ?_⟩
    refine ⟨_, rfl, _, _, _, _, false, rfl, .ty "bool", .base (.int n), kit_ty (by decide +kernel), false, rfl, ?_⟩
    exact k _ (Evl.Ex.refl _)
end
end V2


namespace V2
open PySem L2
open PySem.Spec PyProof.Rows
structure FnG (P : Program) (w : World) (K : PySem.W.Frag) (mg : Str → Option Value) (base : Heap) (k : Nat) (f : Addr) (fd : FuncData) (ps : List Str) (sp : Sp) : Prop where
  len : ∀ vs H Qv Ee, sp vs H Qv Ee → vs.length = ps.length
  run : ∀ (A : Around) (outer : List Env) (s : Shared) (H : Hp) (args : Args) (us : List Value) (vs : List V) (Q : VK) (E : XK), A.guards = some [] → Room k A → Env0 P w K mg base A outer s H → BindsTo s fd args (ps.zip us) → Vals vs us → sp vs H Q E →
    codeAny (model P w) A (.call (.ref f) args) (CR CX0 outer P w H s Q E) s
theorem FnOk.toG {P : Program} {w : World} {K : PySem.W.Frag} {mg : Str → Option Value} {base : Heap} {k : Nat} {f : Addr} {fd : FuncData} {ps : List Str} {sp : Sp} (F : FnOk P w K mg base CX0 k f fd ps sp) : FnG P w K mg base k f fd ps sp :=
  ⟨F.len, fun A outer s H args us vs Q E _ => F.run A outer s H args us vs Q E⟩
end V2


namespace V2
open PySem L2
open PySem.Spec PyProof.Rows
/-- it says True and leaves what it found -/
def Fine (s₁ : Shared) : Result → Shared → Prop := fun r s2 =>
  r = .ok (.ret (.bool true)) ∧ OldK s₁.heap s2.heap ∧ s2.os = s₁.os ∧ AllBare s2.gens
section
variable {P : Program} {w : World} {K : PySem.W.Frag} {mg mb : Str → Option Value} {k : Nat} {fa a : Addr} {fd : FuncData} {x : Str} {sp : Sp} {s₁ : Shared} {vs : List Value} {ns : List Int}
/-- from an abstract heap that tracks the script at most -/
theorem core_G (KX : K.In s₁.heap) (hns : s₁.heap.Ns mainGlobals mg) (hb : s₁.heap.Ns builtinsNs mb) (hbb : ∀ x : Str, x ≠ "__name__" → mb x = bootBuiltins x) (hlim : s₁.heap.NoLimit) (hg : s₁.gens = #[])
    (ha : s₁.heap.get? a = some { cls := .type "list", data := .seq vs.toArray }) (hr : Room k callerA)
    (F : ∀ base : Heap, K.In base → base.Ns mainGlobals mg → FnG P w K mg base k fa fd [x] sp) (hbind : ∀ (s : Shared) (u : Value), BindsTo s fd ⟨[u], []⟩ [(x, u)])
    (H : Hp) (hO : Only H) (hq : sp [.ref a] H (fun v _ => v = .bl true) fun _ _ _ => False) (hok : HOk P w H s₁.heap) (hA : ∀ b u, H b = some u → b = a) (hK : ∀ u, H a = some u → K.lookup a = none) :
    codeAny (model P w) callerA (.call (.ref fa) ⟨[.ref a], []⟩) (Fine s₁) s₁ := by
  have dictNo : ∀ {b : Addr} {o : Obj} {es : Array DictEntry} {ep : Nat}, s₁.heap.get? b = some o → o.data = .dict es ep → H b = none := by
    intro b o es ep e d
    cases q : H b with
    | none => rfl
    | some u =>
      obtain rfl := hA b u q
      rw [ha] at e
      cases e
      cases d
  have hideNs : ∀ {b : Addr} {m : Str → Option Value}, s₁.heap.Ns b m → (hidT s₁.heap H).Ns b m := by
    rintro b m ⟨o, es, ep, e, d, r⟩
    exact ⟨o, es, ep, hidT_get e (dictNo e d), d, r⟩
  have hKb : K.In (hidT s₁.heap H) := by
    intro b o e
    apply hidT_get (KX b o e)
    cases q : H b with
    | none => rfl
    | some u =>
      obtain rfl := hA b u q
      rw [hK u q] at e
      cases e
  have hM : Mod K mg (hidT s₁.heap H) := by
    obtain ⟨mc, h1, h2⟩ := hlim
    exact ⟨hKb, hideNs hns, ⟨mb, hideNs hb, hbb⟩, ⟨mc, hideNs h1, h2⟩⟩
  have none_ : ∀ b ∈ frs [], H b = none := by
    intro b hb
    cases (show b ∈ ([] : List Addr) from hb)
  have e0 : Env0 P w K mg (hidT s₁.heap H) callerA [] s₁ H := ⟨rfl, hM, fun b o e => of_hidT e, Nat.le_of_eq (hidT_size _ _), trivial, none_, hok, .of_eq hg⟩
  apply codeAny_mono ((F _ hKb (hideNs hns)).run callerA [] s₁ H ⟨[.ref a], []⟩ [.ref a] [.ref a] _ _ rfl hr e0 (hbind s₁ (.ref a)) (.cons rfl .nil) hq)
  intro r s' h
  cases r with
  | error e => exact h.elim
  | ok fl =>
    cases fl with
    | next => exact h.elim
    | brk => exact h.elim
    | cont => exact h.elim
    | ret u =>
      obtain ⟨v, H', os, bare, un, hok', r', rfl⟩ := h
      have eu : u = Value.bool true := r'
      subst eu
      refine ⟨rfl, OldK.of_keep ?_, os, bare⟩
      intro b o e
      cases q : H b with
      | none => exact un.keep b o e q (by intro z; cases (show b ∈ ([] : List Addr) from z)) (by intro z; cases z)
      | some u =>
        (rcases hO b with z | ⟨ob, xs, z⟩)
        · rw [q] at z; cases z
        · have e1 := (hok b _ z).1
          have e2 := (hok' b _ (un.frzs b ob _ z)).1
          rw [e] at e1
          cases e1
          exact e2
theorem law_G (KX : K.In s₁.heap) (hns : s₁.heap.Ns mainGlobals mg) (hb : s₁.heap.Ns builtinsNs mb) (hbb : ∀ x : Str, x ≠ "__name__" → mb x = bootBuiltins x) (hlim : s₁.heap.NoLimit) (hg : s₁.gens = #[])
    (ha : s₁.heap.get? a = some { cls := .type "list", data := .seq vs.toArray })
    (hi : IntsAre vs ns) (hl : ns.length ≤ sizeLine) (hr : Room k callerA)
    (F : ∀ base : Heap, K.In base → base.Ns mainGlobals mg → FnG P w K mg base k fa fd [x] sp) (hbind : ∀ (s : Shared) (u : Value), BindsTo s fd ⟨[u], []⟩ [(x, u)])
    (hsp : ∀ H : Hp, Only H → SqL K H a (ns.map V.int) → sp [.ref a] H (fun v _ => v = .bl true) fun _ _ _ => False) :
    codeAny (model P w) callerA (.call (.ref fa) ⟨[.ref a], []⟩) (Fine s₁) s₁ := by
  have rv := vals_ints hi
  have lenV := hi.length
  cases hk : K.lookup a with
  | some o =>
    have e := KX a o hk
    rw [ha] at e
    cases e
    have hS : SqL K (fun _ => none) a (ns.map V.int) := .inr ⟨_, vs.toArray, _, hk, rfl, rfl, rfl, by rw [List.size_toArray, lenV]; exact hl, by simpa using rv⟩
    have hO : Only (fun _ => none) := fun _ => .inl rfl
    exact core_G KX hns hb hbb hlim hg ha hr F hbind _ hO (hsp _ hO hS) (fun b u z => by cases (show (none : Option HO) = some u from z)) (fun b u z => by cases (show (none : Option HO) = some u from z)) fun u z => by cases (show (none : Option HO) = some u from z)
  | none =>
    let H : Hp := fun b => if b = a then some (.frz { cls := .type "list", data := .seq vs.toArray } (.lst (ns.map V.int))) else none
    have at_a : H a = some (.frz { cls := .type "list", data := .seq vs.toArray } (.lst (ns.map V.int))) := if_pos rfl
    have off : ∀ b u, H b = some u → b = a := by
      intro b u z
      by_cases e : b = a
      · exact e
      · rw [show H b = none from if_neg e] at z; cases z
    have hO : Only H := by
      intro b
      by_cases e : b = a
      · exact .inr ⟨_, _, by rw [e]; exact at_a⟩
      · exact .inl (if_neg e)
    have hok : HOk P w H s₁.heap := by
      intro b u z
      obtain rfl := off b u z
      rw [at_a] at z
      cases z
      (exact ⟨ha, by rw [List.length_map]; exact hl, vs, _, rv, ha⟩)
    exact core_G KX hns hb hbb hlim hg ha hr F hbind H hO (hsp H hO (.inl (.inr ⟨_, at_a⟩))) hok off fun _ _ => hk
end
end V2


namespace V2
open PySem L2
open PySem.Spec PyProof.Rows
/-- a def, by where it stands -/
structure DfX where
  adr : PySem.W.Frag → Addr
  nm : Str
  ql : Str
  st : Stmt
abbrev RwX : Type := Option (Str × Str × Arguments × FuncBody × Scope × Addr × List (Str × Addr) × Value × Addr)
def DfX.seen (K : PySem.W.Frag) (d : DfX) : RwX := match K.lookup (d.adr K) with
  | some ⟨_, _, .func g, _⟩ => some (g.name, g.qualname, g.params, g.body, g.scope, g.globals, g.closure, g.defaults, g.builtins)
  | _ => none
def DfX.due (d : DfX) : RwX := some (d.nm, d.ql, defArgs d.st, .stmts (defBody d.st), defScope d.st, mainGlobals, [], .none, builtinsNs)
def DfX.good (K : PySem.W.Frag) (d : DfX) : Bool := PySem.W.keepIn K (.ref (d.adr K)) && (match K.lookup (d.adr K) with
  | some ⟨_, _, .func g, _⟩ => PySem.W.codeIn K g.code d.ql
  | _ => false)
theorem DfX.fun_ {K : PySem.W.Frag} {d : DfX} (e : d.seen K = d.due) (c : d.good K = true) : ∃ fd, Fun K d.nm d.ql d.st (d.adr K) fd := by
  obtain ⟨kp, c⟩ := He.ba c
  unfold DfX.seen at e
  cases q : K.lookup (d.adr K) with
  | none =>
    rw [q] at c
    cases c
  | some o =>
    obtain ⟨oc, od, dt, sl⟩ := o
    rw [q] at c e
    cases dt with
    | func g =>
      obtain ⟨g1, g2, g3, g4, g5, g6, g7, g8, g9, g10, g11, g12, g13, g14, g15⟩ := g
      have e : (some (g1, g2, g3, g4, g5, g6, g7, g8, g15) : RwX) = some (d.nm, d.ql, defArgs d.st, .stmts (defBody d.st), defScope d.st, mainGlobals, [], .none, builtinsNs) := e
      simp only [Option.some.injEq, Prod.mk.injEq] at e
      obtain ⟨rfl, rfl, rfl, rfl, rfl, rfl, rfl, rfl, rfl⟩ := e
      exact ⟨_, fun_mk q c kp⟩
    | _ => cases c
/-- the words of a dict -/
abbrev TbX : Type := Option (List (Option Str × Int) × Bool)
def wordOf : Value → Option Str
  | .str x _ => some x
  | _ => none
def tabX (K : PySem.W.Frag) (a : Addr) : TbX := match K.lookup a with
  | some ⟨.type c, none, .dict es _, sl⟩ => some (es.toList.map fun e => (wordOf e.key, e.hash), decide (c = "dict") && (sl.size == 0 && !(a == sysModules)))
  | _ => none
def tabDue (w : World) (xs : List Str) : TbX := some (xs.map fun x => (some x, PyData.keyHash w.params x), true)
theorem lit_of (P : Params) : ∀ (es : List DictEntry) (xs : List Str), (es.map fun e => (wordOf e.key, e.hash)) = (xs.map fun x => (some x, PyData.keyHash P x)) → PySem.W.KeysLit P es
  | [], _, _ => trivial
  | e :: es, [], h => by cases h
  | e :: es, x :: xs, h => by
    simp only [List.map_cons, List.cons.injEq, Prod.mk.injEq] at h
    obtain ⟨⟨h1, h2⟩, h3⟩ := h
    refine ⟨?_, lit_of P es xs h3⟩
    obtain ⟨hh, hk, hv⟩ := e
    cases hk with
    | str y t =>
      cases h1
      exact ⟨_, _, rfl, h2⟩
    | _ => cases h1
theorem tab_ok {K : PySem.W.Frag} {w : World} {a : Addr} {xs : List Str} (e : tabX K a = tabDue w xs) : ∃ es n, KDict K w a es n := by
  unfold tabX at e
  cases q : K.lookup a with
  | none =>
    rw [q] at e
    cases e
  | some o =>
    obtain ⟨oc, od, dt, sl⟩ := o
    rw [q] at e
    cases oc with
    | type c =>
      cases od with
      | none =>
        cases dt with
        | dict es n =>
          have e : (some (es.toList.map fun e => (wordOf e.key, e.hash), decide (c = "dict") && (sl.size == 0 && !(a == sysModules))) : TbX) = some (xs.map fun x => (some x, PyData.keyHash w.params x), true) := e
          simp only [Option.some.injEq, Prod.mk.injEq] at e
          obtain ⟨e1, e2⟩ := e
          obtain ⟨c1, c2⟩ := He.ba e2
          obtain ⟨c3, c4⟩ := He.ba c2
          have hc := of_decide_eq_true c1
          have hs : sl = #[] := Array.eq_empty_of_size_eq_zero (by simpa using c3)
          subst hc
          subst hs
          exact ⟨es, n, q, lit_of _ _ _ e1, by simpa using c4⟩
        | _ => cases e
      | some d => cases dt <;> cases e
    | _ => cases od <;> cases dt <;> cases e
/-- the getter of a property -/
def gt (K : PySem.W.Frag) (C p : Str) : Addr := match PySem.W.recIn K (He.ma K (He.ga K C) p) "property" with
  | some (.ref g :: _) => g
  | _ => 0
def bCls (C : Str) (K : PySem.W.Frag) : Bool := (He.Fa.cls C).ok K
def bMk (C : Str) (K : PySem.W.Frag) : Bool := (He.Fa.mkr C).ok K
def bNo (C f : Str) (K : PySem.W.Frag) : Bool := (He.Fa.noat C f).ok K
def bGlo (x : Str) (K : PySem.W.Frag) : Bool := (He.Fa.glo x).ok K
def bFree (x : Str) (K : PySem.W.Frag) : Bool := (He.Fa.free x).ok K
def bProp (C f : Str) (K : PySem.W.Frag) : Bool := He.eqO (PySem.W.findIn K (.ref (He.ga K C)) f) (some (some (.ref (He.ma K (He.ga K C) f)))) && (He.eqO (PySem.W.specialIn K (.ref (He.ma K (He.ga K C) f)) "__get__") (some (some (.builtin "property.__get__"))) && (decide (PySem.W.takesIn K (.ref (He.ma K (He.ga K C) f)) = some true) && (match PySem.W.recIn K (He.ma K (He.ga K C) f) "property" with
  | some (.ref _ :: _) => true
  | _ => false)))
def bBlt (x : Str) (b : String) (K : PySem.W.Frag) : Bool := He.eqO (PySem.W.nsIn K mainGlobals x) (some (some (.builtin b)))
/-- an entry of a dict of a global name: a text, an int -/
def bInt (a x : Str) (i : Int) (K : PySem.W.Frag) : Bool := match PySem.W.nsIn K (He.ga K a) x with
  | some (some (.int j _)) => decide (j = i)
  | _ => false
theorem prop_ok {K : PySem.W.Frag} {C f : Str} (c : bProp C f K = true) : PropOf K (He.ga K C) f (He.ma K (He.ga K C) f) (gt K C f) := by
  obtain ⟨c1, c⟩ := He.ba c
  obtain ⟨c2, c⟩ := He.ba c
  obtain ⟨c3, c4⟩ := He.ba c
  refine ⟨He.eqO_ok c1, He.eqO_ok c2, of_decide_eq_true c3, ?_⟩
  unfold gt
  cases q : PySem.W.recIn K (He.ma K (He.ga K C) f) "property" with
  | none =>
    rw [q] at c4
    cases c4
  | some l =>
    rw [q] at c4
    cases l with
    | nil => cases c4
    | cons v r =>
      cases v with
      | ref g => exact ⟨r, rfl⟩
      | _ => cases c4
theorem blt_ok {K : PySem.W.Frag} {h : Heap} {mg : Str → Option Value} (X : K.In h) (G : h.Ns mainGlobals mg) {x : Str} {b : String} (c : bBlt x b K = true) : mg x = some (.builtin b) := PySem.W.mg_of X G (He.eqO_ok c)
theorem dint_ok {K : PySem.W.Frag} {a x : Str} {i : Int} (c : bInt a x i K = true) : ∃ t, PySem.W.nsIn K (He.ga K a) x = some (some (.int i t)) := by
  unfold bInt at c
  cases q : PySem.W.nsIn K (He.ga K a) x with
  | none =>
    rw [q] at c
    cases c
  | some o =>
    rw [q] at c
    cases o with
    | none => cases c
    | some v =>
      cases v with
      | int j t =>
        have e := of_decide_eq_true c
        subst e
        exact ⟨t, rfl⟩
      | _ => cases c
abbrev AlX : Type := Bool × Bool × List RwX × List TbX
structure Lk where
  fb : List (PySem.W.Frag → Bool)
  ds : List DfX
  tb : List (Str × List Str)
def Lk.seen (L : Lk) (K : PySem.W.Frag) : AlX := (L.fb.all fun f => f K, L.ds.all fun d => d.good K, L.ds.map (·.seen K), L.tb.map fun t => tabX K (He.ga K t.1))
def Lk.due (L : Lk) (w : World) : AlX := (true, true, L.ds.map (·.due), L.tb.map fun t => tabDue w t.2)
/-- a list of objects, its addresses read once -/
def frK {α : Type} : PySem.W.Frag → (PySem.W.Frag → α) → α
  | [], k => k []
  | (a, o) :: r, k => HandSHeadRun.frNat a fun a => frK r fun r => k ((a, o) :: r)
theorem frK_eq {α : Type} : ∀ (K : PySem.W.Frag) (k : PySem.W.Frag → α), frK K k = k K
  | [], k => rfl
  | (a, o) :: r, k => by
    show HandSHeadRun.frNat a (fun a => frK r fun r => k ((a, o) :: r)) = _
    rw [HandSHeadRun.frNat_eq, frK_eq r]
/-- the first n objects -/
def Lk.off (L : Lk) (n : Nat) (g : Addr → Option Obj) : AlX := frK (He.frG g (List.range n)) fun K => L.seen K
def Lk.hook (L : Lk) (n : Nat) : PySem.W.Hook where
  α := AlX
  obs := fun s => L.off n s.heap.get?
  val := L.due
  says := fun w h => ∃ K : PySem.W.Frag, K.In h ∧ L.seen K = L.due w
  of := fun _ _ e => ⟨_, He.frG_in, (frK_eq _ _).symm.trans e⟩
  keeps := fun _ _ _ ⟨K, hK, c⟩ k => ⟨K, PySem.W.Frag.In.keeps hK k, c⟩
theorem Lk.off_eq {L : Lk} {n : Nat} {g : Addr → Option Obj} {s : Shared} (h : ∀ a, g a = s.heap.get? a) : L.off n g = (L.hook n).obs s := by
  have e : g = s.heap.get? := funext h
  rw [e] <;> rfl
section
variable {L : Lk} {K : PySem.W.Frag} {w : World}
theorem Lk.fact (c : L.seen K = L.due w) (i : Nat) {f : PySem.W.Frag → Bool} (h : L.fb[i]? = some f := by rfl) : f K = true := List.all_eq_true.mp (congrArg (fun z : AlX => z.1) c) f (List.mem_of_getElem? h)
theorem Lk.df (c : L.seen K = L.due w) (i : Nat) {d : DfX} (h : L.ds[i]? = some d := by rfl) : ∃ fd, Fun K d.nm d.ql d.st (d.adr K) fd := by
  have c2 : (L.ds.all fun d => d.good K) = true := congrArg (fun z : AlX => z.2.1) c
  have e : L.ds.map (·.seen K) = L.ds.map (·.due) := congrArg (fun z : AlX => z.2.2.1) c
  have e2 : (L.ds.map (·.seen K))[i]? = (L.ds.map (·.due))[i]? := by rw [e]
  rw [List.getElem?_map, List.getElem?_map, h] at e2
  exact DfX.fun_ (Option.some.inj e2) (List.all_eq_true.mp c2 d (List.mem_of_getElem? h))
theorem Lk.tab (c : L.seen K = L.due w) (i : Nat) {t : Str × List Str} (h : L.tb[i]? = some t := by rfl) : ∃ es n, KDict K w (He.ga K t.1) es n := by
  have e : (L.tb.map fun t => tabX K (He.ga K t.1)) = L.tb.map fun t => tabDue w t.2 := congrArg (fun z : AlX => z.2.2.2) c
  have e2 : (L.tb.map fun t => tabX K (He.ga K t.1))[i]? = (L.tb.map fun t => tabDue w t.2)[i]? := by rw [e]
  rw [List.getElem?_map, List.getElem?_map, h] at e2
  exact tab_ok (Option.some.inj e2)
end
/-- the run of a program with imports at its head -/
noncomputable abbrev whK (M : Nat) (r : PySem.W.OpenRow) (w : World) : Option (Shared × PySem.W.SharedT) := HandSHeadRun.wholeF (fun p => HandSHeadRun.stepQ (HandSHeadRun.denQ HandSHeadRun.tabQ) p w) HandSHeadRun.fenceQ M r.prog
noncomputable def lk0 (r : PySem.W.OpenRow) (q : Program) (loose : List Str) (x : Shared × PySem.W.SharedT) := (HandSHeadRun.looksF r.prog x.1.heap x.2.abs, HandSHeadRun.seenQ q loose (importedModules r.prog.main.body) (fun s => PySem.W.xlAt q [] s && PySem.W.recOk r.toRowW.records s) x.2.abs)
def lk1 (L : Lk) (n : Nat) (x : Shared × PySem.W.SharedT) : Bool × List TbX := frK (He.frG (HandSHeadRun.getT x.2) (List.range n)) fun K => (L.fb.all fun f => f K, L.tb.map fun t => tabX K (He.ga K t.1))
def lk2 (L : Lk) (n : Nat) (x : Shared × PySem.W.SharedT) : Bool := frK (He.frG (HandSHeadRun.getT x.2) (List.range n)) fun K => L.ds.all fun d => d.good K
def lk3 (L : Lk) (n : Nat) (x : Shared × PySem.W.SharedT) : List RwX := frK (He.frG (HandSHeadRun.getT x.2) (List.range n)) fun K => L.ds.map (·.seen K)
theorem Lk.run_parts {L : Lk} {n M : Nat} {r : PySem.W.OpenRow} {q : Program} {loose : List Str} {w : World} (h0 : (whK M r w).map (lk0 r q loose) = some (true, PySem.W.openGood q loose))
    (h1 : (whK M r w).map (lk1 L n) = some (true, L.tb.map fun t => tabDue w t.2)) (h2 : (whK M r w).map (lk2 L n) = some true) (h3 : (whK M r w).map (lk3 L n) = some (L.ds.map (·.due))) :
    HandSHeadRun.RunEqI r q (L.hook n) (fun s => L.off n (HandSHeadRun.getT s)) M loose w := by
  unfold HandSHeadRun.RunEqI
  show (whK M r w).map _ = _
  cases e : whK M r w with
  | none =>
    rw [e] at h0
    cases h0
  | some x =>
    rw [e] at h0 h1 h2 h3
    have h0 := Option.some.inj h0
    have h1 := Option.some.inj h1
    have h2 := Option.some.inj h2
    have h3 := Option.some.inj h3
    unfold lk0 at h0
    unfold lk1 at h1
    unfold lk2 at h2
    unfold lk3 at h3
    rw [frK_eq] at h1 h2 h3
    obtain ⟨a1, a2⟩ := Prod.mk.inj h0
    obtain ⟨b1, b2⟩ := Prod.mk.inj h1
    refine congrArg some ?_
    refine Prod.ext a1 (Prod.ext a2 ?_)
    show L.off n (HandSHeadRun.getT x.2) = L.due w
    unfold Lk.off
    rw [frK_eq]
    exact Prod.ext b1 (Prod.ext h2 (Prod.ext h3 b2))
theorem walk_GE {l : PySem.W.OpenLaw} {n k : Nat} {q : Program} {loose : List Str} {XP : (Str → Option Value) → Heap → Prop} {YP : World → Heap → Prop} {d : DefRec} {x : Str}
    (hn : l.most = some n) (hn2 : n ≤ sizeLine) (hdf : d.params.defaults = []) (hr : Room k callerA)
    (F : ∀ (w : World) (mg : Str → Option Value) (fa : Addr) (h : Heap), YP w h → h.Ns mainGlobals mg → mg d.name = some (.ref fa) →
      ∃ (K : PySem.W.Frag) (fd : FuncData) (sp : Sp), K.In h ∧ (∀ (s : Shared) (u : Value), BindsTo s fd ⟨[u], []⟩ [(x, u)]) ∧
        (∀ (H : Hp) (a : Addr) (ns : List Int), ns.length ≤ n → Only H → SqL K H a (ns.map V.int) → sp [.ref a] H (fun v _ => v = .bl true) fun _ _ _ => False) ∧
        ∀ base : Heap, K.In base → base.Ns mainGlobals mg → FnG l.prog w K mg base k fa fd [x] sp) :
    PySem.W.WalkO q loose XP YP l.row.toRowW d [] (fun f us => PySem.call f us) := by
  apply Att.attach_call hn hdf
  intro w s₀ s₁ mg mb fa o pm cd doc a vs ns G Y ho hd hcd hmg hobj hints hlen hg
  obtain ⟨K, fd, sp, KX, hb, hsp, hF⟩ := F w mg fa _ Y G.T.g hmg
  exact law_G KX G.T.g G.T.b G.T.builtins G.T.nolimit hg hobj hints (Nat.le_trans hlen hn2) hr hF hb fun H hO hS => hsp H a ns hlen hO hS
end V2


namespace V2
open PySem L2
open PySem.Spec PyProof.Rows
/-- what the written part says of an own class of errors, whose __init__ is fI's -/
structure EC (K : PySem.W.Frag) (C fI : Addr) : Prop where
  ox : OexC K C
  noV : PySem.W.findIn K (.ref C) "value" = some none
  iC : PySem.W.findIn K (.ref C) "__init__" = some (some (.ref fI))
  xf : XfC K C
  hcl : (PySem.W.clsIn K C).isSome = true
  ha : PySem.W.findIn K (.ref C) "__class__" = some (some (.builtin "object.__class__"))
  hm : PySem.W.mroIn K C (.type "object") = some true
/-- what is said for all of them -/
structure EG (K : PySem.W.Frag) (fI : Addr) : Prop where
  tI : PySem.W.typeIn K (.ref fI) = some (.type "function")
  hn : PySem.W.specialIn K (.builtin "object.__class__") "__get__" = some (some (.builtin "getset_descriptor.__get__"))
  ht : PySem.W.takesIn K (.builtin "object.__class__") = some true
/-- an error of the class at C, made with v, stands at e with its dict at d -/
structure Er (H : Hp) (e C d : Addr) (v : V) : Prop where
  at_ : H e = some (exo e C (some d))
  dict : H d = some (exd d [("value", v)])
theorem Er.ex {H H' : Hp} {e C d : Addr} {v : V} (h : Er H e C d v) (x : Evl.Ex H H') : Er H' e C d v := ⟨x _ _ h.at_, x _ _ h.dict⟩
def spInit (K : PySem.W.Frag) : Sp := fun vs H Q _ => ∃ (a C : Addr) (y : V), vs = [.ref a, y] ∧ OexC K C ∧ PySem.W.findIn K (.ref C) "value" = some none ∧ H a = some (exo a C none) ∧
  ∀ dx, H dx = none → dx ≠ a → Q .non (upd (upd H dx (exd dx [("value", y)])) a (exo a C (some dx)))
section
variable {base : Heap} {mg : Str → Option Value} {K : PySem.W.Frag} {w : World} {P : Program}
theorem ok_TE_init {f : Addr} {fd : FuncData} (F : Fun K "__init__" "TankError.__init__" s_TE_init f fd) : FnOk P w K mg base CX0 1 f fd p_TE_init (spInit K) := by
  refine F.ok sc_TE_init (fun vs H Q E h => ?_) (fun cdv A outer s H vs Q E hr h => ?_)
  · obtain ⟨a, C, y, rfl, _⟩ := h
    rfl
  · obtain ⟨a, C, y, rfl, T, hno, ha, k⟩ := h
    have nd := sc_TE_init.nd
    refine ⟨_, pss_one (ps_ost (pv 0) (pv 1)), ?_⟩
    exact ⟨_, rfl, _, rfl, a, C, rfl, T, hno, .inl ⟨ha, fun dx hd hn => k dx hd hn⟩⟩
end
section
variable {X : Cx} {x : Str} {C fI : Addr} {k : Nat} {fd : FuncData} {e : Expr} {ta : TA} {p pos : Pos}
end
end V2


namespace V2
open PySem L2
open PySem.Spec PyProof.Rows
abbrev eI (K : PySem.W.Frag) : Addr := He.ma K (He.ga K "TankError") "__init__"
def bObj (K : PySem.W.Frag) (C : Addr) : Bool := match K.lookup C with
  | some ⟨.type "type", _, .cls cd, sl⟩ => (match cd.mro, sl.toList with
    | .ref C' :: bm, [_, _, _, _, some (.builtin n), _] => C' == C && n == "ValueError.__new__" && !cd.hasDel && cd.hasDict && PySem.HandSPX.refsVE bm
    | _, _ => false)
  | _ => false
theorem obj_ok {K : PySem.W.Frag} {C : Addr} (q : bObj K C = true) : ∃ nm qn N bs bm sn sub ab col dd k0 k1 k2 k3 k5, K.lookup C = some (excClassObj nm qn C N bs bm true sn sub ab col dd k0 k1 k2 k3 k5 "ValueError.__new__") ∧ PySem.HandSPX.refsVE bm = true := by
  unfold bObj at q
  split at q
  · rename_i dd cd sl ho
    split at q
    · rename_i C' bm k0 k1 k2 k3 n k5 hm hs
      simp only [Bool.and_eq_true, beq_iff_eq, Bool.not_eq_true'] at q
      obtain ⟨⟨⟨⟨rfl, rfl⟩, hdel⟩, hdi⟩, hbm⟩ := q
      obtain ⟨nm, bs, mro, ns, qn, hd, sn, sub, ab, col, del⟩ := cd
      dsimp only at hm hdel hdi
      subst hm hdel hdi
      have hsl : sl = #[k0, k1, k2, k3, some (.builtin "ValueError.__new__"), k5] := by
        obtain ⟨l⟩ := sl
        simp only at hs
        rw [hs]
      subst hsl
      exact ⟨nm, qn, ns, bs, bm, sn, sub, ab, col, dd, k0, k1, k2, k3, k5, ho, hbm⟩
    · cases q
  · cases q
def bErr (x : Str) (K : PySem.W.Frag) : Bool := bObj K (He.ga K x) && (He.eqO (PySem.W.findIn K (.ref (He.ga K x)) "__setattr__") (some (some (.builtin "object.__setattr__"))) && (decide (PySem.W.typeIn K (.ref (He.ga K x)) = some (.type "type")) && (PySem.W.keepIn K (.ref (He.ga K x)) &&
  (He.eqO (PySem.W.findIn K (.ref (He.ga K x)) "value") (some none) && (He.eqO (PySem.W.findIn K (.ref (He.ga K x)) "__init__") (some (some (.ref (eI K)))) && (xfB K (He.ga K x) && ((PySem.W.clsIn K (He.ga K x)).isSome &&
  (He.eqO (PySem.W.findIn K (.ref (He.ga K x)) "__class__") (some (some (.builtin "object.__class__"))) && decide (PySem.W.mroIn K (He.ga K x) (.type "object") = some true)))))))))
theorem err_ok {K : PySem.W.Frag} {x : Str} (c : bErr x K = true) : EC K (He.ga K x) (eI K) := by
  obtain ⟨c1, c⟩ := He.ba c
  obtain ⟨c2, c⟩ := He.ba c
  obtain ⟨c3, c⟩ := He.ba c
  obtain ⟨c4, c⟩ := He.ba c
  obtain ⟨c5, c⟩ := He.ba c
  obtain ⟨c6, c⟩ := He.ba c
  obtain ⟨c7, c⟩ := He.ba c
  obtain ⟨c8, c⟩ := He.ba c
  obtain ⟨c9, c10⟩ := He.ba c
  have xf := xfB_ok c7
  exact ⟨⟨obj_ok c1, He.eqO_ok c2, xf.exC, of_decide_eq_true c3, c4⟩, He.eqO_ok c5, He.eqO_ok c6, xf, c8, He.eqO_ok c9, of_decide_eq_true c10⟩
def bEG (K : PySem.W.Frag) : Bool := decide (PySem.W.typeIn K (.ref (eI K)) = some (.type "function")) && (He.eqO (PySem.W.specialIn K (.builtin "object.__class__") "__get__") (some (some (.builtin "getset_descriptor.__get__"))) && decide (PySem.W.takesIn K (.builtin "object.__class__") = some true))
theorem eg_ok {K : PySem.W.Frag} (c : bEG K = true) : EG K (eI K) := by
  obtain ⟨c1, c⟩ := He.ba c
  obtain ⟨c2, c3⟩ := He.ba c
  exact ⟨of_decide_eq_true c1, He.eqO_ok c2, of_decide_eq_true c3⟩
def bSub (x y : Str) (b : Bool) (K : PySem.W.Frag) : Bool := decide (PySem.W.subIn K (.ref (He.ga K x)) (.ref (He.ga K y)) = some b)
theorem sub_ok {K : PySem.W.Frag} {x y : Str} {b : Bool} (c : bSub x y b K = true) : PySem.W.subIn K (.ref (He.ga K x)) (.ref (He.ga K y)) = some b := of_decide_eq_true c
def bKit (x y : Str) (b : Bool) (K : PySem.W.Frag) : Bool := decide (PySem.W.kitOne K (.ref (He.ga K x)) (.ref (He.ga K y)) = some b)
theorem kit_ok {K : PySem.W.Frag} {x y : Str} {b : Bool} (c : bKit x y b K = true) : PySem.W.kitOne K (.ref (He.ga K x)) (.ref (He.ga K y)) = some b := of_decide_eq_true c
end V2


namespace V2
open PySem L2
open PySem.Spec PyProof.Rows
/-- the keys of a dict of texts are among ks -/
def bKeys (g : Str) (ks : List Str) (K : PySem.W.Frag) : Bool := match K.lookup (He.ga K g) with
  | some ⟨_, _, .dict es _, _⟩ => es.toList.all fun e => (match e.key with
    | .str x _ => ks.any fun k => decide (x = k)
    | _ => false) && !e.refKey
  | _ => false
theorem keys_ok {K : PySem.W.Frag} {g : Str} {ks : List Str} (c : bKeys g ks K = true) : ∀ x : Str, x ∉ ks → PySem.W.nsIn K (He.ga K g) x = some none := by
  intro x hx
  unfold bKeys at c
  unfold PySem.W.nsIn
  split at c
  · rename_i es n sl hl
    rw [hl]
    rw [List.all_eq_true] at c
    have h1 : es.toList.find? (·.key.isStr x) = none := by
      rw [List.find?_eq_none]
      intro e he
      have z := c e he
      rw [Bool.and_eq_true] at z
      obtain ⟨z1, _⟩ := z
      split at z1
      · rename_i y t hk
        obtain ⟨k, hk2, hk3⟩ := List.any_eq_true.mp z1
        have hyk := of_decide_eq_true hk3
        rw [hk]
        intro q
        have q' : y = x := by simpa [Value.isStr] using q
        exact hx (by rw [← q', hyk]; exact hk2)
      · cases z1
    have h2 : es.toList.any (·.refKey) = false := by
      rw [List.any_eq_false]
      intro e he
      have z := c e he
      rw [Bool.and_eq_true] at z
      simpa using z.2
    simp only [h1, h2]
    rfl
  · cases c
end V2


namespace V2
open PySem L2
open PySem.Spec PyProof.Rows
def nm0 : List Str := ["gcd", "_wall", "order_of_fractions", "sign_of", "TankError", "InvalidTank", "InvalidStep", "UnknownTank", "UnknownStep", "InvalidFraction", "Unreadable", "copied", "is_integer", "is_fraction", "THINGS", "is_amount", "is_tank", "check_tanks", "is_ascending", "is_step"]
def nm1 : List Str := ["tanks_of", "check_numbers", "check_part", "check_step", "check_index", "Script", "read_script", "read_tank", "read_step", "read_thing", "read_integer", "show_script", "show_tank", "show_thing", "show_integer", "_law_purse", "_law_coin", "_law_shared", "_law_ratio", "_law_drawn_part"]
def nm2 : List Str := ["_law_drawn_tanks", "_law_pair", "_law_drawn_step", "_law_drawn_plan", "_law_great_plan", "_law_step_text", "_law_script_text", "_law_number_of", "_law_is_part", "_law_is_list", "_law_is_step", "_law_is_script", "_law_caught_script", "_law_odd_script", "_law_marred_script", "_law_right"]
def nms : List Str := nm0 ++ nm1 ++ nm2
def dfs0 : List DfX := [⟨(fun K => He.ga K "order_of_fractions"), "order_of_fractions", "order_of_fractions", s_order_of_fractions⟩, ⟨(fun K => He.ga K "sign_of"), "sign_of", "sign_of", s_sign_of⟩, ⟨(fun K => He.ga K "copied"), "copied", "copied", s_copied⟩, ⟨(fun K => He.ga K "is_integer"), "is_integer", "is_integer", s_is_integer⟩, ⟨(fun K => He.ga K "is_fraction"), "is_fraction", "is_fraction", s_is_fraction⟩, ⟨(fun K => He.ga K "is_amount"), "is_amount", "is_amount", s_is_amount⟩, ⟨(fun K => He.ga K "is_tank"), "is_tank", "is_tank", s_is_tank⟩, ⟨(fun K => He.ga K "check_tanks"), "check_tanks", "check_tanks", s_check_tanks⟩, ⟨(fun K => He.ga K "is_ascending"), "is_ascending", "is_ascending", s_is_ascending⟩, ⟨(fun K => He.ga K "is_step"), "is_step", "is_step", s_is_step⟩, ⟨(fun K => He.ga K "tanks_of"), "tanks_of", "tanks_of", s_tanks_of⟩, ⟨(fun K => He.ga K "check_numbers"), "check_numbers", "check_numbers", s_check_numbers⟩, ⟨(fun K => He.ga K "check_part"), "check_part", "check_part", s_check_part⟩, ⟨(fun K => He.ga K "check_step"), "check_step", "check_step", s_check_step⟩, ⟨(fun K => He.ga K "read_script"), "read_script", "read_script", s_read_script⟩, ⟨(fun K => He.ga K "read_tank"), "read_tank", "read_tank", s_read_tank⟩, ⟨(fun K => He.ga K "read_step"), "read_step", "read_step", s_read_step⟩, ⟨(fun K => He.ga K "read_thing"), "read_thing", "read_thing", s_read_thing⟩, ⟨(fun K => He.ga K "read_integer"), "read_integer", "read_integer", s_read_integer⟩, ⟨(fun K => He.ga K "show_script"), "show_script", "show_script", s_show_script⟩]
def dfs1 : List DfX := [⟨(fun K => He.ga K "show_tank"), "show_tank", "show_tank", s_show_tank⟩, ⟨(fun K => He.ga K "show_thing"), "show_thing", "show_thing", s_show_thing⟩, ⟨(fun K => He.ga K "show_integer"), "show_integer", "show_integer", s_show_integer⟩, ⟨(fun K => He.ga K "_law_purse"), "_law_purse", "_law_purse", s_l_purse⟩, ⟨(fun K => He.ga K "_law_coin"), "_law_coin", "_law_coin", s_l_coin⟩, ⟨(fun K => He.ga K "_law_shared"), "_law_shared", "_law_shared", s_l_shared⟩, ⟨(fun K => He.ga K "_law_ratio"), "_law_ratio", "_law_ratio", s_l_ratio⟩, ⟨(fun K => He.ga K "_law_drawn_part"), "_law_drawn_part", "_law_drawn_part", s_l_drawn_part⟩, ⟨(fun K => He.ga K "_law_drawn_tanks"), "_law_drawn_tanks", "_law_drawn_tanks", s_l_drawn_tanks⟩, ⟨(fun K => He.ga K "_law_pair"), "_law_pair", "_law_pair", s_l_pair⟩, ⟨(fun K => He.ga K "_law_drawn_step"), "_law_drawn_step", "_law_drawn_step", s_l_drawn_step⟩, ⟨(fun K => He.ga K "_law_drawn_plan"), "_law_drawn_plan", "_law_drawn_plan", s_l_drawn_plan⟩, ⟨(fun K => He.ga K "_law_great_plan"), "_law_great_plan", "_law_great_plan", s_l_great_plan⟩, ⟨(fun K => He.ga K "_law_step_text"), "_law_step_text", "_law_step_text", s_l_step_text⟩, ⟨(fun K => He.ga K "_law_script_text"), "_law_script_text", "_law_script_text", s_l_script_text⟩, ⟨(fun K => He.ga K "_law_number_of"), "_law_number_of", "_law_number_of", s_l_number_of⟩, ⟨(fun K => He.ga K "_law_is_part"), "_law_is_part", "_law_is_part", s_l_is_part⟩, ⟨(fun K => He.ga K "_law_is_list"), "_law_is_list", "_law_is_list", s_l_is_list⟩, ⟨(fun K => He.ga K "_law_is_step"), "_law_is_step", "_law_is_step", s_l_is_step⟩, ⟨(fun K => He.ga K "_law_is_script"), "_law_is_script", "_law_is_script", s_l_is_script⟩]
def dfs2 : List DfX := [⟨(fun K => He.ga K "_law_caught_script"), "_law_caught_script", "_law_caught_script", s_l_caught_script⟩, ⟨(fun K => He.ga K "_law_odd_script"), "_law_odd_script", "_law_odd_script", s_l_odd_script⟩, ⟨(fun K => He.ga K "_law_marred_script"), "_law_marred_script", "_law_marred_script", s_l_marred_script⟩, ⟨(fun K => He.ga K "_law_right"), "_law_right", "_law_right", s_l_right⟩, ⟨(fun K => He.ga K "law"), "law", "law", s_law⟩, ⟨(fun K => He.ma K (He.ga K "TankError") "__init__"), "__init__", "TankError.__init__", s_TE_init⟩, ⟨(fun K => He.ma K (He.ga K "Script") "__init__"), "__init__", "Script.__init__", s_Sc_init⟩, ⟨(fun K => gt K "Script" "tanks"), "tanks", "Script.tanks", s_Sc_tanks⟩, ⟨(fun K => gt K "Script" "steps"), "steps", "Script.steps", s_Sc_steps⟩]
def fbs0 : List (PySem.W.Frag → Bool) := [bGlo "order_of_fractions", bGlo "sign_of", bGlo "copied", bGlo "is_integer", bGlo "is_fraction", bGlo "is_amount", bGlo "is_tank", bGlo "check_tanks", bGlo "is_ascending", bGlo "is_step", bGlo "tanks_of", bGlo "check_numbers", bGlo "check_part", bGlo "check_step", bGlo "read_script", bGlo "read_tank", bGlo "read_step", bGlo "read_thing", bGlo "read_integer", bGlo "show_script"]
def fbs1 : List (PySem.W.Frag → Bool) := [bGlo "show_tank", bGlo "show_thing", bGlo "show_integer", bGlo "_law_purse", bGlo "_law_coin", bGlo "_law_shared", bGlo "_law_ratio", bGlo "_law_drawn_part", bGlo "_law_drawn_tanks", bGlo "_law_pair", bGlo "_law_drawn_step", bGlo "_law_drawn_plan", bGlo "_law_great_plan", bGlo "_law_step_text", bGlo "_law_script_text", bGlo "_law_number_of", bGlo "_law_is_part", bGlo "_law_is_list", bGlo "_law_is_step", bGlo "_law_is_script"]
def fbs2 : List (PySem.W.Frag → Bool) := [bGlo "_law_caught_script", bGlo "_law_odd_script", bGlo "_law_marred_script", bGlo "_law_right", bGlo "law", bEG, bGlo "TankError", bErr "TankError", bGlo "InvalidTank", bErr "InvalidTank", bSub "InvalidTank" "TankError" true, bGlo "InvalidStep", bErr "InvalidStep", bSub "InvalidStep" "TankError" true, bGlo "UnknownTank", bErr "UnknownTank", bSub "UnknownTank" "TankError" true, bGlo "InvalidFraction", bErr "InvalidFraction", bSub "InvalidFraction" "TankError" true]
def fbs3 : List (PySem.W.Frag → Bool) := [bGlo "Unreadable", bErr "Unreadable", bSub "Unreadable" "TankError" true, bKit "Unreadable" "Unreadable" true, bGlo "Script", bCls "Script", bMk "Script", bProp "Script" "tanks", bProp "Script" "steps", bNo "Script" "_steps", bNo "Script" "_tanks", bGlo "THINGS", bInt "THINGS" "open" 2, bInt "THINGS" "pour" 3, bInt "THINGS" "scoop" 3, bInt "THINGS" "move" 4, bInt "THINGS" "unless" 3, bFree "abs", bFree "all", bFree "bool"]
def fbs4 : List (PySem.W.Frag → Bool) := [bFree "int", bFree "isinstance", bFree "len", bFree "list", bFree "max", bFree "min", bFree "range", bFree "set", bFree "sorted", bFree "str", bFree "tuple", bBlt "gcd" "math.gcd", bKit "Unreadable" "InvalidFraction" false, bKit "Unreadable" "InvalidStep" false, bKit "Unreadable" "InvalidTank" false, bKit "Unreadable" "UnknownTank" false, bKeys "THINGS" ["open", "pour", "scoop", "move", "unless"]]
def lk : Lk := ⟨fbs0 ++ fbs1 ++ fbs2 ++ fbs3 ++ fbs4, dfs0 ++ dfs1 ++ dfs2, [("THINGS", ["open", "pour", "scoop", "move", "unless"])]⟩
abbrev rwK : PySem.W.OpenRow := PySem.W.OpenLaw.row PySem.Challenge.rw_valvelevels_k54_scripts_that_are_none
abbrev vwK : Program := PySem.W.view rwK.prog [0, 64]
theorem run0F (w : World) : (whK 12000 rwK (w.withFollow "special-get-raises" false)).map (lk0 rwK vwK nms) = some (true, PySem.W.openGood vwK nms) := by
  kernel_rfl
theorem run0T (w : World) : (whK 12000 rwK (w.withFollow "special-get-raises" true)).map (lk0 rwK vwK nms) = some (true, PySem.W.openGood vwK nms) := by
  kernel_rfl
theorem run1F (w : World) : (whK 12000 rwK (w.withFollow "special-get-raises" false)).map (lk1 lk 900) = some (true, lk.tb.map fun t => tabDue (w.withFollow "special-get-raises" false) t.2) := by
  kernel_rfl
theorem run1T (w : World) : (whK 12000 rwK (w.withFollow "special-get-raises" true)).map (lk1 lk 900) = some (true, lk.tb.map fun t => tabDue (w.withFollow "special-get-raises" true) t.2) := by
  kernel_rfl
theorem run2F (w : World) : (whK 12000 rwK (w.withFollow "special-get-raises" false)).map (lk2 lk 900) = some true := by
  kernel_rfl
theorem run2T (w : World) : (whK 12000 rwK (w.withFollow "special-get-raises" true)).map (lk2 lk 900) = some true := by
  kernel_rfl
theorem run3F (w : World) : (whK 12000 rwK (w.withFollow "special-get-raises" false)).map (lk3 lk 900) = some (lk.ds.map (·.due)) := by
  kernel_rfl
theorem run3T (w : World) : (whK 12000 rwK (w.withFollow "special-get-raises" true)).map (lk3 lk 900) = some (lk.ds.map (·.due)) := by
  kernel_rfl
theorem runK (w : World) : HandSHeadRun.RunEqI rwK vwK (lk.hook 900) (fun s => lk.off 900 (HandSHeadRun.getT s)) 12000 nms w :=
  PySem.W.byRow2 "special-get-raises" (P := fun w => HandSHeadRun.RunEqI rwK vwK (lk.hook 900) (fun s => lk.off 900 (HandSHeadRun.getT s)) 12000 nms w) (fun w => Lk.run_parts (run0F w) (run1F w) (run2F w) (run3F w)) (fun w => Lk.run_parts (run0T w) (run1T w) (run2T w) (run3T w)) w
end V2


namespace V2
def cont : List Int → Nat
  | [] => 0
  | x :: r => Nat.gcd x.natAbs (cont r)
def prim (ns : List Int) : List Int := ns.map fun x => x / (cont ns : Int)
theorem cont_dvd : ∀ {ns : List Int} {x : Int}, x ∈ ns → (cont ns : Int) ∣ x
  | y :: r, x, h => by
    rcases (List.mem_cons.mp h) with e | h
    · subst e
      exact Int.ofNat_dvd_left.mpr (Nat.gcd_dvd_left _ _)
    · exact Int.dvd_trans (Int.natCast_dvd_natCast.mpr (Nat.gcd_dvd_right _ _)) (cont_dvd h)
theorem cont_scale (a : Nat) : ∀ ns : List Int, cont (ns.map fun x => (a : Int) * x) = a * cont ns
  | [] => rfl
  | x :: r => by
    show Nat.gcd ((a : Int) * x).natAbs (cont (r.map fun x => (a : Int) * x)) = a * Nat.gcd x.natAbs (cont r)
    rw [cont_scale a r, Int.natAbs_mul, Int.natAbs_natCast, Nat.gcd_mul_left]
theorem cont_zero : ∀ {ns : List Int}, cont ns = 0 → ∀ x ∈ ns, x = 0 := by
  intro ns h x hx
  have := cont_dvd hx
  rw [h] at this
  exact Int.zero_dvd.mp this
theorem prim_eq {xs ys : List Int} {a b : Nat} (ha : 0 < a) (hb : 0 < b) (h : (xs.map fun x => (a : Int) * x) = ys.map fun x => (b : Int) * x) : prim xs = prim ys := by
  have hc : a * cont xs = b * cont ys := by rw [← cont_scale, ← cont_scale, h]
  have hl : xs.length = ys.length := by
    have := (congrArg List.length h)
    rwa [List.length_map, List.length_map] at this
  refine List.ext_getElem (by unfold prim; rw [List.length_map, List.length_map, hl]) fun i h1 h2 => ?_
  unfold prim at h1 h2 ⊢
  rw [List.length_map] at h1 h2
  rw [List.getElem_map, List.getElem_map]
  have e : (a : Int) * xs[i] = (b : Int) * ys[i] := by
    have e1 : (xs.map fun x => (a : Int) * x)[i]'(by rw [List.length_map]; exact h1) = (ys.map fun x => (b : Int) * x)[i]'(by rw [List.length_map]; exact h2) := by
      simp only [h]
    rwa [List.getElem_map, List.getElem_map] at e1
  obtain ⟨p, hp⟩ := cont_dvd (List.getElem_mem h1)
  obtain ⟨q, hq⟩ := cont_dvd (List.getElem_mem h2)
  rcases Nat.eq_zero_or_pos (cont xs) with z | z
  · have z2 : cont ys = 0 := by
      rw [z, Nat.mul_zero] at hc
      rcases Nat.mul_eq_zero.mp hc.symm with c | c
      · omega
      · exact c
    rw [cont_zero z _ (List.getElem_mem h1), cont_zero z2 _ (List.getElem_mem h2), Int.zero_ediv, Int.zero_ediv]
  · have z2 : 0 < cont ys := by
      rcases Nat.eq_zero_or_pos (cont ys) with c | c
      · rw [c, Nat.mul_zero] at hc
        have := Nat.mul_pos ha z
        omega
      · exact c
    rw [hp, hq, Int.mul_ediv_cancel_left _ (by omega), Int.mul_ediv_cancel_left _ (by omega)]
    rw [hp, hq, ← Int.mul_assoc, ← Int.mul_assoc] at e
    have hcz : (a : Int) * (cont xs : Int) = (b : Int) * (cont ys : Int) := by
      rw [← Int.natCast_mul, ← Int.natCast_mul, hc]
    rw [hcz] at e
    exact Int.eq_of_mul_eq_mul_left (Int.ne_of_gt (Int.mul_pos (by omega) (by omega))) e
def cfF (f g : Nat → Int) : Nat → Nat → Int
  | 0, _ => 0
  | k + 1, i => cfF f g k i + (if k ≤ i then f k * g (i - k) else 0)
theorem cfF_lin (f g h : Nat → Int) (a b : Int) : ∀ k i, cfF f (fun j => a * g j + b * h j) k i = a * cfF f g k i + b * cfF f h k i
  | 0, _ => by show (0 : Int) = a * 0 + b * 0; rw [Int.mul_zero, Int.mul_zero, Int.add_zero]
  | k + 1, i => by
    show cfF f (fun j => a * g j + b * h j) k i + (if k ≤ i then f k * (a * g (i - k) + b * h (i - k)) else 0) = a * (cfF f g k i + (if k ≤ i then f k * g (i - k) else 0)) + b * (cfF f h k i + (if k ≤ i then f k * h (i - k) else 0))
    rw [cfF_lin f g h a b k i]
    split
    · simp only [Int.mul_add, Int.mul_left_comm (f k)]
      omega
    · simp only [Int.add_zero]
theorem cfF_zero (f g : Nat → Int) : ∀ k i, (∀ j, j < k → j ≤ i → f j * g (i - j) = 0) → cfF f g k i = 0
  | 0, _, _ => rfl
  | k + 1, i, h => by
    show cfF f g k i + (if k ≤ i then f k * g (i - k) else 0) = 0
    rw [cfF_zero f g k i fun j h1 h2 => h j (by omega) h2]
    split
    · rename_i c
      rw [h k (by omega) c]
      rfl
    · rfl
/-- one number alone, at place n -/
def dlt (n : Nat) : Nat → Int := fun i => if i = n then 1 else 0
theorem cfF_dlt (f : Nat → Int) (n : Nat) : ∀ k i, cfF f (dlt n) k i = if n ≤ i ∧ i - n < k then f (i - n) else 0
  | 0, i => by show (0 : Int) = _; rw [if_neg (by omega)]
  | k + 1, i => by
    show cfF f (dlt n) k i + (if k ≤ i then f k * dlt n (i - k) else 0) = _
    rw [cfF_dlt f n k i]
    unfold dlt
    by_cases h1 : n ≤ i ∧ i - n < k
    · rw [if_pos h1, if_pos (c := n ≤ i ∧ i - n < k + 1) (by omega)]
      by_cases h3 : k ≤ i
      · rw [if_pos h3, if_neg (by omega), Int.mul_zero, Int.add_zero]
      · rw [if_neg h3, Int.add_zero]
    · rw [if_neg h1, Int.zero_add]
      by_cases h2 : n ≤ i ∧ i - n = k
      · rw [if_pos (c := k ≤ i) (by omega), if_pos (c := i - k = n) (by omega), if_pos (c := n ≤ i ∧ i - n < k + 1) (by omega), Int.mul_one, h2.2]
      · rw [if_neg (c := n ≤ i ∧ i - n < k + 1) (by omega)]
        by_cases h3 : k ≤ i
        · rw [if_pos h3, if_neg (by omega), Int.mul_zero]
        · rw [if_neg h3]
/-- the top of a product -/
theorem cfF_top (f g : Nat → Int) (m n : Nat) (h : ∀ i, n < i → g i = 0) : cfF f g (m + 1) (n + m) = f m * g n := by
  show cfF f g m (n + m) + (if m ≤ n + m then f m * g (n + m - m) else 0) = _
  rw [cfF_zero f g m (n + m) fun j h1 h2 => by rw [h _ (by omega), Int.mul_zero], if_pos (by omega), Nat.add_sub_cancel, Int.zero_add]
theorem cfF_null {f g : Nat → Int} {m : Nat} (hf : f m ≠ 0) (hz : ∀ i, m ≤ i → cfF f g (m + 1) i = 0) : ∀ n, (∀ i, n ≤ i → g i = 0) → ∀ i, g i = 0
  | 0, h, i => h i (Nat.zero_le _)
  | n + 1, h, i => by
    refine cfF_null hf hz n (fun j hj => ?_) i
    rcases Nat.lt_or_ge n j with c | c
    · exact h j c
    · have e : j = n := by omega
      subst e
      have h1 := cfF_top f g m j fun i hi => h i hi
      rw [hz (j + m) (by omega)] at h1
      rcases Int.mul_eq_zero.mp h1.symm with z | z
      · exact absurd z hf
      · exact z
/-- L is what is left of P by B, up to a factor above 0 -/
def Rm (P B L : List Int) : Prop := Pol L ∧ L.length < B.length ∧ ∃ (g : Int) (q : Nat → Int) (N : Nat), 0 < g ∧ (∀ i, N ≤ i → q i = 0) ∧ ∀ i, g * P.getD i 0 = cfF (fun j => B.getD j 0) q B.length i + L.getD i 0
theorem getD_pol {L : List Int} (h : Pol L) {n : Nat} (hn : L.length = n + 1) : L.getD n 0 ≠ 0 := by
  have e : L[n]? = some L[n] := List.getElem?_eq_getElem (by omega)
  rw [getD_at e]
  refine h _ ?_
  have e2 : L.length - 1 = n := by omega
  rw [e2]
  exact e
theorem pol_len {L M : List Int} (hL : Pol L) (hM : Pol M) {a b : Int} (ha : 0 < a) (hb : 0 < b) (h : ∀ i, a * L.getD i 0 = b * M.getD i 0) : L.length ≤ M.length := by
  rcases Nat.lt_or_ge M.length L.length with c | c
  · exfalso
    obtain ⟨n, hn⟩ : ∃ n, L.length = n + 1 := ⟨L.length - 1, by omega⟩
    have h1 := h n
    rw [getD_out (l := M) (by omega), Int.mul_zero] at h1
    rcases Int.mul_eq_zero.mp h1 with z | z
    · omega
    · exact getD_pol hL hn z
  · exact c
theorem Rm.uniq {P B L M : List Int} (hB : Pol B) (h : Rm P B L) (k : Rm P B M) : prim L = prim M := by
  obtain ⟨l1, l2, g, q, N, g0, qz, qe⟩ := h
  obtain ⟨m1, m2, c, r, R, c0, rz, re⟩ := k
  obtain ⟨m, hm⟩ : ∃ m, B.length = m + 1 := ⟨B.length - 1, by omega⟩
  rw [hm] at qe re l2 m2
  have hw : ∀ i, cfF (fun j => B.getD j 0) (fun j => c * q j + (-g) * r j) (m + 1) i = g * M.getD i 0 - c * L.getD i 0 := by
    intro i
    rw [cfF_lin]
    have h1 := qe i
    have h2 := re i
    have h3 : c * (g * P.getD i 0) = g * (c * P.getD i 0) := Int.mul_left_comm _ _ _
    rw [h1, h2, Int.mul_add, Int.mul_add] at h3
    rw [Int.neg_mul]
    omega
  have hz : ∀ i, c * q i + (-g) * r i = 0 := by
    refine cfF_null (f := fun j => B.getD j 0) (g := fun j => c * q j + (-g) * r j) (m := m) (getD_pol hB hm) (fun i hi => ?_) (max N R) (fun i hi => ?_)
    · rw [hw i, getD_out (l := M) (by omega), getD_out (l := L) (by omega), Int.mul_zero, Int.mul_zero]
      rfl
    · show c * q i + (-g) * r i = 0
      rw [qz i (by omega), rz i (by omega), Int.mul_zero, Int.mul_zero]
      rfl
  have he : ∀ i, g * M.getD i 0 = c * L.getD i 0 := by
    intro i
    have := hw i
    rw [cfF_zero _ _ _ _ fun j _ _ => by rw [hz]; exact Int.mul_zero _] at this
    omega
  have hlen : L.length = M.length := Nat.le_antisymm (pol_len l1 m1 c0 g0 fun i => (he i).symm) (pol_len m1 l1 g0 c0 he)
  refine prim_eq (a := c.toNat) (b := g.toNat) (by omega) (by omega) ?_
  refine List.ext_getElem (by rw [List.length_map, List.length_map, hlen]) fun i h1 h2 => ?_
  rw [List.length_map] at h1 h2
  rw [List.getElem_map, List.getElem_map]
  have t := he i
  rw [getD_at (List.getElem?_eq_getElem h1), getD_at (List.getElem?_eq_getElem h2)] at t
  have ec : ((c.toNat : Nat) : Int) = c := Int.toNat_of_nonneg (by omega)
  have eg : ((g.toNat : Nat) : Int) = g := Int.toNat_of_nonneg (by omega)
  exact Eq.trans (congrArg (fun z => z * L[i]) ec) (Eq.trans t.symm (congrArg (fun z => z * M[i]) eg.symm))
theorem trm_getD (ns : List Int) (i : Nat) : (trm ns).getD i 0 = ns.getD i 0 := by
  unfold trm
  by_cases h : i < ns.length - tz ns
  · rw [List.getD_eq_getElem?_getD, List.getD_eq_getElem?_getD, List.getElem?_take, if_pos h]
  · rw [getD_out (by rw [List.length_take]; omega)]
    by_cases h2 : i < ns.length
    · have := tz_in ns (ns.length - 1 - i) (by omega)
      rw [show ns.length - 1 - (ns.length - 1 - i) = i by omega] at this
      rw [getD_at this]
    · rw [getD_out (by omega)]
end V2


namespace V2
def Rs (P B L : List Int) : Prop := ∃ (g : Int) (q : Nat → Int) (N : Nat), 0 < g ∧ (∀ i, N ≤ i → q i = 0) ∧ ∀ i, g * P.getD i 0 = cfF (fun j => B.getD j 0) q B.length i + L.getD i 0
theorem Rs.self (P B : List Int) : Rs P B P := ⟨1, fun _ => 0, 0, by decide, fun _ _ => rfl, fun i => by
  rw [cfF_zero _ _ _ _ fun _ _ _ => Int.mul_zero _, Int.one_mul, Int.zero_add]⟩
def tkn (B : List Int) (off : Nat) (t : Int) : List Int := List.replicate off 0 ++ B.map fun x => t * x
theorem tkn_getD (B : List Int) (off : Nat) (t : Int) (k : Nat) : (tkn B off t).getD k 0 = if off ≤ k then t * B.getD (k - off) 0 else 0 := by
  unfold tkn
  rw [(List.getD_eq_getElem?_getD)]
  by_cases h : off ≤ k
  · rw [if_pos h, List.getElem?_append_right (by rw [List.length_replicate]; exact h), List.length_replicate, List.getElem?_map, List.getD_eq_getElem?_getD]
    cases B[k - off]? with
    | none => show (0 : Int) = t * 0; rw [Int.mul_zero]
    | some x => rfl
  · rw [if_neg h, List.getElem?_append_left (by rw [List.length_replicate]; omega), List.getElem?_replicate, if_pos (by omega)]
    rfl
/-- one step of the program -/
def stepL (B L : List Int) (g t : Int) : List Int := vec L.length fun k => g * L.getD k 0 - (tkn B (L.length - B.length) t).getD k 0
theorem vec_getD (N : Nat) (f : Nat → Int) (i : Nat) : (vec N f).getD i 0 = if i < N then f i else 0 := by
  by_cases h : i < N
  · rw [if_pos h, getD_at (vec_get h)]
  · rw [if_neg h, getD_out (by rw [vec_len]; omega)]
theorem trm_short {ns : List Int} {n : Nat} (hn : ns.length = n + 1) (h : ns.getD n 0 = 0) : (trm ns).length < ns.length := by
  rcases Nat.eq_zero_or_pos (tz ns) with z | z
  · exfalso
    obtain ⟨x, h1, h2⟩ := tz_at ns (by omega)
    rw [z, hn] at h1
    have h1 : ns[n]? = some x := h1
    rw [getD_at h1] at h
    exact h2 h
  · unfold trm
    rw [List.length_take]
    omega
theorem rs_step {P B L : List Int} (h0 : B ≠ []) (h : Rs P B L) (hl : B.length ≤ L.length) {g t : Int} (hg : 0 < g) (ht : g * L.getD (L.length - 1) 0 = t * B.getD (B.length - 1) 0) : Rs P B (trm (stepL B L g t)) ∧ (trm (stepL B L g t)).length < L.length := by
  have lb : 0 < B.length := List.length_pos_iff.mpr h0
  constructor
  · obtain ⟨c, q, N, c0, qz, qe⟩ := h
    refine ⟨g * c, fun j => g * q j + t * dlt (L.length - B.length) j, max N (L.length - B.length + 1), Int.mul_pos hg c0, fun i hi => ?_, fun i => ?_⟩
    · show g * q i + t * dlt (L.length - B.length) i = 0
      unfold dlt
      rw [qz i (by omega), if_neg (by omega), Int.mul_zero, Int.mul_zero]
      rfl
    · rw [Int.mul_assoc, qe i, cfF_lin, cfF_dlt, trm_getD, Int.mul_add]
      unfold stepL
      rw [vec_getD, tkn_getD]
      have hb : (if L.length - B.length ≤ i ∧ i - (L.length - B.length) < B.length then B.getD (i - (L.length - B.length)) 0 else 0) = if L.length - B.length ≤ i then B.getD (i - (L.length - B.length)) 0 else 0 := by
        by_cases h1 : L.length - B.length ≤ i
        · rw [if_pos h1]
          by_cases h2 : i - (L.length - B.length) < B.length
          · rw [if_pos ⟨h1, h2⟩]
          · rw [if_neg (by omega), getD_out (by omega)]
        · rw [if_neg h1, if_neg (by omega)]
      rw [hb]
      by_cases h3 : i < L.length
      · rw [if_pos h3]
        by_cases h1 : L.length - B.length ≤ i
        · rw [if_pos h1, if_pos h1]; omega
        · rw [if_neg h1, if_neg h1, Int.mul_zero]; omega
      · rw [if_neg h3, getD_out (l := L) (by omega), if_pos (by omega), getD_out (l := B) (by omega), Int.mul_zero, Int.mul_zero]
        omega
  · have := trm_short (ns := stepL B L g t) (n := L.length - 1) (by unfold stepL; rw [vec_len]; omega) (by
      unfold stepL
      rw [vec_getD, if_pos (by omega), tkn_getD, if_pos (by omega), ht, show L.length - 1 - (L.length - B.length) = B.length - 1 by omega]
      omega)
    unfold stepL at this ⊢
    rw [vec_len] at this
    exact this
/-- grow and take -/
theorem grow_take {t d : Int} (hd : d ≠ 0) : ∃ f : Int, ((Nat.gcd t.natAbs d.natAbs : Nat) : Int) = f ∧ 0 < f ∧ f.natAbs ≤ d.natAbs ∧ 0 < (if d < 0 then -d else d) / f ∧ ((if d < 0 then -d else d) / f).natAbs ≤ d.natAbs ∧ (t / f).natAbs ≤ t.natAbs ∧
    (if d < 0 then -d else d) / f * t = (if d < 0 then -(t / f) else t / f) * d := by
  refine ⟨_, rfl, ?_⟩
  have g0 : 0 < Nat.gcd t.natAbs d.natAbs := Nat.gcd_pos_of_pos_right _ (by omega)
  obtain ⟨p, hp⟩ : ((Nat.gcd t.natAbs d.natAbs : Nat) : Int) ∣ t := Int.ofNat_dvd_left.mpr (Nat.gcd_dvd_left _ _)
  obtain ⟨r, hr⟩ : ((Nat.gcd t.natAbs d.natAbs : Nat) : Int) ∣ d := Int.ofNat_dvd_left.mpr (Nat.gcd_dvd_right _ _)
  have gl : Nat.gcd t.natAbs d.natAbs ≤ d.natAbs := Nat.gcd_le_right _ (by omega)
  generalize Nat.gcd t.natAbs d.natAbs = f at *
  have f0 : (0 : Int) < (f : Int) := by omega
  have e1 : t / (f : Int) = p := by rw [hp, Int.mul_ediv_cancel_left _ (by omega)]
  have e2 : (if d < 0 then -d else d) / (f : Int) = if d < 0 then -r else r := by
    split
    · rw [hr, ← Int.mul_neg, Int.mul_ediv_cancel_left _ (by omega)]
    · rw [hr, Int.mul_ediv_cancel_left _ (by omega)]
  have ab : ∀ x : Int, x.natAbs ≤ ((f : Int) * x).natAbs := fun x => by
    rw [Int.natAbs_mul, Int.natAbs_natCast]
    exact Nat.le_mul_of_pos_left _ g0
  have r1 : d < 0 → r < 0 := fun c => by
    rcases Int.lt_or_le r 0 with z | z
    · exact z
    · have := Int.mul_nonneg (Int.le_of_lt f0) z
      omega
  have r2 : ¬ d < 0 → 0 < r := fun c => by
    rcases Int.lt_or_le 0 r with z | z
    · exact z
    · have := Int.mul_nonpos_of_nonneg_of_nonpos (Int.le_of_lt f0) z
      omega
  rw [e1, e2]
  refine ⟨f0, by omega, ?_, ?_, ?_, ?_⟩
  · split
    · have := r1 ‹_›; omega
    · exact r2 ‹_›
  · have := ab r
    rw [← hr] at this
    split <;> omega
  · have := ab p
    rw [← hp] at this
    exact this
  · split
    · conv => lhs; rw [hp]
      conv => rhs; rw [hr]
      rw [Int.neg_mul, Int.neg_mul, Int.mul_left_comm, Int.mul_left_comm p, Int.mul_comm r p]
    · conv => lhs; rw [hp]
      conv => rhs; rw [hr]
      rw [Int.mul_left_comm, Int.mul_left_comm p, Int.mul_comm r p]
end V2


namespace V2
open PySem L2
open PySem.Spec PyProof.Rows
theorem sk_some {H : Hp} {p : Addr} {m : Nat} (h : Sk H p m) : ∃ o, H p = some o := by
  obtain ⟨a, b, c, h1, _⟩ := h
  exact ⟨_, h1⟩
theorem sk_ne {H : Hp} {p q : Addr} {m : Nat} (h : Sk H p m) (hq : H q = none) : q ≠ p := by
  intro z
  obtain ⟨o, h2⟩ := sk_some h
  rw [← z, hq] at h2
  cases h2
/-- small polynomials as the law draws them -/
def Sp6 (ns : List Int) : Prop := Pol ns ∧ ns.length ≤ 8 ∧ ∀ x ∈ ns, -1000000 ≤ x ∧ x ≤ 1000000
theorem Sp6.pn {ns : List Int} (h : Sp6 ns) : Pn ns := by
  refine ⟨h.1, by have := h.2.1; omega, fun x hx => ?_⟩
  have e : (2 : Int) ^ 64 = 18446744073709551616 := by decide
  have := h.2.2 x hx
  rw [e]
  omega
theorem shaped_ints (ns : List Int) : SeqAt.shaped (.list (ns.map .int)) = true := by
  have h1 : ∀ l : List Int, PyData.canLayAll0 (l.map .int) = true := by
    intro l
    induction l with
    | nil => rfl
    | cons n r ih => simp [PyData.canLayAll0, PyData.canLay0, ih]
  have h2 : ∀ l : List Int, PyData.depthAll (l.map .int) ≤ 1 := by
    intro l
    induction l with
    | nil => simp [PyData.depthAll]
    | cons n r ih => simp [PyData.depthAll, PyData.depth]; omega
  unfold SeqAt.shaped
  have h3 := h2 ns
  simp [PyData.canLay0, PyData.depth, h1 ns]
  omega
section
variable {base : Heap} {mg : Str → Option Value} {K : PySem.W.Frag} {w : World} {P : Program}
end
end V2


namespace V2
open PySem L2
open PySem.Spec PyProof.Rows
theorem Sp6.b20 {ns : List Int} (h : Sp6 ns) : ∀ x ∈ ns, x.natAbs < 2 ^ 20 := fun x hx => by
  have := h.2.2 x hx
  have e : (2 : Nat) ^ 20 = 1048576 := (by decide)
  rw [e]; omega
theorem more {ns : List Int} {A B : Nat} (h : ∀ x ∈ ns, x.natAbs < 2 ^ A) (hl : A ≤ B) : ∀ x ∈ ns, x.natAbs < 2 ^ B := fun x hx => big (h x hx) hl
section
variable {base : Heap} {mg : Str → Option Value} {K : PySem.W.Frag} {w : World} {P : Program}
end
end V2


namespace V2
def Bs (n : Nat) (ns : List Int) : Prop := ∀ x ∈ ns, x.natAbs < 2 ^ n
theorem Bs.le {n m : Nat} {ns : List Int} (h : Bs n ns) (l : n ≤ m) : Bs m ns := fun x hx => Nat.lt_of_lt_of_le (h x hx) (Nat.pow_le_pow_right (by decide) l)
theorem Bs.at_ {n : Nat} {ns : List Int} (h : Bs n ns) (i : Nat) : (ns.getD i 0).natAbs < 2 ^ n := by
  rw [List.getD_eq_getElem?_getD]
  cases e : ns[i]? with
  | none => exact Nat.pow_pos (by decide)
  | some x => exact h x (List.mem_of_getElem? e)
theorem bs_mul {i j : Int} {n m : Nat} (h1 : i.natAbs < 2 ^ n) (h2 : j.natAbs < 2 ^ m) : (i * j).natAbs < 2 ^ (n + m) := by
  rw [Int.natAbs_mul, Nat.pow_add]
  exact Nat.mul_lt_mul'' h1 h2
theorem vec_in {N : Nat} {f : Nat → Int} {x : Int} (h : x ∈ vec N f) : ∃ i, i < N ∧ x = f i := by
  unfold vec at h
  obtain ⟨i, hi, e⟩ := List.mem_map.mp h
  exact ⟨i, List.mem_range.mp hi, e.symm⟩
theorem bs_trm {n : Nat} {ns : List Int} (h : Bs n ns) : Bs n (trm ns) := fun x hx => h x (trm_mem hx)
theorem bs_step {B L : List Int} {g t : Int} {b c : Nat} (hL : Bs c L) (hg : g.natAbs < 2 ^ b) (ht : t.natAbs < 2 ^ c) (hB : Bs b B) : Bs (c + (b + 1)) (trm (stepL B L g t)) := by
  intro x hx
  obtain ⟨i, _, rfl⟩ := vec_in (trm_mem hx)
  have h2 := bs_mul hg (hL.at_ i)
  have h1 : ((tkn B (L.length - B.length) t).getD i 0).natAbs < 2 ^ (c + b) := by
    rw [tkn_getD]
    split
    · exact bs_mul ht (hB.at_ _)
    · exact Nat.pow_pos (by decide)
  have e : (2 : Nat) ^ (c + (b + 1)) = 2 ^ (c + b) + 2 ^ (c + b) := by
    rw [show c + (b + 1) = c + b + 1 from rfl, Nat.pow_succ]; omega
  rw [Nat.add_comm b c] at h2
  rw [e]
  omega
theorem last_at {ns : List Int} (h : ns ≠ []) : ∃ x, ns[ns.length - 1]? = some x ∧ x ∈ ns := by
  have l := List.length_pos_iff.mpr h
  exact ⟨ns[ns.length - 1]'(by omega), List.getElem?_eq_getElem (by omega), List.getElem_mem _⟩
theorem rem_loop {P B : List Int} {b : Nat} (hB : Pol B) (h0 : B ≠ []) (bb : Bs b B) : ∀ (n : Nat) (L : List Int) (c : Nat), L.length ≤ n → Pol L → Rs P B L → Bs c L → ∃ M, Rm P B M ∧ Bs (c + (L.length + 1 - B.length) * (b + 1)) M := by
  intro n
  have lb := List.length_pos_iff.mpr h0
  induction n with
  | zero =>
    intro L c hl hp hR hb
    exact ⟨L, ⟨hp, by omega, hR⟩, hb.le (by omega)⟩
  | succ n ih =>
    intro L c hl hp hR hb
    by_cases h : L.length < B.length
    · exact ⟨L, ⟨hp, h, hR⟩, hb.le (by omega)⟩
    · have L0 : L ≠ [] := fun z => by
        rw [z] at h
        exact h lb
      obtain ⟨tp, htp, htm⟩ := last_at L0
      obtain ⟨ld, hld, hlm⟩ := last_at h0
      have ld0 := hB ld hld
      obtain ⟨f, hf, f0, fb, g0, gb, tb, ge⟩ := grow_take (t := tp) (d := ld) ld0
      have ge' : (if ld < 0 then -ld else ld) / f * L.getD (L.length - 1) 0 = (if ld < 0 then -(tp / f) else tp / f) * B.getD (B.length - 1) 0 := by
        rw [getD_at htp, getD_at hld]
        exact ge
      obtain ⟨r1, r2⟩ := rs_step h0 hR (by omega) g0 ge'
      have hg : ((if ld < 0 then -ld else ld) / f).natAbs < 2 ^ b := Nat.lt_of_le_of_lt gb (bb ld hlm)
      have ht : (if ld < 0 then -(tp / f) else tp / f).natAbs < 2 ^ c := by
        have h1 := hb tp htm
        have h2 : (if ld < 0 then -(tp / f) else tp / f).natAbs = (tp / f).natAbs := by split <;> omega
        omega
      have hs := bs_step hb hg ht bb
      obtain ⟨M, hM, bM⟩ := ih _ (c + (b + 1)) (by omega) (pol_trm _) r1 hs
      refine ⟨M, hM, bM.le ?_⟩
      generalize (trm (stepL B L ((if ld < 0 then -ld else ld) / f) (if ld < 0 then -(tp / f) else tp / f))).length = k at r2
      have e1 : (k + 1 - B.length) + 1 ≤ L.length + 1 - B.length := by omega
      have e2 := Nat.mul_le_mul_right (b + 1) e1
      rw [Nat.succ_mul] at e2
      omega
theorem rem_ex {A B : List Int} {a b : Nat} (hA : Pol A) (hB : Pol B) (h0 : B ≠ []) (ba : Bs a A) (bb : Bs b B) : ∃ M, Rm A B M ∧ Bs (a + (A.length + 1 - B.length) * (b + 1)) M :=
  rem_loop hB h0 bb A.length A a (Nat.le_refl _) hA (Rs.self _ _) ba
open Classical in
/-- some rest, if there is one -/
noncomputable def remF (A B : List Int) : List Int := if h : ∃ L, Rm A B L then h.choose else []
theorem remF_rm {A B L : List Int} (h : Rm A B L) : Rm A B (remF A B) := by
  have hx : ∃ L, Rm A B L := ⟨L, h⟩
  unfold remF
  rw [dif_pos hx]
  exact hx.choose_spec
def negL (ns : List Int) : List Int := ns.map fun x => -x
/-- the next one of a row -/
noncomputable def nx (A B : List Int) : List Int := negL (prim (remF A B))
theorem nx_eq {A B L : List Int} (hB : Pol B) (h : Rm A B L) : nx A B = negL (prim L) := by
  unfold nx
  rw [(remF_rm h).uniq hB h]
theorem prim_length (ns : List Int) : (prim ns).length = ns.length := by unfold prim; rw [List.length_map]
theorem negL_length (ns : List Int) : (negL ns).length = ns.length := by unfold negL; rw [List.length_map]
theorem nx_len {A B : List Int} (h : B ≠ []) : (nx A B).length < B.length := by
  unfold nx
  rw [negL_length, prim_length]
  by_cases hx : ∃ L, Rm A B L
  · obtain ⟨L, hL⟩ := hx
    exact (remF_rm hL).2.1
  · unfold remF
    rw [dif_neg hx]
    exact List.length_pos_iff.mpr h
theorem bs_prim {L : List Int} {B : Nat} (h : Bs B L) : Bs B (prim L) := by
  intro y hy
  unfold prim at hy
  obtain ⟨x, hx, rfl⟩ := List.mem_map.mp hy
  obtain ⟨p, hp⟩ := cont_dvd hx
  rcases Nat.eq_zero_or_pos (cont L) with z | z
  · rw [z]
    show (x / 0).natAbs < 2 ^ B
    rw [Int.ediv_zero]
    exact Nat.pow_pos (by decide)
  · have e : x / (cont L : Int) = p := by
      conv => lhs; rw [hp]
      rw [Int.mul_ediv_cancel_left _ (by omega)]
    rw [e]
    have h1 := h x hx
    rw [hp, Int.natAbs_mul, Int.natAbs_natCast] at h1
    exact Nat.lt_of_le_of_lt (Nat.le_mul_of_pos_left _ z) h1
theorem bs_neg {L : List Int} {B : Nat} (h : Bs B L) : Bs B (negL L) := by
  intro y hy
  unfold negL at hy
  obtain ⟨x, hx, rfl⟩ := List.mem_map.mp hy
  rw [Int.natAbs_neg]
  exact h x hx
theorem pol_negL {L : List Int} (h : Pol L) : Pol (negL L) := by
  intro y hy
  unfold negL at hy
  rw [List.length_map, List.getElem?_map] at hy
  cases e : L[L.length - 1]? with
  | none => rw [e] at hy; cases hy
  | some x =>
    rw [e] at hy
    have := h x e
    have hy : -x = y := Option.some.inj hy
    omega
theorem pol_prim {L : List Int} (h : Pol L) : Pol (prim L) := by
  intro y hy
  unfold prim at hy
  rw [List.length_map, List.getElem?_map] at hy
  cases e : L[L.length - 1]? with
  | none => rw [e] at hy; cases hy
  | some x =>
    rw [e] at hy
    have hx := h x e
    have hy : x / (cont L : Int) = y := Option.some.inj hy
    have hm : x ∈ L := List.mem_of_getElem? e
    obtain ⟨p, hp⟩ := cont_dvd hm
    intro y0
    have c0 : (cont L : Int) ≠ 0 := fun z => by
      rw [z, Int.zero_mul] at hp
      exact hx hp
    have : x / (cont L : Int) = p := by
      conv => lhs; rw [hp]
      rw [Int.mul_ediv_cancel_left _ c0]
    rw [this, y0] at hy
    rw [hy, Int.mul_zero] at hp
    exact hx hp
theorem prim_one {x : Int} (h : x ≠ 0) : Bs 1 (prim [x]) := by
  intro y hy
  have e : prim [x] = [x / (x.natAbs : Int)] := by
    unfold prim cont cont
    rw [Nat.gcd_zero_right]
    rfl
  rw [e] at hy
  obtain rfl := List.mem_singleton.mp hy
  rcases Int.lt_or_gt_of_ne h with c | c
  · have e1 : (x.natAbs : Int) = -x := by omega
    rw [e1, Int.ediv_neg, Int.ediv_self h]
    decide
  · have e1 : (x.natAbs : Int) = x := by omega
    rw [e1, Int.ediv_self h]
    decide
def slopeL (p : List Int) : List Int := vec (p.length - 1) fun k => ((k + 1 : Nat) : Int) * p.getD (k + 1) 0
theorem slopeL_len (p : List Int) : (slopeL p).length = p.length - 1 := vec_len _ _
theorem slopeL_getD (p : List Int) (i : Nat) : (slopeL p).getD i 0 = ((i + 1 : Nat) : Int) * p.getD (i + 1) 0 := by
  unfold slopeL
  rw [vec_getD]
  split
  · rfl
  · rw [getD_out (l := p) (by omega), Int.mul_zero]
theorem pol_slope {p : List Int} (h : Pol p) : Pol (slopeL p) := by
  intro x hx
  rw [slopeL_len] at hx
  have hl : p.length - 1 - 1 < p.length - 1 := by
    have := (List.getElem?_eq_some_iff.mp hx).1
    rwa [slopeL_len] at this
  unfold slopeL at hx
  rw [vec_get hl] at hx
  have hx := Option.some.inj hx
  have e : p[p.length - 1]? = some (p[p.length - 1]'(by omega)) := List.getElem?_eq_getElem (by omega)
  rw [show p.length - 1 - 1 + 1 = p.length - 1 by omega, getD_at e] at hx
  rw [← hx]
  exact Int.mul_ne_zero (by omega) (h _ e)
/-- a polynomial that may be passed: at most eight numbers to 10 ** 6 -/
def P6 (p : List Int) : Prop := Pol p ∧ p.length ≤ 8 ∧ ∀ x ∈ p, -1000000 ≤ x ∧ x ≤ 1000000
theorem P6.at_ {p : List Int} (h : P6 p) (i : Nat) : -1000000 ≤ p.getD i 0 ∧ p.getD i 0 ≤ 1000000 := by
  rw [List.getD_eq_getElem?_getD]
  cases e : p[i]? with
  | none => exact ⟨by decide, by decide⟩
  | some x => exact h.2.2 x (List.mem_of_getElem? e)
theorem small_mul {k : Nat} {x : Int} (hk : k ≤ 7) (h : -1000000 ≤ x ∧ x ≤ 1000000) : (((k : Nat) : Int) * x).natAbs < 2 ^ 23 := by
  rw [Int.natAbs_mul, Int.natAbs_natCast]
  have : k * x.natAbs ≤ 7 * 1000000 := Nat.mul_le_mul hk (by omega)
  have e : (2 : Nat) ^ 23 = 8388608 := by decide
  omega
theorem P6.slope {p : List Int} (h : P6 p) : Bs 23 (slopeL p) := by
  intro x hx
  obtain ⟨i, hi, rfl⟩ := vec_in hx
  have := h.2.1
  exact small_mul (by omega) (h.at_ _)
theorem P6.b20 {p : List Int} (h : P6 p) : Bs 20 p := fun x hx => by
  have := h.2.2 x hx
  have e : (2 : Nat) ^ 20 = 1048576 := (by decide)
  rw [e]; omega
/-- a first step for the rest by the slope -/
def firstL (p : List Int) : List Int := vec (p.length - 1) fun k => (((p.length - 1 - k : Nat) : Int)) * p.getD k 0
theorem first_rs {p : List Int} (h2 : 2 ≤ p.length) : Rs p (slopeL p) (firstL p) := by
  refine ⟨((p.length - 1 : Nat) : Int), dlt 1, 2, by omega, fun i hi => by unfold dlt; rw [if_neg (by omega)], fun i => ?_⟩
  rw [cfF_dlt, slopeL_len]
  unfold firstL
  rw [vec_getD]
  by_cases h1 : 1 ≤ i ∧ i - 1 < p.length - 1
  · rw [if_pos h1, slopeL_getD, show i - 1 + 1 = i by omega]
    by_cases h3 : i < p.length - 1
    · rw [if_pos h3, ← Int.add_mul]
      congr 1
      omega
    · rw [if_neg h3, Int.add_zero]
      congr 2
      omega
  · rw [if_neg h1]
    by_cases h3 : i < p.length - 1
    · rw [if_pos h3, Int.zero_add]
      congr 2
      omega
    · rw [if_neg h3, getD_out (l := p) (by omega), Int.mul_zero]
      rfl
theorem rs_trm {P B L : List Int} (h : Rs P B L) : Rs P B (trm L) := by
  obtain ⟨g, q, N, h1, h2, h3⟩ := h
  exact ⟨g, q, N, h1, h2, fun i => by rw [trm_getD]; exact h3 i⟩
theorem rem_first {p : List Int} (h : P6 p) (h2 : 2 ≤ p.length) : ∃ M, Rm p (slopeL p) M ∧ Bs 47 M := by
  have s0 : slopeL p ≠ [] := fun z => by
    have := slopeL_len p
    rw [z, List.length_nil] at this
    omega
  have fb : Bs 23 (trm (firstL p)) := bs_trm (by
    intro x hx
    obtain ⟨i, hi, rfl⟩ := vec_in hx
    have := h.2.1
    exact small_mul (by omega) (h.at_ _))
  obtain ⟨M, hM, bM⟩ := rem_loop (pol_slope h.1) s0 h.slope _ _ 23 (Nat.le_refl _) (pol_trm _) (rs_trm (first_rs h2)) fb
  refine ⟨M, hM, bM.le ?_⟩
  have l1 := trm_len (firstL p)
  have l2 : (firstL p).length = p.length - 1 := vec_len _ _
  rw [slopeL_len]
  have : (trm (firstL p)).length + 1 - (p.length - 1) ≤ 1 := by omega
  have := Nat.mul_le_mul_right (23 + 1) this
  omega
noncomputable def rowF : Nat → List Int → List Int → List (List Int)
  | 0, _, _ => []
  | n + 1, A, B => if B = [] then [] else B :: rowF n B (nx A B)
theorem rowF_ext : ∀ (n m : Nat) (A B : List Int), B.length ≤ n → B.length ≤ m → rowF n A B = rowF m A B
  | 0, 0, _, _, _, _ => rfl
  | 0, m + 1, A, B, h, _ => by
    have : B = [] := List.eq_nil_of_length_eq_zero (by omega)
    subst this
    rfl
  | n + 1, 0, A, B, _, h => by
    have : B = [] := List.eq_nil_of_length_eq_zero (by omega)
    subst this
    rfl
  | n + 1, m + 1, A, B, h1, h2 => by
    unfold rowF
    by_cases e : B = []
    · rw [if_pos e, if_pos e]
    · rw [if_neg e, if_neg e]
      have := nx_len (A := A) e
      rw [rowF_ext n m B (nx A B) (by omega) (by omega)]
noncomputable def rowT (A B : List Int) : List (List Int) := rowF B.length A B
theorem rowT_nil (A : List Int) : rowT A [] = [] := rfl
theorem rowT_cons {A B : List Int} (h : B ≠ []) : rowT A B = B :: rowT B (nx A B) := by
  have l := List.length_pos_iff.mpr h
  unfold rowT
  obtain ⟨n, hn⟩ : ∃ n, B.length = n + 1 := ⟨B.length - 1, by omega⟩
  rw [hn]
  show (if B = [] then [] else B :: rowF n B (nx A B)) = _
  rw [if_neg h]
  have := nx_len (A := A) h
  rw [rowF_ext n _ B (nx A B) (by omega) (Nat.le_refl _)]
noncomputable def rowL (p : List Int) : List (List Int) := p :: rowT p (slopeL p)
/-- how many bits -/
def gam : Nat → Nat
  | 0 => 20
  | 1 => 23
  | 2 => 47
  | 3 => 119
  | 4 => 287
  | 5 => 695
  | 6 => 1679
  | _ => 4055
/-- two neighbours in a row -/
structure Nb (A B : List Int) : Prop where
  pa : Pol A
  pb : Pol B
  la : A.length ≤ 8
  lt : B.length < A.length
  ba : Bs (gam (8 - A.length)) A
  bb : Bs (gam (9 - A.length)) B
  b1 : B.length = 1 → Bs 23 B
  sm : Bs 1700 A
theorem gam_mono : ∀ i j : Nat, i ≤ j → gam i ≤ gam j := by
  have h1 : ∀ i, i < 9 → gam i ≤ 4055 := by decide
  have h2 : ∀ j, j < 8 → ∀ i, i ≤ j → gam i ≤ gam j := by decide
  intro i j h
  by_cases c : j < 8
  · exact h2 j c i h
  · have e : gam j = 4055 := by
      match j, c with
      | 0, c => exact absurd (by decide) c
      | 1, c => exact absurd (by decide) c
      | 2, c => exact absurd (by decide) c
      | 3, c => exact absurd (by decide) c
      | 4, c => exact absurd (by decide) c
      | 5, c => exact absurd (by decide) c
      | 6, c => exact absurd (by decide) c
      | n + 7, _ => rfl
    rw [e]
    by_cases c2 : i < 9
    · exact h1 i c2
    · have : gam i = 4055 := by
        match i, c2 with
        | n + 7, _ => rfl
        | 0, c => exact absurd (by decide) c
        | 1, c => exact absurd (by decide) c
        | 2, c => exact absurd (by decide) c
        | 3, c => exact absurd (by decide) c
        | 4, c => exact absurd (by decide) c
        | 5, c => exact absurd (by decide) c
        | 6, c => exact absurd (by decide) c
      omega
theorem gam_step : ∀ a, a < 8 → ∀ b, b < a → 2 ≤ b → gam (8 - a) + (a + 1 - b) * (gam (9 - a) + 1) ≤ gam (9 - b) := by decide
theorem Nb.smb {A B : List Int} (h : Nb A B) : Bs 1700 B := by
  by_cases c : B.length = 1
  · exact (h.b1 c).le (by decide)
  · by_cases c2 : B.length = 0
    · have : B = [] := List.eq_nil_of_length_eq_zero c2
      subst this
      intro x hx
      cases hx
    · refine h.bb.le ?_
      have := h.lt
      have := gam_mono (9 - A.length) 6 (by omega)
      have : gam 6 = 1679 := rfl
      omega
theorem pol_one {L : List Int} (h : Pol L) (hl : L.length = 1) : ∃ x, L = [x] ∧ x ≠ 0 := by
  match L, hl with
  | [x], _ => exact ⟨x, rfl, h x rfl⟩
theorem nx_small {A B M : List Int} {m : Nat} (hB : Pol B) (hM : Rm A B M) (bM : Bs m M) : Pol (nx A B) ∧ Bs m (nx A B) ∧ ((nx A B).length = 1 → Bs 23 (nx A B)) := by
  rw [nx_eq hB hM]
  refine ⟨pol_negL (pol_prim hM.1), bs_neg (bs_prim bM), fun h => ?_⟩
  rw [negL_length, prim_length] at h
  obtain ⟨x, rfl, hx⟩ := pol_one hM.1 h
  exact (bs_neg (prim_one hx)).le (by decide)
theorem nb_first {p : List Int} (h : P6 p) (h0 : p ≠ []) : Nb p (slopeL p) where
  pa := h.1
  pb := pol_slope h.1
  la := h.2.1
  lt := by
    have := List.length_pos_iff.mpr h0
    rw [slopeL_len]
    omega
  ba := h.b20.le (gam_mono 0 _ (Nat.zero_le _))
  bb := h.slope.le (gam_mono 1 _ (by have := h.2.1; omega))
  b1 := fun _ => h.slope
  sm := h.b20.le (by decide)
theorem nb_second {p : List Int} (h : P6 p) (s0 : slopeL p ≠ []) : Nb (slopeL p) (nx p (slopeL p)) := by
  have l := List.length_pos_iff.mpr s0
  have sl := slopeL_len p
  obtain ⟨M, hM, bM⟩ := rem_first h (by omega)
  obtain ⟨n1, n2, n3⟩ := nx_small (pol_slope h.1) hM bM
  have h8 := h.2.1
  exact {
    pa := pol_slope h.1
    pb := n1
    la := by omega
    lt := nx_len s0
    ba := h.slope.le (gam_mono 1 _ (by omega))
    bb := n2.le (gam_mono 2 _ (by omega))
    b1 := n3
    sm := h.slope.le (by decide) }
theorem nb_next {A B : List Int} (h : Nb A B) (h7 : A.length ≤ 7) (h0 : B ≠ []) : Nb B (nx A B) := by
  have l := List.length_pos_iff.mpr h0
  have hl := h.lt
  obtain ⟨M, hM, bM⟩ := rem_ex h.pa h.pb h0 h.ba h.bb
  obtain ⟨n1, n2, n3⟩ := nx_small h.pb hM bM
  refine { pa := h.pb, pb := n1, la := by omega, lt := nx_len h0, ba := h.bb.le (gam_mono _ _ (by omega)), bb := ?_, b1 := n3, sm := h.smb }
  by_cases c : B.length = 1
  · have := nx_len (A := A) h0
    have : nx A B = [] := List.eq_nil_of_length_eq_zero (by omega)
    rw [this]
    intro x hx
    cases hx
  · exact n2.le (gam_step A.length (by omega) B.length (by omega) (by omega))
/-- where a row of p stands -/
structure Wr (p : List Int) (pre : List (List Int)) (A B : List Int) : Prop where
  nb : Nb A B
  hd : (A = p ∧ B = slopeL p) ∨ A.length ≤ 7
  all : pre ++ A :: rowT A B = rowL p
theorem Wr.start {p : List Int} (h : P6 p) (h0 : p ≠ []) : Wr p [] p (slopeL p) := ⟨nb_first h h0, .inl ⟨rfl, rfl⟩, rfl⟩
theorem Wr.next {p : List Int} {pre : List (List Int)} {A B : List Int} (hp : P6 p) (h : Wr p pre A B) (h0 : B ≠ []) : Wr p (pre ++ [A]) B (nx A B) := by
  obtain ⟨h1, h2, h3⟩ := h
  refine ⟨?_, .inr (by have := h1.la; have := h1.lt; omega), ?_⟩
  · rcases h2 with ⟨rfl, rfl⟩ | h2
    · exact nb_second hp h0
    · exact nb_next h1 h2 h0
  · rw [← h3, rowT_cons h0, List.append_assoc]
    rfl
theorem Wr.done {p : List Int} {pre : List (List Int)} {A : List Int} (h : Wr p pre A []) : pre ++ [A] = rowL p := by
  rw [← h.all, rowT_nil]
theorem Wr.one {p : List Int} {pre : List (List Int)} {A B : List Int} (h : Wr p pre A B) (h1 : B.length = 1) : pre ++ [A] ++ [B] = rowL p := by
  have h0 : B ≠ [] := fun z => by rw [z] at h1; cases h1
  have : nx A B = [] := List.eq_nil_of_length_eq_zero (by have := nx_len (A := A) h0; omega)
  rw [← h.all, rowT_cons h0, this, rowT_nil, List.append_assoc]
  rfl
end V2


namespace V2
open PySem L2
open PySem.Spec PyProof.Rows
/-- the constant n -/
def cp (n : Int) : List Int := if n = 0 then [] else [n]
section
variable {base : Heap} {mg : Str → Option Value} {K : PySem.W.Frag} {w : World} {P : Program}
end
end V2


namespace V2
open PySem L2
open PySem.Spec PyProof.Rows
def B26 (n : Int) : Prop := n.natAbs < 2 ^ 4400
section
variable {base : Heap} {mg : Str → Option Value} {K : PySem.W.Frag} {w : World} {P : Program}
theorem B26.g {t m : Int} (hm : 0 < m) (h : B26 m) : 0 < ((Int.gcd t m : Nat) : Int) ∧ B26 ((Int.gcd t m : Nat) : Int) := by
  have h0 : 0 < Int.gcd t m := Int.gcd_pos_of_ne_zero_right _ (by omega)
  refine ⟨by omega, ?_⟩
  unfold B26
  rw [Int.natAbs_natCast]
  refine Nat.lt_of_le_of_lt (Nat.le_of_dvd (by omega) ?_) h
  exact Int.natAbs_dvd_natAbs.mpr (Int.gcd_dvd_right _ _) |> (by simpa using ·)
end
end V2


namespace PySem
mutual
inductive ReadsS (h : Heap) : Value → PyData → Prop
  | none : ReadsS h .none .none
  | bool (b : Bool) : ReadsS h (.bool b) (.bool b)
  | int (i : Int) (t : Tok) : ReadsS h (.int i t) (.int i)
  | str (x : Str) (t : Tok) : ReadsS h (.str x t) (.str x)
  | list {a : Addr} {o : Obj} {vs : Array Value} {n : Nat} {xs : List PyData} : h.get? a = some o → o.cls = .type "list" → o.data = .seq vs n → ReadsAllS h vs.toList xs → ReadsS h (.ref a) (.list xs)
  | tuple {a : Addr} {o : Obj} {vs : Array Value} {n : Nat} {xs : List PyData} : h.get? a = some o → o.cls = .type "tuple" → o.data = .seq vs n → ReadsAllS h vs.toList xs → ReadsS h (.ref a) (.tuple xs)
  | dict {a : Addr} {o : Obj} {es : Array DictEntry} {n : Nat} {kvs : List (PyData × PyData)} : h.get? a = some o → o.cls = .type "dict" → o.data = .dict es n → (a == sysModules) = false → ReadsAllS h (es.toList.map (·.key)) (kvs.map (·.1)) →
      ReadsAllS h (es.toList.map (·.val)) (kvs.map (·.2)) → ReadsS h (.ref a) (.dict kvs)
inductive ReadsAllS (h : Heap) : List Value → List PyData → Prop
  | nil : ReadsAllS h [] []
  | cons {v : Value} {vs : List Value} {d : PyData} {ds : List PyData} : ReadsS h v d → ReadsAllS h vs ds → ReadsAllS h (v :: vs) (d :: ds)
end
section
variable {h : Heap}
mutual
theorem ReadsS.reads : ∀ {v : Value} {d : PyData}, ReadsS h v d → ∃ as, Reads h v d as
  | _, _, .none => ⟨_, .none⟩
  | _, _, .bool b => ⟨_, .bool b⟩
  | _, _, .int i t => ⟨_, .int i t⟩
  | _, _, .str x t => ⟨_, .str x t⟩
  | _, _, .list h1 h2 h3 h4 => let ⟨_, r⟩ := ReadsAllS.reads h4; ⟨_, .list h1 h2 h3 r⟩
  | _, _, .tuple h1 h2 h3 h4 => let ⟨_, r⟩ := ReadsAllS.reads h4; ⟨_, .tuple h1 h2 h3 r⟩
  | _, _, .dict h1 h2 h3 _ h4 h5 => let ⟨_, r⟩ := ReadsAllS.reads h4; let ⟨_, q⟩ := ReadsAllS.reads h5; ⟨_, .dict h1 h2 h3 r q⟩
theorem ReadsAllS.reads : ∀ {vs : List Value} {ds : List PyData}, ReadsAllS h vs ds → ∃ as, ReadsAll h vs ds as
  | _, _, .nil => ⟨_, .nil⟩
  | _, _, .cons r q => let ⟨_, a⟩ := ReadsS.reads r; let ⟨_, b⟩ := ReadsAllS.reads q; ⟨_, .cons a b⟩
end
end
section
variable {prog : Program} {w : World} {h₀ : Heap}
end
end PySem
namespace V2
open PySem L2
open PySem.Spec PyProof.Rows
mutual
/-- v is the data d, where the abstract heap is H -/
inductive Dq (H : Hp) : V → PyData → Prop
  | non : Dq H .non .none
  | bl (b : Bool) : Dq H (.bl b) (.bool b)
  | int (i : Int) : Dq H (.int i) (.int i)
  | str (x : Str) : Dq H (.str x) (.str x)
  | lst {a : Addr} {xs : List V} {ds : List PyData} : H a = some (.lst xs) → DqAll H xs ds → Dq H (.ref a) (.list ds)
  | tup {a : Addr} {xs : List V} {ds : List PyData} : H a = some (.tup xs) → DqAll H xs ds → Dq H (.ref a) (.tuple ds)
  | dct {a : Addr} {x : Str} {w : V} {d : PyData} : H a = some (.dK [(.inr x, w)]) → Dq H w d → Dq H (.ref a) (.dict [(.str x, d)])
inductive DqAll (H : Hp) : List V → List PyData → Prop
  | nil : DqAll H [] []
  | cons {v : V} {vs : List V} {d : PyData} {ds : List PyData} : Dq H v d → DqAll H vs ds → DqAll H (v :: vs) (d :: ds)
end
mutual
theorem Dq.go {H H' : Hp} : ∀ {d : PyData} {v : V}, Dq H v d → Evl.Ex H H' → Dq H' v d
  | _, _, .non, _ => .non
  | _, _, .bl b, _ => .bl b
  | _, _, .int i, _ => .int i
  | _, _, .str x, _ => .str x
  | _, _, .lst h r, e => .lst (e _ _ h) (DqAll.go r e)
  | _, _, .tup h r, e => .tup (e _ _ h) (DqAll.go r e)
  | _, _, .dct h r, e => .dct (e _ _ h) (Dq.go r e)
theorem DqAll.go {H H' : Hp} : ∀ {ds : List PyData} {vs : List V}, DqAll H vs ds → Evl.Ex H H' → DqAll H' vs ds
  | _, _, .nil, _ => .nil
  | _, _, .cons a b, e => .cons (Dq.go a e) (DqAll.go b e)
end
section
variable {X : Cx} {pins : List (Addr × Obj)} {σ : L2.St} {H : Hp} {s : Shared}
mutual
theorem Dq.reads (I : Inv X pins σ H s) : ∀ {d : PyData} {v : V}, Dq H v d → ∀ {u : Value}, RelV v u → ReadsS s.heap u d
  | _, _, .non, _, r => by
    cases r
    exact .none
  | _, _, .bl b, _, r => by
    cases r
    exact .bool b
  | _, _, .int i, _, r => by
    obtain ⟨t, rfl⟩ := r
    exact .int i t
  | _, _, .str x, _, r => by
    obtain ⟨t, rfl⟩ := r
    exact .str x t
  | _, _, .lst h q, _, r => by
    cases r
    obtain ⟨_, its, n, rv, ho⟩ := I.hok _ _ h
    exact .list ho rfl rfl (by simpa using DqAll.reads I q rv)
  | _, _, .tup h q, _, r => by
    cases r
    obtain ⟨_, its, rv, o, ho, hc, n, hd⟩ := I.hok _ _ h
    exact .tuple ho hc hd (by simpa using DqAll.reads I q rv)
  | _, _, .dct h q, _, r => by
    cases r
    obtain ⟨_, hsys, vs, kv, o, es, ep, ho, ⟨hc, _, _⟩, hd, _, hp, _⟩ := dk_of I.hok h
    obtain ⟨p1, p2, rfl, e1, e2⟩ : ∃ p1 p2, vs = [(p1, p2)] ∧ Sum.inr _ = p1 ∧ RelV _ p2 := by
      cases kv with
      | cons r1 r2 =>
        cases r2
        exact ⟨_, _, rfl, r1.1, r1.2⟩
    · subst e1
      refine .dict ho hc hd hsys ?_ ?_
      · generalize es.toList = l at hp
        cases hp with
        | cons a1 a2 a3 =>
          cases a3
          have z1 := a1
          rw [mixKind_is] at z1
          rcases keyIs_shape z1 with ⟨_, _, z, _⟩ | ⟨x', t, z, ht⟩
          · cases z
          cases z
          rw [List.map_cons, List.map_nil, ht]
          exact .cons (.str _ _) .nil
      · generalize es.toList = l at hp
        cases hp with
        | cons a1 a2 a3 =>
          cases a3
          rw [List.map_cons, List.map_nil, a2]
          exact .cons (Dq.reads I q e2) .nil
theorem DqAll.reads (I : Inv X pins σ H s) : ∀ {ds : List PyData} {vs : List V}, DqAll H vs ds → ∀ {us : List Value}, Vals vs us → ReadsAllS s.heap us ds
  | _, _, .nil, _, r => by
    cases r
    exact .nil
  | _, _, .cons a b, _, r => by
    cases r with
    | cons r1 r2 => exact .cons (Dq.reads I a r1) (DqAll.reads I b r2)
end
end
end V2


namespace V2
open PySem L2
open PySem.Spec PyProof.Rows
/-- what is new -/
def Nw (H H' : Hp) : Hp := fun b => if (H b).isSome = true then none else H' b
theorem Nw.ex {H H' : Hp} : Evl.Ex (Nw H H') H' := fun b o h => by
  unfold Nw at h
  split at h
  · cases h
  · exact h
theorem nw_at {H H' : Hp} {b : Addr} {o : HO} (n : H b = none) (h : H' b = some o) : Nw H H' b = some o := by
  unfold Nw
  rw [n]
  exact h
theorem nw_none {H H' : Hp} {b : Addr} {o : HO} (h : Nw H H' b = some o) : H b = none := by
  unfold Nw at h
  split at h
  · cases h
  · rename_i z
    cases e : H b with
    | none => rfl
    | some x =>
      rw [e] at z
      exact absurd rfl z
/-- data of lists and tuples, n deep at most -/
inductive Cp : Nat → PyData → Prop
  | non {n : Nat} : Cp n .none
  | bl {n : Nat} (b : Bool) : Cp n (.bool b)
  | int {n : Nat} (i : Int) : Cp n (.int i)
  | str {n : Nat} (x : Str) : Cp n (.str x)
  | lst {n : Nat} {ds : List PyData} : ds.length ≤ 100 → (∀ d ∈ ds, Cp n d) → Cp (n + 1) (.list ds)
  | tup {n : Nat} {ds : List PyData} : ds.length ≤ 100 → (∀ d ∈ ds, Cp n d) → Cp (n + 1) (.tuple ds)
theorem DqAll.len {H : Hp} : ∀ {ds : List PyData} {vs : List V}, DqAll H vs ds → vs.length = ds.length
  | _, _, .nil => rfl
  | _, _, .cons _ b => congrArg Nat.succ b.len
theorem DqAll.get {H : Hp} : ∀ {ds : List PyData} {vs : List V} {i : Nat} {v : V}, DqAll H vs ds → vs[i]? = some v → ∃ d, ds[i]? = some d ∧ Dq H v d
  | _, _, _, _, .nil, h => by cases h
  | _, _, 0, _, .cons a _, h => by
    cases h
    exact ⟨_, rfl, a⟩
  | _, _, i + 1, _, .cons _ b, h => b.get (i := i) h
theorem DqAll.snoc {H : Hp} : ∀ {ds : List PyData} {vs : List V} {v : V} {d : PyData}, DqAll H vs ds → Dq H v d → DqAll H (vs ++ [v]) (ds ++ [d])
  | _, _, _, _, .nil, h => .cons h .nil
  | _, _, _, _, .cons a b, h => .cons a (b.snoc h)
theorem ds_take {ds : List PyData} {i : Nat} {d : PyData} (h : ds[i]? = some d) : ds.take (i + 1) = ds.take i ++ [d] := by
  rw [List.take_add_one, h]
  rfl
structure T5 (mg : Str → Option Value) : Prop where
  isi : mg "isinstance" = none
  lst : mg "list" = none
  tup : mg "tuple" = none
section
variable {base : Heap} {mg : Str → Option Value} {K : PySem.W.Frag} {w : World} {P : Program}
end
end V2


namespace V2
open PySem L2
open PySem.Spec PyProof.Rows
abbrev Tk := Option Int × Int
def wV : Option Int → V
  | none => .non
  | some z => .int z
def wD : Option Int → PyData
  | none => .none
  | some z => .int z
def tkD (t : Tk) : PyData := .tuple [wD t.1, .int t.2]
def okT (ts : List Tk) : Prop := ts.length ≤ 20 ∧ (∀ t ∈ ts, (∀ z, t.1 = some z → 1 ≤ z) ∧ 0 ≤ t.2) ∧ ts.countP (fun t => t.1.isNone) = 1
def TksAt (H : Hp) (l : Addr) (ts : List Tk) : Prop := ∃ as : List Addr, H l = some (.lst (as.map V.ref)) ∧ as.length = ts.length ∧ ∀ (i : Nat) (a : Addr) (t : Tk), as[i]? = some a → ts[i]? = some t → H a = some (.tup [wV t.1, .int t.2])
theorem TksAt.ex {H H' : Hp} {l : Addr} {ts : List Tk} (h : TksAt H l ts) (e : Evl.Ex H H') : TksAt H' l ts := by
  obtain ⟨as, h1, h2, h3⟩ := h
  exact ⟨as, e _ _ h1, h2, fun i a t x y => e _ _ (h3 i a t x y)⟩
theorem dq_w {H : Hp} {v : V} {w : Option Int} (h : Dq H v (wD w)) : v = wV w := by
  cases w with
  | none => cases h; rfl
  | some z => cases h; rfl
theorem dq_tk {H : Hp} {v : V} {t : Tk} (h : Dq H v (tkD t)) : ∃ a, v = .ref a ∧ H a = some (.tup [wV t.1, .int t.2]) := by
  cases h with
  | tup h1 h2 =>
    cases h2 with
    | cons a b =>
      cases b with
      | cons b c =>
        cases c
        cases b
        rw [dq_w a] at h1
        exact ⟨_, rfl, h1⟩
theorem dq_tks {H : Hp} : ∀ {ts : List Tk} {vs : List V}, DqAll H vs (ts.map tkD) → ∃ as : List Addr, vs = as.map V.ref ∧ as.length = ts.length ∧ ∀ (i : Nat) (a : Addr) (t : Tk), as[i]? = some a → ts[i]? = some t → H a = some (.tup [wV t.1, .int t.2])
  | [], _, .nil => ⟨[], rfl, rfl, fun i a t h => (by cases h)⟩
  | t :: ts, _, .cons a b => by
    obtain ⟨x, rfl, hx⟩ := dq_tk a
    obtain ⟨as, rfl, h2, h3⟩ := dq_tks b
    refine ⟨x :: as, rfl, congrArg Nat.succ h2, fun i a t' h1 h2 => ?_⟩
    cases i with
    | zero =>
      cases h1
      cases h2
      exact hx
    | succ i => exact h3 i a t' h1 h2
theorem Dq.tks {H : Hp} {v : V} {ts : List Tk} (h : Dq H v (.list (ts.map tkD))) : ∃ l, v = .ref l ∧ TksAt H l ts := by
  cases h with
  | lst h1 h2 =>
    obtain ⟨as, rfl, h3, h4⟩ := dq_tks h2
    exact ⟨_, rfl, as, h1, h3, h4⟩
section
variable {base : Heap} {mg : Str → Option Value} {K : PySem.W.Frag} {w : World} {P : Program}
theorem cntN {ts : List Tk} {i : Nat} {t : Tk} (h : ts[i]? = some t) : (ts.take (i + 1)).countP (fun t => t.1.isNone) = (ts.take i).countP (fun t => t.1.isNone) + (if t.1 = none then 1 else 0) := by
  rw [List.take_add_one, h, List.countP_append]
  obtain ⟨w, a⟩ := t
  cases w <;> simp
end
end V2


namespace V2
open PySem L2
open PySem.Spec PyProof.Rows
inductive Deed
  | op (ks : List Int)
  | po (k a : Int)
  | sc (k p q : Int)
  | mv (k m p q : Int)
  | un (k m : Int)
def dD : Deed → PyData
  | .op ks => .tuple [.str "open", .list (ks.map .int)]
  | .po k a => .tuple [.str "pour", .int k, .int a]
  | .sc k p q => .tuple [.str "scoop", .int k, .tuple [.int p, .int q]]
  | .mv k m p q => .tuple [.str "move", .int k, .int m, .tuple [.int p, .int q]]
  | .un k m => .tuple [.str "unless", .int k, .int m]
def DAt (H : Hp) (a : Addr) : Deed → Prop
  | .op ks => ∃ l, H a = some (.tup [.str "open", .ref l]) ∧ Li H l ks
  | .po k x => H a = some (.tup [.str "pour", .int k, .int x])
  | .sc k p q => ∃ f, H a = some (.tup [.str "scoop", .int k, .ref f]) ∧ Fr H f p q
  | .mv k m p q => ∃ f, H a = some (.tup [.str "move", .int k, .int m, .ref f]) ∧ Fr H f p q
  | .un k m => H a = some (.tup [.str "unless", .int k, .int m])
theorem DAt.ex {H H' : Hp} {a : Addr} {d : Deed} (h : DAt H a d) (e : Evl.Ex H H') : DAt H' a d := by
  cases d with
  | op ks =>
    obtain ⟨l, h1, h2⟩ := h
    exact ⟨l, e _ _ h1, e _ _ h2⟩
  | po k x => exact e _ _ h
  | sc k p q =>
    obtain ⟨f, h1, h2⟩ := h
    exact ⟨f, e _ _ h1, e _ _ h2⟩
  | mv k m p q =>
    obtain ⟨f, h1, h2⟩ := h
    exact ⟨f, e _ _ h1, e _ _ h2⟩
  | un k m => exact e _ _ h
def Pt (p q : Int) : Prop := 0 ≤ p ∧ p ≤ q ∧ Qn p q
/-- a step that is right, for n tanks -/
def okD (n : Int) : Deed → Prop
  | .op ks => 2 ≤ ks.length ∧ ks.length ≤ 20 ∧ (∀ (i : Nat) (x y : Int), ks[i]? = some x → ks[i + 1]? = some y → x < y) ∧ ∀ k ∈ ks, 0 ≤ k ∧ k < n
  | .po k a => (0 ≤ k ∧ k < n) ∧ 0 ≤ a
  | .sc k p q => (0 ≤ k ∧ k < n) ∧ Pt p q
  | .mv k m p q => (0 ≤ k ∧ k < n) ∧ (0 ≤ m ∧ m < n) ∧ k ≠ m ∧ Pt p q
  | .un k m => (0 ≤ k ∧ k < n) ∧ (0 ≤ m ∧ m < n) ∧ k ≠ m
structure Th (K : PySem.W.Frag) (w : World) (mg : Str → Option Value) (aT : Addr) (es : Array DictEntry) (n : Nat) (t1 t2 t3 t4 t5 : Tok) : Prop where
  g : mg "THINGS" = some (.ref aT)
  D : KDict K w aT es n
  n1 : PySem.W.nsIn K aT "open" = some (some (.int 2 t1))
  n2 : PySem.W.nsIn K aT "pour" = some (some (.int 3 t2))
  n3 : PySem.W.nsIn K aT "scoop" = some (some (.int 3 t3))
  n4 : PySem.W.nsIn K aT "move" = some (some (.int 4 t4))
  n5 : PySem.W.nsIn K aT "unless" = some (some (.int 3 t5))
section
variable {base : Heap} {mg : Str → Option Value} {K : PySem.W.Frag} {w : World} {P : Program} {aT : Addr} {es : Array DictEntry} {nT : Nat} {t1 t2 t3 t4 t5 : Tok}
end
end V2


namespace V2
open PySem L2
open PySem.Spec PyProof.Rows
def sgn (x : Int) : Int := if x = 0 then 0 else if x > 0 then 1 else -1
theorem sgn_le {x : Int} (h : x ≤ 0) : sgn x ≤ 0 := by
  unfold sgn
  split
  · omega
  · split <;> omega
def spSgn : Sp := fun vs H Q _ => ∃ x : Int, vs = [.int x] ∧ Evl.RetV (.int (sgn x)) H Q
def spOrd : Sp := fun vs H Q _ => ∃ (a b : Addr) (p q x y : Int), vs = [.ref a, .ref b] ∧ Fr H a p q ∧ Fr H b x y ∧ p.natAbs < 2 ^ 50 ∧ q.natAbs < 2 ^ 50 ∧ x.natAbs < 2 ^ 50 ∧ y.natAbs < 2 ^ 50 ∧ Evl.RetV (.int (sgn (p * y - x * q))) H Q
section
variable {base : Heap} {mg : Str → Option Value} {K : PySem.W.Frag} {w : World} {P : Program} {aT : Addr} {es : Array DictEntry} {nT : Nat} {t1 t2 t3 t4 t5 : Tok}
theorem ok_sign_of {f : Addr} {fd : FuncData} (F : Fun K "sign_of" "sign_of" s_sign_of f fd) : FnOk P w K mg base CX0 1 f fd p_sign_of spSgn := by
  refine F.ok sc_sign_of (fun vs H Q E h => ?_) (fun cdv A outer s H vs Q E hr h => ?_)
  · obtain ⟨x, rfl, _⟩ := h
    rfl
  · obtain ⟨x, rfl, k⟩ := h
    refine ⟨_, pss_cons (ps_if (pt_cmpR op_eq (pv 0) pe_int (nomark _)) (pss_one (ps_ret pe_int)) pss_nil) (pss_one (ps_ret (pe_ifExp (pt_cmpR op_gt (pv 0) pe_int (nomark _)) pe_int (pe_un un_neg pe_int)))), ?_⟩
    refine ⟨_, rfl, rfl, _, rfl, ?_⟩
    unfold sgn at k
    by_cases h0 : x = 0
    · refine if_t (decide_eq_true (by rw [h0])) ?_
      rw [if_pos h0] at k
      exact k _ (Evl.Ex.refl _)
    · refine if_f (decide_eq_false (fun z => h0 (by injection z))) ?_
      rw [if_neg h0] at k
      by_cases h1 : x > 0
      · rw [if_pos h1] at k
        exact ⟨_, rfl, _, _, rfl, rfl, _, rfl, if_t (decide_eq_true h1) (k _ (Evl.Ex.refl _))⟩
      · rw [if_neg h1] at k
        exact ⟨_, rfl, _, _, rfl, rfl, _, rfl, if_f (decide_eq_false h1) ⟨_, rfl, k _ (Evl.Ex.refl _)⟩⟩
theorem ok_order {f : Addr} {fd : FuncData} (F : Fun K "order_of_fractions" "order_of_fractions" s_order_of_fractions f fd) (cS : Cal P w K mg base 1 "sign_of" p_sign_of spSgn) : FnOk P w K mg base CX0 2 f fd p_order_of_fractions spOrd := by
  refine F.ok sc_order_of_fractions (fun vs H Q E h => ?_) (fun cdv A outer s H vs Q E hr h => ?_)
  · obtain ⟨a, b, p, q, x, y, rfl, _⟩ := h
    rfl
  · obtain ⟨a, b, p, q, x, y, rfl, ha, hb, h1, h2, h3, h4, k⟩ := h
    refine ⟨_, pss_one (ps_ret (pe_c cS hr (pa_cons (pe_op op_sub (pe_op op_mulW (pe_ix ix_tup (pv 0) pe_int (fun _ _ => rfl)) (pe_ix ix_tup (pv 1) pe_int (fun _ _ => rfl))) (pe_op op_mulW (pe_ix ix_tup (pv 1) pe_int (fun _ _ => rfl)) (pe_ix ix_tup (pv 0) pe_int (fun _ _ => rfl)))) pa_nil))), ?_⟩
    refine ⟨_, rfl, a, _, _, _, rfl, rfl, SqT.of ha, rfl, _, rfl, b, _, _, _, rfl, rfl, SqT.of hb, rfl, p, y, rfl, rfl, wide_mul (a := 50) (b := 50) h1 h4 (by decide) (by decide) (by decide), ?_⟩
    refine ⟨_, rfl, b, _, _, _, rfl, rfl, SqT.of hb, rfl, _, rfl, a, _, _, _, rfl, rfl, SqT.of ha, rfl, x, q, rfl, rfl, wide_mul (a := 50) (b := 50) h3 h2 (by decide) (by decide) (by decide), _, _, rfl, rfl, ?_⟩
    exact ⟨_, rfl, k⟩
end
end V2


namespace V2
open PySem L2
open PySem.Spec PyProof.Rows
def DObj : HO → Prop
  | .lst _ => True
  | .tup _ => True
  | .dK _ => True
  | _ => False
mutual
theorem Dq.keep {H H' : Hp} (e : ∀ b o, DObj o → H b = some o → H' b = some o) : ∀ {d : PyData} {v : V}, Dq H v d → Dq H' v d
  | _, _, .non => .non
  | _, _, .bl b => .bl b
  | _, _, .int i => .int i
  | _, _, .str x => .str x
  | _, _, .lst h r => .lst (e _ _ trivial h) (DqAll.keep e r)
  | _, _, .tup h r => .tup (e _ _ trivial h) (DqAll.keep e r)
  | _, _, .dct h r => .dct (e _ _ trivial h) (Dq.keep e r)
theorem DqAll.keep {H H' : Hp} (e : ∀ b o, DObj o → H b = some o → H' b = some o) : ∀ {ds : List PyData} {vs : List V}, DqAll H vs ds → DqAll H' vs ds
  | _, _, .nil => .nil
  | _, _, .cons a b => .cons (Dq.keep e a) (DqAll.keep e b)
end
theorem keep_ins {H H' : Hp} {x C dx : Addr} {fs : List (Str × V)} (hx : H x = some (.ins C dx fs)) (b : But x H H') : ∀ c o, DObj o → H c = some o → H' c = some o := fun c o d h => b c o (fun z => by
  rw [z, hx] at h
  cases h
  exact d) h
theorem dq_ints {H : Hp} : ∀ {ks : List Int} {vs : List V}, DqAll H vs (ks.map .int) → vs = iV ks
  | [], _, .nil => rfl
  | k :: ks, _, .cons a b => by
    cases a
    rw [dq_ints b]
    rfl
theorem dq_deed {H : Hp} {v : V} {d : Deed} (h : Dq H v (dD d)) : ∃ a, v = .ref a ∧ DAt H a d := by
  cases d with
  | op ks =>
    cases h with
    | tup h1 h2 =>
      cases h2 with
      | cons a b =>
        cases a
        cases b with
        | cons b c =>
          cases c
          cases b with
          | lst h3 h4 =>
            rw [dq_ints h4] at h3
            exact ⟨_, rfl, _, h1, h3⟩
  | po k x =>
    cases h with
    | tup h1 h2 =>
      cases h2 with
      | cons a b =>
        cases a
        cases b with
        | cons b c =>
          cases b
          cases c with
          | cons c e =>
            cases c
            cases e
            exact ⟨_, rfl, h1⟩
  | sc k p q =>
    cases h with
    | tup h1 h2 =>
      cases h2 with
      | cons a b =>
        cases a
        cases b with
        | cons b c =>
          cases b
          cases c with
          | cons c e =>
            cases e
            cases c with
            | tup h3 h4 =>
              rw [dq_ints (ks := [p, q]) h4] at h3
              exact ⟨_, rfl, _, h1, h3⟩
  | mv k m p q =>
    cases h with
    | tup h1 h2 =>
      cases h2 with
      | cons a b =>
        cases a
        cases b with
        | cons b c =>
          cases b
          cases c with
          | cons c e =>
            cases c
            cases e with
            | cons e g =>
              cases g
              cases e with
              | tup h3 h4 =>
                rw [dq_ints (ks := [p, q]) h4] at h3
                exact ⟨_, rfl, _, h1, h3⟩
  | un k m =>
    cases h with
    | tup h1 h2 =>
      cases h2 with
      | cons a b =>
        cases a
        cases b with
        | cons b c =>
          cases b
          cases c with
          | cons c e =>
            cases c
            cases e
            exact ⟨_, rfl, h1⟩
/-- the steps that stand in a list -/
def DsAt (H : Hp) (l : Addr) (ds : List Deed) : Prop := ∃ as : List Addr, H l = some (.lst (as.map V.ref)) ∧ as.length = ds.length ∧ ∀ (i : Nat) (a : Addr) (d : Deed), as[i]? = some a → ds[i]? = some d → DAt H a d
theorem DsAt.ex {H H' : Hp} {l : Addr} {ds : List Deed} (h : DsAt H l ds) (e : Evl.Ex H H') : DsAt H' l ds := by
  obtain ⟨as, h1, h2, h3⟩ := h
  exact ⟨as, e _ _ h1, h2, fun i a t x y => (h3 i a t x y).ex e⟩
theorem dq_deeds {H : Hp} : ∀ {ds : List Deed} {vs : List V}, DqAll H vs (ds.map dD) → ∃ as : List Addr, vs = as.map V.ref ∧ as.length = ds.length ∧ ∀ (i : Nat) (a : Addr) (d : Deed), as[i]? = some a → ds[i]? = some d → DAt H a d
  | [], _, .nil => ⟨[], rfl, rfl, fun i a t h => (by cases h)⟩
  | t :: ts, _, .cons a b => by
    obtain ⟨x, rfl, hx⟩ := dq_deed a
    obtain ⟨as, rfl, h2, h3⟩ := dq_deeds b
    refine ⟨x :: as, rfl, congrArg Nat.succ h2, fun i a t' h1 h2 => ?_⟩
    cases i with
    | zero =>
      cases h1
      cases h2
      exact hx
    | succ i => exact h3 i a t' h1 h2
theorem Dq.deeds {H : Hp} {v : V} {ds : List Deed} (h : Dq H v (.list (ds.map dD))) : ∃ l, v = .ref l ∧ DsAt H l ds := by
  cases h with
  | lst h1 h2 =>
    obtain ⟨as, rfl, h3, h4⟩ := dq_deeds h2
    exact ⟨_, rfl, as, h1, h3, h4⟩
structure ScC (K : PySem.W.Frag) (C fI fT fS pT pS : Addr) : Prop where
  cls : Cls K C
  na1 : NoAttr K C "_tanks"
  na2 : NoAttr K C "_steps"
  mkI : Mk K C fI
  prT : PropOf K C "tanks" pT fT
  prS : PropOf K C "steps" pS fS
/-- a script's shape that is right -/
def okS (ts : List Tk) (ds : List Deed) : Prop := okT ts ∧ ds.length ≤ 60 ∧ ∀ d ∈ ds, okD ts.length d
def scF (v u : V) : List (Str × V) := [("_tanks", v), ("_steps", u)]
section
variable {base : Heap} {mg : Str → Option Value} {K : PySem.W.Frag} {w : World} {P : Program} {C fI fT fS pT pS : Addr}
end
end V2


namespace V2
open PySem L2
open PySem.Spec PyProof.Rows
def CsAt (H : Hp) (l : Addr) (ns : List Int) : Prop := ∃ as : List Addr, H l = some (.lst (as.map V.ref)) ∧ as.length = ns.length ∧ ∀ (i : Nat) (a : Addr) (n : Int), as[i]? = some a → ns[i]? = some n → Li H a (cp n)
theorem CsAt.ex {H H' : Hp} {l : Addr} {ns : List Int} (h : CsAt H l ns) (e : Evl.Ex H H') : CsAt H' l ns := by
  obtain ⟨as, h1, h2, h3⟩ := h
  exact ⟨as, e _ _ h1, h2, fun i a t x y => e _ _ (h3 i a t x y)⟩
theorem CsAt.get {H : Hp} {l : Addr} {ns : List Int} (h : CsAt H l ns) {i : Nat} {n : Int} (hn : ns[i]? = some n) : ∃ (xs : List V) (a : Addr), H l = some (.lst xs) ∧ xs[i]? = some (.ref a) ∧ Li H a (cp n) := by
  obtain ⟨as, h1, h2, h3⟩ := h
  have hi : i < as.length := by
    have := (List.getElem?_eq_some_iff.mp hn).1
    omega
  have ha : as[i]? = some as[i] := List.getElem?_eq_getElem hi
  exact ⟨_, as[i], h1, by rw [List.getElem?_map, ha]; rfl, h3 i _ n ha hn⟩
/-- while the list at D is being made: i of them are there -/
def CsN (H : Hp) (D : Addr) (ns : List Int) (i : Nat) : Prop := ∃ as : List Addr, H D = some (.lst (as.map V.ref)) ∧ as.length = i ∧ ∀ (j : Nat) (a : Addr) (n : Int), as[j]? = some a → ns[j]? = some n → a ≠ D ∧ Li H a (cp n)
theorem CsN.start {H : Hp} {D : Addr} {ns : List Int} (h : H D = some (.lst [])) : CsN H D ns 0 := ⟨[], h, rfl, fun j a n h => by cases h⟩
theorem get_app {α : Type} {as : List α} {r a : α} {j : Nat} (h : (as ++ [r])[j]? = some a) : (as[j]? = some a ∧ j < as.length) ∨ (j = as.length ∧ a = r) := by
  by_cases hj : j < as.length
  · rw [List.getElem?_append_left hj] at h
    exact .inl ⟨h, hj⟩
  · rw [List.getElem?_append_right (by omega)] at h
    have h1 : j - as.length < 1 := (List.getElem?_eq_some_iff.mp h).1
    have h2 : j = as.length := by omega
    subst h2
    rw [Nat.sub_self] at h
    exact .inr ⟨rfl, (Option.some.inj h).symm⟩
/-- one more: r, which is no part of the list -/
theorem CsN.more {H2 H3 : Hp} {D r : Addr} {ns : List Int} {i : Nat} {n : Int} (h : CsN H2 D ns i) (e : Evl.Ex H2 H3) (hr : r ≠ D) (h3 : Li H3 r (cp n)) (hn : ns[i]? = some n) (hi : i ≤ 100) :
    ∃ acc, H3 D = some (.lst acc) ∧ acc.length < sizeLine ∧ CsN (upd H3 D (.lst (acc ++ [.ref r]))) D ns (i + 1) := by
  obtain ⟨as, h1, h2, h4⟩ := h
  refine ⟨_, e _ _ h1, ?_, as ++ [r], ?_, ?_, fun j a m ha hm => ?_⟩
  · rw [List.length_map, h2]
    exact Nat.lt_of_le_of_lt hi (by decide)
  · rw [upd_same, List.map_append]
    rfl
  · rw [List.length_append, h2]
    rfl
  · rcases get_app ha with ⟨h5, _⟩ | ⟨h5, rfl⟩
    · obtain ⟨n1, n2⟩ := h4 j a m h5 hm
      exact ⟨n1, Eq.trans (upd_ne n1) (e _ _ n2)⟩
    · rw [h5, h2, hn] at hm
      cases hm
      exact ⟨hr, Eq.trans (upd_ne hr) h3⟩
theorem CsN.done {H : Hp} {D : Addr} {ns : List Int} (h : CsN H D ns ns.length) : CsAt H D ns := by
  obtain ⟨as, h1, h2, h3⟩ := h
  exact ⟨as, h1, h2, fun i a n x y => (h3 i a n x y).2⟩
/-- the widths, times what is below in the told one -/
def wid (u b : Int) (t : Tk) : Int := match t.1 with
  | none => u
  | some z => z * b
section
variable {base : Heap} {mg : Str → Option Value} {K : PySem.W.Frag} {w : World} {P : Program}
end
end V2


namespace V2
open PySem L2
open PySem.Spec PyProof.Rows
def pick (ns : List Int) (ks : List Int) : List Int := ks.map fun k => ns.getD k.toNat 0
/-- numbers of less than n bits -/
def Bn (n : Nat) (x : Int) : Prop := x.natAbs < 2 ^ n
theorem Bn.le {n m : Nat} {x : Int} (h : Bn n x) (l : n ≤ m) : Bn m x := Nat.lt_of_lt_of_le h (Nat.pow_le_pow_right (by decide) l)
theorem Bn.mul {n m : Nat} {x y : Int} (h : Bn n x) (k : Bn m y) : Bn (n + m) (x * y) := wide_lt h k
/-- water: the amounts A by W -/
structure Wat (H : Hp) (t : Addr) (A : List Int) (W : Int) : Prop where
  at_ : ∃ la lw, H t = some (.tup [.ref la, .ref lw]) ∧ CsAt H la A ∧ Li H lw [W]
  pos : 0 < W
theorem Wat.ex {H H' : Hp} {t : Addr} {A : List Int} {W : Int} (h : Wat H t A W) (e : Evl.Ex H H') : Wat H' t A W := by
  obtain ⟨⟨la, lw, h1, h2, h3⟩, p⟩ := h
  exact ⟨⟨la, lw, e _ _ h1, h2.ex e, e _ _ h3⟩, p⟩
section
variable {base : Heap} {mg : Str → Option Value} {K : PySem.W.Frag} {w : World} {P : Program}
end
end V2


namespace V2
open PySem L2
open PySem.Spec PyProof.Rows
theorem fn_weak {P : Program} {w : World} {K : PySem.W.Frag} {mg : Str → Option Value} {base : Heap} {CX : CXT} {k : Nat} {f : Addr} {fd : FuncData} {ps : List Str} {sp sp' : Sp} (F : FnOk P w K mg base CX k f fd ps sp) (h : ∀ vs H Q E, sp' vs H Q E → sp vs H Q E) : FnOk P w K mg base CX k f fd ps sp' :=
  ⟨fun vs H Q E z => F.len vs H Q E (h _ _ _ _ z), fun A outer s H args us vs Q E hr e0 hb r z => F.run A outer s H args us vs Q E hr e0 hb r (h _ _ _ _ z)⟩
theorem Cal.weak {P : Program} {w : World} {K : PySem.W.Frag} {mg : Str → Option Value} {base : Heap} {k : Nat} {x : Str} {ps : List Str} {sp sp' : Sp} (c : Cal P w K mg base k x ps sp) (h : ∀ vs H Q E, sp' vs H Q E → sp vs H Q E) : Cal P w K mg base k x ps sp' := by
  obtain ⟨f, fd, F, a, b, d⟩ := c
  exact ⟨f, fd, fn_weak F h, a, b, d⟩
/-- the amounts behind a valve -/
def openA (A ws ks : List Int) : List Int := (List.range A.length).map fun (k : Nat) => if (k : Int) ∈ ks then (pick A ks).sum * ws.getD k 0 else A.getD k 0 * (pick ws ks).sum
section
variable {base : Heap} {mg : Str → Option Value} {K : PySem.W.Frag} {w : World} {P : Program}
end
end V2


namespace V2
open PySem L2
open PySem.Spec PyProof.Rows
def pourA (A : List Int) (W k a : Int) : List Int := (List.range A.length).map fun (j : Nat) => if (j : Int) = k then A.getD j 0 + a * W else A.getD j 0
/-- an element of a list of constants is not the list -/
theorem cs_ne {H : Hp} {l a : Addr} {as : List Addr} {i : Nat} {n : Int} (hl : H l = some (.lst (as.map V.ref))) (ha : as[i]? = some a) (h : Li H a (cp n)) : a ≠ l := by
  intro z
  have h : H a = some (.lst (iV (cp n))) := h
  rw [z, hl] at h
  injection h with h
  injection h with h
  have h2 := congrArg (fun x => x[i]?) h
  simp only [List.getElem?_map, ha] at h2
  have h2 : some (V.ref a) = (iV (cp n))[i]? := h2
  unfold iV at h2
  rw [List.getElem?_map] at h2
  cases e : (cp n)[i]? with
  | none =>
    rw [e] at h2
    cases h2
  | some x =>
    rw [e] at h2
    cases h2
section
variable {base : Heap} {mg : Str → Option Value} {K : PySem.W.Frag} {w : World} {P : Program}
end
end V2


namespace V2
open PySem L2
open PySem.Spec PyProof.Rows
/-- the amounts when p of q of tank k are taken, put into the tank o -/
def takeA (A : List Int) (k p q : Int) (o : Option Int) : List Int :=
  let B := (A.map (· * q)).set k.toNat (A.getD k.toNat 0 * (q - p))
  match o with
  | none => B
  | some m => B.set m.toNat (B.getD m.toNat 0 + A.getD k.toNat 0 * p)
section
variable {base : Heap} {mg : Str → Option Value} {K : PySem.W.Frag} {w : World} {P : Program}
end
end V2


namespace V2
open PySem L2
open PySem.Spec PyProof.Rows
/-- what a step does -/
def stepA (ws : List Int) (S : List Int × Int) : Deed → List Int × Int
  | .op ks => (openA S.1 ws ks, S.2 * (pick ws ks).sum)
  | .po k a => (pourA S.1 S.2 k a, S.2)
  | .sc k p q => (takeA S.1 k p q none, S.2 * q)
  | .mv k m p q => (takeA S.1 k p q (some m), S.2 * q)
  | .un _ _ => S
/-- the state of the water: amounts from 0 on, of at most N bits -/
structure OkW (N : Nat) (A : List Int) (W : Int) : Prop where
  nn : ∀ x ∈ A, 0 ≤ x
  bA : ∀ x ∈ A, Bn N x
  bW : Bn N W
  pos : 0 < W
def FmAt (H : Hp) (l : Addr) (fs : List (Int × Int)) : Prop := ∃ as : List Addr, H l = some (.lst (as.map V.ref)) ∧ as.length = fs.length ∧ ∀ (i : Nat) (a : Addr) (f : Int × Int), as[i]? = some a → fs[i]? = some f → ∃ x y, H a = some (.tup [.ref x, .ref y]) ∧ Li H x (cp f.1) ∧ Li H y [f.2]
section
variable {base : Heap} {mg : Str → Option Value} {K : PySem.W.Frag} {w : World} {P : Program}
end
end V2


namespace V2
open PySem L2
open PySem.Spec PyProof.Rows
/-- while the list of forms at D is being made -/
def FmN (H : Hp) (D : Addr) (fs : List (Int × Int)) (i : Nat) : Prop := ∃ as : List Addr, H D = some (.lst (as.map V.ref)) ∧ as.length = i ∧ ∀ (j : Nat) (a : Addr) (f : Int × Int), as[j]? = some a → fs[j]? = some f → ∃ x y, a ≠ D ∧ x ≠ D ∧ y ≠ D ∧ H a = some (.tup [.ref x, .ref y]) ∧ Li H x (cp f.1) ∧ Li H y [f.2]
theorem FmN.start {H : Hp} {D : Addr} {fs : List (Int × Int)} (h : H D = some (.lst [])) : FmN H D fs 0 := ⟨[], h, rfl, fun j a n h => by cases h⟩
theorem FmN.more {H2 H3 : Hp} {D r x y : Addr} {fs : List (Int × Int)} {i : Nat} {f : Int × Int} (h : FmN H2 D fs i) (e : Evl.Ex H2 H3) (hx : x ≠ D) (hy : y ≠ D) (hr : H3 r = some (.tup [.ref x, .ref y])) (h3 : Li H3 x (cp f.1)) (h4 : Li H3 y [f.2]) (hn : fs[i]? = some f) (hi : i ≤ 100) :
    ∃ acc, H3 D = some (.lst acc) ∧ acc.length < sizeLine ∧ FmN (upd H3 D (.lst (acc ++ [.ref r]))) D fs (i + 1) := by
  obtain ⟨as, h1, h2, h5⟩ := h
  have h1' := e _ _ h1
  have rD : r ≠ D := ne_of hr h1' (fun z => by cases z)
  refine ⟨_, h1', ?_, as ++ [r], ?_, ?_, fun j a m ha hm => ?_⟩
  · rw [List.length_map, h2]
    exact Nat.lt_of_le_of_lt hi (by decide)
  · rw [upd_same, List.map_append]
    rfl
  · rw [List.length_append, h2]
    rfl
  · rcases get_app ha with ⟨h6, _⟩ | ⟨h6, rfl⟩
    · obtain ⟨x', y', n1, n2, n3, g1, g2, g3⟩ := h5 j a m h6 hm
      exact ⟨x', y', n1, n2, n3, by rw [upd_ne n1]; exact e _ _ g1, Eq.trans (upd_ne n2) (e _ _ g2), Eq.trans (upd_ne n3) (e _ _ g3)⟩
    · rw [h6, h2, hn] at hm
      cases hm
      exact ⟨x, y, rD, hx, hy, by rw [upd_ne rD]; exact hr, Eq.trans (upd_ne hx) h3, Eq.trans (upd_ne hy) h4⟩
theorem FmN.done {H : Hp} {D : Addr} {fs : List (Int × Int)} (h : FmN H D fs fs.length) : FmAt H D fs := by
  obtain ⟨as, h1, h2, h3⟩ := h
  exact ⟨as, h1, h2, fun i a f x y => let ⟨u, v, _, _, _, g⟩ := h3 i a f x y; ⟨u, v, g⟩⟩
section
variable {base : Heap} {mg : Str → Option Value} {K : PySem.W.Frag} {w : World} {P : Program}
end
end V2


namespace V2
open PySem L2
/-- behind all steps -/
def runA (ws : List Int) (S : List Int × Int) (ds : List Deed) : List Int × Int := ds.foldl (stepA ws) S
end V2


namespace V2
open PySem L2
open PySem.Spec PyProof.Rows
/-- pairs of ints that stand in a list, as tuples -/
def PrAt (H : Hp) (l : Addr) (fs : List (Int × Int)) : Prop := ∃ as : List Addr, H l = some (.lst (as.map V.ref)) ∧ as.length = fs.length ∧ ∀ (i : Nat) (a : Addr) (f : Int × Int), as[i]? = some a → fs[i]? = some f → Fr H a f.1 f.2
theorem PrAt.ex {H H' : Hp} {l : Addr} {fs : List (Int × Int)} (h : PrAt H l fs) (e : Evl.Ex H H') : PrAt H' l fs := by
  obtain ⟨as, h1, h2, h3⟩ := h
  exact ⟨as, e _ _ h1, h2, fun i a t x y => e _ _ (h3 i a t x y)⟩
/-- whether a step ends the script -/
def endB (ws : List Int) (A : List Int) : Deed → Bool
  | .un j m => decide (A.getD m.toNat 0 * ws.getD j.toNat 0 < A.getD j.toNat 0 * ws.getD m.toNat 0)
  | _ => false
theorem dat_unless {H : Hp} {a : Addr} {d : Deed} (h : DAt H a d) : (∃ k m, d = .un k m) ∨ ∃ (x : Str) (r : List V), H a = some (.tup (.str x :: r)) ∧ decide (V.str x = V.str "unless") = false := by
  cases d with
  | op ks =>
    obtain ⟨l, h1, _⟩ := h
    exact .inr ⟨_, _, h1, by decide⟩
  | po k x => exact .inr ⟨_, _, h, by decide⟩
  | sc k p q =>
    obtain ⟨l, h1, _⟩ := h
    exact .inr ⟨_, _, h1, by decide⟩
  | mv k m p q =>
    obtain ⟨l, h1, _⟩ := h
    exact .inr ⟨_, _, h1, by decide⟩
  | un k m => exact .inl ⟨k, m, rfl⟩
section
variable {base : Heap} {mg : Str → Option Value} {K : PySem.W.Frag} {w : World} {P : Program}
end
end V2


namespace V2
open PySem L2
open PySem.Spec PyProof.Rows
/-- all but what stands at ps -/
def woL (ps : List Addr) (H : Hp) : Hp := fun b => if b ∈ ps then none else H b
theorem woL_ex {ps : List Addr} {H : Hp} : Evl.Ex (woL ps H) H := fun b o h => by
  unfold woL at h
  split at h
  · cases h
  · exact h
theorem woL_at {ps : List Addr} {b : Addr} {H : Hp} {o : HO} (n : b ∉ ps) (h : H b = some o) : woL ps H b = some o := by
  unfold woL
  rw [if_neg n]
  exact h
theorem woL_ne {ps : List Addr} {b : Addr} {H : Hp} {o : HO} (h : woL ps H b = some o) : b ∉ ps := fun z => by
  unfold woL at h
  rw [if_pos z] at h
  cases h
def ButL (ps : List Addr) (H H' : Hp) : Prop := ∀ b o, b ∉ ps → H b = some o → H' b = some o
theorem ButL.wo {ps qs : List Addr} {H H' : Hp} (h : ButL ps H H') (s : ∀ p ∈ ps, p ∈ qs) : Evl.Ex (woL qs H) (woL qs H') := fun b o z => woL_at (woL_ne z) (h b o (fun q => woL_ne z (s b q)) (woL_ex _ _ z))
theorem ButL.trans {ps : List Addr} {H H1 H2 : Hp} (a : ButL ps H H1) (b : ButL ps H1 H2) : ButL ps H H2 := fun c o n h => b c o n (a c o n h)
theorem ButL.of_ex {ps : List Addr} {H H' : Hp} (e : Evl.Ex H H') : ButL ps H H' := fun b o _ h => e b o h
theorem ButL.of_but {ps : List Addr} {p : Addr} {H H' : Hp} (h : But p H H') (m : p ∈ ps) : ButL ps H H' := fun b o n z => h b o (fun q => n (q ▸ m)) z
theorem ButL.mono {ps qs : List Addr} {H H' : Hp} (h : ButL ps H H') (s : ∀ p ∈ ps, p ∈ qs) : ButL qs H H' := fun b o n z => h b o (fun q => n (s b q)) z
/-- objects that are no part of water, widths or told widths -/
def Odd (H : Hp) (p : Addr) : Prop := (∃ ns : List Int, 2 ≤ ns.length ∧ H p = some (.lst (iV ns))) ∨ (∃ C dx fs, H p = some (.ins C dx fs)) ∨ ∃ ys c zs, H p = some (.lst (ys ++ [.ref c])) ∧ H c = some (.tup zs)
theorem Odd.get {H : Hp} {p : Addr} (k : Odd H p) : ∃ o, H p = some o := by
  rcases k with ⟨ns, n2, k⟩ | ⟨C, dx, fs, k⟩ | ⟨ys, c, zs, k, _⟩
  · exact ⟨_, k⟩
  · exact ⟨_, k⟩
  · exact ⟨_, k⟩
theorem Odd.ex {H H' : Hp} {p : Addr} (k : Odd H p) (e : Evl.Ex H H') : Odd H' p := by
  rcases k with ⟨ns, n2, k⟩ | ⟨C, dx, fs, k⟩ | ⟨ys, c, zs, k, k2⟩
  · exact .inl ⟨ns, n2, e _ _ k⟩
  · exact .inr (.inl ⟨_, _, _, e _ _ k⟩)
  · exact .inr (.inr ⟨_, _, _, e _ _ k, e _ _ k2⟩)
theorem Odd.but {H H' : Hp} {p x C dx : Addr} {fs : List (Str × V)} (k : Odd H p) (hx : H x = some (.ins C dx fs)) (b : But x H H') (n : p ≠ x) : Odd H' p := by
  rcases k with ⟨ns, n2, k⟩ | ⟨C, dx, fs, k⟩ | ⟨ys, c, zs, k, k2⟩
  · exact .inl ⟨ns, n2, b _ _ n k⟩
  · exact .inr (.inl ⟨_, _, _, b _ _ n k⟩)
  · exact .inr (.inr ⟨_, _, _, b _ _ n k, b _ _ (fun z => by rw [z, hx] at k2; cases k2) k2⟩)
theorem Odd.tup {H : Hp} {p q : Addr} {xs : List V} (k : Odd H p) (h : H q = some (.tup xs)) : q ≠ p := fun z => by
  rcases k with ⟨ns', n2, k⟩ | ⟨C, dx, fs, k⟩ | ⟨ys, c, zs, k, _⟩
  · rw [z, k] at h; cases h
  · rw [z, k] at h; cases h
  · rw [z, k] at h; cases h
theorem Odd.ints {H : Hp} {p q : Addr} {ns : List Int} (k : Odd H p) (h : Li H q ns) (l : ns.length ≤ 1) : q ≠ p := fun z => by
  have h : H q = some (.lst (iV ns)) := h
  rcases k with ⟨ns', n2, k⟩ | ⟨C, dx, fs, k⟩ | ⟨ys, c, zs, k, _⟩
  · rw [z, k] at h
    injection h with h
    injection h with h
    have := congrArg List.length h
    rw [iV_len, iV_len] at this
    omega
  · rw [z, k] at h; cases h
  · rw [z, k] at h
    injection h with h
    injection h with h
    have m : V.ref c ∈ iV ns := h ▸ List.mem_append_right _ (List.mem_singleton.mpr rfl)
    unfold iV at m
    obtain ⟨n, _, e⟩ := List.mem_map.mp m
    cases e
theorem Odd.cs {H : Hp} {p l : Addr} {ns : List Int} (k : Odd H p) (h : CsAt H l ns) : l ≠ p := fun z => by
  obtain ⟨as, h1, h2, h3⟩ := h
  rcases k with ⟨ns', n2, k⟩ | ⟨C, dx, fs, k⟩ | ⟨ys, c, zs, k, k2⟩
  · rw [z, k] at h1
    injection h1 with h1
    injection h1 with h1
    cases ns' with
    | nil => exact absurd n2 (by decide)
    | cons n r =>
      cases as with
      | nil => cases h1
      | cons x r => cases h1
  · rw [z, k] at h1; cases h1
  · rw [z, k] at h1
    injection h1 with h1
    injection h1 with h1
    have e : as.length = ys.length + 1 := by
      have := congrArg List.length h1
      rw [List.length_append, List.length_map] at this
      exact this.symm
    have ha : as[ys.length]? = some c := by
      have q : (as.map V.ref)[ys.length]? = some (.ref c) := by
        rw [← h1, List.getElem?_append_right (Nat.le_refl _), Nat.sub_self]
        rfl
      rw [List.getElem?_map] at q
      cases e2 : as[ys.length]? with
      | none =>
        rw [e2] at q
        cases q
      | some a =>
        rw [e2] at q
        injection q with q
        injection q with q
        rw [q]
    have hl : ys.length < ns.length := by omega
    have := h3 ys.length c _ ha (List.getElem?_eq_getElem hl)
    have this : H c = some (.lst _) := this
    rw [k2] at this
    cases this
def bnF (lq g lw ls lt : Addr) (v : V) : List (Str × V) := [("_tanks", .ref lq), ("_width", .ref g), ("_widths", .ref lw), ("_steps", .ref ls), ("_waters", .ref lt), ("_ended", v)]
/-- the parts of a bench that stay as they are: tanks, widths, the water (now and ahead of each step), the steps -/
structure BnP (H : Hp) (lq g lw t : Addr) (ts : List Tk) (A ws : List Int) (W u b : Int) (as bs : List Addr) (ds : List Deed) (S : List (List Int × Int)) : Prop where
  q : TksAt H lq ts
  f : Fr H g u b
  c : CsAt H lw ws
  w : Wat H t A W
  d : ∀ (i : Nat) (a : Addr) (d : Deed), as[i]? = some a → ds[i]? = some d → DAt H a d
  ww : ∀ (i : Nat) (a : Addr) (s : List Int × Int), bs[i]? = some a → S[i]? = some s → Wat H a s.1 s.2
theorem BnP.ex {H H' : Hp} {lq g lw t : Addr} {ts : List Tk} {A ws : List Int} {W u b : Int} {as bs : List Addr} {ds : List Deed} {S : List (List Int × Int)} (h : BnP H lq g lw t ts A ws W u b as bs ds S) (e : Evl.Ex H H') : BnP H' lq g lw t ts A ws W u b as bs ds S :=
  ⟨h.q.ex e, e _ _ h.f, h.c.ex e, h.w.ex e, fun i a d x y => (h.d i a d x y).ex e, fun i a s x y => (h.ww i a s x y).ex e⟩
/-- a bench with the lists that it changes; s: the sack; ds: its steps; S: the water ahead of each; A by W: the water now -/
structure BnAt (C s : Addr) (H : Hp) (x ls lt : Addr) (ts : List Tk) (ds : List Deed) (S : List (List Int × Int)) (A ws : List Int) (W u b : Int) (v : V) : Prop where
  ex : ∃ (dx lq g lw t : Addr) (as bs : List Addr), H x = some (.ins C dx (bnF lq g lw ls lt v)) ∧ H ls = some (.lst (as.map V.ref)) ∧ as.length = ds.length ∧ H lt = some (.lst (bs.map V.ref ++ [.ref t])) ∧ bs.length = S.length ∧ BnP (woL [s, x, ls, lt] H) lq g lw t ts A ws W u b as bs ds S
  ne : ls ≠ lt ∧ ls ≠ s ∧ lt ≠ s ∧ x ≠ s
  nv : v = .non ∨ ∃ i, v = .int i
  len : S.length = ds.length
theorem BnAt.sep {C s : Addr} {H : Hp} {x ls lt : Addr} {ts : List Tk} {ds : List Deed} {S : List (List Int × Int)} {A ws : List Int} {W u b : Int} {v : V} (h : BnAt C s H x ls lt ts ds S A ws W u b v) {H' : Hp} (e : Evl.Ex (woL [s] H) (woL [s] H')) : BnAt C s H' x ls lt ts ds S A ws W u b v := by
  obtain ⟨⟨dx, lq, g, lw, t, as, bs, h1, h2, h3, h4, h5, h6⟩, ⟨n1, n2, n3, n4⟩, nv, ln⟩ := h
  have w : ∀ {p : Addr} {o : HO}, p ≠ s → H p = some o → H' p = some o := fun hn hp => woL_ex _ _ (e _ _ (woL_at (fun z => hn (List.mem_singleton.mp z)) hp))
  refine ⟨⟨dx, lq, g, lw, t, as, bs, w n4 h1, w n2 h2, h3, w n3 h4, h5, h6.ex fun p o z => ?_⟩, ⟨n1, n2, n3, n4⟩, nv, ln⟩
  have nm := woL_ne z
  exact woL_at nm (w (fun q => nm (q ▸ List.mem_cons_self)) (woL_ex _ _ z))
theorem BnAt.go {C s : Addr} {H : Hp} {x ls lt : Addr} {ts : List Tk} {ds : List Deed} {S : List (List Int × Int)} {A ws : List Int} {W u b : Int} {v : V} (h : BnAt C s H x ls lt ts ds S A ws W u b v) {H' : Hp} (e : Evl.Ex H H') : BnAt C s H' x ls lt ts ds S A ws W u b v := h.sep fun p o z => woL_at (woL_ne z) (e _ _ (woL_ex _ _ z))
theorem TksAt.dq {H : Hp} {l : Addr} {ts : List Tk} (h : TksAt H l ts) : Dq H (.ref l) (.list (ts.map tkD)) := by
  obtain ⟨as, h1, h2, h3⟩ := h
  refine .lst h1 ?_
  have go : ∀ (as : List Addr) (ts : List Tk), as.length = ts.length → (∀ (i : Nat) (a : Addr) (t : Tk), as[i]? = some a → ts[i]? = some t → H a = some (.tup [wV t.1, .int t.2])) → DqAll H (as.map V.ref) (ts.map tkD) := by
    intro as
    induction as with
    | nil =>
      intro ts hl _
      cases ts with
      | nil => exact .nil
      | cons t r => cases hl
    | cons a r ih =>
      intro ts hl hi
      cases ts with
      | nil => cases hl
      | cons t q =>
        refine .cons (.tup (hi 0 a t rfl rfl) (.cons ?_ (.cons (.int _) .nil))) (ih q (by simpa using hl) fun i a' t' h1 h2 => hi (i + 1) a' t' h1 h2)
        cases t.1 with
        | none => exact .non
        | some z => exact .int z
  exact go as ts h2 h3
theorem TksAt.but {H H' : Hp} {x l : Addr} {ts : List Tk} {C dx : Addr} {fs : List (Str × V)} (h : TksAt H l ts) (hx : H x = some (.ins C dx fs)) (b : But x H H') : TksAt H' l ts := by
  obtain ⟨as, h1, h2, h3⟩ := h
  have w : ∀ {p : Addr} {o : HO}, H p = some o → DObj o → H' p = some o := fun hp hd => keep_ins hx b _ _ hd hp
  exact ⟨as, w h1 trivial, h2, fun i a t y z => w (h3 i a t y z) trivial⟩
theorem OkW.le {N M : Nat} {A : List Int} {W : Int} (h : OkW N A W) (l : N ≤ M) : OkW M A W := ⟨h.nn, fun x hx => (h.bA x hx).le l, h.bW.le l, h.pos⟩
theorem dqi {H : Hp} : ∀ ns : List Int, DqAll H (iV ns) (ns.map .int)
  | [] => .nil
  | n :: ns => .cons (.int _) (dqi ns)
theorem dat_dq {H : Hp} {a : Addr} {d : Deed} (h : DAt H a d) : Dq H (.ref a) (dD d) := by
  cases d with
  | op ks =>
    obtain ⟨l, h1, h2⟩ := h
    exact .tup h1 (.cons (.str _) (.cons (.lst h2 (dqi ks)) .nil))
  | po k x => exact .tup h (.cons (.str _) (.cons (.int _) (.cons (.int _) .nil)))
  | sc k p q =>
    obtain ⟨l, h1, h2⟩ := h
    exact .tup h1 (.cons (.str _) (.cons (.int _) (.cons (.tup h2 (.cons (.int _) (.cons (.int _) .nil))) .nil)))
  | mv k m p q =>
    obtain ⟨l, h1, h2⟩ := h
    exact .tup h1 (.cons (.str _) (.cons (.int _) (.cons (.int _) (.cons (.tup h2 (.cons (.int _) (.cons (.int _) .nil))) .nil))))
  | un k m => exact .tup h (.cons (.str _) (.cons (.int _) (.cons (.int _) .nil)))
section
variable {base : Heap} {mg : Str → Option Value} {K : PySem.W.Frag} {w : World} {P : Program} {C fI fC fL fW fE pE : Addr}
end
end V2


namespace V2
open PySem L2
open PySem.Spec PyProof.Rows
section
variable {X : Cx} {CX : CXT} {k : Nat} {f C : Addr} {fd : FuncData} {ps : List Str} {sp : Sp} {E : L2.St → XK} {m : Str} {p q : Pos} {o e : Expr} {es : List Expr} {to : TE} {t : TA}
/-- what follows on the arguments of raise C(y) -/
theorem raise_in {K : PySem.W.Frag} {C g : Addr} {G : Hp} {y : V} {Q : XK} (T : EC K C g) (q : ∀ d G', G d = none → Evl.Ex G G' → G' d = some (.xd [("value", y)]) → Q (.ref C) (some d) G') :
    [y].length ≤ 1000 ∧ ∀ a, G a = none → spInit K (.ref a :: ([y] ++ [])) (upd G a (exo a C none)) (fun v G2 => v = .non ∧ ∃ (d : Addr) (fs : List (Str × V)), G2 a = some (exo a C (some d)) ∧ G2 d = some (exd d fs) ∧ G d = none ∧ Q (.ref C) (some d) (upd (del G2 a) d (.xd fs))) (fun _ _ _ => False) := by
  refine ⟨by show 1 ≤ 1000; decide, fun a ha => ⟨a, C, y, rfl, T.ox, T.noV, upd_same, fun dx hd hne => ⟨rfl, dx, [("value", y)], upd_same, Eq.trans (upd_ne hne) upd_same, ?_⟩⟩⟩
  have hd' : G dx = none := (upd_ne hne).symm.trans hd
  refine ⟨hd', q dx _ hd' (fun b o hb => ?_) upd_same⟩
  exact Eq.trans (upd_ne (ne_of_none hb hd')) (Eq.trans (del_ne (ne_of_none hb ha)) (Eq.trans (upd_ne (ne_of_none hb ha)) (Eq.trans (upd_ne (ne_of_none hb hd')) (Eq.trans (upd_ne (ne_of_none hb ha)) hb))))
end
end V2


namespace V2
open PySem L2
open PySem.Spec PyProof.Rows
theorem last_split {α : Type} {l : List α} (h : 0 < l.length) : ∃ a b, l = a ++ [b] := ⟨_, _, (List.dropLast_concat_getLast (List.length_pos_iff.mp h)).symm⟩
section
variable {base : Heap} {mg : Str → Option Value} {K : PySem.W.Frag} {w : World} {P : Program} {C fI fC fL fW fE pE : Addr}
end
end V2


namespace V2
open PySem L2
open PySem.Spec PyProof.Rows
def spTwo2 : Sp := fun vs H Q _ => ∃ (s : Addr) (m : Int) (n : Nat), vs = [.ref s, .int m] ∧ 2 ≤ m ∧ m ≤ 20 ∧ Sk H s n ∧ n ≤ 90000 ∧ ∀ (t : Addr) (x y : Int) (H' : Hp), But s H H' → Sk H' s (n + 2) → H t = none → H' t = some (.tup [.int x, .int y]) → 0 ≤ x → x < m → 0 ≤ y → y < m → x ≠ y → Q (.ref t) H'
theorem fr_part {a d : Int} (hd : 0 < d) (h0 : 0 ≤ a) (h1 : a ≤ d) (hb : d ≤ 1001) : Pt (fr a d).1 (fr a d).2 := by
  have hp := fr_pos (u := a) hd
  have hm := fr_mul (u := a) hd
  have g0 : 0 < ((Int.gcd a d : Nat) : Int) := by
    have : 0 < Int.gcd a d := Int.gcd_pos_of_ne_zero_right _ (by omega)
    omega
  have n50 : (2 : Nat) ^ 50 = 1125899906842624 := by decide
  have a1 := fr_abs1 (a := a) hd
  have a2 := fr_abs2 (a := a) hd
  refine ⟨?_, ?_, hp, fr_cop hd, by rw [n50]; omega, by rw [n50]; omega⟩
  · refine Int.not_lt.mp fun z => ?_
    have := Int.mul_neg_of_neg_of_pos z g0
    omega
  · refine Int.not_lt.mp fun z => ?_
    have := Int.mul_lt_mul_of_pos_right z g0
    omega
theorem n200e : (2 : Nat) ^ 200 = 1606938044258990275541962092341162602522202993782792835301376 := by decide
/-- all but the object at p -/
def wo (p : Addr) (H : Hp) : Hp := fun b => if b = p then none else H b
theorem wo_ex {p : Addr} {H : Hp} : Evl.Ex (wo p H) H := fun b o h => by
  unfold wo at h
  split at h
  · cases h
  · exact h
theorem wo_at {p b : Addr} {H : Hp} {o : HO} (n : b ≠ p) (h : H b = some o) : wo p H b = some o := by
  unfold wo
  rw [if_neg n]
  exact h
theorem wo_ne {p b : Addr} {H : Hp} {o : HO} (h : wo p H b = some o) : b ≠ p := fun z => by
  unfold wo at h
  rw [if_pos z] at h
  cases h
theorem But.wo {p : Addr} {H H' : Hp} (h : But p H H') : Evl.Ex (wo p H) (V2.wo p H') := fun b o z => wo_at (wo_ne z) (h b o (wo_ne z) (wo_ex _ _ z))
theorem but_none {p q : Addr} {H H' : Hp} {n : Nat} (b : But p H H') (s : Sk H' p n) (h : H' q = none) : H q = none := by
  cases e : H q with
  | none => rfl
  | some o =>
    have h1 := b q o (sk_ne s h) e
    rw [h] at h1
    cases h1
theorem Sk.upd {H : Hp} {p l : Addr} {n : Nat} {o : HO} (s : Sk H p n) (h : l ≠ p) : Sk (L2.upd H l o) p n := by
  obtain ⟨a, b, c, h1, h2⟩ := s
  exact ⟨a, b, c, by rw [upd_ne h.symm]; exact h1, h2⟩
theorem ne_of_none' {H : Hp} {c l : Addr} {o : HO} (h : H c = some o) (hl : H l = none) : c ≠ l := fun z => by
  rw [z, hl] at h
  cases h
/-- many tanks, whose numbers are at most most -/
def spVats : Sp := fun vs H Q _ => ∃ (s : Addr) (m o : Int) (n : Nat), vs = [.ref s, .int m, .int o] ∧ 0 < m ∧ m ≤ 20 ∧ 0 < o ∧ o ≤ 1000 ∧ Sk H s n ∧ n ≤ 90000 ∧
  ∀ (l : Addr) (ts : List Tk) (H' : Hp), But s H H' → Sk H' s (n + 1 + 3 * m.toNat) → H l = none → TksAt (wo s H') l ts → okT ts → (ts.length : Int) = m → (∀ t ∈ ts, (∀ z, t.1 = some z → z ≤ 1000) ∧ t.2 ≤ 1000) → Q (.ref l) H'
theorem tks_more {p : Addr} {H : Hp} {l t : Addr} {ts : List Tk} {x : Tk} (h : TksAt (wo p H) l ts) (tp : t ≠ p) (ht : H t = some (.tup [wV x.1, .int x.2])) : ∃ acc, H l = some (.lst acc) ∧ acc.length = ts.length ∧ TksAt (wo p (upd H l (.lst (acc ++ [.ref t])))) l (ts ++ [x]) := by
  obtain ⟨as, h1, h2, h3⟩ := h
  have lp := wo_ne h1
  refine ⟨_, wo_ex _ _ h1, by rw [List.length_map]; exact h2, as ++ [t], ?_, by rw [List.length_append, List.length_append, h2]; rfl, fun i a y ha hy => ?_⟩
  · rw [List.map_append]
    exact wo_at lp upd_same
  · have ne : ∀ {a : Addr} {xs : List V}, wo p H a = some (.tup xs) → a ≠ l := fun h z => by
      rw [z, h1] at h
      cases h
    rcases get_app ha with ⟨h4, h5⟩ | ⟨h4, rfl⟩
    · rcases get_app hy with ⟨h6, _⟩ | ⟨h6, _⟩
      · have z := h3 i a y h4 h6
        exact wo_at (wo_ne z) (Eq.trans (upd_ne (ne z)) (wo_ex _ _ z))
      · omega
    · rcases get_app hy with ⟨h6, h7⟩ | ⟨_, rfl⟩
      · omega
      · exact wo_at tp (Eq.trans (upd_ne (ne (wo_at tp ht))) ht)
theorem cnt_more {ts : List Tk} {x : Tk} {rk : Int} {i : Nat} (h : ts.countP (fun t => t.1.isNone) = if rk < (i : Int) then 1 else 0) (hx : x.1 = none ↔ rk = (i : Int)) : (ts ++ [x]).countP (fun t => t.1.isNone) = if rk < ((i + 1 : Nat) : Int) then 1 else 0 := by
  rw [List.countP_append, h]
  obtain ⟨w, a⟩ := x
  cases w with
  | none =>
    have e := hx.mp rfl
    rw [if_neg (by omega), if_pos (by omega)]
    rfl
  | some z =>
    have e : rk ≠ (i : Int) := fun q => by cases hx.mpr q
    by_cases c : rk < (i : Int)
    · rw [if_pos c, if_pos (by omega)]
      rfl
    · rw [if_neg c, if_neg (by omega)]
      rfl
section
variable {base : Heap} {mg : Str → Option Value} {K : PySem.W.Frag} {w : World} {P : Program}
end
end V2


namespace V2
open PySem L2
open PySem.Spec PyProof.Rows
/-- numbers below i that are drawn: f and s are among them -/
structure AscI (f s : Int) (ks : List Int) (i : Nat) : Prop where
  asc : ∀ (j : Nat) (x y : Int), ks[j]? = some x → ks[j + 1]? = some y → x < y
  bd : ∀ x ∈ ks, 0 ≤ x ∧ x < (i : Int)
  hf : 0 ≤ f → f < (i : Int) → f ∈ ks
  hs : 0 ≤ s → s < (i : Int) → s ∈ ks
  len : ks.length ≤ i
theorem AscI.start (f s : Int) : AscI f s [] 0 := ⟨fun _ _ _ h => (by cases h), fun _ h => (by cases h), fun h h' => by omega, fun h h' => by omega, Nat.le_refl _⟩
theorem AscI.more {f s : Int} {ks : List Int} {i : Nat} (h : AscI f s ks i) : AscI f s (ks ++ [(i : Int)]) (i + 1) := by
  refine ⟨fun j x y hx hy => ?_, fun x hx => ?_, fun h0 h1 => ?_, fun h0 h1 => ?_, by rw [List.length_append]; exact Nat.succ_le_succ h.len⟩
  · rcases get_app hy with ⟨h1, h2⟩ | ⟨h1, rfl⟩
    · rcases get_app hx with ⟨h3, _⟩ | ⟨h3, _⟩
      · exact h.asc j x y h3 h1
      · omega
    · rcases get_app hx with ⟨h3, _⟩ | ⟨h3, _⟩
      · exact (h.bd x (List.mem_of_getElem? h3)).2
      · omega
  · rcases List.mem_append.mp hx with h1 | h1
    · have := h.bd x h1
      omega
    · have := List.mem_singleton.mp h1
      omega
  · by_cases c : f < (i : Int)
    · exact List.mem_append_left _ (h.hf h0 c)
    · exact List.mem_append_right _ (List.mem_singleton.mpr (by omega))
  · by_cases c : s < (i : Int)
    · exact List.mem_append_left _ (h.hs h0 c)
    · exact List.mem_append_right _ (List.mem_singleton.mpr (by omega))
theorem AscI.skip {f s : Int} {ks : List Int} {i : Nat} (h : AscI f s ks i) (n : ¬ (f = (i : Int) ∨ s = (i : Int))) : AscI f s ks (i + 1) := by
  have n1 : f ≠ (i : Int) := fun z => n (.inl z)
  have n2 : s ≠ (i : Int) := fun z => n (.inr z)
  exact ⟨h.asc, fun x hx => (by have := h.bd x hx; omega), fun h0 h1 => h.hf h0 (by omega), fun h0 h1 => h.hs h0 (by omega), by have := h.len; omega⟩
def Word (x : Str) : Prop := x = "pour" ∨ x = "scoop" ∨ x = "move" ∨ x = "open" ∨ x = "unless"
theorem strs_ne {H : Hp} {p s : Addr} {n : Nat} {xs : List Str} (h : H p = some (.lst (xs.map V.str))) (k : Sk H s n) : p ≠ s := fun z => by
  obtain ⟨a, b, c, hs, _⟩ := k
  rw [z, hs] at h
  cases xs with
  | nil => cases h
  | cons x r => cases h
section
variable {base : Heap} {mg : Str → Option Value} {K : PySem.W.Frag} {w : World} {P : Program}
end
end V2


namespace V2
open PySem L2
open PySem.Spec PyProof.Rows
theorem atI_mem {xs : List V} {r : Int} (h0 : 0 ≤ r) (h1 : r < xs.length) : ∃ v, v ∈ xs ∧ atI xs r = some v := by
  obtain ⟨j, rfl⟩ : ∃ j : Nat, r = (j : Int) := ⟨r.toNat, by omega⟩
  have hj : j < xs.length := by omega
  exact ⟨xs[j], List.getElem_mem hj, atI_nat (List.getElem?_eq_getElem hj)⟩
/-- [a, b, ..][coin(sack, many)] -/
theorem pick_read {K : PySem.W.Frag} {σ : L2.St} {H : Hp} {Q : VK} {t : TA} {xs : List V} {s : Addr} {n : Nat} {m : Int} (hm : m = (xs.length : Int)) (h0 : 0 < xs.length) (hl : xs.length ≤ 100) (i0 : σ[0]? = some (some (.ref s))) (hS : Sk H s n) (hn : n ≤ 99990)
    (ht : ∀ (H' : Hp) (Q' : List V → Hp → Prop), Q' xs H' → t σ H' Q') (k : ∀ (v : V) (H' : Hp), v ∈ xs → But s H H' → Sk H' s (n + 1) → Q v H') :
    tOp (rIxL K) (tLst t) (tCall spCoin [] E0 (tCons (tVar 0) (tCons (tC (.int m)) tNil))) σ H Q := by
  refine ht _ _ ⟨Nat.le_trans hl (by decide), fun p hp => ⟨_, i0, s, m, n, rfl, hS.ex (Evl.Ex.new hp), by omega, by omega, ?_, fun r H' r0 r1 b s' z => ?_⟩⟩
  · rw [n200e]
    omega
  · obtain ⟨v, hv, e⟩ := atI_mem (xs := xs) r0 (by omega)
    exact ⟨p, xs, r, v, rfl, rfl, SqL.of (b _ _ (sk_ne hS hp) upd_same), e, k v H' hv ((But.of_ex (Evl.Ex.new hp)).trans b) s'⟩
theorem dat_keep {H H' : Hp} {a l : Addr} {d : Deed} {n : Int} {as : List Addr} (h : DAt H a d) (hd : okD n d) (hl : H l = some (.lst (as.map V.ref))) (e : ∀ b o, b ≠ l → H b = some o → H' b = some o) : DAt H' a d := by
  have ne : ∀ {a : Addr} {xs : List V}, H a = some (.tup xs) → a ≠ l := fun h z => by
    rw [z, hl] at h
    cases h
  cases d with
  | op ks =>
    obtain ⟨q, h1, h2⟩ := h
    refine ⟨q, e _ _ (ne h1) h1, e _ _ (fun z => ?_) h2⟩
    have h2 : H q = some (.lst (iV ks)) := h2
    rw [z, hl] at h2
    have h3 : as.map V.ref = iV ks := by
      injection h2 with h2
      injection h2
    have h4 : 2 ≤ ks.length := hd.1
    match ks, as, h3, h4 with
    | k :: ks, a :: as, h3, _ =>
      unfold iV at h3
      rw [List.map_cons, List.map_cons] at h3
      injection h3 with h3 _
      cases h3
    | k :: ks, [], h3, _ => cases h3
    | [], _, _, h4 => exact absurd h4 (by decide)
  | po k x => exact e _ _ (ne h) h
  | sc k p q =>
    obtain ⟨f, h1, h2⟩ := h
    exact ⟨f, e _ _ (ne h1) h1, e _ _ (ne h2) h2⟩
  | mv k m p q =>
    obtain ⟨f, h1, h2⟩ := h
    exact ⟨f, e _ _ (ne h1) h1, e _ _ (ne h2) h2⟩
  | un k m => exact e _ _ (ne h) h
theorem ds_more {G G' : Hp} {l t : Addr} {ds : List Deed} {d : Deed} {n : Int} (h : DsAt G l ds) (hds : ∀ d ∈ ds, okD n d) (ht : DAt G t d) (hd : okD n d) (e : ∀ b o, b ≠ l → G b = some o → G' b = some o) (e' : ∀ acc, G l = some (.lst acc) → G' l = some (.lst (acc ++ [.ref t]))) : DsAt G' l (ds ++ [d]) := by
  obtain ⟨as, h1, h2, h3⟩ := h
  refine ⟨as ++ [t], ?_, by rw [List.length_append, List.length_append, h2]; rfl, fun i a y ha hy => ?_⟩
  · rw [List.map_append]
    exact e' _ h1
  · rcases get_app ha with ⟨h4, h5⟩ | ⟨h4, rfl⟩
    · rcases get_app hy with ⟨h6, _⟩ | ⟨h6, _⟩
      · exact dat_keep (h3 i a y h4 h6) (hds y (List.mem_of_getElem? h6)) h1 e
      · omega
    · rcases get_app hy with ⟨h6, h7⟩ | ⟨_, rfl⟩
      · omega
      · exact dat_keep ht hd h1 e
theorem ds_list {G : Hp} {l : Addr} {ds : List Deed} (h : DsAt G l ds) : ∃ acc, G l = some (.lst acc) ∧ acc.length = ds.length := by
  obtain ⟨as, h1, h2, h3⟩ := h
  exact ⟨_, h1, by rw [List.length_map]; exact h2⟩
theorem wo_upd {p l : Addr} {H : Hp} {x : HO} : ∀ b o, b ≠ l → wo p H b = some o → wo p (upd H l x) b = some o := fun b o nb h => wo_at (wo_ne h) (Eq.trans (upd_ne nb) (wo_ex _ _ h))
theorem wo_app {p l t : Addr} {H : Hp} {acc0 : List V} (h : H l = some (.lst acc0)) : ∀ acc, wo p H l = some (.lst acc) → wo p (upd H l (.lst (acc0 ++ [.ref t]))) l = some (.lst (acc ++ [.ref t])) := fun acc h' => by
  have e := wo_ex _ _ h'
  rw [h] at e
  injection e with e
  injection e with e
  rw [← e]
  exact wo_at (wo_ne h') upd_same
theorem nw_wo {p : Addr} {H H' : Hp} {n : Nat} (s : Sk H p n) : Evl.Ex (Nw H H') (wo p H') := fun b o h => wo_at (fun z => by
  rw [z] at h
  obtain ⟨o', h'⟩ := sk_some s
  rw [nw_none h] at h'
  cases h') (Nw.ex _ _ h)
theorem tks_keep {H H' : Hp} {l v : Addr} {ts : List Tk} {xs : List V} (h : TksAt H v ts) (hl : H l = some (.lst xs)) (n : v ≠ l) (e : ∀ b o, b ≠ l → H b = some o → H' b = some o) : TksAt H' v ts := by
  obtain ⟨as, h1, h2, h3⟩ := h
  exact ⟨as, e _ _ n h1, h2, fun i a t x y => e _ _ (fun z => by rw [← z, h3 i a t x y] at hl; cases hl) (h3 i a t x y)⟩
theorem ex_wo {p : Addr} {G G' : Hp} (e : Evl.Ex G G') : Evl.Ex (wo p G) (wo p G') := fun b o h => wo_at (wo_ne h) (e _ _ (wo_ex _ _ h))
theorem wo_upd2 {q p l : Addr} {H : Hp} {x : HO} : ∀ b o, b ≠ l → wo q (wo p H) b = some o → wo q (wo p (upd H l x)) b = some o := fun b o nb h => wo_at (wo_ne h) (wo_upd b o nb (wo_ex _ _ h))
theorem wo_app2 {q p l t : Addr} {H : Hp} {acc0 : List V} (h : H l = some (.lst acc0)) : ∀ acc, wo q (wo p H) l = some (.lst acc) → wo q (wo p (upd H l (.lst (acc0 ++ [.ref t])))) l = some (.lst (acc ++ [.ref t])) := fun acc h' => wo_at (wo_ne h') (wo_app h acc (wo_ex _ _ h'))
theorem dat_keep' {G G' : Hp} {t l : Addr} {d : Deed} {ds : List Deed} {n : Int} (h : DAt G t d) (hd : okD n d) (hl : DsAt G l ds) (e : ∀ b o, b ≠ l → G b = some o → G' b = some o) : DAt G' t d := by
  obtain ⟨as, h1, _⟩ := hl
  exact dat_keep h hd h1 e
/-- a drawn shape: tanks and steps, none of whose numbers is great -/
structure ShW (ts : List Tk) (ds : List Deed) : Prop where
  ok : okS ts ds
  w1000 : ∀ t ∈ ts, (∀ z, t.1 = some z → z ≤ 1000) ∧ t.2 ≤ 1000
  p1000 : ∀ k a, Deed.po k a ∈ ds → a ≤ 1000
def ShAt (H : Hp) (t : Addr) (ts : List Tk) (ds : List Deed) : Prop := ∃ lv ld, H t = some (.tup [.ref lv, .ref ld]) ∧ TksAt H lv ts ∧ DsAt H ld ds
theorem DsAt.take {H H' : Hp} {l l2 : Addr} {ds : List Deed} {xs : List V} (h : DsAt H l ds) (hl : H l = some (.lst xs)) (k : Nat) (e : Evl.Ex H H') (h2 : H' l2 = some (.lst (xs.take k))) : DsAt H' l2 (ds.take k) := by
  obtain ⟨as, h1, h3, h4⟩ := h
  rw [hl] at h1
  injection h1 with h1
  injection h1 with h1
  subst h1
  refine ⟨as.take k, by rw [h2, List.map_take], by rw [List.length_take, List.length_take, h3], fun i a d ha hd => ?_⟩
  rw [List.getElem?_take] at ha hd
  by_cases c : i < k
  · rw [if_pos c] at ha hd
    exact (h4 i a d ha hd).ex e
  · rw [if_neg c] at ha
    cases ha
theorem dat_word {H : Hp} {a : Addr} {d : Deed} (h : DAt H a d) : ∃ (x : Str) (r : List V), H a = some (.tup (.str x :: r)) := by
  rcases dat_unless h with ⟨k, m, rfl⟩ | ⟨x, r, h, _⟩
  · exact ⟨_, _, h⟩
  · exact ⟨_, _, h⟩
section
variable {base : Heap} {mg : Str → Option Value} {K : PySem.W.Frag} {w : World} {P : Program}
end
end V2


namespace V2
open PySem L2
open PySem.Spec PyProof.Rows
/-- a script stands at x -/
def ScAt (H : Hp) (C x : Addr) (ts : List Tk) (ds : List Deed) : Prop := ∃ (dx : Addr) (fs : List (Str × V)) (v u : V), H x = some (.ins C dx fs) ∧ fs.lookup ("_tanks" : Str) = some v ∧ fs.lookup ("_steps" : Str) = some u ∧ Dq H v (.list (ts.map tkD)) ∧ Dq H u (.list (ds.map dD)) ∧ fs = scF v u
theorem ScAt.ex {H H' : Hp} {C x : Addr} {ts : List Tk} {ds : List Deed} (h : ScAt H C x ts ds) (e : Evl.Ex H H') : ScAt H' C x ts ds := by
  obtain ⟨dx, fs, v, u, h1, h2, h3, h4, h5, h6⟩ := h
  exact ⟨dx, fs, v, u, e _ _ h1, h2, h3, h4.go e, h5.go e, h6⟩
/-- where the water stands behind the first i steps -/
abbrev wAt (ts : List Tk) (ds : List Deed) (u b : Int) (i : Nat) : List Int × Int := runA (ts.map (wid u b)) (ts.map (·.2), 1) (ds.take i)
/-- the run ends behind the first n steps; e tells at which step -/
structure EndsAt (ts : List Tk) (ds : List Deed) (u b : Int) (n : Nat) (e : V) : Prop where
  le : n ≤ ds.length
  no : ∀ (j : Nat) (d : Deed), j < n → ds[j]? = some d → endB (ts.map (wid u b)) (wAt ts ds u b j).1 d = false
  at_ : (n = ds.length ∧ e = .non) ∨ ∃ d, ds[n]? = some d ∧ endB (ts.map (wid u b)) (wAt ts ds u b n).1 d = true ∧ e = .int (n : Int)
section
variable {base : Heap} {mg : Str → Option Value} {K : PySem.W.Frag} {w : World} {P : Program} {C fI fC fL fW fE pE : Addr}
end
end V2


namespace V2
open PySem L2
open PySem.Spec PyProof.Rows
def frD (f : Int × Int) : PyData := .tuple [.int f.1, .int f.2]
theorem DpAll.of_get {K : PySem.W.Frag} {H : Hp} : ∀ {vs : List V} {ds : List PyData}, vs.length = ds.length → (∀ (i : Nat) (v : V) (d : PyData), vs[i]? = some v → ds[i]? = some d → Dp K H v d) → DpAll K H vs ds
  | [], [], _, _ => .nil
  | v :: vs, d :: ds, hl, h => .cons (h 0 v d rfl rfl) (DpAll.of_get (by simpa using hl) fun i v d x y => h (i + 1) v d x y)
  | [], _ :: _, hl, _ => by cases hl
  | _ :: _, [], hl, _ => by cases hl
theorem DqAll.of_get {H : Hp} : ∀ {vs : List V} {ds : List PyData}, vs.length = ds.length → (∀ (i : Nat) (v : V) (d : PyData), vs[i]? = some v → ds[i]? = some d → Dq H v d) → DqAll H vs ds
  | [], [], _, _ => .nil
  | v :: vs, d :: ds, hl, h => .cons (h 0 v d rfl rfl) (DqAll.of_get (by simpa using hl) fun i v d x y => h (i + 1) v d x y)
  | [], _ :: _, hl, _ => by cases hl
  | _ :: _, [], hl, _ => by cases hl
/-- while a list of steps is being made at D -/
def DsN (H : Hp) (D : Addr) (ds : List Deed) : Prop := ∃ as : List Addr, H D = some (.lst (as.map V.ref)) ∧ as.length = ds.length ∧ ∀ (i : Nat) (a : Addr) (d : Deed), as[i]? = some a → ds[i]? = some d → DAt (wo D H) a d
theorem DsN.start {H : Hp} {D : Addr} (h : H D = some (.lst [])) : DsN H D [] := ⟨[], h, rfl, fun i a f h => by cases h⟩
theorem DsN.done {H : Hp} {D : Addr} {ds : List Deed} (h : DsN H D ds) : DsAt H D ds := by
  obtain ⟨as, h1, h2, h3⟩ := h
  exact ⟨as, h1, h2, fun i a f x y => (h3 i a f x y).ex wo_ex⟩
theorem DsN.more {H H' : Hp} {D t : Addr} {ds : List Deed} {d : Deed} {n : Int} (h : DsN H D ds) (e : Evl.Ex H H') (ht : DAt H' t d) (hd : okD n d) (hl : ds.length ≤ 1000) : ∃ acc, H' D = some (.lst acc) ∧ acc.length < sizeLine ∧ DsN (upd H' D (.lst (acc ++ [.ref t]))) D (ds ++ [d]) := by
  obtain ⟨as, h1, h2, h3⟩ := h
  have h1' := e _ _ h1
  have up : ∀ o, Evl.Ex (wo D H') (wo D (upd H' D o)) := fun o b u z => wo_at (wo_ne z) (Eq.trans (upd_ne (wo_ne z)) (wo_ex _ _ z))
  refine ⟨_, h1', ?_, as ++ [t], ?_, by rw [List.length_append, List.length_append, h2]; rfl, fun i a g ha hg => ?_⟩
  · rw [List.length_map, h2]
    exact Nat.lt_of_le_of_lt hl (by decide)
  · rw [upd_same, List.map_append]
    rfl
  · rcases get_app ha with ⟨h4, h5⟩ | ⟨h4, rfl⟩
    · rcases get_app hg with ⟨h6, _⟩ | ⟨h6, _⟩
      · exact ((h3 i a g h4 h6).ex (ex_wo e)).ex (up _)
      · omega
    · rcases get_app hg with ⟨h6, h7⟩ | ⟨_, rfl⟩
      · omega
      · exact (dat_keep ht hd h1' fun b o n z => wo_at n z).ex (up _)
/-- while a list of fractions is being made at D -/
def PrN (H : Hp) (D : Addr) (fs : List (Int × Int)) : Prop := ∃ as : List Addr, H D = some (.lst (as.map V.ref)) ∧ as.length = fs.length ∧ ∀ (i : Nat) (a : Addr) (f : Int × Int), as[i]? = some a → fs[i]? = some f → a ≠ D ∧ Fr H a f.1 f.2
theorem PrN.start {H : Hp} {D : Addr} (h : H D = some (.lst [])) : PrN H D [] := ⟨[], h, rfl, fun i a f h => by cases h⟩
theorem PrN.done {H : Hp} {D : Addr} {fs : List (Int × Int)} (h : PrN H D fs) : PrAt H D fs := by
  obtain ⟨as, h1, h2, h3⟩ := h
  exact ⟨as, h1, h2, fun i a f x y => (h3 i a f x y).2⟩
theorem PrN.more {H H' : Hp} {D t : Addr} {fs : List (Int × Int)} {f : Int × Int} (h : PrN H D fs) (e : Evl.Ex H H') (ht : Fr H' t f.1 f.2) (hl : fs.length ≤ 1000) : ∃ acc, H' D = some (.lst acc) ∧ acc.length < sizeLine ∧ acc.length = fs.length ∧ PrN (upd H' D (.lst (acc ++ [.ref t]))) D (fs ++ [f]) := by
  obtain ⟨as, h1, h2, h3⟩ := h
  have h1' := e _ _ h1
  have tD : t ≠ D := fun z => by
    have ht : H' t = some (.tup [.int f.1, .int f.2]) := ht
    rw [z, h1'] at ht
    cases ht
  refine ⟨_, h1', ?_, by rw [List.length_map]; exact h2, as ++ [t], ?_, by rw [List.length_append, List.length_append, h2]; rfl, fun i a g ha hg => ?_⟩
  · rw [List.length_map, h2]
    exact Nat.lt_of_le_of_lt hl (by decide)
  · rw [upd_same, List.map_append]
    rfl
  · rcases get_app ha with ⟨h4, h5⟩ | ⟨h4, rfl⟩
    · rcases get_app hg with ⟨h6, _⟩ | ⟨h6, _⟩
      · obtain ⟨n, z⟩ := h3 i a g h4 h6
        exact ⟨n, Eq.trans (upd_ne n) (e _ _ z)⟩
      · omega
    · rcases get_app hg with ⟨h6, h7⟩ | ⟨_, rfl⟩
      · omega
      · exact ⟨tD, Eq.trans (upd_ne tD) ht⟩
end V2


namespace V2
open PySem L2
open PySem.Spec PyProof.Rows
theorem DsAt.dq {H : Hp} {l : Addr} {ds : List Deed} (h : DsAt H l ds) : Dq H (.ref l) (.list (ds.map dD)) := by
  obtain ⟨as, h1, h2, h3⟩ := h
  refine .lst h1 (DqAll.of_get (by rw [List.length_map, List.length_map]; exact h2) fun i v d hv hd => ?_)
  rw [List.getElem?_map] at hv hd
  cases e1 : as[i]? with
  | none =>
    rw [e1] at hv
    cases hv
  | some a =>
    cases e2 : ds[i]? with
    | none =>
      rw [e2] at hd
      cases hd
    | some t =>
      rw [e1] at hv
      rw [e2] at hd
      cases hv
      cases hd
      exact dat_dq (h3 i a t e1 e2)
section
variable {base : Heap} {mg : Str → Option Value} {K : PySem.W.Frag} {w : World} {P : Program} {C fI fT fS pT pS : Addr}
end
end V2


namespace V2
open PySem L2
open PySem.Spec PyProof.Rows
def Bh (A : List Int) (W : Int) : List (Int × Int) := A.map fun x => fr x W
theorem PrN.keep {H H' : Hp} {D l : Addr} {fs : List (Int × Int)} {xs : List V} (h : PrN H D fs) (hl : H l = some (.lst xs)) (n : D ≠ l) (e : ∀ b o, b ≠ l → H b = some o → H' b = some o) : PrN H' D fs := by
  obtain ⟨as, h1, h2, h3⟩ := h
  refine ⟨as, e _ _ n h1, h2, fun i a f x y => ?_⟩
  obtain ⟨n1, z⟩ := h3 i a f x y
  exact ⟨n1, e _ _ (fun q => by
    have z : H a = some (.tup _) := z
    rw [q, hl] at z
    cases z) z⟩
theorem PrN.ex {H H' : Hp} {D : Addr} {fs : List (Int × Int)} (h : PrN H D fs) (e : Evl.Ex H H') : PrN H' D fs := by
  obtain ⟨as, h1, h2, h3⟩ := h
  exact ⟨as, e _ _ h1, h2, fun i a f x y => ⟨(h3 i a f x y).1, e _ _ (h3 i a f x y).2⟩⟩
end V2


namespace V2
open PySem L2
open PySem.Spec PyProof.Rows
mutual
/-- v is data; as: its lists, outer ones first -/
inductive TrD (H : Hp) : V → PyData → List Addr → Prop
  | non : TrD H .non .none []
  | bl (b : Bool) : TrD H (.bl b) (.bool b) []
  | int (i : Int) : TrD H (.int i) (.int i) []
  | str (x : Str) : TrD H (.str x) (.str x) []
  | lst {a : Addr} {xs : List V} {ds : List PyData} {as : List Addr} : H a = some (.lst xs) → TrA H xs ds as → TrD H (.ref a) (.list ds) (a :: as)
  | tup {a : Addr} {xs : List V} {ds : List PyData} {as : List Addr} : H a = some (.tup xs) → TrA H xs ds as → TrD H (.ref a) (.tuple ds) as
inductive TrA (H : Hp) : List V → List PyData → List Addr → Prop
  | nil : TrA H [] [] []
  | cons {v : V} {vs : List V} {d : PyData} {ds : List PyData} {as bs : List Addr} : TrD H v d as → TrA H vs ds bs → TrA H (v :: vs) (d :: ds) (as ++ bs)
end
mutual
theorem TrD.go {H H' : Hp} : ∀ {d : PyData} {v : V} {as : List Addr}, TrD H v d as → Evl.Ex H H' → TrD H' v d as
  | _, _, _, .non, _ => .non
  | _, _, _, .bl b, _ => .bl b
  | _, _, _, .int i, _ => .int i
  | _, _, _, .str x, _ => .str x
  | _, _, _, .lst h r, e => .lst (e _ _ h) (TrA.go r e)
  | _, _, _, .tup h r, e => .tup (e _ _ h) (TrA.go r e)
theorem TrA.go {H H' : Hp} : ∀ {ds : List PyData} {vs : List V} {as : List Addr}, TrA H vs ds as → Evl.Ex H H' → TrA H' vs ds as
  | _, _, _, .nil, _ => .nil
  | _, _, _, .cons a b, e => .cons (TrD.go a e) (TrA.go b e)
end
mutual
theorem TrD.dq {H : Hp} : ∀ {d : PyData} {v : V} {as : List Addr}, TrD H v d as → Dq H v d
  | _, _, _, .non => .non
  | _, _, _, .bl b => .bl b
  | _, _, _, .int i => .int i
  | _, _, _, .str x => .str x
  | _, _, _, .lst h r => .lst h (TrA.dq r)
  | _, _, _, .tup h r => .tup h (TrA.dq r)
theorem TrA.dq {H : Hp} : ∀ {ds : List PyData} {vs : List V} {as : List Addr}, TrA H vs ds as → DqAll H vs ds
  | _, _, _, .nil => .nil
  | _, _, _, .cons a b => .cons (TrD.dq a) (TrA.dq b)
end
mutual
/-- how many lists there are in data -/
def cntD : PyData → Nat
  | .list ds => 1 + cntA ds
  | .tuple ds => cntA ds
  | _ => 0
def cntA : List PyData → Nat
  | [] => 0
  | d :: ds => cntD d + cntA ds
end
mutual
/-- the data behind each of whose lists its rank was put, ranks from k on -/
def mkD : Nat → PyData → PyData
  | k, .list ds => .list (mkA (k + 1) ds ++ [.int (k : Int)])
  | k, .tuple ds => .tuple (mkA k ds)
  | _, d => d
def mkA : Nat → List PyData → List PyData
  | _, [] => []
  | k, d :: ds => mkD k d :: mkA (k + cntD d) ds
end
mutual
theorem TrD.cnt {H : Hp} : ∀ {d : PyData} {v : V} {as : List Addr}, TrD H v d as → as.length = cntD d
  | _, _, _, .non => rfl
  | _, _, _, .bl b => rfl
  | _, _, _, .int i => rfl
  | _, _, _, .str x => rfl
  | _, _, _, .lst h r => by
    have := TrA.cnt r
    simp only [cntD, List.length_cons]
    omega
  | _, _, _, .tup h r => by
    have := TrA.cnt r
    simpa only [cntD] using this
theorem TrA.cnt {H : Hp} : ∀ {ds : List PyData} {vs : List V} {as : List Addr}, TrA H vs ds as → as.length = cntA ds
  | _, _, _, .nil => rfl
  | _, _, _, .cons a b => by
    have h1 := TrD.cnt a
    have h2 := TrA.cnt b
    simp only [cntA, List.length_append]
    omega
end
theorem TrA.get {H : Hp} : ∀ {ds : List PyData} {vs : List V} {as : List Addr}, TrA H vs ds as → ∃ bss : List (List Addr), bss.length = vs.length ∧ as = bss.flatten ∧ ∀ (i : Nat) (x : V), vs[i]? = some x → ∃ d bs, ds[i]? = some d ∧ bss[i]? = some bs ∧ TrD H x d bs
  | _, _, _, .nil => ⟨[], rfl, rfl, fun _ _ h => by cases h⟩
  | _, _, _, @TrA.cons _ v vs d ds as bs a b => by
    obtain ⟨bss, h1, h2, h3⟩ := TrA.get b
    refine ⟨as :: bss, by rw [List.length_cons, List.length_cons, h1], by rw [List.flatten_cons, h2], fun i x hx => ?_⟩
    cases i with
    | zero =>
      cases hx
      exact ⟨d, as, rfl, rfl, a⟩
    | succ i => exact h3 i x hx
section
variable {base : Heap} {mg : Str → Option Value} {K : PySem.W.Frag} {w : World} {P : Program}
theorem ls_base {H : Hp} {v : V} {d : PyData} {as : List Addr} (h : TrD H v d as) (n : ∀ ds, d ≠ .list ds ∧ d ≠ .tuple ds) : as = [] ∧ ∃ t : String, kitB t "list" = some false ∧ kitB t "tuple" = some false ∧ ∀ H, TyX K H v (.type t) := by
  cases h with
  | non => exact ⟨rfl, _, by decide +kernel, by decide +kernel, fun H => .base .non⟩
  | bl b => exact ⟨rfl, _, by decide +kernel, by decide +kernel, fun H => .base (.bl b)⟩
  | int i => exact ⟨rfl, _, by decide +kernel, by decide +kernel, fun H => .base (.int i)⟩
  | str x => exact ⟨rfl, _, by decide +kernel, by decide +kernel, fun H => .base (.str x)⟩
  | lst h r => exact absurd rfl (n _).1
  | tup h r => exact absurd rfl (n _).2
theorem cp_cases {n : Nat} {d : PyData} (h : Cp (n + 1) d) : (∀ ds, d ≠ .list ds ∧ d ≠ .tuple ds) ∨ (∃ ds, d = .list ds ∧ ds.length ≤ 100 ∧ ∀ x ∈ ds, Cp n x) ∨ ∃ ds, d = .tuple ds ∧ ds.length ≤ 100 ∧ ∀ x ∈ ds, Cp n x := by
  cases h with
  | non => exact .inl fun ds => ⟨(fun z => nomatch z), (fun z => nomatch z)⟩
  | bl b => exact .inl fun ds => ⟨(fun z => nomatch z), (fun z => nomatch z)⟩
  | int i => exact .inl fun ds => ⟨(fun z => nomatch z), (fun z => nomatch z)⟩
  | str x => exact .inl fun ds => ⟨(fun z => nomatch z), (fun z => nomatch z)⟩
  | lst h1 h2 => exact .inr (.inl ⟨_, rfl, h1, h2⟩)
  | tup h1 h2 => exact .inr (.inr ⟨_, rfl, h1, h2⟩)
end
end V2


namespace V2
open PySem L2
open PySem.Spec PyProof.Rows
mutual
theorem TrD.lists {H : Hp} : ∀ {d : PyData} {v : V} {as : List Addr}, TrD H v d as → ∀ {n : Nat}, Cp n d → ∀ a ∈ as, ∃ xs, H a = some (.lst xs) ∧ xs.length ≤ 100
  | _, _, _, .non, _, _, _, m => by cases m
  | _, _, _, .bl b, _, _, _, m => by cases m
  | _, _, _, .int i, _, _, _, m => by cases m
  | _, _, _, .str x, _, _, _, m => by cases m
  | _, _, _, @TrD.lst _ a xs ds as h r, _, c, b, m => by
    cases c with
    | lst hl hc =>
      rcases List.mem_cons.mp m with rfl | m
      · exact ⟨xs, h, by rw [r.dq.len]; exact hl⟩
      · exact TrA.lists r hc b m
  | _, _, _, @TrD.tup _ a xs ds as h r, _, c, b, m => by
    cases c with
    | tup hl hc => exact TrA.lists r hc b m
theorem TrA.lists {H : Hp} : ∀ {ds : List PyData} {vs : List V} {as : List Addr}, TrA H vs ds as → ∀ {n : Nat}, (∀ d ∈ ds, Cp n d) → ∀ a ∈ as, ∃ xs, H a = some (.lst xs) ∧ xs.length ≤ 100
  | _, _, _, .nil, _, _, _, m => by cases m
  | _, _, _, .cons a b, _, c, q, m => by
    rcases List.mem_append.mp m with m | m
    · exact TrD.lists a (c _ List.mem_cons_self) q m
    · exact TrA.lists b (fun d hd => c d (List.mem_cons_of_mem _ hd)) q m
end
mutual
theorem Dq.tr {H : Hp} : ∀ {d : PyData} {v : V}, Dq H v d → ∀ {n : Nat}, Cp n d → ∃ as, TrD H v d as
  | _, _, .non, _, _ => ⟨_, .non⟩
  | _, _, .bl b, _, _ => ⟨_, .bl b⟩
  | _, _, .int i, _, _ => ⟨_, .int i⟩
  | _, _, .str x, _, _ => ⟨_, .str x⟩
  | _, _, .lst h r, _, c => by
    cases c with
    | lst hl hc =>
      obtain ⟨as, t⟩ := DqAll.tr r hc
      exact ⟨_, .lst h t⟩
  | _, _, .tup h r, _, c => by
    cases c with
    | tup hl hc =>
      obtain ⟨as, t⟩ := DqAll.tr r hc
      exact ⟨_, .tup h t⟩
  | _, _, .dct h r, _, c => nomatch c
theorem DqAll.tr {H : Hp} : ∀ {ds : List PyData} {vs : List V}, DqAll H vs ds → ∀ {n : Nat}, (∀ d ∈ ds, Cp n d) → ∃ as, TrA H vs ds as
  | _, _, .nil, _, _ => ⟨_, .nil⟩
  | _, _, .cons a b, _, c => by
    obtain ⟨as, t⟩ := Dq.tr a (c _ List.mem_cons_self)
    obtain ⟨bs, u⟩ := DqAll.tr b fun d hd => c d (List.mem_cons_of_mem _ hd)
    exact ⟨_, .cons t u⟩
end
section
variable {base : Heap} {mg : Str → Option Value} {K : PySem.W.Frag} {w : World} {P : Program}
end
end V2


namespace V2
open PySem L2
open PySem.Spec PyProof.Rows
/-- the law's state: waters, index, steps done -/
def StAt (H : Hp) (q : Addr) (ds : List Deed) (A : List Int) (W : Int) (v : V) : Prop := ∃ D L, H q = some (.tup [.ref D, v, .ref L]) ∧ PrAt H D (Bh A W) ∧ DsAt H L ds
theorem StAt.ex {H H' : Hp} {q : Addr} {ds : List Deed} {A : List Int} {W : Int} {v : V} (h : StAt H q ds A W v) (e : Evl.Ex H H') : StAt H' q ds A W v := by
  obtain ⟨D, L, h1, h2, h3⟩ := h
  exact ⟨D, L, e _ _ h1, h2.ex e, h3.ex e⟩
/-- objects that are no tuples -/
def Nt (ps : List Addr) (H : Hp) : Prop := ∀ p ∈ ps, (∃ o, H p = some o) ∧ ∀ xs, H p ≠ some (.tup xs)
theorem Nt.ex {ps : List Addr} {H H' : Hp} (h : Nt ps H) (e : Evl.Ex H H') : Nt ps H' := fun p hp => by
  obtain ⟨⟨o, h1⟩, h2⟩ := h p hp
  refine ⟨⟨o, e _ _ h1⟩, fun xs z => h2 xs ?_⟩
  rw [e _ _ h1] at z
  rw [h1, z]
theorem Nt.new {ps : List Addr} {H H' : Hp} {p : Addr} (h : Nt ps H) (e : Evl.Ex H H') (n : H' p = none) : p ∉ ps := fun hp => by
  obtain ⟨⟨o, h1⟩, _⟩ := h p hp
  rw [e _ _ h1] at n
  cases n
theorem Nt.tup {ps : List Addr} {H : Hp} {p : Addr} {xs : List V} (h : Nt ps H) (z : H p = some (.tup xs)) : p ∉ ps := fun hp => (h p hp).2 xs z
theorem woL_go {ps : List Addr} {H H' : Hp} (e : Evl.Ex H H') : Evl.Ex (woL ps H) (woL ps H') := fun b o z => woL_at (woL_ne z) (e _ _ (woL_ex _ _ z))
section
variable {base : Heap} {mg : Str → Option Value} {K : PySem.W.Frag} {w : World} {P : Program}
end
end V2


namespace V2
open PySem L2
open PySem.Spec PyProof.Rows
abbrev wEnd (ts : List Tk) (es : List Deed) (u b : Int) : List Int × Int := wAt ts es u b es.length
def hist (ts : List Tk) (es : List Deed) (u b : Int) : List (List Int × Int) := (List.range es.length).map fun j => wAt ts es u b j
theorem wAt_pre {ts : List Tk} {es fs : List Deed} {u b : Int} {j : Nat} (h : j ≤ es.length) : wAt ts (es ++ fs) u b j = wAt ts es u b j := by
  unfold wAt
  rw [List.take_append_of_le_length h]
theorem BnAt.ins {C s : Addr} {H : Hp} {x ls lt : Addr} {ts : List Tk} {ds : List Deed} {S : List (List Int × Int)} {A ws : List Int} {W u b : Int} {v : V} (h : BnAt C s H x ls lt ts ds S A ws W u b v) : ∃ dx fs, H x = some (.ins C dx fs) := by
  obtain ⟨⟨dx, lq, g, lw, t, as, bs, h1, _⟩, _, _, _⟩ := h
  exact ⟨_, _, h1⟩
end V2


namespace V2
open PySem L2
open PySem.Spec PyProof.Rows
/-- what == of benches looks at -/
def BnV (B : Addr) (H : Hp) (a : Addr) (ts : List Tk) (ds : List Deed) (u b : Int) : Prop := ∃ (dx lq g lw ls lt : Addr) (v : V), H a = some (.ins B dx (bnF lq g lw ls lt v)) ∧ TksAt H lq ts ∧ DsAt H ls ds ∧ Fr H g u b
theorem BnAt.bv {B s : Addr} {H : Hp} {x ls lt : Addr} {ts : List Tk} {ds : List Deed} {S : List (List Int × Int)} {A ws : List Int} {W u b : Int} {v : V} (h : BnAt B s H x ls lt ts ds S A ws W u b v) : BnV B H x ts ds u b := by
  obtain ⟨⟨dx, lq, g, lw, t, as, bs, hx, hls, hxs, hlt, hys, hP⟩, _, _, _⟩ := h
  have p := hP.ex woL_ex
  exact ⟨dx, lq, g, lw, ls, lt, v, hx, p.q, ⟨as, hls, hxs, p.d⟩, p.f⟩
section
variable {base : Heap} {mg : Str → Option Value} {K : PySem.W.Frag} {w : World} {P : Program} {B gI gC gL gW gE qE CE fI : Addr}
end
end V2


namespace V2
open PySem L2 L2H
open PySem.Spec PyProof.Rows
/-- isinstance(e, c), e the error that is handled -/
def rIsP (K : PySem.W.Frag) (p : Addr × Obj) (C fI : Addr) : List V → Hp → VK → Prop := fun xs H Q => ∃ (d : Addr) (fs : List (Str × V)) (c : V) (cv : Value) (b : Bool), xs = [.ref p.1, c] ∧ p.2.dict = some d ∧ H d = some (.xd fs) ∧ EC K C fI ∧ (∀ u, RelV c u → u = cv) ∧ PySem.W.kitOne K (.ref C) cv = some b ∧ Q (.bl b) H
theorem inst_pin {P : Program} {w : World} {H : Hp} {h : Heap} {p : Addr × Obj} {C d : Addr} {fs : List (Str × V)} (hok : HOk P w H h) (hg : h.get? p.1 = some p.2) (hc : p.2.cls = .ref C) (hf : ∃ vs, p.2.data = .fields vs) (hd : p.2.dict = some d) (hx : H d = some (.xd fs)) : ∃ od, PySem.W.InstAt h p.1 p.2 C (some od) := by
  have z : ObjOk P w H h d (.xd fs) := hok d _ hx
  obtain ⟨mA, ⟨o, es, ep, e1, e2⟩, hr⟩ := z
  obtain ⟨vs, hv⟩ := hf
  exact ⟨o, hg, hc, by unfold PySem.W.notCls; rw [hv] <;> rfl, by rw [hd]; exact e1⟩
theorem call_isP {X : Cx} {p : Addr × Obj} {C fI : Addr} (G : EG X.K fI) (hp : p ∈ X.pn) (hc : p.2.cls = .ref C) (hf : ∃ vs, p.2.data = .fields vs) : CallR X (.builtin "isinstance") (rIsP X.K p C fI) := by
  intro pins s σ H xs us Q I r h
  obtain ⟨d, fs, c, cv, b, rfl, hd, hx, T, hcv, e, q⟩ := h
  cases r with
  | cons rx rr =>
    cases rr with
    | cons rt rr =>
      cases rr
      cases rx
      have ec := hcv _ rt
      subst ec
      obtain ⟨od, J⟩ := inst_pin I.hok (I.pin p (List.mem_append_left _ hp)).1 hc hf hd hx
      exact PySem.W.kia_one (PySem.W.kitx_exc T.hcl T.xf.ga T.xf.gg T.xf.exC T.ha G.hn G.ht T.hm) I.kIn J e (fun z => nomatch z) fun tk => ⟨.bl b, H, I.kept (t' := tk) fun _ _ z => z, rfl, q⟩
end V2


namespace V2
open PySem L2
open PySem.Spec PyProof.Rows
def tV1E (C : Addr) (a : Addr) (cls : Value) (d : Option Addr) (n : Nat) : TE := fun σ H Q => ∃ (dd : Addr) (fs : List (Str × V)) (v : V), σ[n]? = some (some (.ref a)) ∧ cls = .ref C ∧ d = some dd ∧ H dd = some (.xd fs) ∧ fs.lookup ("value" : Str) = some v ∧ Q v H
section
variable {X : Cx} {C fI a : Addr} {oe : Obj} {cls : Value} {d : Option Addr} {pn : List (Addr × Obj)} {n : Nat} {x : Str} {p1 p2 p3 pos : Pos}
theorem pe_v1E {K : PySem.W.Frag} (hK : X.K = K) (T : EC K C fI) (hz : Zc cls d oe) (hf : ∃ vs, oe.data = .fields vs) (he : PE (X.suite a ((a, oe) :: pn)) (.Name x p1) (tVar n))
    (hb : attributeBase (.Name x p1) "value" (X.suite a ((a, oe) :: pn)).env (eval (.Name x p1) (X.suite a ((a, oe) :: pn)).env) = eval (.Name x p1) (X.suite a ((a, oe) :: pn)).env := by rfl) :
    PE (X.suite a ((a, oe) :: pn)) (.Attribute (.Name x p1) "value" pos) (tV1E C a cls d n) := by
  subst hK
  refine ⟨fun pins s σ H Q I h => ?_⟩
  obtain ⟨dd, fs, v, h3, e1, e2, hx, hv, q⟩ := h
  exact (pe_xf (X := X) (a := a) (C := C) (oe := oe) (cls := cls) (d := d) (pn := pn) (pos := pos) (n := "value") T.xf T.noV hz hf he hb).run pins s σ H Q I ⟨_, h3, rfl, e1, dd, fs, v, e2, hx, hv, q⟩
end
section
variable {base : Heap} {mg : Str → Option Value} {K : PySem.W.Frag} {w : World} {P : Program} {B gI gC gL gW gE qE gU CE CN CT fI : Addr}
end
end V2


namespace V2
open PySem
def five : List Str := ["open", "pour", "scoop", "move", "unless"]
/-- data of no signs, whole numbers from 0 on, the words of steps, lists, tuples not of one -/
inductive Pl : PyData → Prop
  | non : Pl .none
  | int (n : Nat) : Pl (.int (n : Int))
  | str {x : Str} (h : x ∈ five) : Pl (.str x)
  | list {ds : List PyData} (h : ∀ d ∈ ds, Pl d) : Pl (.list ds)
  | tup {ds : List PyData} (h : ∀ d ∈ ds, Pl d) (n : ds.length ≠ 1) : Pl (.tuple ds)
abbrev tx (d : PyData) : List Nat := TL.tl d.shown
theorem tx_non : tx .none = [78, 111, 110, 101] := by decide +kernel
theorem tx_int (n : Nat) : tx (.int (n : Int)) = TL.numL n := TL.tl_num n
theorem tx_str {x : Str} (h : x ∈ five) : ∃ w, tx (.str x) = 39 :: (w ++ [39]) ∧ 39 ∉ w ∧ TL.tl x = w := by
  simp only [five, List.mem_cons, List.not_mem_nil, or_false] at h
  rcases h with rfl | rfl | rfl | rfl | rfl
  all_goals (refine ⟨TL.tl _, ?_, ?_, rfl⟩ <;> decide +kernel)
theorem shownAll_map (ds : List PyData) : (PyData.shownAll ds).map TL.tl = ds.map tx := by
  induction ds with
  | nil => rfl
  | cons d r ih => simp only [PyData.shownAll, List.map_cons, ih]
theorem tl_from : ∀ (ts : List Str) (k : Nat) (acc : Str), TL.tl (textFrom k acc ts) = TL.tl acc ++ (if k > 0 ∧ ts ≠ [] then [44, 32] else []) ++ TL.joinL [44, 32] (ts.map TL.tl)
  | [], k, acc => by simp [textFrom, TL.joinL]
  | [t], k, acc => by
    have s1 : TL.tl (Str.ofString (if k > 0 then ", " else "")) = if k > 0 then [44, 32] else [] := by split <;> rfl
    show TL.tl (acc ++ Str.ofString (if k > 0 then ", " else "") ++ t) = _
    rw [TL.tl_append, TL.tl_append, s1]
    by_cases h : k > 0 <;> simp [h, TL.joinL]
  | t :: u :: r, k, acc => by
    have s1 : TL.tl (Str.ofString (if k > 0 then ", " else "")) = if k > 0 then [44, 32] else [] := by split <;> rfl
    show TL.tl (textFrom (k + 1) (acc ++ Str.ofString (if k > 0 then ", " else "") ++ t) (u :: r)) = _
    rw [tl_from (u :: r) (k + 1), TL.tl_append, TL.tl_append, s1]
    have e : TL.joinL [44, 32] ((t :: u :: r).map TL.tl) = TL.tl t ++ ([44, 32] ++ TL.joinL [44, 32] ((u :: r).map TL.tl)) := by
      simp only [List.map_cons, TL.joinL, List.append_assoc]
    rw [e]
    by_cases h : k > 0 <;> simp [h]
theorem tx_list (ds : List PyData) : tx (.list ds) = 91 :: (TL.joinL [44, 32] (ds.map tx) ++ [93]) := by
  show TL.tl (PyData.shown (.list ds)) = _
  simp only [PyData.shown, listText]
  rw [TL.tl_append, tl_from, shownAll_map]
  rw [if_neg (fun z => absurd z.1 (Nat.lt_irrefl 0))]
  rfl
theorem tx_tup {ds : List PyData} (n : ds.length ≠ 1) : tx (.tuple ds) = 40 :: (TL.joinL [44, 32] (ds.map tx) ++ [41]) := by
  show TL.tl (PyData.shown (.tuple ds)) = _
  simp only [PyData.shown, tupleText]
  rw [TL.tl_append, TL.tl_append, TL.tl_join, shownAll_map]
  have e : ((PyData.shownAll ds).length == 1) = false := by
    have : (PyData.shownAll ds).length = ds.length := by
      have := congrArg List.length (shownAll_map ds)
      simpa using this
    rw [this]
    simpa using n
  rw [e]
  rfl
/-- what may follow -/
def Stp (r : List Nat) : Prop := r = [] ∨ ∃ c t, r = c :: t ∧ (c = 44 ∨ c = 93 ∨ c = 41)
theorem stp_c {c : Nat} {t : List Nat} (h : c = 44 ∨ c = 93 ∨ c = 41) : Stp (c :: t) := .inr ⟨c, t, rfl, h⟩
/-- how a text begins -/
def Hd (l : List Nat) : Prop := ∃ c t, l = c :: t ∧ c ≠ 44 ∧ c ≠ 93 ∧ c ≠ 41
theorem hd_of {d : PyData} (h : Pl d) : Hd (tx d) := by
  cases h with
  | non => exact ⟨_, _, tx_non, by decide, by decide, by decide⟩
  | int n =>
    have h1 := TL.numL_ne n
    have h2 := TL.numL_digits n
    rw [tx_int]
    cases e : TL.numL n with
    | nil => exact absurd e h1
    | cons c t =>
      rw [e] at h2
      have := TL.numL_free (n := n) (s := c)
      have hc : ¬ (c < 48 ∨ 57 < c) := fun z => this z (by rw [e]; exact List.mem_cons_self)
      exact ⟨c, t, rfl, by omega, by omega, by omega⟩
  | str h =>
    obtain ⟨w, e, _⟩ := tx_str h
    exact ⟨_, _, e, by decide, by decide, by decide⟩
  | list h => exact ⟨_, _, tx_list _, by decide, by decide, by decide⟩
  | tup h n => exact ⟨_, _, tx_tup n, by decide, by decide, by decide⟩
def Uq (d : PyData) : Prop := ∀ e r r', Pl e → Stp r → Stp r' → tx d ++ r = tx e ++ r' → d = e ∧ r = r'
theorem items {c : Nat} (hc : c = 93 ∨ c = 41) : ∀ (ds es : List PyData) (r r' : List Nat), (∀ d ∈ ds, Uq d) → (∀ e ∈ es, Pl e) → (∀ d ∈ ds, Pl d) → TL.joinL [44, 32] (ds.map tx) ++ c :: r = TL.joinL [44, 32] (es.map tx) ++ c :: r' → ds = es ∧ r = r'
  | [], [], r, r', _, _, _, h => by
    injection h with _ h
    exact ⟨rfl, h⟩
  | [], e :: es, r, r', _, he, _, h => by
    obtain ⟨b, t, hb, n1, n2, n3⟩ := hd_of (he e List.mem_cons_self)
    have h2 : ∃ z, c :: r = b :: z := by
      cases es with
      | nil =>
        rw [show TL.joinL [44, 32] ([e].map tx) = tx e from rfl, hb] at h
        exact ⟨_, h⟩
      | cons e2 es =>
        rw [show TL.joinL [44, 32] ((e :: e2 :: es).map tx) = tx e ++ [44, 32] ++ TL.joinL [44, 32] ((e2 :: es).map tx) by simp [TL.joinL], hb] at h
        rw [List.append_assoc, List.append_assoc] at h
        exact ⟨_, h⟩
    obtain ⟨_, h2⟩ := h2
    injection h2 with h2 _
    omega
  | d :: ds, [], r, r', _, _, hd, h => by
    obtain ⟨b, t, hb, n1, n2, n3⟩ := hd_of (hd d List.mem_cons_self)
    have h2 : ∃ z, b :: z = c :: r' := by
      cases ds with
      | nil =>
        rw [show TL.joinL [44, 32] ([d].map tx) = tx d from rfl, hb] at h
        exact ⟨_, h⟩
      | cons e2 es =>
        rw [show TL.joinL [44, 32] ((d :: e2 :: es).map tx) = tx d ++ [44, 32] ++ TL.joinL [44, 32] ((e2 :: es).map tx) by simp [TL.joinL], hb] at h
        rw [List.append_assoc, List.append_assoc] at h
        exact ⟨_, h⟩
    obtain ⟨_, h2⟩ := h2
    injection h2 with h2 _
    omega
  | [d], [e], r, r', hu, he, _, h => by
    obtain ⟨h1, h2⟩ := hu d List.mem_cons_self e _ _ (he e List.mem_cons_self) (stp_c (by omega)) (stp_c (by omega)) h
    injection h2 with _ h2
    exact ⟨by rw [h1], h2⟩
  | [d], e :: e2 :: es, r, r', hu, he, _, h => by
    rw [show TL.joinL [44, 32] ((e :: e2 :: es).map tx) = tx e ++ [44, 32] ++ TL.joinL [44, 32] ((e2 :: es).map tx) by simp [TL.joinL]] at h
    rw [List.append_assoc, List.append_assoc] at h
    obtain ⟨h1, h2⟩ := hu d List.mem_cons_self e _ _ (he e List.mem_cons_self) (stp_c (by omega)) (stp_c (.inl rfl)) h
    injection h2 with h2 _
    omega
  | d :: d2 :: ds, [e], r, r', hu, he, _, h => by
    rw [show TL.joinL [44, 32] ((d :: d2 :: ds).map tx) = tx d ++ [44, 32] ++ TL.joinL [44, 32] ((d2 :: ds).map tx) by simp [TL.joinL]] at h
    rw [List.append_assoc, List.append_assoc] at h
    obtain ⟨h1, h2⟩ := hu d List.mem_cons_self e _ _ (he e List.mem_cons_self) (stp_c (.inl rfl)) (stp_c (by omega)) h
    injection h2 with h2 _
    omega
  | d :: d2 :: ds, e :: e2 :: es, r, r', hu, he, hd, h => by
    rw [show TL.joinL [44, 32] ((d :: d2 :: ds).map tx) = tx d ++ [44, 32] ++ TL.joinL [44, 32] ((d2 :: ds).map tx) by simp [TL.joinL]] at h
    rw [show TL.joinL [44, 32] ((e :: e2 :: es).map tx) = tx e ++ [44, 32] ++ TL.joinL [44, 32] ((e2 :: es).map tx) by simp [TL.joinL]] at h
    rw [List.append_assoc, List.append_assoc, List.append_assoc, List.append_assoc] at h
    obtain ⟨h1, h2⟩ := hu d List.mem_cons_self e _ _ (he e List.mem_cons_self) (stp_c (.inl rfl)) (stp_c (.inl rfl)) h
    injection h2 with _ h2
    injection h2 with _ h2
    obtain ⟨h3, h4⟩ := items hc (d2 :: ds) (e2 :: es) r r' (fun x hx => hu x (List.mem_cons_of_mem _ hx)) (fun x hx => he x (List.mem_cons_of_mem _ hx)) (fun x hx => hd x (List.mem_cons_of_mem _ hx)) h2
    exact ⟨by rw [h1, h3], h4⟩
def kd (c : Nat) : Nat := if c = 78 then 0 else if c = 39 then 2 else if c = 91 then 3 else if c = 40 then 4 else 1
end V2


namespace V2
open PySem L2
open PySem.Spec PyProof.Rows
def ascB (ks : List Int) : Bool := (List.range (ks.length - 1)).all fun i => decide (ks.getD i 0 < ks.getD (i + 1) 0)
/-- a step as it may be wrong: nothing, a step of the right form, another word or length -/
inductive Bent where
  | nil
  | de (d : Deed)
  | bad (x : Str) (ds : List PyData)
def dB : Bent → PyData
  | .nil => .tuple []
  | .de d => dD d
  | .bad x ds => .tuple (.str x :: ds)
def BAt (H : Hp) (a : Addr) : Bent → Prop
  | .nil => H a = some (.tup [])
  | .de d => DAt H a d
  | .bad x ds => ∃ vs, H a = some (.tup (.str x :: vs)) ∧ DqAll H vs ds
/-- which word has which length -/
def thN (x : Str) : Option Nat := if x = "open" then some 2 else if x = "pour" then some 3 else if x = "scoop" then some 3 else if x = "move" then some 4 else if x = "unless" then some 3 else none
def badOk (x : Str) (ds : List PyData) : Prop := thN x ≠ some (ds.length + 1)
def BOk : Bent → Prop
  | .bad x ds => badOk x ds ∧ (thN x = none → x ∈ (["Open", "shut", "pours", "", "unles", "moves"] : List Str))
  | .de (.op ks) => ks.length ≤ 30
  | _ => True
def spAmtB : Sp := fun vs H Q _ => ∃ n : Int, vs = [.int n] ∧ Evl.RetV (.bl (decide (0 ≤ n))) H Q
section
variable {base : Heap} {mg : Str → Option Value} {K : PySem.W.Frag} {w : World} {P : Program} {aT : Addr} {es : Array DictEntry} {nT : Nat} {t1 t2 t3 t4 t5 : Tok}
theorem ok_is_amountB {f : Addr} {fd : FuncData} (F : Fun K "is_amount" "is_amount" s_is_amount f fd) (cI : Cal P w K mg base 1 "is_integer" p_is_integer spInt) : FnOk P w K mg base CX0 2 f fd p_is_amount spAmtB := by
  refine F.ok sc_is_amount (fun vs H Q E h => ?_) (fun cdv A outer s H vs Q E hr h => ?_)
  · obtain ⟨n, rfl, _⟩ := h
    rfl
  · obtain ⟨n, rfl, k⟩ := h
    refine ⟨_, pss_one (ps_ret (pe_and (pe_c cI hr (pa_cons (pv 0) pa_nil)) (pe_one (pe_cmpR op_ge (pv 0) pe_int (nomark _))))), ?_⟩
    refine ⟨_, rfl, n, rfl, fun H1 e1 => ⟨_, rfl, if_t rfl ?_⟩⟩
    refine ⟨_, rfl, _, _, rfl, rfl, ?_⟩
    exact k _ e1
theorem th_some {x : Str} {n : Nat} (th : Th K w mg aT es nT t1 t2 t3 t4 t5) (h : thN x = some n) : ∃ t, PySem.W.nsIn K aT x = some (some (.int (n : Int) t)) := by
  unfold thN at h
  split at h
  · rename_i e
    cases h
    exact ⟨_, e ▸ th.n1⟩
  split at h
  · rename_i e
    cases h
    exact ⟨_, e ▸ th.n2⟩
  split at h
  · rename_i e
    cases h
    exact ⟨_, e ▸ th.n3⟩
  split at h
  · rename_i e
    cases h
    exact ⟨_, e ▸ th.n4⟩
  split at h
  · rename_i e
    cases h
    exact ⟨_, e ▸ th.n5⟩
  · cases h
theorem dqall_len {H : Hp} : ∀ {vs : List V} {ds : List PyData}, DqAll H vs ds → vs.length = ds.length
  | _, _, .nil => rfl
  | _, _, .cons _ b => congrArg (· + 1) (dqall_len b)
end
end V2


namespace V2
open PySem L2
open PySem.Spec PyProof.Rows
theorem TrA.snoc {H : Hp} : ∀ {ds : List PyData} {vs : List V} {as : List Addr} {v : V} {d : PyData} {bs : List Addr}, TrA H vs ds as → TrD H v d bs → TrA H (vs ++ [v]) (ds ++ [d]) (as ++ bs)
  | _, _, _, v, d, bs, .nil, h => by
    have := TrA.cons h (.nil (H := H))
    rw [List.append_nil] at this
    exact this
  | _, _, _, v, d, bs, .cons a b, h => by
    rw [List.append_assoc]
    exact .cons a (TrA.snoc b h)
def woD (D : Addr) (H : Hp) : Hp := fun b => if b = D then none else H b
theorem woD_some {D : Addr} {H : Hp} {b : Addr} {o : HO} (h : woD D H b = some o) : b ≠ D ∧ H b = some o := by
  unfold woD at h
  split at h
  · cases h
  · rename_i n
    exact ⟨n, h⟩
theorem woD_at {D : Addr} {H : Hp} {b : Addr} {o : HO} (n : b ≠ D) (h : H b = some o) : woD D H b = some o := by
  unfold woD
  rw [if_neg n]
  exact h
theorem nwd_go {H H2 H3 : Hp} {D : Addr} {o : HO} (e : Evl.Ex H2 H3) : Evl.Ex (Nw H (woD D H2)) (Nw H (woD D (upd H3 D o))) := fun b u z => by
  obtain ⟨n, z2⟩ := woD_some (Nw.ex _ _ z)
  exact nw_at (nw_none z) (woD_at n (by rw [upd_ne n]; exact e _ _ z2))
theorem nwd_new {H H2 H3 : Hp} {D : Addr} {o u : HO} (e0 : Evl.Ex H H2) (hD : H2 D = some u) : Evl.Ex (Nw H2 H3) (Nw H (woD D (upd H3 D o))) := fun b x z => by
  have n := nw_none z
  have nd : b ≠ D := fun q => by
    rw [q, hD] at n
    cases n
  exact nw_at (Evl.fresh_back e0 n) (woD_at nd (by rw [upd_ne nd]; exact Nw.ex _ _ z))
theorem nodup_app {as bs : List Addr} (h1 : as.Nodup) (h2 : bs.Nodup) (h : ∀ a ∈ as, a ∉ bs) : (as ++ bs).Nodup := List.nodup_append.mpr ⟨h1, h2, fun a ha b hb e => h a ha (e ▸ hb)⟩
def spCt (n : Nat) : Sp := fun vs H Q _ => ∃ (v : V) (d : PyData), vs = [v] ∧ Dq H v d ∧ Cp n d ∧ ∀ v' as H', Evl.Ex H H' → TrD (Nw H H') v' d as → as.Nodup → Q v' H'
theorem turn_nd {H H2 H3 : Hp} {D : Addr} {acc : List V} {ds : List PyData} {bs as : List Addr} {v : V} {d : PyData} {n i : Nat} (hcs : ∀ x ∈ ds, Cp n x) (hd : d ∈ ds) (hA : TrA (Nw H (woD D H2)) acc (ds.take i) bs) (hn : bs.Nodup) (hT : TrD (Nw H2 H3) v d as) (hm : as.Nodup) : (bs ++ as).Nodup :=
  nodup_app hn hm fun a ha hb => by
    obtain ⟨xs, h1, _⟩ := hA.lists (fun x hx => hcs x (List.mem_of_mem_take hx)) a ha
    obtain ⟨ys, h2, _⟩ := hT.lists (hcs d hd) a hb
    have := nw_none h2
    rw [(woD_some (Nw.ex _ _ h1)).2] at this
    cases this
section
variable {base : Heap} {mg : Str → Option Value} {K : PySem.W.Frag} {w : World} {P : Program}
theorem ok_ct0 {f : Addr} {fd : FuncData} (F : Fun K "copied" "copied" s_copied f fd) (T : T5 mg) : FnOk P w K mg base CX0 1 f fd p_copied (spCt 0) := by
  refine F.ok sc_copied (fun vs H Q E h => ?_) (fun cdv A outer s H vs Q E hr h => ?_)
  · obtain ⟨v, d, rfl, _⟩ := h
    rfl
  · obtain ⟨v, d, rfl, hd, hc, kk⟩ := h
    obtain ⟨as, tb⟩ := hd.tr hc
    obtain ⟨rfl, t, k1, k2, ty⟩ := ls_base (K := K) tb fun ds => ⟨(fun z => (by subst z; cases hc)), (fun z => (by subst z; cases hc))⟩
    have tb : TrD (Nw H H) v d [] := by
      cases tb with
      | non => exact .non
      | bl b => exact .bl b
      | int i => exact .int i
      | str x => exact .str x
      | tup h1 h2 => cases hc
    exact ⟨_, pss_cons (ps_if (pt_val (pe_callB call_isi (by rfl) T.isi (by decide +kernel) (pa_cons (pv 0) (pa_cons (pe_bltn (v := .ty "list") (by rfl) T.lst (by decide +kernel) rfl) pa_nil)))) (pss_one ps_never) pss_nil)
        (pss_cons (ps_if (pt_val (pe_callB call_isi (by rfl) T.isi (by decide +kernel) (pa_cons (pv 0) (pa_cons (pe_bltn (v := .ty "tuple") (by rfl) T.tup (by decide +kernel) rfl) pa_nil)))) (pss_one ps_never) pss_nil)
        (pss_one (ps_ret (pv 0)))), ⟨_, rfl, _, _, _, _, false, rfl, .ty "list", ty _, kit_ty k1, false, rfl, if_f rfl ⟨_, rfl, _, _, _, _, false, rfl, .ty "tuple", ty _, kit_ty k2, false, rfl, if_f rfl ⟨_, rfl, kk _ [] _ (Evl.Ex.refl _) tb List.nodup_nil⟩⟩⟩⟩
theorem ok_ctS {n k : Nat} {f : Addr} {fd : FuncData} (F : Fun K "copied" "copied" s_copied f fd) (T : T5 mg) (c0 : Cal P w K mg base k "copied" p_copied (spCt n)) : FnOk P w K mg base CX0 (k + 1) f fd p_copied (spCt (n + 1)) := by
  refine F.ok sc_copied (fun vs H Q E h => ?_) (fun cdv A outer s H vs Q E hr h => ?_)
  · obtain ⟨v, d, rfl, _⟩ := h
    rfl
  · obtain ⟨v, d, rfl, hd, hc, kk⟩ := h
    have nd := sc_copied.nd
    rcases cp_cases hc with nn | ⟨ds, rfl, hl, hcs⟩ | ⟨ds, rfl, hl, hcs⟩
    · obtain ⟨as, tb⟩ := hd.tr hc
      obtain ⟨rfl, t, k1, k2, ty⟩ := ls_base (K := K) tb nn
      have tb : TrD (Nw H H) v d [] := by
        cases tb with
        | non => exact .non
        | bl b => exact .bl b
        | int i => exact .int i
        | str x => exact .str x
        | tup h1 h2 => exact absurd rfl (nn _).2
      exact ⟨_, pss_cons (ps_if (pt_val (pe_callB call_isi (by rfl) T.isi (by decide +kernel) (pa_cons (pv 0) (pa_cons (pe_bltn (v := .ty "list") (by rfl) T.lst (by decide +kernel) rfl) pa_nil)))) (pss_one ps_never) pss_nil)
        (pss_cons (ps_if (pt_val (pe_callB call_isi (by rfl) T.isi (by decide +kernel) (pa_cons (pv 0) (pa_cons (pe_bltn (v := .ty "tuple") (by rfl) T.tup (by decide +kernel) rfl) pa_nil)))) (pss_one ps_never) pss_nil)
        (pss_one (ps_ret (pv 0)))), ⟨_, rfl, _, _, _, _, false, rfl, .ty "list", ty _, kit_ty k1, false, rfl, if_f rfl ⟨_, rfl, _, _, _, _, false, rfl, .ty "tuple", ty _, kit_ty k2, false, rfl, if_f rfl ⟨_, rfl, kk _ [] _ (Evl.Ex.refl _) tb List.nodup_nil⟩⟩⟩⟩
    · cases hd with
      | @lst a xs _ ha hds =>
      refine ⟨_, pss_cons (ps_if (pt_val (pe_callB call_isi (by rfl) T.isi (by decide +kernel) (pa_cons (pv 0) (pa_cons (pe_bltn (v := .ty "list") (by rfl) T.lst (by decide +kernel) rfl) pa_nil))))
          (pss_one (ps_ret (pe_lc (own := [("part", 1)]) (g := gName 1) (tt := tYes) (te := tCall (spCt n) [] E0 (tCons (tVar 1) tNil)) rfl nd (pi_list (pv 0)) (blkOk_by (N := n_copied) (sc := defScope s_copied) (by decide +kernel)) (fun _ _ _ _ _ => pg_name (i := 1) nd rfl (Or.inl rfl)) (fun _ _ _ _ _ => pts_nil)
            (fun _ _ _ _ _ => pe_c c0 hr (pa_cons (pv 1) pa_nil))))) pss_nil)
        (pss_cons ps_never (pss_one ps_never)), ?_⟩
      refine ⟨_, rfl, _, _, _, _, true, rfl, .ty "list", .base (.lst ha), kit_ty (by decide +kernel), true, rfl, if_t rfl ?_⟩
      have hlen := hds.len
      refine ⟨_, rfl, a, rfl, ⟨_, SqL.of ha⟩, fun D hD => lc_list (xs := xs) (fun i H' => Evl.Ex H H' ∧ ∃ acc bs, H' D = some (.lst acc) ∧ TrA (Nw H (woD D H')) acc (ds.take i) bs ∧ bs.Nodup) ⟨Evl.Ex.new hD, [], [], upd_same, .nil, List.nodup_nil⟩ (fun i H' _ q => SqL.of (q.1 _ _ ha)) ?_ ?_⟩
      · rintro i x H2 hi ⟨e2, acc, bs, hD2, hacc, hnd⟩
        obtain ⟨d, hdi, hdx⟩ := hds.get hi
        refine ⟨rfl, ?_⟩
        show tCall (spCt n) [] E0 (tCons (tVar 1) tNil) _ _ _
        refine ⟨_, rfl, x, d, rfl, hdx.go e2, hcs d (List.mem_of_getElem? hdi), fun v' as' H3 e3 hv' hn' => ⟨acc, e3 _ _ hD2, ?_, Evl.Ex.mut (e2.trans e3) hD, _, bs ++ as', upd_same, ?_, turn_nd hcs (List.mem_of_getElem? hdi) hacc hnd hv' hn'⟩⟩
        · have h1 := hacc.dq.len
          rw [List.length_take] at h1
          exact Nat.lt_of_le_of_lt (show acc.length ≤ 100 by omega) (by decide)
        · rw [ds_take hdi]
          exact (hacc.go (nwd_go e3)).snoc (hv'.go (nwd_new e2 hD2))
      · rintro H2 ⟨e2, acc, bs, hD2, hacc, hnd⟩
        rw [hlen, List.take_length] at hacc
        refine kk _ _ _ e2 (.lst (nw_at hD hD2) (hacc.go fun b o h => nw_at (nw_none h) (woD_some (Nw.ex _ _ h)).2)) (List.nodup_cons.mpr ⟨fun hm => ?_, hnd⟩)
        obtain ⟨ys, h1, _⟩ := hacc.lists hcs D hm
        exact (woD_some (Nw.ex _ _ h1)).1 rfl
    · cases hd with
      | @tup a xs _ ha hds =>
      refine ⟨_, pss_cons (ps_if (pt_val (pe_callB call_isi (by rfl) T.isi (by decide +kernel) (pa_cons (pv 0) (pa_cons (pe_bltn (v := .ty "list") (by rfl) T.lst (by decide +kernel) rfl) pa_nil)))) (pss_one ps_never) pss_nil)
        (pss_cons (ps_if (pt_val (pe_callB call_isi (by rfl) T.isi (by decide +kernel) (pa_cons (pv 0) (pa_cons (pe_bltn (v := .ty "tuple") (by rfl) T.tup (by decide +kernel) rfl) pa_nil))))
          (pss_one (ps_ret (pe_callTy call_tuple_of (by rfl) T.tup (by decide +kernel) (pa_cons (pe_lc (own := [("part", 1)]) (g := gName 1) (tt := tYes) (te := tCall (spCt n) [] E0 (tCons (tVar 1) tNil)) rfl nd (pi_tup (pv 0)) (blkOk_by (N := n_copied) (sc := defScope s_copied) (by decide +kernel)) (fun _ _ _ _ _ => pg_name (i := 1) nd rfl (Or.inl rfl)) (fun _ _ _ _ _ => pts_nil)
            (fun _ _ _ _ _ => pe_c c0 hr (pa_cons (pv 1) pa_nil))) pa_nil)))) pss_nil)
        (pss_one ps_never)), ?_⟩
      refine ⟨_, rfl, _, _, _, _, false, rfl, .ty "list", .base (.tup ha), kit_ty (by decide +kernel), false, rfl, if_f rfl ?_⟩
      refine ⟨_, rfl, _, _, _, _, true, rfl, .ty "tuple", .base (.tup ha), kit_ty (by decide +kernel), true, rfl, if_t rfl ?_⟩
      have hlen := hds.len
      refine ⟨_, rfl, a, rfl, ⟨_, SqT.of ha⟩, fun D hD => lc_tup (xs := xs) (fun i H' => Evl.Ex H H' ∧ ∃ acc bs, H' D = some (.lst acc) ∧ TrA (Nw H (woD D H')) acc (ds.take i) bs ∧ bs.Nodup) ⟨Evl.Ex.new hD, [], [], upd_same, .nil, List.nodup_nil⟩ (fun i H' _ q => SqT.of (q.1 _ _ ha)) ?_ ?_⟩
      · rintro i x H2 hi ⟨e2, acc, bs, hD2, hacc, hnd⟩
        obtain ⟨d, hdi, hdx⟩ := hds.get hi
        refine ⟨rfl, ?_⟩
        show tCall (spCt n) [] E0 (tCons (tVar 1) tNil) _ _ _
        refine ⟨_, rfl, x, d, rfl, hdx.go e2, hcs d (List.mem_of_getElem? hdi), fun v' as' H3 e3 hv' hn' => ⟨acc, e3 _ _ hD2, ?_, Evl.Ex.mut (e2.trans e3) hD, _, bs ++ as', upd_same, ?_, turn_nd hcs (List.mem_of_getElem? hdi) hacc hnd hv' hn'⟩⟩
        · have h1 := hacc.dq.len
          rw [List.length_take] at h1
          exact Nat.lt_of_le_of_lt (show acc.length ≤ 100 by omega) (by decide)
        · rw [ds_take hdi]
          exact (hacc.go (nwd_go e3)).snoc (hv'.go (nwd_new e2 hD2))
      · rintro H2 ⟨e2, acc, bs, hD2, hacc, hnd⟩
        rw [hlen, List.take_length] at hacc
        refine ⟨D, _, rfl, .inl ⟨SqL.of hD2, fun l hl2 => ?_⟩⟩
        have e3 := Evl.Ex.new (o := .tup acc) hl2
        exact kk _ _ _ (e2.trans e3) (.tup (nw_at (Evl.fresh_back e2 hl2) upd_same) (hacc.go fun b o h => nw_at (nw_none h) (e3 _ _ (woD_some (Nw.ex _ _ h)).2))) hnd
end
end V2


namespace V2
open PySem L2
open PySem.Spec PyProof.Rows
theorem nw_ofEx {H H1 H3 : Hp} (e : Evl.Ex H H1) {b : Addr} {o : HO} (z : Nw H1 H3 b = some o) : Nw H H3 b = some o := nw_at (Evl.fresh_back e (nw_none z)) (Nw.ex _ _ z)
def frB (p q : Int) : Bool := decide (1 ≤ q) && decide (Int.gcd p q = 1)
def ptB (p q : Int) : Bool := frB p q && (decide (0 ≤ p) && decide (p ≤ q))
section
variable {base : Heap} {mg : Str → Option Value} {K : PySem.W.Frag} {w : World} {P : Program} {CS CT CF fI : Addr}
end
end V2


namespace V2
open PySem L2
open PySem.Spec PyProof.Rows
def partD : Deed → Option (Int × Int)
  | .sc _ p q => some (p, q)
  | .mv _ _ p q => some (p, q)
  | _ => none
/-- how a step is refused, if it is -/
inductive Flt where
  | ok
  | step
  | tank (k : Int)
  | part (p q : Int)
theorem BAt.dq {H : Hp} {a : Addr} {d : Bent} (h : BAt H a d) : Dq H (.ref a) (dB d) := by
  cases d with
  | nil => exact .tup (show H a = some (.tup []) from h) .nil
  | de d => exact dat_dq h
  | bad x ds =>
    obtain ⟨vs, h1, h2⟩ := h
    exact .tup h1 (.cons (.str x) h2)
theorem BAt.ex {H H' : Hp} {a : Addr} {d : Bent} (h : BAt H a d) (e : Evl.Ex H H') : BAt H' a d := by
  cases d with
  | nil => exact e _ _ h
  | de d => exact DAt.ex h e
  | bad x ds =>
    obtain ⟨vs, h1, h2⟩ := h
    exact ⟨vs, e _ _ h1, DqAll.go h2 e⟩
def PBn (d : Bent) : Prop := match d with
  | .de d => ∀ p q, partD d = some (p, q) → Bn 50 p ∧ Bn 50 q
  | _ => True
/-- the error of class C with the value y -/
def Rz (C : Addr) (H : Hp) (y : V) (E : XK) : Prop := ∀ (e : Addr) (H' : Hp), H e = none → Evl.Ex H H' → H' e = some (.xd [("value", y)]) → E (.ref C) (some e) H'
section
variable {base : Heap} {mg : Str → Option Value} {K : PySem.W.Frag} {w : World} {P : Program} {CS CT CF fI : Addr}
end
end V2


namespace V2
open PySem L2
open PySem.Spec PyProof.Rows
def tkB (t : Tk) : Bool := (match t.1 with
  | none => true
  | some z => decide (1 ≤ z)) && decide (0 ≤ t.2)
def spTankB : Sp := fun vs H Q _ => ∃ (a : Addr) (t : Tk), vs = [.ref a] ∧ H a = some (.tup [wV t.1, .int t.2]) ∧ Evl.RetV (.bl (tkB t)) H Q
theorem tr_flat2 {H : Hp} {v : V} {d1 d2 : PyData} {as : List Addr} (h : TrD H v (.tuple [d1, d2]) as) (f1 : ∀ {v as}, TrD H v d1 as → as = []) (f2 : ∀ {v as}, TrD H v d2 as → as = []) : as = [] := by
  cases h with
  | tup _ h2 => cases h2 with
    | cons a1 a2 => cases a2 with
      | cons b1 b2 => cases b2 with
        | nil => rw [f1 a1, f2 b1]; rfl
theorem tr_fl_int {H : Hp} {v : V} {i : Int} {as : List Addr} (h : TrD H v (.int i) as) : as = [] := by
  cases h
  rfl
theorem tr_fl_w {H : Hp} {v : V} {w : Option Int} {as : List Addr} (h : TrD H v (wD w) as) : as = [] := by
  cases w with
  | none => cases h; rfl
  | some z => cases h; rfl
section
variable {base : Heap} {mg : Str → Option Value} {K : PySem.W.Frag} {w : World} {P : Program} {CI CF fI : Addr}
theorem ok_is_tankB {f : Addr} {fd : FuncData} (F : Fun K "is_tank" "is_tank" s_is_tank f fd) (T : T3 mg) (cI : Cal P w K mg base 1 "is_integer" p_is_integer spInt) (cA : Cal P w K mg base 2 "is_amount" p_is_amount spAmtB) : FnOk P w K mg base CX0 3 f fd p_is_tank spTankB := by
  refine F.ok sc_is_tank (fun vs H Q E h => ?_) (fun cdv A outer s H vs Q E hr h => ?_)
  · obtain ⟨a, t, rfl, _⟩ := h
    rfl
  · obtain ⟨a, t, rfl, ha, k⟩ := h
    have nd := sc_is_tank.nd
    have r1 : Room 1 _ := hr.mono (by decide)
    refine ⟨_, pss_cons (ps_if (PW.pt (pw_or (pt_not (pt_val (pe_callB call_isi (by rfl) T.isi (by decide +kernel) (pa_cons (pv 0) (pa_cons (pe_bltn (v := .ty "tuple") (by rfl) T.tup (by decide +kernel) rfl) pa_nil)))))
        (pw_or1 (pt_cmpR op_ne (pe_callB call_len_seq (by rfl) T.len PySem.boot_len (pa_cons (pv 0) pa_nil)) pe_int (nomark _))))) (pss_one (ps_ret pe_bl)) pss_nil)
      (pss_cons (ps_asg (pv 0) (pg_tup rfl (pgs_cons (pg_name (i := 1) nd rfl (Or.inl rfl)) (pgs_cons (pg_name (i := 2) nd rfl (Or.inl rfl)) pgs_nil))))
      (pss_one (ps_ret (pe_and (pe_or (pe_cmp (pc_isN (pv 1))) (pe_one (pe_and (pe_c cI r1 (pa_cons (pv 1) pa_nil)) (pe_one (pe_cmpR op_ge (pv 1) pe_int (nomark _)))))) (pe_one (pe_c cA hr (pa_cons (pv 2) pa_nil))))))), ?_⟩
    refine ⟨_, rfl, _, _, _, _, true, rfl, .ty "tuple", .base (.tup ha), kit_ty (by decide +kernel), true, rfl, if_f rfl ?_⟩
    refine ⟨_, rfl, a, _, rfl, .inr (SqT.of ha), rfl, false, rfl, if_f rfl ?_⟩
    refine ⟨_, rfl, a, _, rfl, SqT.of ha, rfl, _, _, rfl, _, _, rfl, rfl, ?_⟩
    obtain ⟨tw, ta⟩ := t
    cases tw with
    | none => exact ⟨_, rfl, _, rfl, _, rfl, if_t rfl ⟨_, rfl, ta, rfl, k⟩⟩
    | some z =>
      refine ⟨_, rfl, _, rfl, if_f rfl ⟨_, rfl, z, rfl, fun H1 e1 => ⟨_, rfl, if_t rfl ?_⟩⟩⟩
      refine ⟨_, rfl, _, _, rfl, rfl, _, rfl, ?_⟩
      by_cases c : 1 ≤ z
      · refine if_t (decide_eq_true c) ⟨_, rfl, ta, rfl, fun H' e' => ?_⟩
        have e : tkB (some z, ta) = decide (0 ≤ ta) := by
          show (decide (1 ≤ z) && decide (0 ≤ ta)) = _
          rw [decide_eq_true c, Bool.true_and]
        rw [e] at k
        exact k H' (e1.trans e')
      · refine if_f (decide_eq_false c) ?_
        have e : tkB (some z, ta) = false := by
          show (decide (1 ≤ z) && decide (0 ≤ ta)) = _
          rw [decide_eq_false c, Bool.false_and]
        rw [e] at k
        exact k H1 e1
end
end V2


namespace V2
open PySem L2
open PySem.Spec PyProof.Rows
def tMkS (C : Addr) (sp : Sp) (E : L2.St → XK) (t : TA) : TE := fun τ G Q => t τ G fun vs G1 => ∀ q dq, G1 q = none → G1 dq = none → dq ≠ q → sp (.ref q :: vs) (upd (upd G1 dq (.own q)) q (.ins C dq [])) (fun v G2 => v = .non ∧ Q (.ref q) G2) (E τ)
section
variable {X : Cx} {CX : CXT} {k : Nat} {f C : Addr} {fd : FuncData} {ps : List Str} {sp : Sp} {E : L2.St → XK} {y : Str} {p pp : Pos} {e : Expr} {es : List Expr} {t : TA}
theorem pe_mkS (M : Mk X.K C f) (F : FnOk X.prog X.w X.K X.mg X.base CX k f fd ps sp) (hr : Room (k + 1) X.A) (hg : Gl X y) (hm : X.mg y = some (.ref C)) (hb : Binds X.K fd ps []) (hx : ∀ τ, PassesAt CX X τ (E τ)) (ha : PA X (e :: es) t)
    (hdb : (y == ("__debug__" : Str)) = false := by decide) (he : starEach (e :: es) X.env = (false, eval e X.env) :: starEach es X.env := by rfl) (hpl : (backTo p (starEach es X.env)).any (fun z => z.1) = false := by rfl) :
    PE X (.Call (.Name y pp) (e :: es) [] p) (tMkS C sp E t) := by
  constructor
  intro pins s τ G Q I h
  refine wpAny_Call_Name_kw (ld_glob I hg hm ?_ hdb)
  refine PySem.W.callWith_K (h₀ := X.base) I.ok.mod.kin M.kp (thn (ha.run p pins s τ G _ I h) fun us s1 got => ?_) he hpl
  obtain ⟨vs, G1, I1, r, z⟩ := got
  refine ⟨I1.kIn, ?_⟩
  have hq := z (s1.heap.objs.size + 1) s1.heap.objs.size (I1.hok.fresh (Nat.le_succ _)) (I1.hok.fresh (Nat.le_refl _)) (Nat.ne_of_lt (Nat.lt_succ_self _))
  have I2 := Inv.made (C := C) I1
  have r2 : Vals (V.ref (s1.heap.objs.size + 1) :: vs) (Value.ref (s1.heap.objs.size + 1) :: us) := .cons rfl r
  have hl : (Value.ref (s1.heap.objs.size + 1) :: us).length = ps.length := by rw [← r2.length]; exact F.len _ _ _ _ hq
  have bd := hb _ (Value.ref (s1.heap.objs.size + 1) :: us) I2.kIn (by rw [List.append_nil]; exact hl)
  rw [List.append_nil] at bd
  show wpAny _ _ (call (.ref C) us) _ _ _
  refine wpAny_call (make_map (f := f) I1.kIn M.makes M.init (beq_iff_eq.mp M.fn) (codeAny_mono (F.run _ X.stack _ _ ⟨Value.ref (s1.heap.objs.size + 1) :: us, []⟩ (Value.ref (s1.heap.objs.size + 1) :: us) _ _ (E τ) (hr.make C us []) (I2.env0.make C us []) bd r2 hq) fun w s' hw => ?_))
  match w, hw with
  | .error e, hw => exact hx τ pins _ _ e s' I2 hw
  | .ok (.ret u), hw =>
    obtain ⟨v, G', I3, rv, ev, q3⟩ := I2.after hw
    subst ev
    exact ⟨rv, ⟨V.ref (s1.heap.objs.size + 1), G', I3, rfl, q3⟩⟩
  | .ok .next, hw => exact hw.elim
  | .ok .brk, hw => exact hw.elim
  | .ok .cont, hw => exact hw.elim
end
end V2


namespace PySem
section
variable {prog : Program} {w : World} {A : Around} {E : Value → Shared → Prop} {s : Shared}
end
mutual
/-- what may be shown so -/
def WideD : PyData → Prop
  | .none => True
  | .bool _ => True
  | .int n => n.natAbs < 10 ^ 4300
  | .str _ => True
  | .list ds => WideA ds
  | .tuple ds => WideA ds
  | _ => False
def WideA : List PyData → Prop
  | [] => True
  | d :: ds => WideD d ∧ WideA ds
end
section
variable {prog : Program} {w : World} {h₀ : Heap} {K : PySem.W.Frag}
end
end PySem
namespace V2
open PySem L2
open PySem.Spec PyProof.Rows
end V2


namespace V2
open PySem L2
open PySem.Spec PyProof.Rows
def ShX (d : PyData) : Prop := WideD d ∧ d.depth ≤ 60 ∧ d.shown.length ≤ sizeLine
section
variable {base : Heap} {mg : Str → Option Value} {K : PySem.W.Frag} {w : World} {P : Program}
end
end V2


namespace V2
open PySem L2
open PySem.Spec PyProof.Rows
structure Sx (n B : Nat) (d : PyData) : Prop where
  s : WideD d
  dp : d.depth ≤ n
  l : d.shown.length ≤ B
theorem Sx.le {n m B C : Nat} {d : PyData} (h : Sx n B d) (a : n ≤ m) (b : B ≤ C) : Sx m C d := ⟨h.s, Nat.le_trans h.dp a, Nat.le_trans h.l b⟩
theorem Sx.sh {n B : Nat} {d : PyData} (h : Sx n B d) (a : n ≤ 60) (b : B ≤ 10000000) : ShX d := ⟨h.s, Nat.le_trans h.dp a, Nat.le_trans h.l (Nat.le_trans b (by decide))⟩
theorem sx_int {B : Nat} {n : Int} (h : n.natAbs < 2 ^ B) (b0 : 0 < B) (b1 : B ≤ 12900) : Sx 1 (B + 1) (.int n) := by
  have h4 := PySem.Flt.log2_lt_of b0 h
  refine ⟨?_, by simp [PyData.depth], ?_⟩
  · have h5 : (2 : Nat) ^ B ≤ 2 ^ 12900 := Nat.pow_le_pow_right (by decide) b1
    show n.natAbs < 10 ^ 4300
    exact Nat.lt_of_lt_of_le (Nat.lt_of_lt_of_le h h5) PyProof.Rows.pow_lo
  · show (Str.ofString (toString n)).length ≤ _
    rw [PySem.ofString_length]
    exact int_text_length_le b0 h4
theorem sx_non : Sx 1 10 .none := ⟨trivial, by simp [PyData.depth], by decide⟩
theorem sx_str {x : Str} (h : (PyData.shown (.str x)).length ≤ 10) : Sx 1 10 (.str x) := ⟨trivial, by simp [PyData.depth], h⟩
theorem sx_all {n B : Nat} : ∀ xs : List PyData, (∀ d ∈ xs, Sx n B d) → WideA xs ∧ PyData.depthAll xs ≤ n ∧ ((PyData.shownAll xs).map (·.length)).sum ≤ xs.length * B
  | [], _ => ⟨trivial, by simp [PyData.depthAll], by simp [PyData.shownAll]⟩
  | d :: r, h => by
    obtain ⟨a1, a2, a3⟩ := sx_all r fun x hx => h x (List.mem_cons_of_mem _ hx)
    obtain ⟨b1, b2, b3⟩ := h d List.mem_cons_self
    refine ⟨⟨b1, a1⟩, by simp [PyData.depthAll]; omega, ?_⟩
    simp only [PyData.shownAll, List.map_cons, List.sum_cons, List.length_cons, Nat.succ_mul]
    omega
theorem sx_list {n B : Nat} {xs : List PyData} (h : ∀ d ∈ xs, Sx n B d) : Sx (n + 1) (xs.length * B + 2 * xs.length + 3) (.list xs) := by
  obtain ⟨h1, h2, h3⟩ := sx_all xs h
  have h4 := listText_len_le (PyData.shownAll xs)
  have h5 := PyData.shownAll_length xs
  refine ⟨h1, by simp [PyData.depth]; omega, ?_⟩
  simp only [PyData.shown]
  omega
theorem sx_tup {n B : Nat} {xs : List PyData} (h : ∀ d ∈ xs, Sx n B d) : Sx (n + 1) (xs.length * B + 2 * xs.length + 3) (.tuple xs) := by
  obtain ⟨h1, h2, h3⟩ := sx_all xs h
  have h4 := tupleText_len_le (PyData.shownAll xs)
  have h5 := PyData.shownAll_length xs
  refine ⟨h1, by simp [PyData.depth]; omega, ?_⟩
  simp only [PyData.shown]
  omega
theorem sx_i50 {n : Int} (h : n.natAbs < 2 ^ 50) : Sx 1 60 (.int n) := (sx_int h (by decide) (by decide)).le (Nat.le_refl _) (by decide)
def eD : V → PyData
  | .int i => .int i
  | _ => .none
end V2


namespace V2
open PySem L2
open PySem.Spec PyProof.Rows
theorem Cp.up {n : Nat} {d : PyData} (h : Cp n d) : Cp (n + 1) d := by
  induction h with
  | non => exact .non
  | bl b => exact .bl b
  | int i => exact .int i
  | str x => exact .str x
  | lst h1 h2 ih => exact .lst h1 ih
  | tup h1 h2 ih => exact .tup h1 ih
section
variable {base : Heap} {mg : Str → Option Value} {K : PySem.W.Frag} {w : World} {P : Program} {B gI gC gL gW gE qE gS gN C fI fT fS pT pS : Addr}
end
end V2


namespace V2
open PySem L2
open PySem.Spec PyProof.Rows
section
variable {base : Heap} {mg : Str → Option Value} {K : PySem.W.Frag} {w : World} {P : Program}
end
theorem DqAll.take {H : Hp} : ∀ {vs : List V} {ds : List PyData} (n : Nat), DqAll H vs ds → DqAll H (vs.take n) (ds.take n)
  | _, _, 0, _ => .nil
  | _, _, _ + 1, .nil => .nil
  | _, _, n + 1, .cons a b => .cons a (DqAll.take n b)
section
variable {base : Heap} {mg : Str → Option Value} {K : PySem.W.Frag} {w : World} {P : Program}
end
end V2


namespace V2
open PySem L2
open PySem.Spec PyProof.Rows
mutual
theorem Dq.dp {K : PySem.W.Frag} {H : Hp} : ∀ {n : Nat} {d : PyData} {v : V}, Dq H v d → Cp n d → Dp K H v d
  | _, _, _, .non, _ => .non
  | _, _, _, .bl b, _ => .bl b
  | _, _, _, .int i, _ => .int i
  | _, _, _, .str x, _ => .str x
  | _, _, _, .lst h r, .lst _ c => .lst (SqL.of h) (DqAll.dp r c)
  | _, _, _, .tup h r, .tup _ c => .tup (SqT.of h) (DqAll.dp r c)
theorem DqAll.dp {K : PySem.W.Frag} {H : Hp} : ∀ {n : Nat} {ds : List PyData} {vs : List V}, DqAll H vs ds → (∀ d ∈ ds, Cp n d) → DpAll K H vs ds
  | _, _, _, .nil, _ => .nil
  | _, _, _, .cons a b, c => .cons (Dq.dp a (c _ List.mem_cons_self)) (DqAll.dp b fun d h => c d (List.mem_cons_of_mem _ h))
end
def kSz : List (Key × V) := [(.inr "open", .int 2), (.inr "pour", .int 3), (.inr "scoop", .int 3), (.inr "move", .int 4), (.inr "unless", .int 3)]
theorem sz_val (x : Str) : valV kSz (.inr x) = (thN x).map fun n => V.int (n : Int) := by
  unfold thN
  have v : ∀ {y : Str} {w : V} {r : List (Key × V)}, valV ((.inr y, w) :: r) (.inr x) = if x = y then some w else valV r (.inr x) := by
    intro y w r
    by_cases h : x = y
    · rw [if_pos h, valV_pos (by rw [h])]
    · rw [if_neg h, valV_neg (fun z => h (Sum.inr.inj z).symm)]
  unfold kSz
  rw [v, v, v, v, v, valV_nil]
  split
  · rfl
  split
  · rfl
  split
  · rfl
  split
  · rfl
  split
  · rfl
  · rfl
def g5 : Deed → Bool
  | .po _ a => decide (0 ≤ a)
  | .mv k m _ _ => decide (k ≠ m)
  | .un k m => decide (k ≠ m)
  | _ => true
section
variable {base : Heap} {mg : Str → Option Value} {K : PySem.W.Frag} {w : World} {P : Program}
end
end V2


namespace V2
open PySem L2
open PySem.Spec PyProof.Rows
inductive Lw : List Nat → PyData → Prop
  | non {l : List Nat} : Lw l .none
  | int {l : List Nat} {i : Int} : i.natAbs < 2 ^ 50 → Lw l (.int i)
  | str {l : List Nat} {x : Str} : (PyData.shown (.str x)).length ≤ 10 → Lw l (.str x)
  | lst {L : Nat} {l : List Nat} {ds : List PyData} : ds.length ≤ L → (∀ d ∈ ds, Lw l d) → Lw (L :: l) (.list ds)
  | tup {L : Nat} {l : List Nat} {ds : List PyData} : ds.length ≤ L → (∀ d ∈ ds, Lw l d) → Lw (L :: l) (.tuple ds)
def LwB : List Nat → Nat
  | [] => 60
  | L :: l => L * LwB l + 2 * L + 60
def LwC : List Nat → Nat
  | [] => 0
  | L :: l => 1 + L * LwC l
theorem lwB_60 : ∀ l, 60 ≤ LwB l
  | [] => Nat.le_refl _
  | L :: l => Nat.le_add_left _ _
theorem Lw.sx {l : List Nat} {d : PyData} (h : Lw l d) : Sx (l.length + 1) (LwB l) d := by
  induction h with
  | @non l => exact sx_non.le (by omega) (Nat.le_trans (by decide) (lwB_60 l))
  | @int l i h => exact (sx_i50 h).le (by omega) (lwB_60 l)
  | @str l x h => exact (sx_str h).le (by omega) (Nat.le_trans (by decide) (lwB_60 l))
  | @lst L l ds h1 h2 ih => exact (sx_list ih).le (Nat.le_refl _) (by
      have := Nat.mul_le_mul_right (LwB l) h1
      show _ ≤ L * LwB l + 2 * L + 60
      omega)
  | @tup L l ds h1 h2 ih => exact (sx_tup ih).le (Nat.le_refl _) (by
      have := Nat.mul_le_mul_right (LwB l) h1
      show _ ≤ L * LwB l + 2 * L + 60
      omega)
theorem Lw.cp {l : List Nat} {d : PyData} (h : Lw l d) (hl : ∀ L ∈ l, L ≤ 100) : Cp l.length d := by
  induction h with
  | non => exact .non
  | int h => exact .int _
  | str h => exact .str _
  | lst h1 h2 ih => exact .lst (Nat.le_trans h1 (hl _ List.mem_cons_self)) fun d hd => ih d hd fun L hL => hl L (List.mem_cons_of_mem _ hL)
  | tup h1 h2 ih => exact .tup (Nat.le_trans h1 (hl _ List.mem_cons_self)) fun d hd => ih d hd fun L hL => hl L (List.mem_cons_of_mem _ hL)
theorem cntA_le {n : Nat} : ∀ {ds : List PyData}, (∀ d ∈ ds, cntD d ≤ n) → cntA ds ≤ ds.length * n
  | [], _ => by simp [cntA]
  | d :: r, h => by
    have h1 := h d List.mem_cons_self
    have h2 := cntA_le (ds := r) fun x hx => h x (List.mem_cons_of_mem _ hx)
    simp only [cntA, List.length_cons, Nat.succ_mul]
    omega
theorem Lw.cnt {l : List Nat} {d : PyData} (h : Lw l d) : cntD d ≤ LwC l := by
  induction h with
  | non => simp [cntD]
  | int h => simp [cntD]
  | str h => simp [cntD]
  | @lst L l ds h1 h2 ih =>
    have h3 := cntA_le ih
    have := Nat.mul_le_mul_right (LwC l) h1
    show cntD (.list ds) ≤ 1 + L * LwC l
    simp only [cntD]
    omega
  | @tup L l ds h1 h2 ih =>
    have h3 := cntA_le ih
    have := Nat.mul_le_mul_right (LwC l) h1
    show cntD (.tuple ds) ≤ 1 + L * LwC l
    simp only [cntD]
    omega
theorem mkA_len2 : ∀ (ds : List PyData) (k : Nat), (mkA k ds).length = ds.length
  | [], _ => by simp [mkA]
  | d :: r, k => by simp [mkA, mkA_len2 r]
theorem mkA_all {C : PyData → Prop} {N : Nat} : ∀ {ds : List PyData} {k : Nat}, (∀ d ∈ ds, ∀ k, k + cntD d ≤ N → C (mkD k d)) → k + cntA ds ≤ N → ∀ x ∈ mkA k ds, C x
  | [], k, _, _, x, hx => by simp [mkA] at hx
  | d :: r, k, h, hk, x, hx => by
    simp only [cntA] at hk
    simp only [mkA, List.mem_cons] at hx
    rcases hx with rfl | hx
    · exact h d List.mem_cons_self k (by omega)
    · exact mkA_all (fun d hd => h d (List.mem_cons_of_mem _ hd)) (by omega) x hx
theorem Lw.mk {l : List Nat} {d : PyData} (h : Lw l d) : ∀ k, k + cntD d ≤ 100000 → Lw (l.map (· + 1)) (mkD k d) := by
  induction h with
  | non => exact fun k _ => by simp only [mkD]; exact .non
  | int h => exact fun k _ => by simp only [mkD]; exact .int h
  | str h => exact fun k _ => by simp only [mkD]; exact .str h
  | @lst L l ds h1 h2 ih =>
    intro k hk
    simp only [cntD] at hk
    simp only [mkD]
    refine .lst ?_ fun x hx => ?_
    · rw [List.length_append, mkA_len2]
      show ds.length + 1 ≤ L + 1
      omega
    · rcases List.mem_append.mp hx with hx | hx
      · exact mkA_all ih (by omega) x hx
      · rw [List.mem_singleton.mp hx]
        exact .int (Nat.lt_of_le_of_lt (show ((k : Int)).natAbs ≤ 100000 by omega) (by decide))
  | @tup L l ds h1 h2 ih =>
    intro k hk
    simp only [cntD] at hk
    simp only [mkD]
    refine .tup ?_ fun x hx => mkA_all ih (by omega) x hx
    rw [mkA_len2]
    show ds.length ≤ L + 1
    omega
/-- what is compared by the law's right -/
abbrev lwR : List Nat := [2, 2, 5, 31]
theorem Lw.rt {d : PyData} (h : Lw lwR d) : Cp 4 d ∧ ShX d ∧ ShX (mkD 0 d) ∧ cntD d ≤ 1000 := by
  have hc : cntD d ≤ LwC lwR := h.cnt
  have hn : LwC lwR ≤ 1000 := by decide
  refine ⟨h.cp (by decide), h.sx.sh (by decide) (by decide), (h.mk 0 (by omega)).sx.sh (by decide) (by decide), by omega⟩
section
variable {p : Addr} {σ : L2.St} {H : Hp} {K : PySem.W.Frag}
theorem dqI {H : Hp} : ∀ ns : List Int, DqAll H (iV ns) (ns.map .int)
  | [] => .nil
  | n :: r => .cons (.int n) (dqI r)
end
/-- what is known of a step as it may be wrong -/
structure GB (bd : Bent) : Prop where
  ok : BOk bd
  lw : Lw [5, 31] (dB bd)
  pb : PBn bd
  sh : SeqAt.shaped (dB bd) = true
theorem GB.cp {bd : Bent} (g : GB bd) : Cp 2 (dB bd) := g.lw.cp (by decide)
end V2


namespace V2
open PySem L2
open PySem.Spec PyProof.Rows
theorem dq_fr1 {H : Hp} {v : V} {f : Int × Int} (h : Dq H v (frD f)) : ∃ q, v = .ref q ∧ Fr H q f.1 f.2 := by
  cases h with
  | tup h1 r1 =>
    cases r1 with
    | cons a b =>
      cases a
      cases b with
      | cons c e =>
        cases c
        cases e
        exact ⟨_, rfl, h1⟩
theorem TksAt.set {H H' : Hp} {l q : Addr} {ts : List Tk} {t : Tk} {j : Nat} (h : TksAt H l ts) (hq : H q = some (.tup [wV t.1, .int t.2])) (he : ∀ c o, c ≠ l → H c = some o → H' c = some o) (hl : ∀ as : List Addr, H l = some (.lst (as.map V.ref)) → H' l = some (.lst ((as.map V.ref).set j (.ref q)))) : TksAt H' l (ts.set j t) := by
  obtain ⟨as, h1, h2, h3⟩ := h
  refine ⟨as.set j q, by rw [hl as h1, List.map_set], by rw [List.length_set, List.length_set, h2], fun i a t' ha ht => ?_⟩
  have nl : ∀ {a : Addr} {xs : List V}, H a = some (.tup xs) → a ≠ l := fun h z => by rw [z, h1] at h; cases h
  rw [List.getElem?_set] at ha ht
  split at ha
  · rename_i c
    rw [if_pos c] at ht
    split at ha
    · split at ht
      · cases ha
        cases ht
        exact he _ _ (nl hq) hq
      · cases ht
    · cases ha
  · rename_i c
    rw [if_neg c] at ht
    have := h3 i a t' ha ht
    exact he _ _ (nl this) this
theorem TrD.new {H H' : Hp} {n : Nat} {v : V} {d : PyData} {as : List Addr} (h : TrD (Nw H H') v d as) (hc : Cp n d) : ∀ a ∈ as, H a = none := fun a ha => by
  obtain ⟨xs, z, _⟩ := h.lists hc a ha
  exact nw_none z
section
variable {base : Heap} {mg : Str → Option Value} {K : PySem.W.Frag} {w : World} {P : Program}
end
end V2


namespace V2
open PySem L2
open PySem.Spec PyProof.Rows
theorem sq_ex_but {K : PySem.W.Frag} {H H1 H2 : Hp} {a q : Addr} {xs : List V} (h : SqL K H a xs) (hq : H q = none) (e : Evl.Ex H H1) (b : But q H1 H2) : SqL K H2 a xs := by
  rcases h with h | h
  · left
    have go : ∀ o, H a = some o → H2 a = some o := fun o ho => b a o (ne_of_none ho hq) (e a o ho)
    rcases h with h | ⟨o, h⟩
    · exact .inl (go _ h)
    · exact .inr ⟨o, go _ h⟩
  · exact .inr h
def spLaw (K : PySem.W.Frag) : Sp := fun vs H Q _ => ∃ (a : Addr) (ns : List Int), vs = [.ref a] ∧ SqL K H a (iV ns) ∧ ns.length ≤ 63 ∧ ∀ H', Q (.bl true) H'
structure T6 (mg : Str → Option Value) : Prop where
  rng : mg "range" = none
  len : mg "len" = none
  max : mg "max" = none
  min : mg "min" = none
def Lay (K : PySem.W.Frag) (mg : Str → Option Value) (x : Str) (st : Stmt) (ps : List Str) : Prop := ∃ (f : Addr) (fd : FuncData), Fun K x x st f fd ∧ mg x = some (.ref f) ∧ PySem.W.keepIn K (.ref f) = true ∧ Binds K fd ps []
theorem lay_of {h : Heap} {mg : Str → Option Value} {K : PySem.W.Frag} {w : World} {L : Lk} (X : K.In h) (G : h.Ns mainGlobals mg) (c : L.seen K = L.due w) (i j : Nat) {x : Str} {st : Stmt} {ps : List Str}
    (hi : L.ds[i]? = some ⟨fun K => He.ga K x, x, x, st⟩) (hj : L.fb[j]? = some (bGlo x))
    (hb : ∀ (kV doc pm : Value) (an : Option Addr) (cdv ct : Value) (us : List Value), us.length = ps.length → bindArgs (PySem.W.fnOf x x (defArgs st) (defBody st) (defScope st) .none kV doc pm an cdv ct) ⟨us, []⟩ = pure (ps.zip us)) : Lay K mg x st ps := by
  obtain ⟨fd, F⟩ := Lk.df c i hi
  exact ⟨_, fd, F, He.glo_ok X G (Lk.fact c j hj), F.kp, Fun.binds F hb⟩
/-- a method, a getter -/
def LayM (K : PySem.W.Frag) (x y : Str) (st : Stmt) (f : Addr) (ps : List Str) : Prop := ∃ fd : FuncData, Fun K x y st f fd ∧ Binds K fd ps []
theorem laym_of {K : PySem.W.Frag} {w : World} {L : Lk} (c : L.seen K = L.due w) (i : Nat) {x y : Str} {st : Stmt} {a : PySem.W.Frag → Addr} {ps : List Str} (hi : L.ds[i]? = some ⟨a, x, y, st⟩)
    (hb : ∀ (kV doc pm : Value) (an : Option Addr) (cdv ct : Value) (us : List Value), us.length = ps.length → bindArgs (PySem.W.fnOf x y (defArgs st) (defBody st) (defScope st) .none kV doc pm an cdv ct) ⟨us, []⟩ = pure (ps.zip us)) : LayM K x y st (a K) ps := by
  obtain ⟨fd, F⟩ := Lk.df c i hi
  exact ⟨fd, F, Fun.binds F hb⟩
section
variable {base : Heap} {mg : Str → Option Value} {K : PySem.W.Frag} {w : World} {P : Program}
theorem Lay.cal {x : Str} {st : Stmt} {ps : List Str} {k : Nat} {sp : Sp} (L : Lay K mg x st ps) (h : ∀ f fd, Fun K x x st f fd → FnOk P w K mg base CX0 k f fd ps sp) : Cal P w K mg base k x ps sp := by
  obtain ⟨f, fd, F, m, kp, b⟩ := L
  exact ⟨f, fd, h f fd F, m, kp, b⟩
end
end V2


namespace V2
open PySem L2
open PySem.Spec PyProof.Rows
def nT (n : Int) : Str := Str.ofString (toString n)
def tkT (t : Tk) : Str := nT t.2 ++ " in " ++ (match t.1 with | none => "w" | some z => nT z)
/-- a whole number from 0 on, below 10 ** 64 -/
def spShI : Sp := fun vs H Q _ => ∃ n : Int, vs = [.int n] ∧ n.natAbs ≤ 999999999 ∧ Evl.RetV (.str (nT n)) H Q
def spShT : Sp := fun vs H Q _ => ∃ (a : Addr) (t : Tk), vs = [.ref a] ∧ H a = some (.tup [wV t.1, .int t.2]) ∧ (∀ z, t.1 = some z → 0 ≤ z ∧ z ≤ 999999999) ∧ 0 ≤ t.2 ∧ t.2 ≤ 999999999 ∧ Evl.RetV (.str (tkT t)) H Q
theorem join_one (a x : Str) : Txt.join a [x] = x := by rw [TL.join_eq]; rfl
theorem tl_inj1 {x y : Str} (h : TL.tl x = TL.tl y) : x = y := by
  have := TL.map_tl_inj (l := [x]) (m := [y]) (by rw [List.map_cons, List.map_cons, h])
  cases this
  rfl
theorem str_app (x : Str) : ("" : Str) ++ x = x := tl_inj1 (by rw [TL.tl_append]; rfl)
section
variable {base : Heap} {mg : Str → Option Value} {K : PySem.W.Frag} {w : World} {P : Program}
theorem tl_nT_nat (k : Nat) : TL.tl (nT (k : Int)) = TL.numL k := TL.tl_num k
theorem tl_nT_neg (k : Nat) : TL.tl (nT (Int.negSucc k)) = 45 :: TL.numL (k + 1) := by
  have e : nT (Int.negSucc k) = Str.ofString ("-" ++ toString ((k + 1 : Nat) : Int)) := rfl
  rw [e, TL.tl_ofString, String.toList_append, List.map_append, ← TL.tl_ofString, ← TL.tl_ofString, TL.tl_num]
  rfl
theorem nT_neg {n : Int} (h : n < 0) : ("-" : Str) ++ nT (-n) = nT n := by
  obtain ⟨k, rfl⟩ : ∃ k : Nat, n = Int.negSucc k := ⟨(-n - 1).toNat, by omega⟩
  refine tl_inj1 ?_
  rw [TL.tl_append, tl_nT_neg]
  have e : -(Int.negSucc k) = ((k + 1 : Nat) : Int) := rfl
  rw [e, tl_nT_nat]
  rfl
theorem nT_len {n : Int} (h : n.natAbs ≤ 999999999) : (nT n).length ≤ 10 := by
  rw [TL.len_tl]
  have e9 : (10 : Nat) ^ 9 = 1000000000 := by decide
  cases n with
  | ofNat k =>
    have h : k ≤ 999999999 := h
    have := TL.numL_len (n := k) (k := 9) (by decide) (by omega)
    show (TL.tl (nT (k : Int))).length ≤ 10
    rw [tl_nT_nat]; omega
  | negSucc k =>
    have h : k + 1 ≤ 999999999 := h
    have := TL.numL_len (n := k + 1) (k := 9) (by decide) (by omega)
    rw [tl_nT_neg, List.length_cons]; omega
theorem ok_show_integer {f : Addr} {fd : FuncData} (F : Fun K "show_integer" "show_integer" s_show_integer f fd) (mAb : mg "abs" = none) (mS : mg "str" = none) : FnOk P w K mg base CX0 1 f fd p_show_integer spShI := by
  refine F.ok sc_show_integer (fun vs H Q E h => ?_) (fun cdv A outer s H vs Q E hr h => ?_)
  · obtain ⟨n, rfl, _⟩ := h
    rfl
  · obtain ⟨n, rfl, n1, k⟩ := h
    have nd := sc_show_integer.nd
    have one : 1 ≤ sizeLine := by show 1 ≤ sizeLine; decide
    have w64 : CPowX 10 64 := pow_ok (k := 4) (n := 64) (by decide) (by decide)
    refine ⟨_, pss_cons (ps_par (i := 1) (j := 2) rfl nd rfl rfl (by decide) rfl rfl (pa_cons (pe_callB call_abs (by rfl) mAb (by decide +kernel) (pa_cons (pv 0) pa_nil)) (pa_cons (pe_lst pa_nil) pa_nil)) (by rfl))
      (pss_cons (ps_while PassesOwn.never (pt_cmpR op_ge (pv 1) (pe_op op_powX pe_int pe_int) (nomark _)) (pss_cons ps_never
      (pss_one ps_never)))
      (pss_one (ps_ret (pe_op op_add_str (pe_ifExp (pt_cmpR op_lt (pv 0) pe_int (nomark _)) pe_str pe_str) (pe_join pe_str (pe_op op_cat (pe_lst (pa_cons (pe_callTy call_str_int (by rfl) mS (by decide +kernel) (pa_cons (pv 1) pa_nil)) pa_nil)) (pv 2))))))), ?_⟩
    obtain ⟨m, hm, m0, m1⟩ : ∃ m : Int, m = (if n < 0 then -n else n) ∧ 0 ≤ m ∧ m ≤ 999999999 := ⟨_, rfl, by split <;> omega, by split <;> omega⟩
    refine ⟨_, rfl, _, rfl, Nat.zero_le _, fun l hl => ⟨_, _, rfl, ?_⟩⟩
    rw [← hm]
    have e1 := Evl.Ex.new (o := .lst []) hl
    have g1 := upd_same (H := H) (a := l) (o := .lst [])
    generalize upd H l (.lst []) = H1 at e1 g1
    refine ⟨fun _ σ H' => H' = H1 ∧ σ = [some (.int n), some (.int m), some (.ref l), none], ⟨0, rfl, rfl⟩, ?_⟩
    rintro m' σ H' ⟨rfl, rfl⟩
    have e64 : (10 : Int) ^ (64 : Int).toNat = 10000000000000000000000000000000000000000000000000000000000000000 := by decide
    refine ⟨_, rfl, 10, 64, rfl, rfl, w64, _, _, rfl, rfl, _, rfl, if_f (decide_eq_false (by rw [e64]; omega)) ?_⟩
    have lm : (nT m).length ≤ 10 := nT_len (by omega)
    have l0 : (("" : Str)).length = 0 := rfl
    have l1 : (("-" : Str)).length = 1 := rfl
    have em : ∀ sg : Str, (sg = "-" ∧ n < 0) ∨ (sg = "" ∧ ¬ n < 0) → sg ++ nT m = nT n := by
      rintro sg (⟨rfl, h⟩ | ⟨rfl, h⟩)
      · rw [hm, if_pos h]; exact nT_neg h
      · rw [hm, if_neg h]; exact str_app _
    by_cases hn : n < 0
    · refine ⟨_, rfl, _, _, rfl, rfl, _, rfl, if_t (decide_eq_true hn) ⟨⟨_, rfl⟩, ?_⟩⟩
      have es := em _ (.inl ⟨rfl, hn⟩)
      refine ⟨_, rfl, m, rfl, ?_, one, fun b hb => ?_⟩
      · have hb20 : m.natAbs < 2 ^ 30 := Nat.lt_of_le_of_lt (show m.natAbs ≤ 999999999 by omega) (by decide)
        exact Nat.lt_of_lt_of_le (PySem.Flt.log2_lt_of (by decide) hb20) (by decide)
      have e2 := Evl.Ex.new (o := .lst [.str (nT m)]) hb
      have g2 := upd_same (H := H') (a := b) (o := .lst [.str (nT m)])
      refine ⟨_, rfl, b, l, _, _, rfl, rfl, g2, e2 _ _ g1, by show 1 ≤ sizeLine; decide, fun c hc => ?_⟩
      have e3 := Evl.Ex.new (o := .lst [.str (nT m)]) hc
      refine ⟨"", c, [nT m], rfl, rfl, .inl (SqL.of upd_same), ?_, ?_⟩
      · show (nT m).length + 0 + 1 * (("" : Str)).length ≤ 16777216
        omega
      refine ⟨_, _, rfl, rfl, ?_, ?_⟩
      · rw [join_one]
        refine Nat.le_trans (m := 11) ?_ (by decide)
        omega
      rw [join_one, es]
      exact k _ ((e1.trans e2).trans e3)
    · refine ⟨_, rfl, _, _, rfl, rfl, _, rfl, if_f (decide_eq_false hn) ⟨⟨_, rfl⟩, ?_⟩⟩
      have es := em _ (.inr ⟨rfl, hn⟩)
      refine ⟨_, rfl, m, rfl, ?_, one, fun b hb => ?_⟩
      · have hb20 : m.natAbs < 2 ^ 30 := Nat.lt_of_le_of_lt (show m.natAbs ≤ 999999999 by omega) (by decide)
        exact Nat.lt_of_lt_of_le (PySem.Flt.log2_lt_of (by decide) hb20) (by decide)
      have e2 := Evl.Ex.new (o := .lst [.str (nT m)]) hb
      have g2 := upd_same (H := H') (a := b) (o := .lst [.str (nT m)])
      refine ⟨_, rfl, b, l, _, _, rfl, rfl, g2, e2 _ _ g1, by show 1 ≤ sizeLine; decide, fun c hc => ?_⟩
      have e3 := Evl.Ex.new (o := .lst [.str (nT m)]) hc
      refine ⟨"", c, [nT m], rfl, rfl, .inl (SqL.of upd_same), ?_, ?_⟩
      · show (nT m).length + 0 + 1 * (("" : Str)).length ≤ 16777216
        omega
      refine ⟨_, _, rfl, rfl, ?_, ?_⟩
      · rw [join_one]
        refine Nat.le_trans (m := 11) ?_ (by decide)
        omega
      rw [join_one, es]
      exact k _ ((e1.trans e2).trans e3)
theorem ok_show_tank {f : Addr} {fd : FuncData} (F : Fun K "show_tank" "show_tank" s_show_tank f fd) (cI : Cal P w K mg base 1 "show_integer" p_show_integer spShI) : FnOk P w K mg base CX0 2 f fd p_show_tank spShT := by
  refine F.ok sc_show_tank (fun vs H Q E h => ?_) (fun cdv A outer s H vs Q E hr h => ?_)
  · obtain ⟨a, t, rfl, _⟩ := h
    rfl
  · obtain ⟨a, ⟨tw, ta⟩, rfl, ha, hw, a0, a1, k⟩ := h
    have nd := sc_show_tank.nd
    have r1 : Room 1 _ := hr.mono (by decide)
    refine ⟨_, pss_cons (ps_asg (pv 0) (pg_tup rfl (pgs_cons (pg_name (i := 1) nd rfl (Or.inl rfl)) (pgs_cons (pg_name (i := 2) nd rfl (Or.inl rfl)) pgs_nil))))
      (pss_one (ps_ret (pe_op op_add_str (pe_op op_add_str (pe_c cI r1 (pa_cons (pv 2) pa_nil)) pe_str) (pe_ifExp (pt_cmp (pc_isN (pv 1))) pe_str (pe_c cI r1 (pa_cons (pv 1) pa_nil)))))), ?_⟩
    have l1 : (nT ta).length ≤ 10 := nT_len (by omega)
    have l2 : ((" in " : Str)).length = 4 := rfl
    have l3 : ((nT ta) ++ (" in " : Str)).length = (nT ta).length + 4 := by
      rw [TL.len_tl, TL.tl_append, List.length_append, ← TL.len_tl, ← TL.len_tl, l2]
    refine ⟨_, rfl, a, _, rfl, SqT.of ha, rfl, _, _, rfl, _, _, rfl, rfl, ?_⟩
    refine ⟨_, rfl, ta, rfl, by omega, fun H1 e1 => ⟨_, _, rfl, rfl, Nat.le_trans (show (nT ta).length + ((" in " : Str)).length ≤ 14 by omega) (by decide), ?_⟩⟩
    cases tw with
    | none => exact ⟨_, rfl, _, rfl, if_t rfl ⟨_, _, rfl, rfl, Nat.le_trans (show ((nT ta) ++ (" in " : Str)).length + (("w" : Str)).length ≤ 15 by rw [l3]; exact (show (nT ta).length + 4 + 1 ≤ 15 by omega)) (by decide), k _ e1⟩⟩
    | some z =>
      obtain ⟨z0, z1⟩ := hw z rfl
      have l4 : (nT z).length ≤ 10 := nT_len (by omega)
      refine ⟨_, rfl, _, rfl, if_f rfl ⟨_, rfl, z, rfl, by omega, fun H2 e2 => ⟨_, _, rfl, rfl, Nat.le_trans (show ((nT ta) ++ (" in " : Str)).length + (nT z).length ≤ 24 by rw [l3]; omega) (by decide), k _ (e1.trans e2)⟩⟩⟩
end
end V2


namespace V2
open PySem L2
open PySem.Spec PyProof.Rows
def Sm (n : Int) : Prop := 0 ≤ n ∧ n ≤ 999999999
/-- what stands in a step -/
inductive Thg where
  | str (x : Str)
  | lst (ks : List Int)
  | fr (p q : Int)
  | int (n : Int)
def thD : Thg → PyData
  | .str x => .str x
  | .lst ks => .list (ks.map .int)
  | .fr p q => .tuple [.int p, .int q]
  | .int n => .int n
def thT : Thg → Str
  | .str x => x
  | .lst ks => Txt.join "," (ks.map nT)
  | .fr p q => Txt.join "/" [nT p, nT q]
  | .int n => nT n
def OkTh : Thg → Prop
  | .str x => x.length ≤ 10
  | .lst ks => ks.length ≤ 20 ∧ ∀ k ∈ ks, Sm k
  | .fr p q => Sm p ∧ Sm q
  | .int n => Sm n
theorem sum_nT : ∀ {ks : List Int}, (∀ k ∈ ks, Sm k) → ((ks.map nT).map (·.length)).sum ≤ 10 * ks.length
  | [], _ => Nat.zero_le _
  | k :: ks, h => by
    have h1 := sum_nT fun x hx => h x (List.mem_cons_of_mem _ hx)
    have h2 := nT_len (n := k) (by have := h k List.mem_cons_self; unfold Sm at this; omega)
    show (nT k).length + ((ks.map nT).map (·.length)).sum ≤ 10 * (ks.length + 1)
    omega
section
variable {base : Heap} {mg : Str → Option Value} {K : PySem.W.Frag} {w : World} {P : Program}
end
end V2


namespace V2
open PySem L2
open PySem.Spec PyProof.Rows
theorem walks_tail {prog : Program} {w : World} {A : Around} {I : Addr} {fp wr : List Addr} {G : Array GenState → Array GenState → Prop} {n : Nat} {P : Nat → Value → Prop} {St : Nat → Shared → Prop} (W : WalksS prog w A I fp wr G (n + 1) P St) :
    WalksS prog w A I fp wr G n (fun i => P (i + 1)) (fun i => St (i + 1)) where
  sub := W.sub
  grefl := W.grefl
  gtrans := W.gtrans
  frame := fun i s h' tk st ht hk => W.frame (i + 1) s h' tk st ht hk
  item := fun i s Q E hi st hQ => W.item (i + 1) s Q E (Nat.succ_lt_succ hi) st hQ
  done := fun s Q E st hQ => W.done s Q E st hQ
  self := fun i s Q E st hQ => W.self (i + 1) s Q E st hQ
theorem items_star {prog : Program} {w : World} {A : Around} {E : Value → Shared → Prop} {s : Shared} {l : Addr} {x : Value} {xs : List Value} {Q : List Value → Shared → Prop} (hh : A.handled = none) (hl : s.heap.IsList l (x :: xs).toArray) (hz : xs.length ≤ sizeLine)
    (hQ : ∀ s', (∀ b o, s.heap.get? b = some o → s'.heap.get? b = some o) → s'.drawn = s.drawn → s'.os = s.os → s'.gens = s.gens → wpAny (model prog w) A (newList xs) (fun u s2 => Q [x, u] s2) E s') : wpAny (model prog w) A (unpackItems (.ref l) 2 (some 1)) Q E s := by
  have hlt : l ≠ s.heap.objs.size := by obtain ⟨o, ho, _⟩ := hl; exact Nat.ne_of_lt (Heap.lt_size ho)
  unfold unpackItems
  refine wpAny_bind ?_
  unfold notIterableAtAll
  refine wpAny_bind (wpAny_specialOf hl.typeIs slot_list_iter.lookup ?_)
  refine wpAny_pure ?_
  simp only [Bool.false_eq_true, if_false]
  refine wpAny_bind (wpAny_holding (wpAny_pyIter_list hl ?_))
  refine wpAny_bind (wpAny_holding (PySem.W.kun_draw hlt 1 0 _ _ ⟨_, Heap.get?_push_size _ rfl, rfl, rfl⟩ (hl.push _) (by simp) fun h₁ hit₁ hs₁ => ?_))
  have hall : List.take 1 (List.drop 0 (x :: xs).toArray.toList) = [x] := rfl
  rw [hall]
  have c1 : ¬ ([x].length < 1) := by simp
  simp only [c1, if_false]
  have hl₁ : h₁.IsList l (x :: xs).toArray := (hl.push _).extBut hs₁.extBut hlt
  have hsz1 : s.heap.objs.size < h₁.objs.size := by
    obtain ⟨o, ho, _⟩ := hit₁
    exact Heap.lt_size ho
  have W := walks_tail (Walks.list (prog := prog) (w := w) (A := A.in1) hh s.heap.objs.size l hlt (x :: xs).toArray).toS
  refine wpAny_bind (wpAny_holding (wpAny_collect_iter (T := "list_iterator") (.inr (.inr (.inl rfl))) W (fun i s' st => st.1.typeIs) ⟨hit₁, hl₁⟩ ?_ (by simp) (fun s' acc hm hi => ?_) hz))
  · intro b hb
    simp only [List.mem_cons, List.not_mem_nil, or_false] at hb
    rcases hb with rfl | rfl
    · exact hsz1
    · obtain ⟨o, ho, _⟩ := hl₁
      exact Heap.lt_size ho
  have hacc : acc.toList = xs := by
    obtain ⟨h1, h2⟩ := hi
    apply List.ext_getElem?
    intro j
    by_cases hj : j < acc.size
    · have e1 : acc[j]? = some acc[j] := by simp [hj]
      have e2 := h2 j _ e1
      simp only [List.getElem?_toArray, List.getElem?_cons_succ] at e2
      rw [e2, Array.getElem?_toList, e1]
    · have h1 : acc.size = xs.length := by simpa using h1
      rw [List.getElem?_eq_none (by simp; omega), List.getElem?_eq_none (by omega)]
  rw [hacc]
  have c2 : ¬ (xs.length < 2 - 1 - 1) := by simp
  simp only [c2, if_false]
  have t1 : xs.take (xs.length - (2 - 1 - 1)) = xs := by simp
  have t2 : xs.drop (xs.length - (2 - 1 - 1)) = [] := by simp
  rw [t1, t2]
  refine wpAny_bind (wpAny_mono (hQ s' (fun b o e => hm.heap b o (by
    simp only [List.mem_cons, List.not_mem_nil, or_false]
    exact Nat.ne_of_lt (Heap.lt_size e)) (hs₁.extBut b o (Nat.ne_of_lt (Heap.lt_size e)) (Heap.get?_push_of_some _ e))) hm.drawn hm.os hm.gens) (fun u s2 h => ?_) fun _ _ h => h)
  exact wpAny_pure h
def gStar (K : PySem.W.Frag) (t : TGs) : TG := fun v σ H Q => ∃ a x xs, v = .ref a ∧ SqL K H a (x :: xs) ∧ ∀ p, H p = none → t [x, .ref p] σ (upd H p (.lst xs)) Q
theorem pg_star {X : Cx} {pos p2 : Pos} {e1 e2 : Expr} {k : Nat} {t : TGs} (hc : X.calm = true) (h : PGs X [e1, e2] t)
    (hn : (assignEach [e1, .Starred e2 p2] X.env).length = 2 := by rfl) (hst : (assignEach [e1, .Starred e2 p2] X.env).findIdx? (·.1) = some 1 := by rfl) (hm : (assignEach [e1, .Starred e2 p2] X.env).map (·.2) = (assignEach [e1, e2] X.env).map (·.2) := by rfl) : PG X (.Tuple [e1, .Starred e2 p2] k pos) (gStar X.K t) := by
  refine ⟨fun pins s σ H v u Q I r hw => ?_⟩
  obtain ⟨a, x, xs, e1, hq, hw⟩ := hw
  subst e1
  cases r
  obtain ⟨its, rv, pl, hz⟩ := I.list hq
  cases rv with
  | cons r0 rr =>
    rename_i u0 us
    have hz' : us.length ≤ sizeLine := Nat.le_trans (Nat.le_succ _) (by have := rr.length; simp only [List.length_cons] at hz; omega)
    rw [PyProof.Rows.assign_Tuple]
    refine wpAny_bind (wpAny_standAt ?_)
    unfold unpack
    rw [hn, hst, hm]
    refine wpAny_bind (wpAny_holding (items_star (I.ok.hd hc) pl.isList hz' fun s' hk hd ho hg => wpAny_newList ?_ hz'))
    obtain ⟨h', g', d', t', o'⟩ := s'
    obtain ⟨h0, g0, d0, t0, o0⟩ := s
    cases hd; cases ho; cases hg
    have I1 := I.kept (t' := t') hk
    have hf : H h'.objs.size = none := I1.hok.fresh (Nat.le_refl _)
    have I2 := I1.laid (a := h'.objs.size) (o := .lst xs) (t' := t') (fun b u e => Heap.get?_push_of_some _ e) (Nat.le_refl _) ⟨by rw [rr.length]; exact hz', us, 0, rr, Heap.get?_push_size _ rfl⟩
    exact h.run pins _ σ _ _ _ Q I2 (.cons r0 (.cons (show L2.RelV (.ref h'.objs.size) (.ref h'.objs.size) from rfl) .nil)) (hw _ hf)
end V2


namespace V2
open PySem L2
open PySem.Spec PyProof.Rows
abbrev rJoin (K : PySem.W.Frag) : V → List V → Hp → VK → Prop := fun x xs H Q => ∃ a p, ∃ ys : List Str, x = .str a ∧ xs = [.ref p] ∧ (SqL K H p (ys.map V.str) ∨ SqT K H p (ys.map V.str)) ∧ (ys.map (·.length)).sum + ys.length * a.length ≤ 16777216 ∧ Q (.str (Txt.join a ys)) H
theorem blkOk_none {N : List Str} {sc scope : Scope} {own : List (Str × Nat)} (sc0 : Scope) (h0 : sc0.names = []) (h : blkC N sc0 scope own = true) : BlkOk N sc scope own := by
  have b := blkOk_by h
  refine ⟨b.kind, b.uniq, b.ix, fun y hy e => ?_, b.own⟩
  have := b.free y hy e
  rw [h0] at this
  rcases this with h | h <;> cases h
theorem lc_strs {K : PySem.W.Frag} {a D : Addr} {xs : List V} {j : Nat} {te : TE} {σ : L2.St} {H1 : Hp} {Qd : Hp → Prop} (ys : List Str) (el : ys.length = xs.length) (sz : ys.length ≤ 100000) (hD : H1 D = none) (ha : H1 a = some (.lst xs))
    (hw : ∀ x : V, wipe ((wipe σ [j]).set j (some x)) [j] = wipe σ [j])
    (hs : ∀ (i : Nat) (x : V) (y : Str) (H' : Hp) (Q : VK), xs[i]? = some x → ys[i]? = some y → Evl.Ex H1 H' → (∀ H2, Evl.Ex H' H2 → Q (.str y) H2) → te ((wipe σ [j]).set j (some x)) H' Q)
    (hd : ∀ H', Evl.Ex H1 H' → H' D = some (.lst (ys.map V.str)) → Qd H') :
    ∃ W : Nat → Nat → Hp → Prop, (∃ m, W 0 m (upd H1 D (.lst []))) ∧ ∀ i m H, W i m H →
      ((Itl K a).stop i H ∧ Qd H) ∨ ((Itl K a).go i H ∧ ∃ Nx : Hp → Prop, (∀ H', Nx H' → ∃ m', m' < m ∧ W (i + 1) m' H') ∧ ∀ x H', (Itl K a).yld i H x H' → gName j x (wipe σ [j]) H' fun σ2 H2 => wipe σ2 [j] = wipe σ [j] ∧ tYes σ2 H2 fun b H3 =>
        if b = true then te σ2 H3 fun y H4 => ∃ acc, H4 D = some (.lst acc) ∧ acc.length < sizeLine ∧ Nx (upd H4 D (.lst (acc ++ [y]))) else Nx H3) := by
  refine lc_list (xs := xs) (fun i H' => Evl.Ex H1 H' ∧ H' D = some (.lst ((ys.take i).map V.str))) ⟨Evl.Ex.new hD, upd_same⟩ (fun i H' _ q => SqL.of (q.1 _ _ ha)) ?_ ?_
  · rintro i x H' hi ⟨e1, h1⟩
    refine ⟨hw x, ?_⟩
    have li : i < xs.length := by
      by_cases h : i < xs.length
      · exact h
      · rw [List.getElem?_eq_none (by omega)] at hi; cases hi
    obtain ⟨y, hy⟩ : ∃ y, ys[i]? = some y := ⟨_, List.getElem?_eq_getElem (by omega)⟩
    refine hs i x y H' _ hi hy e1 fun H2 e2 => ⟨_, e2 _ _ h1, ?_, Evl.Ex.mut (e1.trans e2) hD, ?_⟩
    · rw [List.length_map, List.length_take]
      exact Nat.lt_of_le_of_lt (show min i ys.length ≤ 100000 by omega) (by decide)
    · rw [upd_same, List.take_add_one, hy, List.map_append]
      rfl
  · rintro H' ⟨e1, h1⟩
    rw [← el, List.take_length] at h1
    exact hd H' e1 h1
theorem lc_strsT {K : PySem.W.Frag} {a D : Addr} {xs : List V} {j : Nat} {te : TE} {σ : L2.St} {H1 : Hp} {Qd : Hp → Prop} (ys : List Str) (el : ys.length = xs.length) (sz : ys.length ≤ 100000) (hD : H1 D = none) (ha : H1 a = some (.tup xs))
    (hw : ∀ x : V, wipe ((wipe σ [j]).set j (some x)) [j] = wipe σ [j])
    (hs : ∀ (i : Nat) (x : V) (y : Str) (H' : Hp) (Q : VK), xs[i]? = some x → ys[i]? = some y → Evl.Ex H1 H' → (∀ H2, Evl.Ex H' H2 → Q (.str y) H2) → te ((wipe σ [j]).set j (some x)) H' Q)
    (hd : ∀ H', Evl.Ex H1 H' → H' D = some (.lst (ys.map V.str)) → Qd H') :
    ∃ W : Nat → Nat → Hp → Prop, (∃ m, W 0 m (upd H1 D (.lst []))) ∧ ∀ i m H, W i m H →
      ((Itt K a).stop i H ∧ Qd H) ∨ ((Itt K a).go i H ∧ ∃ Nx : Hp → Prop, (∀ H', Nx H' → ∃ m', m' < m ∧ W (i + 1) m' H') ∧ ∀ x H', (Itt K a).yld i H x H' → gName j x (wipe σ [j]) H' fun σ2 H2 => wipe σ2 [j] = wipe σ [j] ∧ tYes σ2 H2 fun b H3 =>
        if b = true then te σ2 H3 fun y H4 => ∃ acc, H4 D = some (.lst acc) ∧ acc.length < sizeLine ∧ Nx (upd H4 D (.lst (acc ++ [y]))) else Nx H3) := by
  refine lc_tup (xs := xs) (fun i H' => Evl.Ex H1 H' ∧ H' D = some (.lst ((ys.take i).map V.str))) ⟨Evl.Ex.new hD, upd_same⟩ (fun i H' _ q => SqT.of (q.1 _ _ ha)) ?_ ?_
  · rintro i x H' hi ⟨e1, h1⟩
    refine ⟨hw x, ?_⟩
    have li : i < xs.length := by
      by_cases h : i < xs.length
      · exact h
      · rw [List.getElem?_eq_none (by omega)] at hi; cases hi
    obtain ⟨y, hy⟩ : ∃ y, ys[i]? = some y := ⟨_, List.getElem?_eq_getElem (by omega)⟩
    refine hs i x y H' _ hi hy e1 fun H2 e2 => ⟨_, e2 _ _ h1, ?_, Evl.Ex.mut (e1.trans e2) hD, ?_⟩
    · rw [List.length_map, List.length_take]
      exact Nat.lt_of_le_of_lt (show min i ys.length ≤ 100000 by omega) (by decide)
    · rw [upd_same, List.take_add_one, hy, List.map_append]
      rfl
  · rintro H' ⟨e1, h1⟩
    rw [← el, List.take_length] at h1
    exact hd H' e1 h1
def dTh : Deed → List Thg
  | .op ks => [.str "open", .lst ks]
  | .po k a => [.str "pour", .int k, .int a]
  | .sc k p q => [.str "scoop", .int k, .fr p q]
  | .mv k m p q => [.str "move", .int k, .int m, .fr p q]
  | .un k m => [.str "unless", .int k, .int m]
def dT (d : Deed) : Str := Txt.join " " ((dTh d).map thT)
def tksT (ts : List Tk) : Str := Txt.join ", " (ts.map tkT)
def scT (ts : List Tk) (ds : List Deed) : Str := Txt.join "; " (tksT ts :: ds.map dT)
theorem dD_dTh (d : Deed) : dD d = .tuple ((dTh d).map thD) := by cases d <;> rfl
theorem len_app (x y : Str) : (x ++ y).length = x.length + y.length := by rw [TL.len_tl, TL.tl_append, List.length_append, ← TL.len_tl, ← TL.len_tl]
theorem joinL_len (y : List Nat) : ∀ ps : List (List Nat), (TL.joinL y ps).length ≤ (ps.map List.length).sum + ps.length * y.length
  | [] => Nat.zero_le _
  | [p] => by
    show p.length ≤ _
    simp only [List.map_cons, List.map_nil, List.sum_cons, List.sum_nil, List.length_cons, List.length_nil]
    omega
  | p :: q :: ps => by
    have ih := joinL_len y (q :: ps)
    show (p ++ (y ++ TL.joinL y (q :: ps))).length ≤ _
    rw [List.length_append, List.length_append]
    simp only [List.map_cons, List.sum_cons, List.length_cons] at ih ⊢
    have e : (ps.length + 1 + 1) * y.length = (ps.length + 1) * y.length + y.length := by rw [Nat.succ_mul]
    omega
theorem join_len (y : Str) (ps : List Str) : (Txt.join y ps).length ≤ (ps.map (·.length)).sum + ps.length * y.length := by
  rw [TL.join_eq, TL.len_tl, TL.tl_join]
  have := joinL_len (TL.tl y) (ps.map TL.tl)
  rw [List.length_map, List.map_map] at this
  have e : (ps.map (List.length ∘ TL.tl)) = ps.map (·.length) := List.map_congr_left fun p _ => (TL.len_tl p).symm
  rw [e, ← TL.len_tl] at this
  exact this
theorem sum_le {B : Nat} : ∀ {ps : List Str}, (∀ p ∈ ps, p.length ≤ B) → (ps.map (·.length)).sum ≤ ps.length * B
  | [], _ => Nat.zero_le _
  | p :: ps, h => by
    have h1 := sum_le (ps := ps) fun q hq => h q (List.mem_cons_of_mem _ hq)
    have h2 := h p List.mem_cons_self
    simp only [List.map_cons, List.sum_cons, List.length_cons]
    rw [Nat.succ_mul]
    omega
/-- numbers in bounds -/
def TkSm (t : Tk) : Prop := (∀ z, t.1 = some z → Sm z) ∧ Sm t.2
theorem tkT_len {t : Tk} (h : TkSm t) : (tkT t).length ≤ 24 := by
  obtain ⟨tw, ta⟩ := t
  have l1 : (nT ta).length ≤ 10 := nT_len (by have := h.2; unfold Sm at this; omega)
  have l2 : ((" in " : Str)).length = 4 := rfl
  have l3 : (("w" : Str)).length = 1 := rfl
  unfold tkT
  rw [len_app, len_app]
  cases tw with
  | none => show (nT ta).length + _ + (("w" : Str)).length ≤ 24; omega
  | some z =>
    have l4 : (nT z).length ≤ 10 := nT_len (by have := h.1 z rfl; unfold Sm at this; omega)
    show (nT ta).length + _ + (nT z).length ≤ 24
    omega
theorem thT_len {t : Thg} (h : OkTh t) : (thT t).length ≤ 220 := by
  cases t with
  | str x => have h : x.length ≤ 10 := h; show x.length ≤ 220; omega
  | int n => have := nT_len (n := n) (by have : Sm n := h; unfold Sm at this; omega); show (nT n).length ≤ 220; omega
  | fr p q =>
    have l1 := nT_len (n := p) (by have : Sm p := h.1; unfold Sm at this; omega)
    have l2 := nT_len (n := q) (by have : Sm q := h.2; unfold Sm at this; omega)
    have := join_len "/" [nT p, nT q]
    have l3 : (("/" : Str)).length = 1 := rfl
    show (Txt.join "/" [nT p, nT q]).length ≤ 220
    simp only [List.map_cons, List.map_nil, List.sum_cons, List.sum_nil, List.length_cons, List.length_nil] at this
    omega
  | lst ks =>
    have h1 := join_len "," (ks.map nT)
    have h2 := sum_nT h.2
    have h3 := h.1
    have l3 : (("," : Str)).length = 1 := rfl
    show (Txt.join "," (ks.map nT)).length ≤ 220
    rw [List.length_map, l3] at h1
    omega
def DSm (d : Deed) : Prop := ∀ t ∈ dTh d, OkTh t
theorem dTh_len (d : Deed) : (dTh d).length ≤ 4 := by cases d <;> simp [dTh]
theorem dT_len {d : Deed} (h : DSm d) : (dT d).length ≤ 900 := by
  have h1 := join_len " " ((dTh d).map thT)
  have h2 := sum_le (B := 220) (ps := (dTh d).map thT) (fun p hp => by
    obtain ⟨t, ht, rfl⟩ := List.mem_map.mp hp
    exact thT_len (h t ht))
  have h3 := dTh_len d
  have l3 : ((" " : Str)).length = 1 := rfl
  rw [List.length_map] at h1 h2
  have h4 : (dTh d).length * 220 ≤ 880 := Nat.le_trans (Nat.mul_le_mul_right 220 h3) (by decide)
  show (Txt.join " " ((dTh d).map thT)).length ≤ 900
  rw [l3] at h1
  omega
theorem tksT_len {ts : List Tk} (h : ∀ t ∈ ts, TkSm t) (h20 : ts.length ≤ 20) : (tksT ts).length ≤ 600 := by
  have h1 := join_len ", " (ts.map tkT)
  have h2 := sum_le (B := 24) (ps := ts.map tkT) (fun p hp => by
    obtain ⟨t, ht, rfl⟩ := List.mem_map.mp hp
    exact tkT_len (h t ht))
  have l3 : ((", " : Str)).length = 2 := rfl
  rw [List.length_map] at h1 h2
  show (Txt.join ", " (ts.map tkT)).length ≤ 600
  rw [l3] at h1
  omega
theorem sum_deeds {ds : List Deed} (h : ∀ d ∈ ds, DSm d) : ((ds.map dT).map (·.length)).sum ≤ ds.length * 900 := by
  have := sum_le (B := 900) (ps := ds.map dT) (fun p hp => by
    obtain ⟨t, ht, rfl⟩ := List.mem_map.mp hp
    exact dT_len (h t ht))
  rw [List.length_map] at this
  exact this
/-- the things of a step stand in its tuple -/
theorem dq_things {H : Hp} {v : V} {d : Deed} (h : Dq H v (dD d)) : ∃ a vs, v = .ref a ∧ H a = some (.tup vs) ∧ DqAll H vs ((dTh d).map thD) := by
  rw [dD_dTh] at h
  cases h with
  | tup hl hA => exact ⟨_, _, rfl, hl, hA⟩
theorem dqAll_get {H : Hp} : ∀ {vs : List V} {ds : List PyData} {i : Nat} {x : V}, DqAll H vs ds → vs[i]? = some x → ∃ d, ds[i]? = some d ∧ Dq H x d
  | [], _, i, x, _, h => by cases h
  | v :: vs, [], i, x, q, h => by cases q
  | v :: vs, d :: ds, 0, x, q, h => by cases h; cases q with | cons a b => exact ⟨_, rfl, a⟩
  | v :: vs, d :: ds, i + 1, x, q, h => by cases q with | cons a b => exact dqAll_get (i := i) b h
theorem dqAll_len {H : Hp} : ∀ {vs : List V} {ds : List PyData}, DqAll H vs ds → vs.length = ds.length
  | _, _, .nil => rfl
  | _, _, .cons a b => by rw [List.length_cons, List.length_cons, dqAll_len b]
section
variable {base : Heap} {mg : Str → Option Value} {K : PySem.W.Frag} {w : World} {P : Program} {C fI fT fS pT pS : Addr}
end
end V2


namespace V2
open PySem L2
open PySem.Spec PyProof.Rows
abbrev rStr3 : TE := fun σ H Q => (tCons (tVar 3) tNil) σ H fun xs H1 => ∃ i : Int, xs = [.int i] ∧ i.natAbs.log2 < 1920 ∧ Q (.str (nT i)) H1
def pT (ns : List Int) : Str := if ns = [] then "0" else Txt.join " " (ns.map nT)
def spStT : Sp := fun vs H Q _ => ∃ (a : Addr) (d : Deed), vs = [.ref a] ∧ Dq H (.ref a) (dD d) ∧ DSm d ∧ Evl.RetV (.str (dT d)) H Q
def spScT : Sp := fun vs H Q _ => ∃ (q a b : Addr) (ts : List Tk) (ds : List Deed), vs = [.ref q] ∧ H q = some (.tup [.ref a, .ref b]) ∧ Dq H (.ref a) (.list (ts.map tkD)) ∧ Dq H (.ref b) (.list (ds.map dD)) ∧ ts.length ≤ 100 ∧ ds.length ≤ 100 ∧ (∀ t ∈ ts, TkSm t) ∧ (∀ d ∈ ds, DSm d) ∧ Evl.RetV (.str (scT ts ds)) H Q
theorem dTh_hd (d : Deed) : ∃ x r, dTh d = .str x :: r ∧ (∀ t ∈ r, ∀ y, t ≠ .str y) ∧ r ≠ [] := by
  cases d <;> exact ⟨_, _, rfl, fun t ht y => by
    simp only [List.mem_cons, List.not_mem_nil, or_false] at ht
    rcases ht with rfl | ht <;> first | (intro h; cases h; done) | (rcases ht with rfl | ht <;> first | (intro h; cases h; done) | (rcases ht with rfl | ht <;> first | (intro h; cases h; done) | cases ht) | (subst ht; intro h; cases h)) | (subst ht; intro h; cases h), by simp⟩
theorem log_sm {n : Int} (h : n.natAbs ≤ 999999999) : n.natAbs.log2 < 1920 := by
  have h30 : n.natAbs < 2 ^ 30 := Nat.lt_of_le_of_lt h (by decide)
  exact Nat.lt_of_lt_of_le (PySem.Flt.log2_lt_of (by decide) h30) (by decide)
section
variable {base : Heap} {mg : Str → Option Value} {K : PySem.W.Frag} {w : World} {P : Program} {C fI fT fS pT pS : Addr}
theorem ok_l_step_text {f : Addr} {fd : FuncData} (F : Fun K "_law_step_text" "_law_step_text" s_l_step_text f fd) (mIs : mg "isinstance" = none) (mS : mg "str" = none) (mLs : mg "list" = none) (mTu : mg "tuple" = none) : FnOk P w K mg base CX0 1 f fd p_l_step_text spStT := by
  refine F.ok sc_l_step_text (fun vs H Q E h => ?_) (fun cdv A outer s H vs Q E hr h => ?_)
  · obtain ⟨a, d, rfl, _⟩ := h
    rfl
  · obtain ⟨a, d, rfl, hd, sm, k⟩ := h
    have nd := sc_l_step_text.nd
    refine ⟨_, pss_cons (ps_set (i := 1) nd rfl (Or.inl rfl) (pe_lst (pa_cons (pe_ix ix_tup (pv 0) pe_int (fun _ _ => rfl)) pa_nil)))
      (pss_cons (ps_for PassesOwn.never rfl (pi_tup (pe_slice sl_tup (pv 0) (po_some pe_int) po_none)) (pg_name (i := 2) nd rfl (Or.inl rfl)) (pss_one (ps_if (pt_val (pe_callB call_isi (by rfl) mIs (by decide +kernel) (pa_cons (pv 2) (pa_cons (pe_bltn (v := .ty "list") (by rfl) mLs (by decide +kernel) rfl) pa_nil)))) (pss_one (ps_expr (pe_bm PySem.F.plainAttrs_list PySem.F.slot_list_append PySem.F.type_list_append mt_append (pv 1) (pa_cons (pe_join pe_str (pe_lc (own := [("tank_here", 3)]) (g := gName 3) (tt := tYes) (te := rStr3) rfl nd (pi_list (pv 2)) (blkOk_by (N := n_l_step_text) (sc := defScope s_l_step_text) (by decide +kernel)) (fun _ _ _ _ _ => pg_name (i := 3) nd rfl (Or.inl rfl)) (fun _ _ _ _ _ => pts_nil) (fun _ _ _ _ _ => (pe_callTy call_str_int (by rfl) mS (by decide +kernel) (pa_cons (pv 3) pa_nil))))) pa_nil)))) (pss_one (ps_if (pt_val (pe_callB call_isi (by rfl) mIs (by decide +kernel) (pa_cons (pv 2) (pa_cons (pe_bltn (v := .ty "tuple") (by rfl) mTu (by decide +kernel) rfl) pa_nil)))) (pss_one (ps_expr (pe_bm PySem.F.plainAttrs_list PySem.F.slot_list_append PySem.F.type_list_append mt_append (pv 1) (pa_cons (pe_op op_add_str (pe_op op_add_str (pe_callTy call_str_int (by rfl) mS (by decide +kernel) (pa_cons (pe_ix ix_tup (pv 2) pe_int (fun _ _ => rfl)) pa_nil)) pe_str) (pe_callTy call_str_int (by rfl) mS (by decide +kernel) (pa_cons (pe_ix ix_tup (pv 2) pe_int (fun _ _ => rfl)) pa_nil))) pa_nil)))) (pss_one (ps_expr (pe_bm PySem.F.plainAttrs_list PySem.F.slot_list_append PySem.F.type_list_append mt_append (pv 1) (pa_cons (pe_callTy call_str_int (by rfl) mS (by decide +kernel) (pa_cons (pv 2) pa_nil)) pa_nil)))))))))
      (pss_one (ps_ret (pe_join pe_str (pv 1))))), ?_⟩
    obtain ⟨x, r, hx, hno, hne⟩ := dTh_hd d
    have h4 := dTh_len d
    have smr : ∀ t ∈ r, OkTh t := fun t ht => sm t (by rw [hx]; exact List.mem_cons_of_mem _ ht)
    have lr : r.length ≤ 3 := by rw [hx, List.length_cons] at h4; omega
    obtain ⟨a', vs, e, ha, hV⟩ := dq_things hd
    cases e
    rw [hx] at hV
    cases hV with
    | cons h1 hV =>
      cases h1
      rename_i vr
      have kr := dqAll_len hV
      rw [List.length_map] at kr
      have ner : vr ≠ [] := fun h => hne (by rw [h] at kr; exact List.eq_nil_of_length_eq_zero kr.symm)
      refine ⟨_, rfl, a, _, _, _, rfl, rfl, SqT.of ha, atI_nat (j := 0) rfl, by show 1 ≤ sizeLine; decide, fun D hD => ?_⟩
      have e1 := Evl.Ex.new (o := .lst [.str x]) hD
      have g1 := upd_same (H := H) (a := D) (o := .lst [.str x])
      generalize upd H D (.lst [.str x]) = H1 at e1 g1
      refine ⟨_, rfl, 1, rfl, a, _, rfl, SqT.of (e1 _ _ ha), ?_, fun p hp => ?_⟩
      · rintro ⟨h, _⟩
        have : HT.sIx (V.str x :: vr).length 0 (some ((1 : Nat) : Int)) = min 1 (V.str x :: vr).length := HT.sIx_nat ..
        have h : HT.sIx (V.str x :: vr).length 0 (some ((1 : Nat) : Int)) = 0 := h
        rw [this, List.length_cons] at h
        omega
      have hcut : cutV (V.str x :: vr) (some 1) none = vr := by
        show ((V.str x :: vr).drop (HT.sIx _ 0 (some ((1 : Nat) : Int)))).take _ = vr
        rw [HT.sIx_nat, HT.sIx_none, List.length_cons, Nat.min_eq_left (show 1 ≤ vr.length + 1 by omega)]
        show vr.take (vr.length + 1 - 1) = vr
        exact List.take_of_length_le (by omega)
      rw [hcut]
      have e2 := Evl.Ex.new (o := .tup vr) hp
      have g2 := upd_same (H := H1) (a := p) (o := .tup vr)
      have g12 := e2 _ _ g1
      generalize upd H1 p (.tup vr) = H2 at e2 g2 g12
      have e02 := e1.trans e2
      refine ⟨p, rfl, ⟨_, SqT.of g2⟩, for_tup (xs := vr) (fun i σ H' => ∃ v2, σ = [some (.ref a), some (.ref D), v2, none] ∧ Evl.Ex H H' ∧ H' p = some (.tup vr) ∧ H' D = some (.lst ((x :: (r.take i).map thT).map V.str))) ⟨none, rfl, e02, g2, g12⟩ (fun i σ H' _ q => by obtain ⟨_, _, _, q, _⟩ := q; exact SqT.of q) ?_ ?_⟩
      · rintro i y σ H3 hi ⟨v2, rfl, e3, gp, gD⟩
        obtain ⟨td, htd, hq⟩ := dqAll_get hV hi
        rw [List.getElem?_map] at htd
        cases ht : r[i]? with
        | none => rw [ht] at htd; cases htd
        | some t =>
          rw [ht] at htd
          cases htd
          have ot := smr t (List.mem_of_getElem? ht)
          have hy := hq.go e3
          have more : ∀ H4, Evl.Ex H3 H4 → Evl.Ex H (upd H4 D (.lst ((x :: (r.take i).map thT).map V.str ++ [.str (thT t)]))) ∧ upd H4 D (.lst ((x :: (r.take i).map thT).map V.str ++ [.str (thT t)])) p = some (.tup vr) ∧ upd H4 D (.lst ((x :: (r.take i).map thT).map V.str ++ [.str (thT t)])) D = some (.lst ((x :: (r.take (i + 1)).map thT).map V.str)) := fun H4 e4 => by
            refine ⟨Evl.Ex.mut (e3.trans e4) hD, ?_, ?_⟩
            · rw [upd_ne (fun h => by rw [h, gD] at gp; cases gp)]
              exact e4 _ _ gp
            · rw [upd_same, List.take_add_one, ht]
              simp
          have lenD : ((x :: (r.take i).map thT).map V.str).length < sizeLine := by
            rw [List.length_map, List.length_cons, List.length_map, List.length_take]
            exact Nat.lt_of_le_of_lt (show min i r.length + 1 ≤ 4 by omega) (by decide)
          cases t with
          | str z => exact absurd rfl (hno _ (List.mem_of_getElem? ht) z)
          | int n =>
            cases hy
            refine ⟨_, rfl, _, _, _, _, false, rfl, .ty "list", .base (.int n), kit_ty (by decide +kernel), false, rfl, if_f rfl ⟨_, rfl, _, _, _, _, false, rfl, .ty "tuple", .base (.int n), kit_ty (by decide +kernel), false, rfl, if_f rfl ?_⟩⟩
            have hn : n.natAbs ≤ 999999999 := by have : Sm n := ot; unfold Sm at this; omega
            obtain ⟨m1, m2, m3⟩ := more H3 (Evl.Ex.refl _)
            exact ⟨_, rfl, .inl ⟨rfl, _, SqL.of gD⟩, _, rfl, n, rfl, log_sm hn, D, _, _, rfl, rfl, gD, lenD, _, rfl, m1, m2, m3⟩
          | fr u b =>
            obtain ⟨l, rfl, hf⟩ := dq_fr1 (f := (u, b)) hy
            have hf : H3 l = some (.tup [.int u, .int b]) := hf
            have hu : u.natAbs ≤ 999999999 := by have : Sm u := ot.1; unfold Sm at this; omega
            have hb : b.natAbs ≤ 999999999 := by have : Sm b := ot.2; unfold Sm at this; omega
            refine ⟨_, rfl, _, _, _, _, false, rfl, .ty "list", .base (.tup hf), kit_ty (by decide +kernel), false, rfl, if_f rfl ⟨_, rfl, _, _, _, _, true, rfl, .ty "tuple", .base (.tup hf), kit_ty (by decide +kernel), true, rfl, if_t rfl ?_⟩⟩
            have lu := nT_len hu
            have lb := nT_len hb
            have l3 : (("/" : Str)).length = 1 := rfl
            obtain ⟨m1, m2, m3⟩ := more H3 (Evl.Ex.refl _)
            have ej : nT u ++ "/" ++ nT b = thT (.fr u b) := by
              refine tl_inj1 ?_
              show _ = TL.tl (Txt.join "/" [nT u, nT b])
              rw [TL.join_eq, TL.tl_join, TL.tl_append, TL.tl_append, List.append_assoc]
              rfl
            refine ⟨_, rfl, .inl ⟨rfl, _, SqL.of gD⟩, _, rfl, l, _, _, _, rfl, rfl, SqT.of hf, rfl, u, rfl, log_sm hu, _, _, rfl, rfl, Nat.le_trans (show (nT u).length + (("/" : Str)).length ≤ 20 by omega) (by decide), _, rfl, l, _, _, _, rfl, rfl, SqT.of hf, rfl, b, rfl, log_sm hb, _, _, rfl, rfl, ?_, D, _, _, rfl, rfl, gD, lenD, ?_⟩
            · rw [len_app]
              exact Nat.le_trans (show (nT u).length + (("/" : Str)).length + (nT b).length ≤ 30 by omega) (by decide)
            rw [← ej] at m1 m2 m3
            exact ⟨_, rfl, m1, m2, m3⟩
          | lst ks =>
            cases hy with
            | lst hl hA =>
              rename_i l xs
              have := dq_ints hA
              subst this
              refine ⟨_, rfl, _, _, _, _, true, rfl, .ty "list", .base (.lst hl), kit_ty (by decide +kernel), true, rfl, if_t rfl ⟨_, rfl, .inl ⟨rfl, _, SqL.of gD⟩, ⟨_, rfl⟩, ?_⟩⟩
              have ok1 := ot.1
              refine ⟨_, rfl, l, rfl, ⟨_, SqL.of hl⟩, fun D2 hD2 => lc_strs (ks.map nT) (by rw [List.length_map, iV_len]) (by rw [List.length_map]; omega) hD2 hl (fun _ => rfl) (fun i y z H5 Q' hi hz e5 k' => ?_) (fun H5 e5 h5 => ?_)⟩
              · obtain ⟨n, hn, rfl⟩ := iV_get hi
                rw [List.getElem?_map, hn] at hz
                cases hz
                have okn := ot.2 n (List.mem_of_getElem? hn)
                exact ⟨_, rfl, n, rfl, log_sm (by unfold Sm at okn; omega), k' _ (Evl.Ex.refl _)⟩
              obtain ⟨m1, m2, m3⟩ := more H5 e5
              refine ⟨",", D2, ks.map nT, rfl, rfl, .inl (SqL.of h5), ?_, D, _, _, rfl, rfl, e5 _ _ gD, lenD, _, rfl, m1, m2, m3⟩
              have a1 := sum_nT ot.2
              have a3 : (("," : Str)).length = 1 := rfl
              rw [List.length_map, a3]
              omega
      · rintro σ H3 ⟨v2, rfl, e3, gp, gD⟩
        rw [kr, List.take_length] at gD
        refine ⟨⟨_, rfl⟩, _, rfl, " ", D, x :: r.map thT, rfl, rfl, .inl (SqL.of gD), ?_, ?_⟩
        · have hs := sum_le (B := 220) (ps := (dTh d).map thT) (fun p hp => by
            obtain ⟨t, ht, rfl⟩ := List.mem_map.mp hp
            exact thT_len (sm t ht))
          have l3 : ((" " : Str)).length = 1 := rfl
          rw [hx] at hs
          have hs : ((x :: r.map thT).map (·.length)).sum ≤ ((x :: r.map thT)).length * 220 := hs
          have hl : (x :: r.map thT).length ≤ 4 := by rw [List.length_cons, List.length_map]; omega
          have h8 : (x :: r.map thT).length * 220 ≤ 880 := Nat.le_trans (Nat.mul_le_mul_right 220 hl) (by decide)
          rw [l3]
          omega
        have : dT d = Txt.join " " (x :: r.map thT) := by unfold dT; rw [hx]; rfl
        rw [← this]
        exact k _ e3
theorem ok_l_script_text {f : Addr} {fd : FuncData} (F : Fun K "_law_script_text" "_law_script_text" s_l_script_text f fd) (mS : mg "str" = none) (cSt : Cal P w K mg base 1 "_law_step_text" p_l_step_text spStT) : FnOk P w K mg base CX0 2 f fd p_l_script_text spScT := by
  refine F.ok sc_l_script_text (fun vs H Q E h => ?_) (fun cdv A outer s H vs Q E hr h => ?_)
  · obtain ⟨q, a, b, ts, ds, rfl, _⟩ := h
    rfl
  · obtain ⟨q, a, b, ts, ds, rfl, hq, ha, hb, l1, l2, tsm, dsm, k⟩ := h
    have nd := sc_l_script_text.nd
    have r1 : Room 1 _ := hr.mono (by decide)
    refine ⟨_, pss_cons (ps_set (i := 1) nd rfl (Or.inl rfl) (pe_lst pa_nil))
      (pss_cons (ps_for PassesOwn.never rfl (pi_list (pe_ix ix_tup (pv 0) pe_int (fun _ _ => rfl))) (pg_tup rfl (pgs_cons (pg_name (i := 2) nd rfl (Or.inl rfl)) (pgs_cons (pg_name (i := 3) nd rfl (Or.inl rfl)) pgs_nil))) (pss_cons (ps_set (i := 4) nd rfl (Or.inl rfl) (pe_ifExp (pt_cmp (pc_isN (pv 2))) pe_str (pe_callTy call_str_int (by rfl) mS (by decide +kernel) (pa_cons (pv 2) pa_nil))))
      (pss_one (ps_expr (pe_bm PySem.F.plainAttrs_list PySem.F.slot_list_append PySem.F.type_list_append mt_append (pv 1) (pa_cons (pe_op op_add_str (pe_op op_add_str (pe_callTy call_str_int (by rfl) mS (by decide +kernel) (pa_cons (pv 3) pa_nil)) pe_str) (pv 4)) pa_nil))))))
      (pss_cons (ps_setLc (i := 5) (own := [("step", 6)]) (g := (gName 6)) (tt := tYes) (te := (tCall spStT [] E0 (tCons (tVar 6) tNil))) rfl nd rfl rfl (sw_true rfl rfl rfl (by decide +kernel)) (pi_list (pe_ix ix_tup (pv 0) pe_int (fun _ _ => rfl))) (blkOk_by (N := n_l_script_text) (sc := defScope s_l_script_text) (by decide +kernel)) (fun _ _ _ _ _ => (pg_name (i := 6) nd rfl (Or.inl rfl))) (fun _ _ _ _ _ => pts_nil) (fun _ _ _ _ _ => (pe_c cSt r1 (pa_cons (pv 6) pa_nil))))
      (pss_one (ps_ret (pe_join pe_str (pe_op op_cat (pe_lst (pa_cons (pe_join pe_str (pv 1)) pa_nil)) (pv 5))))))), ?_⟩
    obtain ⟨a', e, as, g1, g2, g3⟩ := ha.tks
    cases e
    refine ⟨Nat.zero_le _, fun D hD => ?_⟩
    have e1 := Evl.Ex.new (o := .lst []) hD
    have gD1 := upd_same (H := H) (a := D) (o := .lst [])
    generalize upd H D (.lst []) = H1 at e1 gD1
    refine ⟨_, rfl, q, _, _, _, rfl, rfl, SqT.of (e1 _ _ hq), atI_nat (j := 0) rfl, a, rfl, ⟨_, SqL.of (e1 _ _ g1)⟩, for_list (xs := as.map V.ref) (fun i σ H' => ∃ v2 v3 v4, σ = [some (.ref q), some (.ref D), v2, v3, v4, none, none] ∧ Evl.Ex H H' ∧ H' D = some (.lst (((ts.take i).map tkT).map V.str))) ⟨none, none, none, rfl, e1, gD1⟩ (fun i σ H' _ q => by obtain ⟨_, _, _, _, q, _⟩ := q; exact SqL.of (q _ _ g1)) ?_ ?_⟩
    · rintro i y σ H2 hi ⟨v2, v3, v4, rfl, e2, gD⟩
      rw [List.getElem?_map] at hi
      cases hai : as[i]? with
      | none => rw [hai] at hi; cases hi
      | some x =>
        rw [hai] at hi
        cases hi
        have li : i < ts.length := by
          rw [← g2]
          by_cases h : i < as.length
          · exact h
          · rw [List.getElem?_eq_none (by omega)] at hai; cases hai
        have ht : ts[i]? = some ts[i] := List.getElem?_eq_getElem li
        generalize ts[i] = t at ht
        have hx := e2 _ _ (g3 i x t hai ht)
        obtain ⟨tw, ta⟩ := t
        have tm := tsm _ (List.mem_of_getElem? ht)
        have ta9 : ta.natAbs ≤ 999999999 := by have := tm.2; unfold Sm at this; omega
        have l1 := nT_len ta9
        have l2 : ((" in " : Str)).length = 4 := rfl
        have lenD : (((ts.take i).map tkT).map V.str).length < sizeLine := by
          rw [List.length_map, List.length_map, List.length_take]
          exact Nat.lt_of_le_of_lt (show min i ts.length ≤ 100 by omega) (by decide)
        refine ⟨x, _, rfl, SqT.of hx, rfl, _, _, rfl, _, _, rfl, rfl, ?_⟩
        have fin : upd H2 D (.lst (((ts.take i).map tkT).map V.str ++ [.str (tkT (tw, ta))])) D = some (.lst (((ts.take (i + 1)).map tkT).map V.str)) := by
          rw [upd_same, List.take_add_one, ht]
          simp
        have fin2 : Evl.Ex H (upd H2 D (.lst (((ts.take i).map tkT).map V.str ++ [.str (tkT (tw, ta))]))) := Evl.Ex.mut e2 hD
        cases tw with
        | none =>
          have l3 : (("w" : Str)).length = 1 := rfl
          refine ⟨_, rfl, _, rfl, if_t rfl ⟨_, rfl, .inl ⟨rfl, _, SqL.of gD⟩, _, rfl, ta, rfl, log_sm ta9, _, _, rfl, rfl, Nat.le_trans (show (nT ta).length + ((" in " : Str)).length ≤ 20 by omega) (by decide), _, rfl, _, _, rfl, rfl, ?_, D, _, _, rfl, rfl, gD, lenD, _, _, _, rfl, fin2, fin⟩⟩
          rw [len_app]
          exact Nat.le_trans (show (nT ta).length + ((" in " : Str)).length + (("w" : Str)).length ≤ 30 by omega) (by decide)
        | some z =>
          have z9 : z.natAbs ≤ 999999999 := by have := tm.1 z rfl; unfold Sm at this; omega
          have l3 := nT_len z9
          refine ⟨_, rfl, _, rfl, if_f rfl ⟨_, rfl, z, rfl, log_sm z9, _, rfl, .inl ⟨rfl, _, SqL.of gD⟩, _, rfl, ta, rfl, log_sm ta9, _, _, rfl, rfl, Nat.le_trans (show (nT ta).length + ((" in " : Str)).length ≤ 20 by omega) (by decide), _, rfl, _, _, rfl, rfl, ?_, D, _, _, rfl, rfl, gD, lenD, _, _, _, rfl, fin2, fin⟩⟩
          rw [len_app]
          exact Nat.le_trans (show (nT ta).length + ((" in " : Str)).length + (nT z).length ≤ 30 by omega) (by decide)
    · rintro σ H2 ⟨v2, v3, v4, rfl, e2, gD⟩
      rw [List.length_map, g2, List.take_length] at gD
      have hb2 := hb.go e2
      cases hb2 with
      | lst k1 hA =>
        rename_i vs
        have kl := dqAll_len hA
        rw [List.length_map] at kl
        refine ⟨_, rfl, q, _, _, _, rfl, rfl, SqT.of (e2 _ _ hq), atI_nat (j := 1) rfl, b, rfl, ⟨_, SqL.of k1⟩, fun D2 hD2 => lc_strs (ds.map dT) (by rw [List.length_map, kl]) (by rw [List.length_map]; omega) hD2 k1 (fun _ => rfl) (fun i y z H5 Q' hi hz e5 k' => ?_) (fun H5 e5 h5 => ?_)⟩
        · obtain ⟨dd, hdd, hq'⟩ := dqAll_get hA hi
          rw [List.getElem?_map] at hdd hz
          cases hd : ds[i]? with
          | none => rw [hd] at hdd; cases hdd
          | some d =>
            rw [hd] at hdd hz
            cases hdd; cases hz
            obtain ⟨x, ws, rfl, _, _⟩ := dq_things hq'
            exact ⟨_, rfl, x, d, rfl, hq'.go e5, dsm d (List.mem_of_getElem? hd), k'⟩
        have gD5 := e5 _ _ gD
        have l3 : ((", " : Str)).length = 2 := rfl
        have h24 := sum_le (B := 24) (ps := ts.map tkT) (fun p hp => by
          obtain ⟨t, ht, rfl⟩ := List.mem_map.mp hp
          exact tkT_len (tsm t ht))
        rw [List.length_map] at h24
        refine ⟨⟨_, rfl⟩, ⟨_, rfl⟩, _, rfl, ", ", D, ts.map tkT, rfl, rfl, .inl (SqL.of gD5), ?_, by show 1 ≤ sizeLine; decide, fun p hp => ?_⟩
        · rw [List.length_map (as := ts), l3]
          omega
        have e6 := Evl.Ex.new (o := .lst [.str (tksT ts)]) hp
        have g6 := upd_same (H := H5) (a := p) (o := .lst [.str (tksT ts)])
        have g5 := e6 _ _ h5
        refine ⟨_, rfl, p, D2, _, _, rfl, rfl, g6, g5, ?_, fun p3 hp3 => ?_⟩
        · rw [List.length_map, List.length_map]
          exact Nat.le_trans (show 1 + ds.length ≤ 101 by omega) (by decide)
        refine ⟨"; ", p3, tksT ts :: ds.map dT, rfl, rfl, .inl (SqL.of upd_same), ?_, k _ (((e2.trans e5).trans e6).trans (Evl.Ex.new hp3))⟩
        have h2 := sum_deeds dsm
        have l4 : (("; " : Str)).length = 2 := rfl
        have l5 := join_len ", " (ts.map tkT)
        simp only [List.map_cons, List.sum_cons, List.length_cons]
        rw [List.length_map (as := ds), l4]
        rw [List.length_map (as := ts), l3] at l5
        have l6 : (tksT ts).length ≤ 3000 := by show (Txt.join ", " (ts.map tkT)).length ≤ 3000; omega
        omega
end
end V2


namespace V2
open PySem L2
open PySem.Spec PyProof.Rows
theorem tl_size (x : Str) : x.cps.size = (TL.tl x).length := by rw [← TL.len_tl]; rfl
theorem starts1 (x : Str) (c : Nat) : Txt.startswith x ⟨#[c]⟩ = decide ((TL.tl x).head? = some c) := by
  have h := PySem.StrLaws.subAt_one x c 0
  have e : Txt.startswith x ⟨#[c]⟩ = true ↔ x.cps.toList[0]? = some c := by
    rw [← h]
    unfold Txt.startswith
    rw [Bool.and_eq_true, decide_eq_true_eq]
  have e2 : (TL.tl x).head? = x.cps.toList[0]? := by rw [List.head?_eq_getElem?]
  rw [e2]
  by_cases hc : x.cps.toList[0]? = some c
  · rw [decide_eq_true hc, e.mpr hc]
  · rw [decide_eq_false hc]
    cases hs : Txt.startswith x ⟨#[c]⟩ with
    | false => rfl
    | true => exact absurd (e.mp hs) hc
theorem cut1_tl (x : Str) : TL.tl (cutS x (some 1) none) = (TL.tl x).drop 1 := by
  show ((x.cps.toList.drop (HT.sIx x.length 0 (some ((1 : Nat) : Int)))).take (HT.sIx x.length x.length none - HT.sIx x.length 0 (some ((1 : Nat) : Int)))) = (TL.tl x).drop 1
  rw [HT.sIx_nat, HT.sIx_none]
  have hl : x.length = x.cps.toList.length := by rw [Array.length_toList]; rfl
  show (x.cps.toList.drop (min 1 x.length)).take (x.length - min 1 x.length) = x.cps.toList.drop 1
  by_cases h : 1 ≤ x.length
  · rw [Nat.min_eq_left h]
    exact List.take_of_length_le (by rw [List.length_drop, hl]; exact Nat.le_refl _)
  · have : x.cps.toList = [] := List.eq_nil_of_length_eq_zero (by omega)
    rw [this]; simp
/-- the digits of a number's text, its sign left out -/
def dgs (x : Str) : List Nat := if (TL.tl x).head? = some 45 then (TL.tl x).drop 1 else TL.tl x
def NumB (x : Str) : Bool := decide (dgs x ≠ []) && decide ((dgs x).length ≤ 9) && (dgs x).all (fun c => decide (48 ≤ c ∧ c ≤ 57)) && (decide ((dgs x).head? ≠ some 48) || decide (TL.tl x = [48]))
theorem numL_val_inv {l : List Nat} (h : NumText.AllDigits l) (h0 : l ≠ []) (hz : l.head? ≠ some 48 ∨ l = [48]) : TL.numL (NumText.digitsVal l) = l := by
  have hh : l.length - 1 = 0 ∨ ∃ c r, l = c :: r ∧ 49 ≤ c := by
    cases l with
    | nil => exact absurd rfl h0
    | cons c r =>
      rcases hz with hz | hz
      · refine .inr ⟨c, r, rfl, ?_⟩
        have := h.head
        have : c ≠ 48 := fun e => hz (by rw [e]; rfl)
        omega
      · rw [hz]; exact .inl rfl
  have hlen : l.length = (l.length - 1) + 1 := by
    have : l.length ≠ 0 := fun e => h0 (List.eq_nil_of_length_eq_zero e)
    omega
  have := NumText.toDigits_digitsVal (l.length - 1) l hlen h hh
  unfold TL.numL
  rw [this, List.map_map]
  have e : ∀ c ∈ l, (Char.toNat ∘ Char.ofNat) c = c := fun c hc => by
    have := h c hc
    have key : ∀ d : Fin 58, (Char.ofNat d.1).toNat = d.1 := by decide
    exact key ⟨c, by omega⟩
  exact (List.map_congr_left e).trans (List.map_id' _)
theorem val_lt {l : List Nat} : ∀ (h : NumText.AllDigits l), NumText.digitsVal l < 10 ^ l.length := by
  intro h
  by_cases h0 : l = []
  · rw [h0]; decide
  · rcases List.eq_nil_or_concat l with e | ⟨r, c, e⟩
    · exact absurd e h0
    · subst e
      rw [List.concat_eq_append] at h ⊢
      rw [NumText.digitsVal_snoc, List.length_append]
      have ih := val_lt (l := r) fun d hd => h d (List.mem_append_left _ hd)
      have hc := h c (List.mem_append_right _ List.mem_cons_self)
      show _ < 10 ^ (r.length + 1)
      rw [Nat.pow_succ]
      omega
termination_by l.length
decreasing_by simp [e]
theorem numB_iff {x : Str} : NumB x = true ↔ ∃ n : Int, x = nT n ∧ n.natAbs ≤ 999999999 := by
  unfold NumB
  simp only [Bool.and_eq_true, Bool.or_eq_true, decide_eq_true_eq, List.all_eq_true]
  constructor
  · rintro ⟨⟨⟨h0, h9⟩, hd⟩, hz⟩
    have hd : NumText.AllDigits (dgs x) := fun c hc => hd c hc
    have hv := val_lt hd
    have h10 : (10 : Nat) ^ (dgs x).length ≤ 10 ^ 9 := Nat.pow_le_pow_right (by decide) h9
    have e9 : (10 : Nat) ^ 9 = 1000000000 := by decide
    have hz' : (dgs x).head? ≠ some 48 ∨ dgs x = [48] := by
      rcases hz with h | h
      · exact .inl h
      · refine .inr ?_
        unfold dgs
        rw [h]; rfl
    have inv := numL_val_inv hd h0 hz'
    by_cases hs : (TL.tl x).head? = some 45
    · have ed : dgs x = (TL.tl x).drop 1 := if_pos hs
      have ex : TL.tl x = 45 :: dgs x := by
        rw [ed]
        cases hx : TL.tl x with
        | nil => rw [hx] at hs; cases hs
        | cons c r => rw [hx] at hs; cases hs; rfl
      have hpos : 1 ≤ NumText.digitsVal (dgs x) := by
        rcases hz' with h | h
        · cases hx : dgs x with
          | nil => exact absurd hx h0
          | cons c r =>
            rw [hx] at h hd
            have := hd.head
            have : c ≠ 48 := fun e => h (by rw [e]; rfl)
            exact NumText.digitsVal_pos (by omega)
        · rcases hz with h1 | h1
          · rw [h] at h1; exact absurd rfl h1
          · rw [h1] at hs; cases hs
      refine ⟨Int.negSucc (NumText.digitsVal (dgs x) - 1), tl_inj1 ?_, ?_⟩
      · rw [tl_nT_neg, Nat.sub_add_cancel hpos, inv, ex]
      · show NumText.digitsVal (dgs x) - 1 + 1 ≤ 999999999
        omega
    · have ed : dgs x = TL.tl x := if_neg hs
      refine ⟨(NumText.digitsVal (dgs x) : Int), tl_inj1 ?_, ?_⟩
      · rw [tl_nT_nat, inv, ed]
      · show NumText.digitsVal (dgs x) ≤ 999999999
        omega
  · rintro ⟨n, rfl, hn⟩
    have e9 : (10 : Nat) ^ 9 = 1000000000 := by decide
    have no45 : ∀ k, (TL.numL k).head? ≠ some 45 := fun k h => by
      cases hk : TL.numL k with
      | nil => exact TL.numL_ne k hk
      | cons c r =>
        have := TL.numL_digits k
        rw [hk] at h this
        cases h
        have := this.head
        omega
    have z48 : ∀ k, (TL.numL k).head? = some 48 → k = 0 := fun k h => by
      cases hk : TL.numL k with
      | nil => exact absurd hk (TL.numL_ne k)
      | cons c r =>
        rw [hk] at h
        cases h
        by_cases hr : r = []
        · have := TL.numL_val k
          rw [hk, hr] at this
          exact this.symm
        · exfalso
          have hv := TL.numL_val k
          rw [hk] at hv
          have hv2 : NumText.digitsVal r = k := hv
          have hd := TL.numL_digits k
          rw [hk] at hd
          -- the same value, one digit less
          have h1 := val_lt hd.tail
          have : 10 ^ r.length ≤ k := by
            have e1 : (TL.numL k).length ≤ r.length ∨ 10 ^ r.length ≤ k := by
              by_cases hlt : k < 10 ^ r.length
              · exact .inl (TL.numL_len (List.length_pos_iff.mpr hr) hlt)
              · exact .inr (by omega)
            rcases e1 with e1 | e1
            · rw [hk, List.length_cons] at e1; omega
            · exact e1
          omega
    cases n with
    | ofNat k =>
      have hn : k ≤ 999999999 := hn
      have ex : TL.tl (nT (Int.ofNat k)) = TL.numL k := tl_nT_nat k
      have ed : dgs (nT (Int.ofNat k)) = TL.numL k := by
        unfold dgs
        rw [ex, if_neg (no45 k)]
      rw [ed, ex]
      refine ⟨⟨⟨TL.numL_ne k, TL.numL_len (by decide) (by omega)⟩, fun c hc => TL.numL_digits k c hc⟩, ?_⟩
      by_cases h : (TL.numL k).head? = some 48
      · right
        rw [z48 k h]
        rfl
      · exact .inl h
    | negSucc k =>
      have hn : k + 1 ≤ 999999999 := hn
      have ex : TL.tl (nT (Int.negSucc k)) = 45 :: TL.numL (k + 1) := tl_nT_neg k
      have ed : dgs (nT (Int.negSucc k)) = TL.numL (k + 1) := by
        unfold dgs
        rw [ex]
        exact if_pos rfl
      rw [ed]
      refine ⟨⟨⟨TL.numL_ne _, TL.numL_len (by decide) (by omega)⟩, fun c hc => TL.numL_digits _ c hc⟩, .inl fun h => ?_⟩
      have := z48 _ h
      omega
theorem nT_reads {n : Int} (h : n.natAbs ≤ 999999999) : intText? (nT n) = some n := by
  have hl := nT_len h
  cases n with
  | ofNat k =>
    have ex : (nT (Int.ofNat k)).cps.toList = TL.numL k := tl_nT_nat k
    have e := PySem.intText_digits (x := nT (Int.ofNat k)) (by rw [ex]; exact TL.numL_digits k) (by rw [ex]; exact TL.numL_ne k) (by omega)
    rw [ex, TL.numL_val] at e
    exact e
  | negSucc k =>
    have ex : (nT (Int.negSucc k)).cps.toList = 45 :: TL.numL (k + 1) := tl_nT_neg k
    have e := PySem.intText_neg (x := nT (Int.negSucc k)) ex (TL.numL_digits _) (TL.numL_ne _) (by omega)
    rw [TL.numL_val] at e
    exact e
theorem nT_inj {m n : Int} (h : nT m = nT n) (hm : m.natAbs ≤ 999999999) (hn : n.natAbs ≤ 999999999) : m = n := by
  have e1 := nT_reads hm
  rw [h, nT_reads hn] at e1
  cases e1
  rfl
end V2


namespace V2
open PySem L2
open PySem.Spec PyProof.Rows
def rInSign : V → V → Hp → VK → Prop := fun x y H Q => ∃ (c : Nat) (z : Str), x = .str ⟨#[c]⟩ ∧ y = .str z ∧ Q (.bl (decide (c ∈ z.cps.toList))) H
/-- over a text -/
theorem lc_str {x : Str} {g : TG} {tt : TT} {te : TE} {vs : List Nat} {σ : L2.St} {H1 : Hp} {D : Addr} {Qd : Hp → Prop} (Pv : Nat → Hp → Prop) (h0 : Pv 0 (upd H1 D (.lst [])))
    (hs : ∀ (i c : Nat) H, (TL.tl x)[i]? = some c → Pv i H → g (.str ⟨#[c]⟩) (wipe σ vs) H fun σ2 H2 => wipe σ2 vs = wipe σ vs ∧ tt σ2 H2 fun b H3 =>
      if b = true then te σ2 H3 fun y H4 => ∃ acc, H4 D = some (.lst acc) ∧ acc.length < sizeLine ∧ Pv (i + 1) (upd H4 D (.lst (acc ++ [y]))) else Pv (i + 1) H3) (hd : ∀ H, Pv (TL.tl x).length H → Qd H) :
    ∃ W : Nat → Nat → Hp → Prop, (∃ m, W 0 m (upd H1 D (.lst []))) ∧ ∀ i m H, W i m H →
      ((Its x).stop i H ∧ Qd H) ∨ ((Its x).go i H ∧ ∃ Nx : Hp → Prop, (∀ H', Nx H' → ∃ m', m' < m ∧ W (i + 1) m' H') ∧ ∀ z H', (Its x).yld i H z H' → g z (wipe σ vs) H' fun σ2 H2 => wipe σ2 vs = wipe σ vs ∧ tt σ2 H2 fun b H3 =>
        if b = true then te σ2 H3 fun y H4 => ∃ acc, H4 D = some (.lst acc) ∧ acc.length < sizeLine ∧ Nx (upd H4 D (.lst (acc ++ [y]))) else Nx H3) := by
  have hl : x.cps.size = (TL.tl x).length := tl_size x
  refine ⟨fun i m H => m = (TL.tl x).length - i ∧ i ≤ (TL.tl x).length ∧ Pv i H, ⟨(TL.tl x).length, by simp, Nat.zero_le _, h0⟩, ?_⟩
  rintro i m H ⟨rfl, hi, p⟩
  by_cases hlt : i < (TL.tl x).length
  · refine .inr ⟨by show i < x.cps.size; omega, Pv (i + 1), fun H' p' => ⟨(TL.tl x).length - (i + 1), by omega, rfl, hlt, p'⟩, fun z H' y => ?_⟩
    obtain ⟨e, c, hc, hv⟩ := y
    subst e hv
    exact hs i c _ (by rw [← hc]; exact Array.getElem?_toList ..) p
  · have e : i = (TL.tl x).length := by omega
    subst e
    exact .inl ⟨by show x.cps.size ≤ _; omega, hd H p⟩
/-- a number's text, or none -/
def spRdI (CU : Addr) : Sp := fun vs H Q E => ∃ x : Str, vs = [.str x] ∧ x.length ≤ 4000 ∧ (∀ n : Int, x = nT n → n.natAbs ≤ 999999999 → Evl.RetV (.int n) H Q) ∧ (NumB x = false → ∀ H1, Evl.Ex H H1 → Rz CU H1 (.str x) E)
theorem dig10 (c : Nat) : decide (c ∈ (("0123456789" : Str)).cps.toList) = decide (48 ≤ c ∧ c ≤ 57) := by
  have e : (("0123456789" : Str)).cps.toList = [48, 49, 50, 51, 52, 53, 54, 55, 56, 57] := by decide +kernel
  rw [e]
  by_cases h : 48 ≤ c ∧ c ≤ 57
  · rw [decide_eq_true h, decide_eq_true]
    simp only [List.mem_cons, List.not_mem_nil, or_false]
    omega
  · rw [decide_eq_false h, decide_eq_false]
    simp only [List.mem_cons, List.not_mem_nil, or_false]
    omega
section
variable {base : Heap} {mg : Str → Option Value} {K : PySem.W.Frag} {w : World} {P : Program} {CU eI0 : Addr}
end
end V2


namespace PySem
namespace HandSPX
section
variable {M : Model} {A : Around} {E : Value → Shared → Prop} {s : Shared} {Z : Obj → Prop} {base : Heap} {env : Env} {outer l : List Env} {L L0 e : Addr}
/-- the frame alone decides what is noted -/
theorem frameOf_by {e1 e2 : Env} (h : e1.frame = e2.frame) : frameOf e1 = frameOf e2 := by
  unfold frameOf
  rw [h]
theorem noteFrame_by {x : Value} {e1 e2 : Env} (h : e1.frame = e2.frame) : noteFrame x e1 = noteFrame x e2 := by
  unfold noteFrame
  rw [frameOf_by h, h]
/-- an exception that another frame's place holds is noted here -/
theorem looks_heldZ {Q : Unit → Shared → Prop} (hZ : PXN.Steady1 Z) (hfr : A.frames = some (env :: outer)) (hf : env.frame = some L) (hne : L0 ≠ L) (hh : HeldZ base (env :: outer) e Z L0 s.heap)
    (hQ : ∀ h', HeldZ base (env :: outer) e Z L h' → s.heap.UpToSlots h' → Q () { s with heap := h' }) : wpAny M A (noteFrame (.ref e) env) Q E s := by
  obtain ⟨kb, en, fl, oe, vs, T, oT, ts, ge, z, de, v1, nT, Te, gT, dT, t3⟩ := hh
  have nraw : ¬ ((rawInt L0 == rawInt L) = true) := by
    intro q
    have q := eq_of_beq q
    unfold rawInt at q
    injection q with q
    exact hne (Int.ofNat.inj q)
  have away : ∀ b, b ≠ T → (s.heap.update T (Obj.mapFields (·.setIfInBounds 3 Value.none))).get? b = s.heap.get? b := fun b q => Heap.get?_update_other _ _ (Ne.symm q)
  have apart : ∀ b o, s.heap.get? b = some o → (∀ us, o.data ≠ .fields us) → b ≠ T := fun b o gb nf q => by
    subst q
    rw [gT] at gb
    cases gb
    exact nf ts dT
  unfold noteFrame
  simp only [hf]
  refine wpAny_bind (wpAny_field ge de v1 ?_)
  rw [if_pos (by simp : (Value.ref T != Value.none) = true)]
  refine wpAny_bind (wpAny_field gT dT t3 ?_)
  rw [if_neg nraw]
  refine wpAny_bind (wpAny_setField gT dT (Array.getElem?_eq_some_iff.mp t3).1 ?_)
  refine PXN.wpAny_entryZ hZ hfr (fl.of_keeps fun b o gb nf => ⟨o, by rw [away b (apart b o gb nf)]; exact gb, rfl⟩) hf (by rw [away e (Ne.symm Te)]; exact ge) (fun b o gb => ?_) en de (Array.getElem?_eq_some_iff.mp v1).1 z fun h' ⟨n1, n2, n3, n4⟩ => hQ h' ⟨n1, en, n2, n3⟩ fun b o gb nf => n4 b o (by rw [away b (apart b o gb nf)]; exact gb) nf
  rw [away b (fun q => by rw [q, nT] at gb; cases gb)]
  exact kb b o gb
end
end HandSPX
end PySem
namespace PySem
open Sem (wp)
/-- what stands behind a comprehension's block, an exception with its frame told -/
def cpX (M : Model) (A : Around) (E : Value → Shared → Prop) (use : Option (Value → Sem Unit)) (Q : Value → Shared → Prop) (acc : Value) (C : Addr) (fr : Option Addr) (r : Result) (s' : Shared) : Prop :=
  match r with
  | .ok f => compPost M A E use Q acc C (.ok f) s'
  | .error x => ∃ m, s'.heap.Ns C m ∧ ∀ h', Heap.SameBut C s'.heap h' → ∀ ce : Env, ce.locals = C → ce.frame = fr → wpAny M A (passOn "comprehension.variables-let-go" x ce : Sem Value) (fun _ _ => False) E { s' with heap := h' }
theorem comp_framed {M : Model} {A : Around} {E : Value → Shared → Prop} {s : Shared} {env : Env} {e : Expr} {scope : Scope} {pos : Pos} {newAcc first : Sem Value} {g : Comprehension} {gs : List Comprehension} {cl : List (Str × Addr)} {use : Option (Value → Sem Unit)} {Q : Value → Shared → Prop}
    (c1 : clausesOf e = g :: gs) (c2 : ∀ x, foldedSetIterable g.iter env x = pure x) (c3 : closureFor scope env = pure cl) (c4 : scope.kind = .function) (c5 : ∀ x ∈ scope.names, x.2 = .local → scope.names.lookup x.1 = some .local)
    (h : wpAny M A first (fun x t1 => wpAny M A (pyIter x) (fun it t2 => wpAny M A newAcc (fun acc t3 => wpAny M A (newFunctionEnv scope env.globals cl [] env.qual none .none (some env)) (fun ce t4 =>
      codeAny M A (.compStart e 0 it acc { ce with scope := relabel scope env }) (cpX M A E use Q acc ce.locals ce.frame) t4) E t3) E t2) E t1) E s) : wpAny M A (comprehension e scope env pos newAcc false first use) Q E s := by
  have same : ∀ {α : Type} {P : α → Shared → Prop} {t : Sem α} {u : Shared} {P' : α → Shared → Prop}, wpAny M A t P E u → (∀ a v, P a v → P' a v) → wpAny M A t P' E u := fun z k => wpAny_mono z k fun _ _ q => q
  unfold comprehension
  rw [c3, c1]
  refine wpAny_bind (same h fun x t1 h1 => wpAny_bind (wpAny_standAt (wpAny_bind (wpAny_of_eq (c2 x) (wpAny_bind (wpAny_holding (same h1 fun it t2 h2 => wpAny_standIf (wpAny_bind (same h2 fun acc t3 h3 => wpAny_bind (wpAny_pure (wpAny_bind (same h3 fun ce t4 h4 => ?_))))))))))))
  dsimp only
  have loc : ∀ x ∈ (scope.names.filter fun x => (x.2 == .local || x.2 == .cell) && x.1 != (".0" : Str)).reverse, x.2 = .local → Env.kindOf { ce with scope := relabel scope env } x.1 = some .local := fun x hx hl => lookup_relabel_local (c5 x (List.mem_filter.mp (List.mem_reverse.mp hx)).1 hl)
  refine wpAny_holding (wpAny_bind (wpAny_attempt (wpAny_holding (wpAny_run (codeAny_mono h4 fun r s' hr => ?_)))))
  cases r with
  | ok f =>
    have hr : compPost M A E use Q acc ce.locals (.ok f) s' := hr
    cases use with
    | none =>
      obtain ⟨m, hn, hk⟩ := hr
      exact wpAny_bind (wpAny_holding (wpAny_comp_letGo (cenv := { ce with scope := relabel scope env }) c4 _ s' m loc hn fun h' m' _ hs => wpAny_pure (hk h' hs)))
    | some u =>
      have loc2 : ∀ x ∈ (scope.names.filter fun x => (x.2 == .local || x.2 == .cell) && x.1 != (".0" : Str)).reverse.drop 1 ++ (scope.names.filter fun x => (x.2 == .local || x.2 == .cell) && x.1 != (".0" : Str)).reverse.take 1, x.2 = .local → Env.kindOf { ce with scope := relabel scope env } x.1 = some .local := fun x hx hl => (List.mem_append.mp hx).elim (fun q => loc x (List.mem_of_mem_drop q) hl) fun q => loc x (List.mem_of_mem_take q) hl
      refine wpAny_bind (wpAny_rule (wpAny_bind (wpAny_holding (same hr fun _ s2 ⟨m, hn, hk⟩ => ?_))))
      exact wpAny_bind (wpAny_comp_letGo (cenv := { ce with scope := relabel scope env }) c4 _ s2 m loc2 hn fun h' m' _ hs => wpAny_pure (hk h' hs))
  | error x =>
    obtain ⟨m, hn, hk⟩ := hr
    exact wpAny_bind (wpAny_holding (wpAny_comp_letGo (cenv := { ce with scope := relabel scope env }) c4 _ s' m loc hn fun h' m' _ hs => wpAny_mono (hk h' hs _ rfl rfl) (fun _ _ f => f.elim) fun _ _ y => y))
end PySem
namespace L2
open PySem PySem.Spec PyProof.Rows
/-- noted at this frame, wherever it stood -/
theorem Sky.noted {M : Model} {A : Around} {E₁ : Value → Shared → Prop} {s : Shared} {B : Heap} {env : Env} {outer : List Env} {L L0 a : Addr} {Z : Obj → Prop} {Q : Unit → Shared → Prop} (hZ : PXN.Steady1 Z) (hfr : A.frames = some (env :: outer)) (hf : env.frame = some L)
    (x : Sky B (env :: outer) a Z L0 s.heap) (hQ : ∀ h', HandSPX.HeldZ B (env :: outer) a Z L h' → s.heap.UpToSlots h' → Q () { s with heap := h' }) : wpAny M A (noteFrame (.ref a) env) Q E₁ s := by
  rcases x with ⟨hB, hn, hl, oe, vs, he, hz, hd, h1⟩ | fl | hh
  · exact PXN.look_newZ hZ hfr hl hf he hB hn hd h1 hz hQ
  · exact PXN.looks_onZ hZ hfr hf fl hQ
  · by_cases q : L0 = L
    · subst q
      exact HandSPX.againZ hf hh.2.2.2 (hQ s.heap hh (Heap.UpToSlots.refl _))
    · exact HandSPX.looks_heldZ hZ hfr hf q hh hQ
end L2


namespace L2
open PySem PySem.Spec PyProof.Rows
theorem held_but {B h h' : Heap} {l : List Env} {a L C : Addr} {Z : Obj → Prop} {m : Str → Option Value} (hh : HandSPX.HeldZ B l a Z L h) (hC : C ∉ frs l) (hn : h.Ns C m) (sb : Heap.SameBut C h h') :
    HandSPX.HeldZ (PySem.W.hideAll B [C]) l a Z L h' := by
  obtain ⟨k1, k2, k3, oe, vs, T, oT, ts, ga, hz, hd, v1, nT, Ta, gT, dT, t3⟩ := hh
  obtain ⟨oC, es, ep, gC, dC, _⟩ := hn
  have away : ∀ b o us, h.get? b = some o → o.data = .fields us → b ≠ C := fun b o us e d q => by
    subst q
    rw [gC] at e; cases e
    rw [dC] at d; cases d
  have hid : ∀ b, B.get? b = none → (PySem.W.hideAll B [C]).get? b = none := fun b e => by
    cases q : (PySem.W.hideAll B [C]).get? b with
    | none => rfl
    | some o =>
      have z := PySem.W.of_hideAll _ q
      rw [e] at z; cases z
  have all : ∀ (l : List Env), C ∉ frs l → h.FunFrames B l → h'.FunFrames (PySem.W.hideAll B [C]) l := by
    intro l
    induction l with
    | nil => exact fun _ _ => trivial
    | cons env r ih =>
      rintro nc ⟨q1, ⟨L', o, q2, q3, q4, q5⟩, q6⟩
      have nL : L' ≠ C := fun q => nc (List.mem_filterMap.mpr ⟨env, List.mem_cons_self, by rw [q2, q]⟩)
      refine ⟨q1, ⟨L', o, q2, hid _ q3, (sb.2 L' nL).trans q4, q5⟩, ih (fun hm => ?_) q6⟩
      obtain ⟨e, he, z⟩ := List.mem_filterMap.mp hm
      exact nc (List.mem_filterMap.mpr ⟨e, List.mem_cons_of_mem _ he, z⟩)
  refine ⟨fun b o e => ?_, hid _ k2, all l hC k3, oe, vs, T, oT, ts, (sb.2 a (away a oe vs ga hd)).trans ga, hz, hd, v1, hid _ nT, Ta, (sb.2 T (away T oT ts gT dT)).trans gT, dT, t3⟩
  have bc : b ≠ C := fun q => by
    subst q
    rw [PySem.W.hideAll_none _ (List.mem_singleton.mpr rfl)] at e
    cases e
  exact (sb.2 b bc).trans (k1 b o (PySem.W.of_hideAll _ e))
/-- an exception in the air of X, what is kept of its object being Zf -/
def XEg (Zf : Value → Option Addr → Obj → Prop) (X : Cx) (W : WX) (u : Value) (t : Shared) : Prop :=
  ∃ (a : Addr) (B : Heap) (sI : Shared) (pins : List (Addr × Obj)) (σ : St) (H : Hp) (cls : Value) (d : Option Addr), u = .ref a ∧ Inv X pins σ H sI ∧
    (∀ b o, sI.heap.get? b = some o → b ∉ frs X.stack → B.get? b = some o) ∧ sI.heap.UpToSlots t.heap ∧ Sky B X.stack a (Zf cls d) X.env.locals t.heap ∧ H a = none ∧ t.os = sI.os ∧ AllBare t.gens ∧ W cls d σ H
def TkG (Zf : Value → Option Addr → Obj → Prop) (X : Cx) (W : WX) : Prop := ∀ u t, XEg Zf X W u t → X.xe u t
theorem Takes.g {X : Cx} {W : WX} (t : L2.Takes X W) : TkG Zc X W := t
theorem TakesN.g {X : Cx} {W : WX} (t : L2N.Takes X W) : TkG L2N.Zn X W := t
theorem Zc.st {c : Value} {d : Option Addr} : PXN.Steady1 (Zc c d) := fun o v h => Zc.steady o _ h
section
variable {Zf : Value → Option Addr → Obj → Prop} {X : Cx} {pins : List (Addr × Obj)} {σ : St} {H : Hp} {s : Shared} {W : WX}
theorem Inv.trTo {xe : Value → Shared → Prop} (I : Inv X pins σ H s) : Inv (X.tr X.pn xe) pins σ H s := ⟨I.ok.toTry _ _, I.os, I.bare, I.base, I.loc, I.cell, I.free, I.freeC, I.pin, I.hok, I.len⟩
theorem Inv.trOf {xe : Value → Shared → Prop} (I : Inv (X.tr X.pn xe) pins σ H s) : Inv X pins σ H s := ⟨I.ok.ofTry, I.os, I.bare, I.base, I.loc, I.cell, I.free, I.freeC, I.pin, I.hok, I.len⟩
/-- what leaves a comprehension's block is taken where the comprehension stands -/
theorem comp_takes {scope : Scope} {fp : List Addr} {s3 : Shared} {H3 : Hp} {ce : Env} {use : Option (Value → Sem Unit)} {Q : Value → Shared → Prop} {acc : Value} (hs : X.stack = X.env :: X.outer) (hf : X.env.frame = some X.env.locals) (hZ : ∀ c d, PXN.Steady1 (Zf c d)) (tk : TkG Zf X W)
    (I3 : Inv X pins σ H3 s3) (f3 : ∀ b ∈ fp, FpOk X pins H3 b ∧ b < s3.heap.objs.size) (cL : ce.locals = s3.heap.objs.size) (cF : ce.frame = X.env.frame) :
    TkG Zf ((X.blk s3 H3 scope ce fp).tr [] (notedBy (model X.prog X.w) X.A ce fun e s' => cpX (model X.prog X.w) X.A X.xe use Q acc ce.locals ce.frame (.error e) s')) (fun cls d _ H' => W cls d σ H') := by
  rintro u s' ⟨a, B, sI, pins', σ', H', cls, d, rfl, I, nb, up, sky, na, os, ag, w⟩
  show wpAny _ _ (noteFrame (.ref a) ce) _ _ _
  have hfr : X.A.frames = some (X.env :: X.outer) := by rw [I3.ok.frames, hs]
  have J : Inv X pins σ H' sI := I3.call' (ch := fp) I.os I.base I.hok I.bare fun b hb =>
    let z := (f3 b hb).1
    ⟨z.2.2.2.1, z.2.1, z.2.2.2.2.1, z.2.2.2.2.2⟩
  have nC : H' s3.heap.objs.size = none := by
    have z : H' ce.locals = none := I.free
    rw [cL] at z
    exact z
  have FC : FpOk X pins H' s3.heap.objs.size := I3.fpOk (Nat.le_refl _) nC
  have nCf : s3.heap.objs.size ∉ frs X.stack := fun hm => by
    rcases List.mem_cons.mp (I3.stkSub _ hm) with z | z
    · exact FC.2.1 z
    · exact FC.2.2.1 z
  obtain ⟨m, hn, _⟩ := id I.loc
  have hn : sI.heap.Ns ce.locals m := hn
  rw [HandSPX.noteFrame_by cF]
  refine Sky.noted (B := B) (L0 := ce.locals) (hZ cls d) hfr hf (by rw [← hs]; exact sky) fun h1 hh up1 => ?_
  refine ⟨m, up1.ns (up.ns hn), fun h2 sb ce' hl hfm => ?_⟩
  have hh2 := held_but hh (by rw [← hs, cL]; exact nCf) (up1.ns (up.ns hn)) sb
  obtain ⟨oe, vs, T, oT, ts, ga, hz, hd, v1, nT, Ta, gT, dT, t3⟩ := id hh2.2.2.2
  unfold PySem.passOn
  refine wpAny_bind (wpAny_field ga hd v1 ?_)
  rw [if_neg (show ¬ ((Value.ref T == Value.none) = true) from by simp)]
  have last : wpAny (model X.prog X.w) X.A (setFlight (.ref a) ce'.frame) (fun _ s4 => wpAny (model X.prog X.w) X.A (throw (.ref a) : Sem Value) (fun _ _ => False) X.xe s4) X.xe { s' with heap := h2 } := by
    rw [hfm, cF, hf]
    refine HandSPX.setFlight_onZ hh2 fun h4 hh4 up4 => wpAny_throw (tk _ _ ?_)
    rw [cL] at hh4 sb
    obtain ⟨f0, f1, f2, f3', f4, f5⟩ := FC
    have hb' : ∀ (G : Heap) b o, (PySem.W.hideAll G [s3.heap.objs.size]).get? b = some o → b ≠ s3.heap.objs.size := fun G b o e q => by
      rw [q, PySem.W.hideAll_none _ (List.mem_singleton.mpr rfl)] at e
      cases e
    refine ⟨a, PySem.W.hideAll B [s3.heap.objs.size], { sI with heap := PySem.W.hideAll sI.heap [s3.heap.objs.size] }, pins, σ, H', cls, d, rfl,
      J.turned (t' := sI.toks) (fun b o hb e => PySem.W.hideAll_get _ e (by simpa using hb)) f0 f1 f3' f4 f5, fun b o e hb => ?_, fun b o e hnf => ?_, .inr (.inr (by rw [hs]; exact hh4)), na, os, ag, w⟩
    · exact PySem.W.hideAll_get _ (nb b o (PySem.W.of_hideAll _ e) hb) (by simpa using hb' _ b o e)
    · have bc := hb' _ b o e
      obtain ⟨sl, e1⟩ := (up.trans up1) b o (PySem.W.of_hideAll _ e) hnf
      obtain ⟨sl2, e2⟩ := up4 b _ ((sb.2 b bc).trans e1) hnf
      exact ⟨sl2, e2⟩
  first
    | exact wpAny_bind (wpAny_pure (wpAny_bind last))
    | exact wpAny_bind last
end
end L2


namespace L2
open PySem PySem.Spec PyProof.Rows
section
variable {Zf : Value → Option Addr → Obj → Prop} {X : Cx} {W : WX}
/-- what the element's context is: the block, its exceptions told -/
abbrev Cx.blx (X : Cx) (scope : Scope) (s : Shared) (H : Hp) (C : Addr) (cl : List (Str × Addr)) (fp : List Addr) (xe : Value → Shared → Prop) : Cx := (X.blk s H scope (compEnvC scope cl C X.env) fp).tr [] xe
/-- [elt for target in iter if ..], an exception of elt going on: te by what may go out -/
def tLcX (W : WX) (wi : TI) (g : TG) (tt : TT) (te : XK → TE) (vs : List Nat) : TE := fun σ => tLc wi g tt (te fun cls d H' => W cls d σ H') vs σ
theorem lc_coreX {pins : List (Addr × Obj)} {s : Shared} {σ : St} {H : Hp} {Q : VK} {elt tg iter : Expr} {ifs : List Expr} {scope : Scope} {own : List (Str × Nat)} {pos pos' : Pos} {wi : TI} {g : TG} {tt : TT} {te : XK → TE} {use : Option (Value → Sem Unit)} {Qf : Value → Shared → Prop}
    (hst : X.stack = X.env :: X.outer) (hf : X.env.frame = some X.env.locals) (hZ : ∀ c d, PXN.Steady1 (Zf c d)) (tk : TkG Zf X W) (hc : X.calm = true) (hN : X.N.Nodup) (I : Inv X pins σ H s) (hi : PI X tg iter wi) (ok : BlkOk X.N X.env.scope scope own)
    (hg : ∀ s H C cl fp, PG (X.blk s H scope (compEnvC scope cl C X.env) fp) tg g) (ht : ∀ s H C cl fp, PTs (X.blk s H scope (compEnvC scope cl C X.env) fp) ifs tt)
    (he : ∀ s H C cl fp (E : XK) xe, TkG Zf (X.blx scope s H C cl fp xe) (fun cls d _ H' => E cls d H') → PE (X.blx scope s H C cl fp xe) elt (te E)) (hs : ∀ x, foldedSetIterable iter X.env x = pure x)
    (h : tLcX W wi g tt te (own.map (·.2)) σ H Q)
    (back : ∀ D C s' m H', Inv X pins σ H' s' → Q (.ref D) H' → s'.heap.Ns C m → FpOk X pins H' C → compPost (model X.prog X.w) X.A X.xe use Qf (.ref D) C (.ok .next) s') :
    wpAny (model X.prog X.w) X.A (comprehension (.ListComp elt [⟨tg, iter, ifs, 0⟩] scope pos) scope X.env pos' (newList []) false (eval iter X.env) use) Qf X.xe s := by
  have free : ∀ y ∈ scope.names, y.2 = .free → ∃ c, X.env.cells.lookup y.1 = some c := fun y hy e =>
    (ok.free y hy e).elim (fun k => I.ok.has _ (.inl k)) fun k => I.ok.has _ (.inr k)
  refine comp_framed (use := use) rfl hs (closure_ok free) ok.kind (fun y hy e => by rw [ok.uniq y hy, e]) (thn (hi.run pins s σ H _ I h) fun xv s1 hx => thn hx fun itv s2 h2 => ?_)
  obtain ⟨it, fp, tn, J, H2, rfl, I2, T, z2, f2, q⟩ := h2
  refine wpAny_newObj_type (newEnv_comp ?_) (by show 0 ≤ sizeLine; decide)
  generalize eD : s2.heap.objs.size = D
  obtain ⟨P, ⟨m0, p0⟩, turn⟩ := q D (I2.hok.fresh (Nat.le_of_eq eD))
  generalize e3 : ({ s2 with heap := s2.heap.push { cls := .type "list", data := .seq ([] : List Value).toArray } } : Shared) = s3
  have h3 : s3.heap = s2.heap.push { cls := .type "list", data := .seq ([] : List Value).toArray } := e3 ▸ rfl
  have I3 : Inv X pins σ (upd H2 D (.lst [])) s3 := by
    subst e3
    refine I2.laid (t' := s2.toks) (fun b o e => Heap.get?_push_of_some _ e) (Nat.le_of_eq eD) ⟨Nat.zero_le _, [], 0, .nil, ?_⟩
    subst eD
    exact Heap.get?_push_size _ rfl
  have f3 : ∀ b ∈ fp, FpOk X pins (upd H2 D (.lst [])) b ∧ b < s3.heap.objs.size := fun b hb => by
    obtain ⟨o, e, _⟩ := T.obj _ _ z2 b hb
    have lt := Heap.lt_size e
    refine ⟨⟨?_, (f2 b hb).2⟩, by rw [h3, Heap.size_push]; exact Nat.lt_succ_of_lt lt⟩
    rw [upd_ne (eD ▸ Nat.ne_of_lt lt)]
    exact (f2 b hb).1
  have z3 : tn 0 s3.heap := T.keep _ _ _ z2 fun b _ o e => by rw [h3]; exact Heap.get?_push_of_some _ e
  have I4 := block_start I3 ok hN f3
  generalize ecl : cellsFrom (s3.heap.objs.size + 1) scope.names (cloFrom X.env.cells scope.names []) = cl at I4
  have cF : (compEnvC scope cl s3.heap.objs.size X.env).frame = X.env.frame := rfl
  have tk' := comp_takes (scope := scope) (use := use) (Q := Qf) (acc := .ref D) hst hf hZ tk I3 f3 (ce := compEnvC scope cl s3.heap.objs.size X.env) rfl cF
  have pg := hg s3 (upd H2 D (.lst [])) s3.heap.objs.size cl fp
  have pt := ht s3 (upd H2 D (.lst [])) s3.heap.objs.size cl fp
  have pe : PE ((X.blk s3 (upd H2 D (.lst [])) scope (compEnvC scope cl s3.heap.objs.size X.env) fp).tr [] _) elt (te fun cls d H' => W cls d σ H') := he s3 (upd H2 D (.lst [])) s3.heap.objs.size cl fp (fun cls d H' => W cls d σ H') _ tk'
  show codeAny _ _ (.compStart (.ListComp elt [⟨tg, iter, ifs, 0⟩] scope pos) 0 (.ref it) (.ref D) (compEnvC scope cl s3.heap.objs.size X.env))
    (cpX (model X.prog X.w) X.A X.xe use Qf (.ref D) (compEnvC scope cl s3.heap.objs.size X.env).locals (compEnvC scope cl s3.heap.objs.size X.env).frame)
    { s3 with heap := pushCells (s3.heap.push { cls := .type "dict", data := .dict #[] }) scope.names }
  have n3 : ∀ b ∈ fp, (upd H2 D (.lst [])) b = none := fun b hb => (f3 b hb).1.1
  have cL : (compEnvC scope cl s3.heap.objs.size X.env).locals = s3.heap.objs.size := rfl
  generalize ece : compEnvC scope cl s3.heap.objs.size X.env = ce at I4 pg pt pe cF cL tk' ⊢
  generalize eH : upd H2 D (.lst []) = H3 at I3 I4 pg pt pe tk' p0 n3 f3
  generalize e4 : ({ s3 with heap := pushCells (s3.heap.push { cls := .type "dict", data := .dict #[] }) scope.names } : Shared) = s4 at I4 ⊢
  have z4 : tn 0 s4.heap := T.keep _ _ _ z3 fun b _ o e => by
    subst e4
    exact pushCells_keeps _ _ _ _ (Heap.get?_push_of_some _ e)
  have stat : ∀ {σ' : St} {H' : Hp} {s' : Shared}, Inv (X.blk s3 H3 scope ce fp) [] σ' H' s' → (∀ b ∈ fp, H' b = none) → ∀ b ∈ fp, FpOk (X.blk s3 H3 scope ce fp) [] H' b := fun {σ' H' s'} J n b hb =>
    ⟨n b hb, (J.ok.exf b hb).1, J.ok.exfs b hb, .inl hb, fun x c e => (J.ok.exf b hb).2 x c e, fun p hp => absurd (show p ∈ ([] : List (Addr × Obj)) from hp) List.not_mem_nil⟩
  have loop : codeAny (model X.prog X.w) X.A (.compLoop (.ListComp elt [⟨tg, iter, ifs, 0⟩] scope pos) 0 (.ref it) (.ref D) ce) (cpX (model X.prog X.w) X.A X.xe use Qf (.ref D) ce.locals ce.frame) s4 := by
    refine compLoop_any (fun n s' => ∃ i H', Inv (X.blk s3 H3 scope ce fp) [] (wipe σ (own.map (·.2))) H' s' ∧ tn i s'.heap ∧ (∀ b ∈ fp, H' b = none) ∧ P i n H') ?_ m0 ⟨0, H3, I4, z4, n3, p0⟩
    rintro n s5 ⟨i, H5, I5, z5, n5, p5⟩
    rcases turn i n H5 p5 with ⟨stop, qq⟩ | ⟨go, Nx, less, step⟩
    · refine thnF (T.done (X.blk s3 H3 scope ce fp) rfl rfl rfl hc i [] s5 _ H5 (fun _ _ => False) I5 (stat I5 n5) z5 stop) ?_
      rintro r s6 ⟨rfl, I6⟩
      have I7 : Inv X pins σ H5 s6 := I3.call' (ch := fp) I6.os I6.base I6.hok I6.bare fun b hb =>
        let z := (f3 b hb).1
        ⟨z.2.2.2.1, z.2.1, z.2.2.2.2.1, z.2.2.2.2.2⟩
      have nC : H5 ce.locals = none := I6.free
      obtain ⟨m, hn, _⟩ := I6.loc
      have hn : s6.heap.Ns ce.locals m := hn
      show compPost _ _ _ use Qf (.ref D) ce.locals (.ok .next) s6
      exact back D ce.locals s6 m H5 I7 qq hn (I3.fpOk (Nat.le_of_eq cL.symm) nC)
    · refine thnF (T.item (X.blk s3 H3 scope ce fp) rfl rfl rfl hc i [] s5 _ H5 (fun _ _ => False) I5 (stat I5 n5) z5 go) ?_
      rintro r s6 ⟨u, rfl, h6⟩
      refine thnF h6 fun _ s7 ⟨x, H7, I7, r7, y7, z7, n7⟩ => ?_
      refine thnF (pg.run _ s7 _ H7 x u _ (I7.pinned (stat I7 n7) (T.obj _ _ z7)) r7 (step x H7 y7)) fun _ s8 ⟨σ8, H8, I8, w8, q8⟩ => thnF (pt.run _ s8 σ8 H8 _ I8 q8) fun b s9 ⟨H9, I9, q9⟩ => ?_
      have next : ∀ {s' : Shared} {H' : Hp}, Inv (X.blk s3 H3 scope ce fp) ([] ++ pinsAt fp s7.heap) σ8 H' s' → Nx H' → ∃ m, m < n ∧ ∃ i H', Inv (X.blk s3 H3 scope ce fp) [] (wipe σ (own.map (·.2))) H' s' ∧ tn i s'.heap ∧ (∀ b ∈ fp, H' b = none) ∧ P i m H' := fun {s' H'} J nx => by
        obtain ⟨m', lt, p'⟩ := less H' nx
        have pin : ∀ b ∈ fp, ∀ o, s7.heap.get? b = some o → s'.heap.get? b = some o ∧ H' b = none := fun b hb o e =>
          let z := J.pin (b, o) (List.mem_append_right _ (List.mem_append_right _ (mem_pinsAt hb e)))
          ⟨z.1, z.2.1⟩
        refine ⟨m', lt, i + 1, H', (J.unpinned (pins := [])).weak (by rw [← w8, wipe_length]) (fun j v e => (wipe_some (w8.symm ▸ e)).1), T.keep _ _ _ z7 fun b hb o e => (pin b hb o e).1, fun b hb => ?_, p'⟩
        obtain ⟨o, e, _⟩ := T.obj _ _ z7 b hb
        exact (pin b hb o e).2
      cases b with
      | false => exact next I9 q9
      | true =>
        refine wpAny_mono (pe.run _ s9 σ8 H9 _ (Inv.trTo I9) q9) (fun z s10 ⟨yv, H10, I10, r10, acc, gD, lD, nx⟩ => ?_) fun _ _ z => z
        exact app_ok (X := X.blk s3 H3 scope ce fp) (Inv.trOf I10) gD lD r10 fun s11 I11 => next I11 nx
  exact codeAny_compStart_list loop (T.self X.A 0 _ _ _ z4 loop)
theorem pe_lcX {elt tg iter : Expr} {ifs : List Expr} {scope : Scope} {own : List (Str × Nat)} {pos : Pos} {wi : TI} {g : TG} {tt : TT} {te : XK → TE}
    (hst : X.stack = X.env :: X.outer) (hf : X.env.frame = some X.env.locals) (hZ : ∀ c d, PXN.Steady1 (Zf c d)) (tk : TkG Zf X W) (hc : X.calm = true) (hN : X.N.Nodup) (hi : PI X tg iter wi) (ok : BlkOk X.N X.env.scope scope own)
    (hg : ∀ s H C cl fp, PG (X.blk s H scope (compEnvC scope cl C X.env) fp) tg g) (ht : ∀ s H C cl fp, PTs (X.blk s H scope (compEnvC scope cl C X.env) fp) ifs tt)
    (he : ∀ s H C cl fp (E : XK) xe, TkG Zf (X.blx scope s H C cl fp xe) (fun cls d _ H' => E cls d H') → PE (X.blx scope s H C cl fp xe) elt (te E)) (hs : ∀ x, foldedSetIterable iter X.env x = pure x := by intro _; rfl) :
    PE X (.ListComp elt [⟨tg, iter, ifs, 0⟩] scope pos) (tLcX W wi g tt te (own.map (·.2))) := by
  refine ⟨fun pins s σ H Q I h => ?_⟩
  rw [eval_ListComp]
  refine lc_coreX hst hf hZ tk hc hN I hi ok hg ht he hs h fun D C s' m H' J q hn f => ⟨m, hn, fun h2 sb => ⟨.ref D, H', ?_, rfl, q⟩⟩
  exact J.turned (t' := s'.toks) (fun b o hb e => (sb.2 b hb).trans e) f.1 f.2.1 f.2.2.2.1 f.2.2.2.2.1 f.2.2.2.2.2
theorem ps_setLcX {i : Nat} {y : Str} {py : Pos} {elt tg iter : Expr} {ifs : List Expr} {scope : Scope} {own : List (Str × Nat)} {pos spos : Pos} {wi : TI} {g : TG} {tt : TT} {te : XK → TE}
    (hst : X.stack = X.env :: X.outer) (hf : X.env.frame = some X.env.locals) (hZ : ∀ c d, PXN.Steady1 (Zf c d)) (tk : TkG Zf X W) (hc : X.calm = true) (hN : X.N.Nodup) (hy : X.N[i]? = some y) (hyl : X.env.scope.names.lookup y = some .local)
    (hsw : swapsWith (.ListComp elt [⟨tg, iter, ifs, 0⟩] scope pos) (some (.Name y py)) spos.line X.env = pure true) (hi : PI X tg iter wi) (ok : BlkOk X.N X.env.scope scope own)
    (hg : ∀ s H C cl fp, PG (X.blk s H scope (compEnvC scope cl C X.env) fp) tg g) (ht : ∀ s H C cl fp, PTs (X.blk s H scope (compEnvC scope cl C X.env) fp) ifs tt)
    (he : ∀ s H C cl fp (E : XK) xe, TkG Zf (X.blx scope s H C cl fp xe) (fun cls d _ H' => E cls d H') → PE (X.blx scope s H C cl fp xe) elt (te E)) (hs : ∀ x, foldedSetIterable iter X.env x = pure x := by intro _; rfl) :
    PS X (.Assign [.Name y py] (.ListComp elt [⟨tg, iter, ifs, 0⟩] scope pos) spos) (tAsg (tLcX W wi g tt te (own.map (·.2))) (gName i)) := by
  refine ⟨fun pins s σ H D I h => ?_⟩
  rw [exec_Assign_Name_used _ _ _ _ hsw]
  refine wpAny_bind (wpAny_standAt (wpAny_bind ?_))
  show wpAny _ X.A (do let _ ← comprehension (.ListComp elt [⟨tg, iter, ifs, 0⟩] scope pos) scope X.env (firstIterPos [⟨tg, iter, ifs, 0⟩] pos) (newList []) false (eval iter X.env) (some (assign (.Name y py) X.env))) _ _ s
  have h : tLcX W wi g tt te (own.map (·.2)) σ H (fun x H1 => gName i x σ H1 D.nx) := h
  refine wpAny_bind (thn (lc_coreX (Qf := fun _ s' => SP X pins D .next s') hst hf hZ tk hc hN I hi ok hg ht he hs h fun L C s' m H' J q hn f => ?_) fun _ s' hq => wpAny_pure (wpAny_pure hq))
  show wpAny _ _ (assign (.Name y py) X.env (.ref L)) _ _ _
  refine wpAny_assign_Name (store_ok2 (v := V.ref L) J hN hy (.inl hyl) rfl (fun s2 J2 ⟨a, sb, ha⟩ => ?_) (.inr hyl))
  have apart : C ≠ a := ha.elim (fun z => z ▸ f.2.1) fun z e => f.2.2.2.2.1 y a z e.symm
  refine ⟨m, hn.sameBut sb apart, fun h3 sb3 => ⟨_, H', ?_, q⟩⟩
  exact J2.turned (t' := s2.toks) (fun b o hb e => (sb3.2 b hb).trans e) f.1 f.2.1 f.2.2.2.1 f.2.2.2.2.1 f.2.2.2.2.2
end
end L2


namespace V2
open PySem L2
open PySem.Spec PyProof.Rows
section
variable {P : Program} {w : World} {K : PySem.W.Frag} {mg : Str → Option Value} {base : Heap}
/-- as Fun.okX, whatever the context of exceptions -/
theorem okC (CX : CXT) {x qual : Str} {st : Stmt} {f : Addr} {fd : FuncData} {N ps : List Str} {k : Nat} {sp : Sp} (F : Fun K x qual st f fd) (S : FnScope N ps (defScope st)) (len : ∀ vs H Q E, sp vs H Q E → vs.length = ps.length)
    (hb : ∀ (cdv : Value) (A : Around) (outer : List Env) (s : Shared) (H : Hp) (vs : List V) (Q : VK) (E : XK), Room k (A.deeper (envOfC qual (defScope st) s.heap.objs.size f cdv)) → sp vs H Q E →
      ∃ t, PSs (cxOf CX P w K mg base N qual (defScope st) f cdv A outer s H E) (defBody st) t ∧ t { nx := fun _ H' => Q .non H', rt := Q } (L2.start N vs) H) : FnOk P w K mg base CX (k + 1) f fd ps sp := by
  obtain ⟨oc, od, kV, doc, pm, an, cdv, ct, osl, rfl, lk, hcd⟩ := F.ex
  exact fn_of lk hcd S len (hb cdv)
/-- .. and while an exception is handled -/
theorem okH {CX : CXT} {x qual : Str} {st : Stmt} {f : Addr} {fd : FuncData} {N ps : List Str} {k : Nat} {sp : Sp} (F : Fun K x qual st f fd) (S : FnScope N ps (defScope st)) (len : ∀ vs H Q E, sp vs H Q E → vs.length = ps.length)
    (hb : ∀ (cdv : Value) (A : Around) (outer : List Env) (s : Shared) (H : Hp) (vs : List V) (Q : VK) (E : XK) (p : Addr × Obj), L2H.Hot1 A p → L2H.RoomH k (A.deeper (envOfC qual (defScope st) s.heap.objs.size f cdv)) → sp vs H Q E →
      ∃ t, PSs (L2H.cxH CX P w K mg base N qual (defScope st) f cdv A outer s H E p) (defBody st) t ∧ t { nx := fun _ H' => Q .non H', rt := Q } (L2.start N vs) H) : L2H.FnH P w K mg base CX (k + 1) f fd ps sp := by
  obtain ⟨oc, od, kV, doc, pm, an, cdv, ct, osl, rfl, lk, hcd⟩ := F.ex
  exact L2H.fn_ofH lk hcd S len (hb cdv)
theorem ok_TE_initH {f : Addr} {fd : FuncData} (F : Fun K "__init__" "TankError.__init__" s_TE_init f fd) : L2H.FnH P w K mg base CX0 1 f fd p_TE_init (spInit K) := by
  refine okH F sc_TE_init (fun vs H Q E h => ?_) (fun cdv A outer s H vs Q E p hp hr h => ?_)
  · obtain ⟨a, C, y, rfl, _⟩ := h
    rfl
  · obtain ⟨a, C, y, rfl, T, hno, ha, k⟩ := h
    exact ⟨_, pss_one (ps_ost (pv 0) (pv 1)), _, rfl, _, rfl, a, C, rfl, T, hno, .inl ⟨ha, fun dx hd hn => k dx hd hn⟩⟩
def CalN (P : Program) (w : World) (K : PySem.W.Frag) (mg : Str → Option Value) (base : Heap) (k : Nat) (x : Str) (ps : List Str) (sp : Sp) : Prop :=
  ∃ (f : Addr) (fd : FuncData), FnOk P w K mg base (L2N.CX P w) k f fd ps sp ∧ mg x = some (.ref f) ∧ PySem.W.keepIn K (.ref f) = true ∧ Binds K fd ps []
theorem pe_cn {X : Cx} {k : Nat} {x : Str} {ps : List Str} {sp : Sp} {E : XK} {W : WX} {e : Expr} {es : List Expr} {t : TA} {p pos : Pos} (c : CalN X.prog X.w X.K X.mg X.base k x ps sp) (hr : Room k X.A) (tk : L2N.Takes X W) (hW : ∀ cls d σ H, E cls d H → W cls d σ H) (ha : PA X (e :: es) t) (hg : Gl X x := by rfl)
    (he : starEach (e :: es) X.env = (false, eval e X.env) :: starEach es X.env := by rfl) (hpl : (backTo pos (starEach es X.env)).any (fun z => z.1) = false := by rfl) (hdb : (x == ("__debug__" : Str)) = false := by decide) : PE X (.Call (.Name x p) (e :: es) [] pos) (tCall sp [] E t) := by
  obtain ⟨f, fd, F, hm, hk, hb⟩ := c
  exact pe_call F hr hg hm hk hb .nil (L2N.passes_call tk hW) ha hdb he hpl
/-- C(e, ..), its context told -/
theorem pmkN_oex {X : Cx} {CX : CXT} {x : Str} {e : Expr} {es : List Expr} {ta : TA} {p pos : Pos} {C fI : Addr} {k : Nat} {fd : FuncData} {ps : List Str} {sp : Sp} (T : OexC X.K C) (iC : PySem.W.findIn X.K (.ref C) "__init__" = some (some (.ref fI))) (tI : PySem.W.typeIn X.K (.ref fI) = some (.type "function"))
    (F1 : FnOk X.prog X.w X.K X.mg X.base CX k fI fd ps sp) (hr : Room (k + 1) X.A) (hb : Binds X.K fd ps []) (hx : Passes CX X (fun _ _ _ => False)) (hg : Gl X x) (hm : X.mg x = some (.ref C)) (ha : PA X (e :: es) ta)
    (hdb : (x == ("__debug__" : Str)) = false := by decide) (he : starEach (e :: es) X.env = (false, eval e X.env) :: starEach es X.env := by rfl) (hpl : (backTo pos (starEach es X.env)).any (fun z => z.1) = false := by rfl) :
    L2N.PMk X (.Call (.Name x p) (e :: es) [] pos) (tMkO C sp [] ta) := by
  intro pins s σ H Q I h
  obtain ⟨nm, q, N, bs, bm, sn, sub, ab, col, dd, k0, k1, k2, k3, k5, gC, cB⟩ := T.cls
  refine wpAny_Call_Name_kw (ld_glob I hg hm ?_ hdb)
  refine PySem.W.callWith_K (h₀ := X.base) I.ok.mod.kin T.kC (thn (ha.run pos pins s σ H _ I h) fun us t ⟨vs, G, J, rv, lz, q1⟩ => ⟨J.kIn, ?_⟩) he hpl
  show wpAny _ _ (call (.ref C) us) _ _ _
  obtain ⟨hp, gn, dw, tk, os⟩ := t
  generalize ea : hp.objs.size + 1 = a
  have le : hp.objs.size ≤ a := by rw [← ea]; exact Nat.le_succ _
  have hq := q1 a (J.hok.fresh le)
  rw [List.append_nil] at hq
  have ga : ((hp.push (PySem.W.kdv_tup us)).push (PySem.HandSPX.excO C hp.objs.size)).get? a = some (PySem.HandSPX.excO C hp.objs.size) := by rw [← ea]; heap_get
  have keep : ∀ b o, hp.get? b = some o → ((hp.push (PySem.W.kdv_tup us)).push (PySem.HandSPX.excO C hp.objs.size)).get? b = some o := fun b o e => Heap.get?_push_of_some _ (Heap.get?_push_of_some _ e)
  have J2 : Inv X pins σ (upd G a (exo a C none)) ⟨(hp.push (PySem.W.kdv_tup us)).push (PySem.HandSPX.excO C hp.objs.size), gn, dw, tk, os⟩ :=
    J.laid (t' := tk) (a := a) (o := exo a C none) (h' := (hp.push (PySem.W.kdv_tup us)).push (PySem.HandSPX.excO C hp.objs.size)) keep le (exo_ok ga)
  have rv2 : Vals (V.ref a :: vs) (Value.ref a :: us) := .cons rfl rv
  have el : (Value.ref a :: us).length = ps.length := by rw [← F1.len _ _ _ _ hq]; exact rv2.length.symm
  have lus : us.length ≤ sizeLine := by
    have z := Paired.length rv
    rw [sizeLine_eq]
    omega
  have bd := hb ⟨(hp.push (PySem.W.kdv_tup us)).push (PySem.HandSPX.excO C hp.objs.size), gn, dw, tk, os⟩ (Value.ref a :: us) J2.kIn (by rw [List.append_nil]; exact el)
  rw [List.append_nil] at bd
  refine wpAny_call (PySem.HandSPX.call_own F.excBase_ValueError (fun Y => PySem.HandSPX.refsVE_contains Y bm cB) (J.kIn _ _ gC) (PySem.W.looks_findIn J.kIn iC) (fun self => PySem.W.bind_fn J.kIn self tI) lus ?_)
  rw [ea]
  refine codeAny_mono (F1.run _ X.stack _ _ ⟨Value.ref a :: us, []⟩ (Value.ref a :: us) _ _ (fun _ _ _ => False) (hr.make C us []) (J2.env0.make C us []) bd rv2 hq) fun r t' ht => ?_
  rcases r with er | fl
  · exact hx pins σ _ _ er t' J2 ht
  · cases fl with
    | ret u =>
      obtain ⟨v, G2, os2, bare2, un2, hok2, ru, rfl, d, fs, e1, e2, e3, q2⟩ := ht
      obtain ⟨h2, g2, d2, t2, os'⟩ := t'
      obtain ⟨t0, G', J', kG, nG, hoe, na⟩ := mk_end0 (d2 := d2) (t2 := t2) J le keep un2 hok2 os2 bare2 e1 e2 e3
      exact ⟨ru, a, _, _, ⟨G', g2, d2, t2, os'⟩, _, .ref C, some d, rfl, J', kG, nG, hoe, ⟨rfl, rfl, fun us hu => by cases hu; rfl⟩, rfl, rfl, na, rfl, bare2, raises_own T.exC T.tyC, q2⟩
    | next => exact False.elim ht
    | brk => exact False.elim ht
    | cont => exact False.elim ht
end
end V2


namespace V2
open PySem L2
open PySem.Spec PyProof.Rows
section
variable {base : Heap} {mg : Str → Option Value} {K : PySem.W.Frag} {w : World} {P : Program} {CU eI0 : Addr}
theorem ok_read_integerN {f : Addr} {fd fdI : FuncData} (F : Fun K "read_integer" "read_integer" s_read_integer f fd) (mL : mg "len" = none) (mAl : mg "all" = none) (mIn : mg "int" = none) (TU : EC K CU eI0) (G : EG K eI0) (mE : mg "Unreadable" = some (.ref CU)) (FI : FnOk P w K mg base CX0 1 eI0 fdI ["self", "value"] (spInit K)) (bI : Binds K fdI ["self", "value"] []) : FnOk P w K mg base (L2N.CX P w) 3 f fd p_read_integer (spRdI CU) := by
  refine okC (L2N.CX P w) F sc_read_integer (fun vs H Q E h => ?_) (fun cdv A outer s H vs Q E hr h => ?_)
  · obtain ⟨x, rfl, _⟩ := h
    rfl
  · obtain ⟨x, rfl, lx, k, kx⟩ := h
    have nd := sc_read_integer.nd
    have r2 : Room (1 + 1) _ := hr.mono (by decide)
    refine ⟨_, Evl.pss_cut (ps_set (i := 1) nd rfl (Or.inl rfl) (pe_ifExp (pt_val (pe_m1 PySem.F.slot_str_startswith PySem.F.type_str_startswith mt_startswith (pv 0) pe_str)) (pe_slice sl_str (pv 0) (po_some pe_int) po_none) (pv 0)))
      (pss_cons (ps_if (PW.pt (pw_or (pt_not (pt_truth (pv 1) (by intro _; rfl))) (pw_or (pt_cmpR op_gt (pe_callB call_len_str (by rfl) mL PySem.boot_len (pa_cons (pv 1) pa_nil)) pe_int (nomark _)) (pw_or1 (pt_not (pt_val (pe_callB (cr_all rfl) (by rfl) mAl (by decide +kernel) (pa_cons (pe_lc (own := [("sign", 2)]) (g := gName 2) (tt := tYes) (te := tOp rInSign (tVar 2) (tC (.str "0123456789"))) rfl nd (pi_str (pv 1)) (blkOk_by (N := n_read_integer) (sc := defScope s_read_integer) (by decide +kernel)) (fun _ _ _ _ _ => pg_name (i := 2) nd rfl (Or.inl rfl)) (fun _ _ _ _ _ => pts_nil) (fun _ _ _ _ _ => pe_cmpR op_in_sign (pv 2) pe_str (by rfl))) pa_nil)))))))) (pss_one (L2N.ps_raise rfl (L2N.takes_of rfl rfl rfl rfl) (pmkN_oex (k := 1) TU.ox TU.iC G.tI FI r2 bI pass0 (by rfl) mE (pa_cons (pv 0) pa_nil)))) pss_nil)
      (pss_cons (ps_if (PW.pt (pw_and (pt_val (pe_m1 PySem.F.slot_str_startswith PySem.F.type_str_startswith mt_startswith (pv 1) pe_str)) (pw_and1 (pt_cmpR op_ne (pv 0) pe_str (nomark _))))) (pss_one (L2N.ps_raise rfl (L2N.takes_of rfl rfl rfl rfl) (pmkN_oex (k := 1) TU.ox TU.iC G.tI FI r2 bI pass0 (by rfl) mE (pa_cons (pv 0) pa_nil)))) pss_nil)
      (pss_one (ps_ret (pe_callTy call_int_str (by rfl) mIn (by decide +kernel) (pa_cons (pv 0) pa_nil)))))), ?_⟩
    have l45 : (("-" : Str)) = ⟨#[45]⟩ := by decide +kernel
    have l48 : (("0" : Str)) = ⟨#[48]⟩ := by decide +kernel
    have szx : x.length ≤ sizeLine := Nat.le_trans lx (by decide)
    refine ⟨fun σ H' => H' = H ∧ ∃ y : Str, σ = [some (.str x), some (.str y), none] ∧ TL.tl y = dgs x, ?_, ?_⟩
    · refine ⟨_, rfl, ⟨_, rfl⟩, x, _, rfl, rfl, _, rfl, ?_⟩
      rw [l45, starts1]
      by_cases h45 : (TL.tl x).head? = some 45
      · refine if_t (decide_eq_true h45) ⟨_, rfl, 1, rfl, x, rfl, szx, rfl, _, rfl, ?_⟩
        rw [cut1_tl]
        unfold dgs
        rw [if_pos h45]
      · refine if_f (decide_eq_false h45) ⟨_, rfl, rfl, x, rfl, ?_⟩
        unfold dgs
        rw [if_neg h45]
    rintro σ H' ⟨rfl, y, rfl, hy⟩
    have ly : y.length = (dgs x).length := by rw [TL.len_tl, hy]
    have lyx : y.length ≤ 4000 := by
      rw [ly]
      have : (dgs x).length ≤ (TL.tl x).length := by
        unfold dgs
        split
        · rw [List.length_drop]; omega
        · exact Nat.le_refl _
      rw [← TL.len_tl] at this
      omega
    have szy : y.length ≤ sizeLine := Nat.le_trans lyx (by decide)
    have bad : ∀ {H1 : Hp}, Evl.Ex H' H1 → NumB x = false → [V.str x].length ≤ 1000 ∧ ∀ a, H1 a = none → spInit K (.ref a :: ([V.str x] ++ [])) (upd H1 a (exo a CU none)) (fun v G2 => v = .non ∧ ∃ (d : Addr) (fs : List (Str × V)), G2 a = some (exo a CU (some d)) ∧ G2 d = some (exd d fs) ∧ H1 d = none ∧ E (.ref CU) (some d) (upd (del G2 a) d (.xd fs))) (fun _ _ _ => False) := fun {H1} e1 hb => raise_in TU fun e G' he ee hx => kx hb H1 e1 e G' he ee hx
    have hNB : NumB x = (decide (dgs x ≠ []) && decide ((dgs x).length ≤ 9) && (dgs x).all (fun c => decide (48 ≤ c ∧ c ≤ 57)) && (decide ((dgs x).head? ≠ some 48) || decide (TL.tl x = [48]))) := rfl
    by_cases h0 : dgs x = []
    · refine ⟨_, rfl, _, ⟨szy, rfl⟩, if_t ?_ (if_t rfl ⟨_, rfl, bad (Evl.Ex.refl _) ?_⟩)⟩
      · rw [ly, h0]; rfl
      · rw [hNB, decide_eq_false (fun h => h h0)]; rfl
    have y0 : 0 < y.length := by
      rw [ly]; exact List.length_pos_iff.mpr h0
    refine ⟨_, rfl, _, ⟨szy, rfl⟩, if_f ?_ ?_⟩
    · have : ((y.length : Int) != 0) = true := bne_iff_ne.mpr (by omega)
      rw [this]; rfl
    by_cases h9 : ¬ (dgs x).length ≤ 9
    · refine ⟨_, rfl, y, rfl, szy, _, _, rfl, rfl, _, rfl, if_t (decide_eq_true (by omega)) (if_t rfl ⟨_, rfl, bad (Evl.Ex.refl _) ?_⟩)⟩
      rw [hNB, decide_eq_false h9, Bool.and_false]; rfl
    have h9 := Decidable.not_not.mp h9
    refine ⟨_, rfl, y, rfl, szy, _, _, rfl, rfl, _, rfl, if_f (decide_eq_false (by omega)) ?_⟩
    refine ⟨_, rfl, y, rfl, fun D hD => lc_str (fun i H2 => Evl.Ex H' H2 ∧ H2 D = some (.lst ((((dgs x).take i).map fun c => decide (48 ≤ c ∧ c ≤ 57)).map V.bl))) ⟨Evl.Ex.new hD, upd_same⟩ ?_ ?_⟩
    · rintro i c H2 hc ⟨e2, g2⟩
      rw [hy] at hc
      refine ⟨rfl, ?_⟩
      show tOp rInSign (tVar 2) (tC (.str "0123456789")) _ _ _
      refine ⟨_, rfl, c, _, rfl, rfl, _, g2, ?_, Evl.Ex.mut e2 hD, ?_⟩
      · rw [List.length_map, List.length_map, List.length_take]
        exact Nat.lt_of_le_of_lt (show min i (dgs x).length ≤ 9 by omega) (by decide)
      · rw [upd_same, dig10, List.take_add_one, hc, List.map_append, List.map_append]
        rfl
    rintro H2 ⟨e2, g2⟩
    rw [hy, List.take_length] at g2
    refine ⟨D, _, rfl, SqL.of g2, _, rfl, ?_⟩
    have eall : (((dgs x).map fun c => decide (48 ≤ c ∧ c ≤ 57)).all id) = (dgs x).all (fun c => decide (48 ≤ c ∧ c ≤ 57)) := by rw [List.all_map]; rfl
    rw [eall]
    by_cases ha : (dgs x).all (fun c => decide (48 ≤ c ∧ c ≤ 57)) = false
    · rw [ha]
      refine if_t rfl ⟨_, rfl, bad e2 ?_⟩
      rw [hNB, ha, Bool.and_false]; rfl
    have ha := Bool.not_eq_false _ |>.mp ha
    rw [ha]
    refine if_f rfl ⟨_, rfl, ⟨_, rfl⟩, y, _, rfl, rfl, _, rfl, ?_⟩
    rw [l48, starts1, hy]
    have fin : NumB x = true → ∃ n : Int, x = nT n ∧ intText? x = some n ∧ x.length ≤ 640 ∧ Q (.int n) H2 := fun hb => by
      obtain ⟨n, rfl, hn⟩ := numB_iff.mp hb
      exact ⟨n, rfl, nT_reads hn, Nat.le_trans (nT_len hn) (by decide), k n rfl hn _ e2⟩
    have n0 : decide (dgs x ≠ []) = true := decide_eq_true h0
    have n9 : decide ((dgs x).length ≤ 9) = true := decide_eq_true h9
    rw [n0, n9, ha] at hNB
    by_cases hh : (dgs x).head? = some 48
    · rw [decide_eq_true hh]
      refine if_t rfl ⟨_, rfl, rfl, ?_⟩
      by_cases hx : TL.tl x = [48]
      · have ex : x = ("0" : Str) := tl_inj1 (by rw [l48]; exact hx)
        obtain ⟨n, _, h1, h2, h3⟩ := fin (by rw [hNB, decide_eq_true hx, Bool.or_true]; rfl)
        exact ⟨_, rfl, if_f (by rw [ex]; rfl) ⟨_, rfl, x, n, rfl, h1, h2, h3⟩⟩
      · have ex : V.str x ≠ V.str ("0" : Str) := fun h => by
          injection h with h
          exact hx (by rw [h, l48])
        refine ⟨_, rfl, if_t (by rw [l48] at ex; rw [decide_eq_false ex]; rfl) ⟨_, rfl, bad e2 ?_⟩⟩
        rw [hNB, decide_eq_false hx, decide_eq_false (fun h => h hh)]; rfl
    · rw [decide_eq_false hh]
      obtain ⟨n, _, h1, h2, h3⟩ := fin (by rw [hNB, decide_eq_true hh]; rfl)
      exact if_f rfl ⟨_, rfl, x, n, rfl, h1, h2, h3⟩
end
end V2


namespace V2
open PySem L2
open PySem.Spec PyProof.Rows
abbrev rSpl : V → List V → Hp → VK → Prop := fun x xs H Q => ∃ a b, x = .str a ∧ xs = [.str b] ∧ (b.length == 0) = false ∧ a.length + 2 ≤ sizeLine ∧ rNewStrs (Txt.split a b) H Q
/-- signs of the texts -/
theorem nT_free {n : Int} {s : Nat} (h : s < 48 ∨ 57 < s) (h45 : s ≠ 45) : s ∉ TL.tl (nT n) := by
  cases n with
  | ofNat k => rw [show TL.tl (nT (Int.ofNat k)) = TL.numL k from tl_nT_nat k]; exact TL.numL_free h
  | negSucc k =>
    rw [tl_nT_neg]
    intro hm
    rcases List.mem_cons.mp hm with e | e
    · exact h45 e
    · exact TL.numL_free h e
theorem joinL_mem {y : List Nat} {s : Nat} : ∀ {ps : List (List Nat)}, s ∈ TL.joinL y ps → s ∈ y ∨ ∃ p ∈ ps, s ∈ p
  | [], h => by cases h
  | [p], h => .inr ⟨p, List.mem_cons_self, h⟩
  | p :: q :: ps, h => by
    have h : s ∈ p ++ (y ++ TL.joinL y (q :: ps)) := h
    rcases List.mem_append.mp h with h | h
    · exact .inr ⟨p, List.mem_cons_self, h⟩
    · rcases List.mem_append.mp h with h | h
      · exact .inl h
      · rcases joinL_mem h with h | ⟨p, hp, h⟩
        · exact .inl h
        · exact .inr ⟨p, List.mem_cons_of_mem _ hp, h⟩
theorem join_free {y : Str} {s : Nat} {ps : List Str} (hy : s ∉ TL.tl y) (hp : ∀ p ∈ ps, s ∉ TL.tl p) : s ∉ TL.tl (Txt.join y ps) := by
  rw [TL.join_eq, TL.tl_join]
  intro h
  rcases joinL_mem h with h | ⟨p, hq, h⟩
  · exact hy h
  · obtain ⟨z, hz, rfl⟩ := List.mem_map.mp hq
    exact hp z hz h
def wT : Option Int → Str
  | none => "w"
  | some z => nT z
theorem tkT_join (t : Tk) : tkT t = Txt.join " " [nT t.2, "in", wT t.1] := by
  refine tl_inj1 ?_
  rw [TL.join_eq, TL.tl_join]
  unfold tkT
  rw [TL.tl_append, TL.tl_append]
  cases t.1 <;> (show _ ++ _ ++ _ = TL.tl (nT t.2) ++ (TL.tl " " ++ (TL.tl "in" ++ (TL.tl " " ++ _))); rw [List.append_assoc]; rfl)
theorem scT_len {ts : List Tk} {ds : List Deed} (h : ∀ t ∈ ts, TkSm t) (h20 : ts.length ≤ 20) (hd : ∀ d ∈ ds, DSm d) (h60 : ds.length ≤ 60) : (scT ts ds).length ≤ 60000 := by
  have h1 := join_len "; " (tksT ts :: ds.map dT)
  have h2 := sum_deeds hd
  have h3 := tksT_len h h20
  have l4 : (("; " : Str)).length = 2 := rfl
  show (Txt.join "; " (tksT ts :: ds.map dT)).length ≤ 60000
  simp only [List.map_cons, List.sum_cons, List.length_cons] at h1
  rw [List.length_map (as := ds), l4] at h1
  omega
section
variable {base : Heap} {mg : Str → Option Value} {K : PySem.W.Frag} {w : World} {P : Program} {C CT fI fT fS pT pS : Addr}
end
end V2


namespace V2
open PySem L2
open PySem.Spec PyProof.Rows
def spSh4 : Sp := fun vs H Q _ => ∃ x y : Int, vs = [.int x, .int y] ∧ x.natAbs < 2 ^ 190 ∧ y.natAbs < 2 ^ 190 ∧ Evl.RetV (.int (Int.gcd x y : Int)) H Q
def spRa4 : Sp := fun vs H Q _ => ∃ x y : Int, vs = [.int x, .int y] ∧ x.natAbs < 2 ^ 190 ∧ y.natAbs < 2 ^ 190 ∧ 0 < y ∧ RetU [.int (fr x y).1, .int (fr x y).2] H Q
theorem bn190 {y : Int} (y0 : 0 ≤ y) (y1 : y ≤ 1000000000000000) : y.natAbs < 2 ^ 190 :=
  Nat.lt_of_lt_of_le (m := 2 ^ 50) (Nat.lt_of_le_of_lt (show y.natAbs ≤ 1000000000000000 by omega) (by decide)) (Nat.pow_le_pow_right (by decide) (by decide))
def spPt4 : Sp := fun vs H Q _ => ∃ (s : Addr) (m : Int) (n : Nat), vs = [.ref s, .int m] ∧ 0 < m ∧ m ≤ 1000 ∧ Sk H s n ∧ n ≤ 90000 ∧ ∀ (t : Addr) (p q : Int) (H' : Hp), But s H H' → Sk H' s (n + 2) → H t = none → H' t = some (.tup [.int p, .int q]) → Pt p q → q ≤ 1001 → Q (.ref t) H'
section
variable {base : Heap} {mg : Str → Option Value} {K : PySem.W.Frag} {w : World} {P : Program} {C fI fT fS pT pS : Addr}
theorem ok_shared4 {f : Addr} {fd : FuncData} (F : Fun K "_law_shared" "_law_shared" s_l_shared f fd) (T : T0 mg) (mR : mg "range" = none) : FnOk P w K mg base CX0 1 f fd p_l_shared spSh4 := by
  refine F.ok sc_l_shared (fun vs H Q E h => ?_) (fun cdv A outer s H vs Q E hr h => ?_)
  · obtain ⟨x, y, rfl, _⟩ := h
    rfl
  · obtain ⟨x, y, rfl, hx, hy, k⟩ := h
    have nd := sc_l_shared.nd
    refine ⟨_, pss_cons (ps_par (i := 0) (j := 1) rfl nd rfl rfl (by decide) rfl rfl (pa_cons (pe_callB call_abs (by rfl) T.abs (by decide +kernel) (pa_cons (pv 0) pa_nil)) (pa_cons (pe_callB call_abs (by rfl) T.abs (by decide +kernel) (pa_cons (pv 1) pa_nil)) pa_nil)) (by rfl))
      (pss_cons (ps_for PassesOwn.never rfl (pi_range1 (by rfl) mR (pa_cons pe_int pa_nil)) (pg_name (i := 2) nd rfl (Or.inl rfl))
        (pss_cons (ps_if (pt_cmpR op_eq (pv 1) pe_int (nomark _)) (pss_one (ps_ret (pv 0))) pss_nil)
        (pss_one (ps_par (i := 0) (j := 1) rfl nd rfl rfl (by decide) rfl rfl (pa_cons (pv 1) (pa_cons (pe_op op_mod (pe_callTy call_int1 (by rfl) T.int (by decide +kernel) (pa_cons (pv 0) pa_nil)) (pe_callTy call_int1 (by rfl) T.int (by decide +kernel) (pa_cons (pv 1) pa_nil))) pa_nil)) (by rfl)))))
      (pss_one (ps_ret (pv 0)))), ?_⟩
    have ab : ∀ z : Int, (if z < 0 then -z else z) = (z.natAbs : Int) := fun z => by split <;> omega
    refine ⟨_, rfl, _, rfl, _, rfl, _, rfl, _, _, rfl, ?_⟩
    rw [ab, ab]
    refine ⟨400, rfl, by decide, by decide, for_range (n := 400) (fun i σ H' => H' = H ∧ ∃ (l r : Nat) (v : Option V), σ = [some (.int l), some (.int r), v] ∧ Euc 190 x.natAbs y.natAbs i l r)
      ⟨rfl, _, _, none, rfl, euc_0 hx hy⟩ ?_ ?_⟩
    · rintro i σ H' hi ⟨rfl, l, r, v, rfl, he⟩
      (refine ⟨_, rfl, rfl, _, rfl, ?_⟩)
      refine ite2 (fun q => ?_) (fun q => ?_)
      · have q1 : r = 0 := by
          have := of_decide_eq_true q
          injection this with h1
          omega
        subst q1
        refine ⟨_, rfl, ?_⟩
        have e : (l : Int) = (Int.gcd x y : Int) := by rw [euc_val he]; rfl
        rw [e]
        exact k _ (Evl.Ex.refl _)
      · have q1 : 0 < r := by
          rcases Nat.eq_zero_or_pos r with e | e
          · subst e; exact absurd (by decide) q
          · exact e
        refine ⟨_, rfl, _, rfl, .inl ⟨_, rfl, _, rfl, .inl ⟨_, rfl, _, _, rfl, rfl, (by show (0 : Int) < (r : Int); omega), _, _, rfl, ?_⟩⟩⟩
        exact ⟨rfl, r, l % r, _, rfl, euc_s he q1⟩
    · rintro σ H' ⟨rfl, l, r, v, rfl, he⟩
      have := euc_end he (by decide)
      subst this
      refine ⟨_, rfl, ?_⟩
      have e : (l : Int) = (Int.gcd x y : Int) := by rw [euc_val he]; rfl
      rw [e]
      exact k _ (Evl.Ex.refl _)
theorem ok_ratio4 {f : Addr} {fd : FuncData} (F : Fun K "_law_ratio" "_law_ratio" s_l_ratio f fd) (T : T0 mg) (cS : Cal P w K mg base 1 "_law_shared" p_l_shared spSh4) : FnOk P w K mg base CX0 2 f fd p_l_ratio spRa4 := by
  refine F.ok sc_l_ratio (fun vs H Q E h => ?_) (fun cdv A outer s H vs Q E hr h => ?_)
  · obtain ⟨x, y, rfl, _⟩ := h
    rfl
  · obtain ⟨x, y, rfl, hx, hy, y0, k⟩ := h
    have nd := sc_l_ratio.nd
    refine ⟨_, pss_cons (ps_set (i := 2) nd rfl (Or.inl rfl) (pe_op op_mul (pe_c cS hr (pa_cons (pv 0) (pa_cons (pv 1) pa_nil))) (pe_op op_sub pe_int (pe_op op_mul pe_int (pe_callTy call_int1 (by rfl) T.int (by decide +kernel) (pa_cons (pe_cmpR op_lt (pv 1) pe_int (nomark _)) pa_nil))))))
      (pss_one (ps_ret (pe_tup (pa_cons (pe_op op_fdivW (pv 0) (pv 2)) (pa_cons (pe_op op_fdivW (pv 1) (pv 2)) pa_nil))))), ?_⟩
    have e0 : (1 - 2 * (if decide (y < 0) = true then (1 : Int) else 0)) = 1 := by rw [decide_eq_false (by omega)]; rfl
    have g := gcd_pos (u := x) y0
    have gb : (Int.gcd x y : Int).natAbs < 2 ^ 190 := by
      rw [Int.natAbs_natCast]
      exact Nat.lt_of_le_of_lt (Nat.gcd_le_right _ (by omega)) hy
    have eG : (Int.gcd x y : Int) * (1 - 2 * (if decide (y < 0) = true then (1 : Int) else 0)) = (Int.gcd x y : Int) := by rw [e0, Int.mul_one]
    have cD : CDivW x ((Int.gcd x y : Int) * (1 - 2 * (if decide (y < 0) = true then (1 : Int) else 0))) := by rw [eG]; exact wide_div g gb (by decide) (by decide)
    refine ⟨_, rfl, _, rfl, x, y, rfl, hx, hy, fun H2 e2 => ?_⟩
    refine ⟨_, rfl, _, _, rfl, rfl, .inr ⟨_, rfl, 2, _, rfl, rfl, .inl ⟨by decide, by decide⟩, 1, _, rfl, rfl, _, _, rfl, rfl, .inr ⟨by rw [e0]; decide, by rw [e0]; decide⟩, ?_⟩⟩
    refine ⟨_, rfl, _, rfl, _, _, rfl, rfl, cD, _, rfl, _, rfl, _, _, rfl, rfl, cD, (by show 2 ≤ sizeLine; decide), fun p hp => ?_⟩
    refine k p _ (Evl.fresh_back e2 hp) (e2.trans (Evl.Ex.new hp)) ?_
    rw [upd_same]
    show some (HO.tup [V.int (x / ((Int.gcd x y : Int) * (1 - 2 * (if decide (y < 0) = true then (1 : Int) else 0)))), V.int (y / ((Int.gcd x y : Int) * (1 - 2 * (if decide (y < 0) = true then (1 : Int) else 0))))]) = _
    rw [eG]
    rfl
theorem ok_part4 {f : Addr} {fd : FuncData} (F : Fun K "_law_drawn_part" "_law_drawn_part" s_l_drawn_part f fd) (cC : Cal P w K mg base 1 "_law_coin" p_l_coin spCoin) (cR : Cal P w K mg base 2 "_law_ratio" p_l_ratio spRa4) : FnOk P w K mg base CX0 3 f fd p_l_drawn_part spPt4 := by
  refine F.ok sc_l_drawn_part (fun vs H Q E h => ?_) (fun cdv A outer s H vs Q E hr h => ?_)
  · obtain ⟨s, m, n, rfl, _⟩ := h
    rfl
  · obtain ⟨sk, m, n, rfl, m0, m1, hS, hn, k⟩ := h
    have nd := sc_l_drawn_part.nd
    have r1 : Room 1 _ := hr.mono (by decide)
    refine ⟨_, pss_cons (ps_set (i := 2) nd rfl (Or.inl rfl) (pe_op op_add pe_int (pe_c cC r1 (pa_cons (pv 0) (pa_cons (pv 1) pa_nil)))))
      (pss_one (ps_ret (pe_c cR hr (pa_cons (pe_c cC r1 (pa_cons (pv 0) (pa_cons (pe_op op_add (pv 2) pe_int) pa_nil))) (pa_cons (pv 2) pa_nil))))), ?_⟩
    have n200 : (2 : Nat) ^ 200 = 1606938044258990275541962092341162602522202993782792835301376 := by decide
    refine ⟨_, rfl, _, rfl, sk, m, n, rfl, hS, by omega, m0, by rw [n200]; omega, fun r H1 r0 r1' b1 s1 z1 => ⟨_, _, rfl, rfl, ?_⟩⟩
    refine ⟨_, rfl, _, rfl, _, _, rfl, rfl, sk, 1 + r + 1, n + 1, rfl, s1, by omega, by omega, by rw [n200]; omega, fun x H2 x0 x1 b2 s2 z2 => ⟨_, rfl, x, 1 + r, rfl, ?_, ?_, by omega, fun t H3 ht e3 h3 => ?_⟩⟩
    · exact Nat.lt_of_le_of_lt (show x.natAbs ≤ 1001 by omega) (Nat.lt_of_lt_of_le (show 1001 < 2 ^ 10 by decide) (Nat.pow_le_pow_right (by decide) (by decide)))
    · exact Nat.lt_of_le_of_lt (show (1 + r).natAbs ≤ 1000 by omega) (Nat.lt_of_lt_of_le (show 1000 < 2 ^ 10 by decide) (Nat.pow_le_pow_right (by decide) (by decide)))
    · have tn : H t = none := by
        cases e : H t with
        | none => rfl
        | some o =>
          have h1 := b1 t o (sk_ne s2 ht) e
          have h2 := b2 t o (sk_ne s2 ht) h1
          rw [ht] at h2
          cases h2
      exact k t _ _ H3 ((b1.trans b2).trans (But.of_ex e3)) (s2.ex e3) tn h3 (fr_part (by omega) x0 (by omega) (by omega)) (by have := fr_abs2 (a := x) (b := 1 + r) (by omega); omega)
theorem ok_pair4 {f : Addr} {fd : FuncData} (F : Fun K "_law_pair" "_law_pair" s_l_pair f fd) (T : T0 mg) (cC : Cal P w K mg base 1 "_law_coin" p_l_coin spCoin) : FnOk P w K mg base CX0 2 f fd p_l_pair spTwo2 := by
  refine F.ok sc_l_pair (fun vs H Q E h => ?_) (fun cdv A outer s H vs Q E hr h => ?_)
  · obtain ⟨s, m, n, rfl, _⟩ := h
    rfl
  · obtain ⟨sk, m, n, rfl, m0, m1, hS, hn, k⟩ := h
    have nd := sc_l_pair.nd
    have two : 2 ≤ sizeLine := by show 2 ≤ sizeLine; decide
    refine ⟨_, pss_cons (ps_set (i := 2) nd rfl (Or.inl rfl) (pe_c cC hr (pa_cons (pv 0) (pa_cons (pv 1) pa_nil))))
      (pss_one (ps_ret (pe_tup (pa_cons (pv 2) (pa_cons (pe_op op_mod (pe_callTy call_int1 (by rfl) T.int (by decide +kernel) (pa_cons (pe_op op_add (pe_op op_add (pv 2) pe_int) (pe_c cC hr (pa_cons (pv 0) (pa_cons (pe_op op_sub (pv 1) pe_int) pa_nil)))) pa_nil)) (pv 1)) pa_nil))))), ?_⟩
    have n200 := n200e
    refine ⟨_, rfl, _, rfl, sk, m, n, rfl, hS, by omega, by omega, by rw [n200]; omega, fun x H1 x0 x1 b1 s1 z1 => ?_⟩
    refine ⟨_, rfl, _, rfl, _, _, rfl, rfl, _, rfl, _, rfl, _, _, rfl, rfl, ?_⟩
    refine ⟨sk, m - 1, n + 1, rfl, s1, by omega, by omega, by rw [n200]; omega, fun c H2 c0 c1 b2 s2 z2 => ⟨_, _, rfl, rfl, .inl ⟨_, rfl, _, rfl, _, _, rfl, rfl, by omega, two, fun t ht => ?_⟩⟩⟩
    have tn : H t = none := by
      cases e : H t with
      | none => rfl
      | some o =>
        have h1 := b1 t o (sk_ne s2 ht) e
        have h2 := b2 t o (sk_ne s2 ht) h1
        rw [ht] at h2
        cases h2
    refine k t x ((x + 1 + c) % m) _ ((b1.trans b2).trans (But.of_ex (Evl.Ex.new ht))) (s2.ex (Evl.Ex.new ht)) tn upd_same x0 x1 (Int.emod_nonneg _ (by omega)) (Int.emod_lt_of_pos _ (by omega)) ?_
    intro z
    by_cases hh : x + 1 + c < m
    · rw [Int.emod_eq_of_lt (by omega) hh] at z
      omega
    · have e : (x + 1 + c) % m = x + 1 + c - m := by
        rw [← Int.sub_emod_right, Int.emod_eq_of_lt (by omega) (by omega)]
      rw [e] at z
      omega
theorem ok_tanks4 {f : Addr} {fd : FuncData} (F : Fun K "_law_drawn_tanks" "_law_drawn_tanks" s_l_drawn_tanks f fd) (mR : mg "range" = none) (cC : Cal P w K mg base 1 "_law_coin" p_l_coin spCoin) : FnOk P w K mg base CX0 2 f fd p_l_drawn_tanks spVats := by
  refine F.ok sc_l_drawn_tanks (fun vs H Q E h => ?_) (fun cdv A outer s H vs Q E hr h => ?_)
  · obtain ⟨s, m, o, n, rfl, _⟩ := h
    rfl
  · obtain ⟨sk, m, o, n, rfl, m0, m1, o0, o1, hS, hn, k⟩ := h
    have nd := sc_l_drawn_tanks.nd
    have two : 2 ≤ sizeLine := by show 2 ≤ sizeLine; decide
    have n200 := n200e
    refine ⟨_, pss_cons (ps_par (i := 3) (j := 4) rfl nd rfl rfl (by decide) rfl rfl (pa_cons (pe_c cC hr (pa_cons (pv 0) (pa_cons (pv 1) pa_nil))) (pa_cons (pe_lst pa_nil) pa_nil)) (by rfl))
      (pss_cons (ps_for PassesOwn.never rfl (pi_range1 (by rfl) mR (pa_cons (pv 1) pa_nil)) (pg_name (i := 5) nd rfl (Or.inl rfl)) (pss_cons (ps_set (i := 6) nd rfl (Or.inl rfl) (pe_c cC hr (pa_cons (pv 0) (pa_cons (pe_op op_add (pv 2) pe_int) pa_nil))))
      (Evl.pss_cut (ps_if (pt_cmpR op_eq (pe_c cC hr (pa_cons (pv 0) (pa_cons pe_int pa_nil))) pe_int (nomark _)) (pss_one (ps_set (i := 6) nd rfl (Or.inl rfl) pe_int)) pss_nil)
      (pss_cons (ps_set (i := 7) nd rfl (Or.inl rfl) (pe_op op_add pe_int (pe_c cC hr (pa_cons (pv 0) (pa_cons (pv 2) pa_nil)))))
      (pss_one (ps_expr (pe_bm PySem.F.plainAttrs_list PySem.F.slot_list_append PySem.F.type_list_append mt_append (pv 4) (pa_cons (pe_tup (pa_cons (pe_ifExp (pt_cmpR op_eq (pv 5) (pv 3) (nomark _)) pe_non (pv 7)) (pa_cons (pv 6) pa_nil))) pa_nil))))))))
      (pss_one (ps_ret (pv 4)))), ?_⟩
    refine ⟨_, rfl, _, rfl, sk, m, n, rfl, hS, by omega, m0, by rw [n200]; omega, fun rk H1 rk0 rk1 b1 s1 z1 => ⟨Nat.zero_le _, fun l hl => ⟨_, _, rfl, ?_⟩⟩⟩
    have lsk : l ≠ sk := sk_ne s1 hl
    have lH : H l = none := but_none b1 s1 hl
    have e1 := Evl.Ex.new (o := .lst []) hl
    refine ⟨_, rfl, m, rfl, by omega, by omega, for_range (n := m.toNat) (fun i σ H' => ∃ (ts : List Tk) (v5 v6 v7 : Option V), σ = [some (.ref sk), some (.int m), some (.int o), some (.int rk), some (.ref l), v5, v6, v7] ∧ But sk H H' ∧ Sk H' sk (n + 1 + 3 * i) ∧ TksAt (wo sk H') l ts ∧ ts.length = i ∧ (∀ t ∈ ts, ((∀ z, t.1 = some z → 1 ≤ z) ∧ 0 ≤ t.2) ∧ (∀ z, t.1 = some z → z ≤ 1000) ∧ t.2 ≤ 1000) ∧ ts.countP (fun t => t.1.isNone) = if rk < (i : Int) then 1 else 0)
      ⟨[], none, none, none, rfl, b1.trans (But.of_ex e1), s1.ex e1, ⟨[], wo_at lsk upd_same, rfl, fun i a t h => (by cases h)⟩, rfl, (fun t h => by cases h), by rw [if_neg (by omega)]; rfl⟩ ?_ ?_⟩
    · rintro i σ H2 hi ⟨ts, v5, v6, v7, rfl, b2, s2, hT, hl2, hb, hc⟩
      rw [Int.zero_add]
      have hi20 : i < 20 := by omega
      have fin : ∀ (H5 : Hp) (x : Tk) (t : Addr), But sk H2 H5 → Sk H5 sk (n + 1 + 3 * (i + 1)) → H5 t = none → ((∀ z, x.1 = some z → 1 ≤ z) ∧ 0 ≤ x.2) ∧ (∀ z, x.1 = some z → z ≤ 1000) ∧ x.2 ≤ 1000 → (x.1 = none ↔ rk = (i : Int)) →
          ∃ acc, upd H5 t (.tup [wV x.1, .int x.2]) l = some (.lst acc) ∧ acc.length < sizeLine ∧ ∃ (ts : List Tk), But sk H (upd (upd H5 t (.tup [wV x.1, .int x.2])) l (.lst (acc ++ [.ref t]))) ∧ Sk (upd (upd H5 t (.tup [wV x.1, .int x.2])) l (.lst (acc ++ [.ref t]))) sk (n + 1 + 3 * (i + 1)) ∧ TksAt (wo sk (upd (upd H5 t (.tup [wV x.1, .int x.2])) l (.lst (acc ++ [.ref t])))) l ts ∧ ts.length = i + 1 ∧ (∀ t ∈ ts, ((∀ z, t.1 = some z → 1 ≤ z) ∧ 0 ≤ t.2) ∧ (∀ z, t.1 = some z → z ≤ 1000) ∧ t.2 ≤ 1000) ∧ ts.countP (fun t => t.1.isNone) = if rk < ((i + 1 : Nat) : Int) then 1 else 0 := by
        intro H5 x t b5 s5 ht hx hn
        have ex := Evl.Ex.new (o := .tup [wV x.1, .int x.2]) ht
        have b26 := b5.trans (But.of_ex (p := sk) ex)
        have s6 := s5.ex ex
        have h6 : upd H5 t (.tup [wV x.1, .int x.2]) t = some (.tup [wV x.1, .int x.2]) := upd_same
        generalize upd H5 t (.tup [wV x.1, .int x.2]) = H6 at ex b26 s6 h6
        obtain ⟨acc, q1, q2, q3⟩ := tks_more (x := x) (hT.ex b26.wo) (sk_ne s5 ht) h6
        refine ⟨acc, q1, ?_, ts ++ [x], ?_, ?_, q3, by rw [List.length_append, hl2]; rfl, ?_, cnt_more hc hn⟩
        · rw [q2, hl2]
          exact Nat.lt_of_lt_of_le hi20 (by decide)
        · exact fun c o nc e => Eq.trans (upd_ne (ne_of_none' e lH)) ((b2.trans b26) c o nc e)
        · exact s6.upd lsk
        · intro t' ht'
          rcases List.mem_append.mp ht' with h | h
          · exact hb _ h
          · rw [List.mem_singleton.mp h]
            exact hx
      refine ⟨_, rfl, _, rfl, _, _, rfl, rfl, sk, o + 1, _, rfl, s2, by omega, by omega, by rw [n200]; omega, fun a H3 a0 a1 b3 s3 z3 => ?_⟩
      refine ⟨fun σ H' => ∃ (e : Int), σ = [some (.ref sk), some (.int m), some (.int o), some (.int rk), some (.ref l), some (.int (i : Int)), some (.int e), v7] ∧ 0 ≤ e ∧ e ≤ 1000 ∧ But sk H3 H' ∧ Sk H' sk (n + 1 + 3 * i + 2), ?_, ?_⟩
      · refine ⟨_, rfl, sk, 4, _, rfl, s3, by omega, by decide, by decide, fun y H4 y0 y1 b4 s4 z4 => ⟨rfl, _, rfl, ?_⟩⟩
        by_cases hy : y = 0
        · exact if_t (by rw [hy]; exact decide_eq_true rfl) ⟨0, rfl, by decide, by decide, b4, s4⟩
        · exact if_f (decide_eq_false fun z => hy (by cases z; rfl)) ⟨a, rfl, by omega, by omega, b4, s4⟩
      rintro σ H4 ⟨e, rfl, e0, e1', b4, s4⟩
      refine ⟨_, rfl, _, rfl, sk, o, _, rfl, s4, by omega, by omega, by rw [n200]; omega, fun z H5 z0 z1 b5 s5 z5 => ⟨_, _, rfl, rfl, ?_⟩⟩
      have b25 := (b3.trans b4).trans b5
      have hT5 := hT.ex b25.wo
      refine ⟨_, rfl, .inl ⟨rfl, _, SqL.of (wo_ex _ _ hT5.choose_spec.1)⟩, ?_⟩
      refine ⟨_, rfl, _, rfl, rfl, _, rfl, ?_⟩
      by_cases hr : rk = (i : Int)
      · refine if_t (decide_eq_true (by rw [hr])) ⟨_, rfl, two, fun t ht => ?_⟩
        obtain ⟨acc, q1, q2, ts', q3, q4⟩ := fin H5 (none, e) t b25 (s5.le (by omega)) ht ⟨⟨fun z h => (by cases h), e0⟩, fun z h => (by cases h), e1'⟩ ⟨fun _ => hr, fun _ => rfl⟩
        exact ⟨l, acc, _, rfl, rfl, q1, q2, ts', _, _, _, rfl, q3, q4⟩
      · refine if_f (decide_eq_false fun q => hr (by injection q with q; exact q.symm)) ⟨_, rfl, _, rfl, two, fun t ht => ?_⟩
        obtain ⟨acc, q1, q2, ts', q3, q4⟩ := fin H5 (some (1 + z), e) t b25 (s5.le (by omega)) ht ⟨⟨fun z' h => (by cases h; omega), e0⟩, fun z' h => (by cases h; omega), e1'⟩ ⟨fun h => (by cases h), fun h => absurd h hr⟩
        exact ⟨l, acc, _, rfl, rfl, q1, q2, ts', _, _, _, rfl, q3, q4⟩
    · rintro σ H2 ⟨ts, v5, v6, v7, rfl, b2, s2, hT, hl2, hb, hc⟩
      refine ⟨_, rfl, k l ts H2 b2 s2 lH hT ⟨by omega, fun t ht => (hb t ht).1, ?_⟩ (by omega) fun t ht => (hb t ht).2⟩
      rw [hc, if_pos (by omega)]
end
end V2


namespace V2
open PySem L2
open PySem.Spec PyProof.Rows
theorem inV_iV (i : Int) : ∀ ks : List Int, inV (.int i) (iV ks) = true ↔ i ∈ ks
  | [] => by simp [inV, iV]
  | k :: ks => by
    have ih := inV_iV i ks
    have e : inV (.int i) (iV (k :: ks)) = (eqV (.int k) (.int i) || inV (.int i) (iV ks)) := rfl
    rw [e, Bool.or_eq_true, ih, List.mem_cons]
    have : eqV (.int k) (.int i) = true ↔ i = k := by simp [eqV]; exact eq_comm
    rw [this]
theorem flat_iV : ∀ ks : List Int, (iV ks).all flatV = true
  | [] => rfl
  | k :: ks => by
    have e : (iV (k :: ks)).all flatV = (flatV (.int k) && (iV ks).all flatV) := rfl
    rw [e, flat_iV ks]
    rfl
theorem asc_len {hi : Int} : ∀ {ks : List Int} {lo : Int}, ks.Pairwise (· < ·) → (∀ z ∈ ks, lo ≤ z ∧ z < hi) → ks ≠ [] → (ks.length : Int) ≤ hi - lo
  | [z], lo, _, h, _ => by
    have := h z List.mem_cons_self
    show ((1 : Nat) : Int) ≤ _
    omega
  | z :: y :: ks, lo, hp, h, _ => by
    have hp := List.pairwise_cons.mp hp
    have h0 := h z List.mem_cons_self
    have ih := asc_len (hi := hi) (ks := y :: ks) (lo := z + 1) hp.2 (fun u hu => by
      have h1 := hp.1 u hu
      have h2 := h u (List.mem_cons_of_mem _ hu)
      omega) (List.cons_ne_nil _ _)
    have e : ((z :: y :: ks).length : Int) = ((y :: ks).length : Int) + 1 := by simp
    rw [e]
    omega
/-- numbers that are gathered: two first ones, then unlike ones below i -/
structure NdI (x y : Int) (ks : List Int) (i : Nat) : Prop where
  hd : ∃ r, ks = x :: y :: r
  nd : ks.Nodup
  bd : ∀ z ∈ ks, z = x ∨ z = y ∨ (0 ≤ z ∧ z < (i : Int))
  len : ks.length ≤ i + 2
theorem NdI.start {x y : Int} (h : x ≠ y) : NdI x y [x, y] 0 := ⟨⟨[], rfl⟩, by simp [h], fun z hz => by
  simp only [List.mem_cons, List.not_mem_nil, or_false] at hz
  rcases hz with rfl | rfl
  · exact .inl rfl
  · exact .inr (.inl rfl), by simp⟩
theorem NdI.skip {x y : Int} {ks : List Int} {i : Nat} (h : NdI x y ks i) : NdI x y ks (i + 1) := ⟨h.hd, h.nd, fun z hz => by
  rcases h.bd z hz with e | e | e
  · exact .inl e
  · exact .inr (.inl e)
  · exact .inr (.inr (by omega)), by have := h.len; omega⟩
theorem NdI.more {x y : Int} {ks : List Int} {i : Nat} (h : NdI x y ks i) (n : (i : Int) ∉ ks) : NdI x y (ks ++ [(i : Int)]) (i + 1) := by
  obtain ⟨r, hr⟩ := h.hd
  refine ⟨⟨r ++ [(i : Int)], by rw [hr]; rfl⟩, ?_, fun z hz => ?_, by rw [List.length_append]; have := h.len; simp only [List.length_cons, List.length_nil]; omega⟩
  · rw [List.nodup_append]
    refine ⟨h.nd, by simp, fun a ha b hb => ?_⟩
    rw [List.mem_singleton.mp hb]
    exact fun e => n (e ▸ ha)
  · rcases List.mem_append.mp hz with hz | hz
    · rcases h.bd z hz with e | e | e
      · exact .inl e
      · exact .inr (.inl e)
      · exact .inr (.inr (by omega))
    · rw [List.mem_singleton.mp hz]
      exact .inr (.inr (by omega))
theorem NdI.fine {x y m : Int} {ks ns : List Int} {i : Nat} (h : NdI x y ks i) (hn : ns.Perm ks) (hs : ns.Pairwise (· ≤ ·)) (em : (i : Int) = m) (x0 : 0 ≤ x) (x1 : x < m) (y0 : 0 ≤ y) (y1 : y < m) (m20 : m ≤ 20) : okD m (.op ns) := by
  obtain ⟨r, hr⟩ := h.hd
  have hl : ns.length = r.length + 2 := by rw [hn.length_eq, hr]; simp
  have hb : ∀ z ∈ ns, 0 ≤ z ∧ z < m := fun z hz => by
    rcases h.bd z (hn.mem_iff.mp hz) with e | e | e <;> omega
  have nd : ns.Nodup := hn.nodup_iff.mpr h.nd
  have st : ns.Pairwise (· < ·) := by
    have := hs.and nd
    exact this.imp fun ⟨a, b⟩ => by omega
  have hlen := asc_len (hi := m) (lo := 0) st hb (fun e => by rw [e] at hl; simp at hl)
  refine ⟨by omega, by omega, fun j u v hu hv => ?_, hb⟩
  have h1 : j < ns.length := (List.getElem?_eq_some_iff.mp hu).1
  have h2 : j + 1 < ns.length := (List.getElem?_eq_some_iff.mp hv).1
  have := List.pairwise_iff_getElem.mp st j (j + 1) h1 h2 (by omega)
  rw [List.getElem?_eq_getElem h1] at hu
  rw [List.getElem?_eq_getElem h2] at hv
  cases hu; cases hv
  exact this
def spDeed4 : Sp := fun vs H Q _ => ∃ (s lk : Addr) (m o : Int) (xs : List Str) (n : Nat), vs = [.ref s, .int m, .int o, .ref lk] ∧ 0 < m ∧ m ≤ 20 ∧ 0 < o ∧ o ≤ 1000 ∧ H lk = some (.lst (xs.map V.str)) ∧ xs ≠ [] ∧ xs.length ≤ 10 ∧ (∀ x ∈ xs, Word x) ∧ Sk H s n ∧ n ≤ 80000 ∧
  ∀ (t : Addr) (d : Deed) (H' : Hp), But s H H' → Sk H' s (n + 24) → DAt (Nw H H') t d → okD m d → (∀ k a, d = .po k a → a ≤ 1000) → (∀ p q, partD d = some (p, q) → q ≤ 1001) → Q (.ref t) H'
section
variable {base : Heap} {mg : Str → Option Value} {K : PySem.W.Frag} {w : World} {P : Program}
theorem ok_step4 {f : Addr} {fd : FuncData} (F : Fun K "_law_drawn_step" "_law_drawn_step" s_l_drawn_step f fd) (mR : mg "range" = none) (mL : mg "len" = none) (mIn : mg "int" = none) (mSo : mg "sorted" = none) (cC : Cal P w K mg base 1 "_law_coin" p_l_coin spCoin) (cP : Cal P w K mg base 3 "_law_drawn_part" p_l_drawn_part spPt4) (cT : Cal P w K mg base 2 "_law_pair" p_l_pair spTwo2) : FnOk P w K mg base CX0 4 f fd p_l_drawn_step spDeed4 := by
  refine F.ok sc_l_drawn_step (fun vs H Q E h => ?_) (fun cdv A outer s H vs Q E hr h => ?_)
  · obtain ⟨s, lk, m, o, xs, n, rfl, _⟩ := h
    rfl
  · obtain ⟨sk, lk, m, o, xs, n, rfl, m0, m1, o0, o1, hlk, hx0, hx10, hxw, hS, hn, k⟩ := h
    have nd := sc_l_drawn_step.nd
    have r1 : Room 1 _ := hr.mono (by decide)
    have r2 : Room 2 _ := hr.mono (by decide)
    have two : 2 ≤ sizeLine := by show 2 ≤ sizeLine; decide
    have three : 3 ≤ sizeLine := by show 3 ≤ sizeLine; decide
    have four : 4 ≤ sizeLine := by show 4 ≤ sizeLine; decide
    have n200 := n200e
    refine ⟨_, pss_cons (ps_set (i := 4) nd rfl (Or.inl rfl) (pe_ix ix_list (pv 3) (pe_c cC r1 (pa_cons (pv 0) (pa_cons (pe_callB call_len_seq (by rfl) mL PySem.boot_len (pa_cons (pv 3) pa_nil)) pa_nil))) (fun _ _ => rfl)))
      (Evl.pss_cut (ps_if (PW.pt (pw_and (pt_cmpR op_lt (pv 1) pe_int (nomark _)) (pw_and1 (pt_cmpR op_notIn_seq (pv 4) (pe_tup (pa_cons pe_str (pa_cons pe_str pa_nil))) (by rfl))))) (pss_one (ps_set (i := 4) nd rfl (Or.inl rfl) pe_str)) pss_nil)
      (pss_cons (ps_if (pt_cmpR op_eq (pv 4) pe_str (nomark _)) (pss_one (ps_ret (pe_tup (pa_cons pe_str (pa_cons (pe_c cC r1 (pa_cons (pv 0) (pa_cons (pv 1) pa_nil))) (pa_cons (pe_c cC r1 (pa_cons (pv 0) (pa_cons (pe_op op_add (pv 2) pe_int) pa_nil))) pa_nil)))))) pss_nil)
      (pss_cons (ps_if (pt_cmpR op_eq (pv 4) pe_str (nomark _)) (pss_one (ps_ret (pe_tup (pa_cons pe_str (pa_cons (pe_c cC r1 (pa_cons (pv 0) (pa_cons (pv 1) pa_nil))) (pa_cons (pe_c cP hr (pa_cons (pv 0) (pa_cons (pe_ix ix_list (pe_lst (pa_cons pe_int (pa_cons pe_int pa_nil))) (pe_callTy call_int1 (by rfl) mIn (by decide +kernel) (pa_cons (pe_cmpR op_gt (pv 2) pe_int (nomark _)) pa_nil)) (fun _ _ => rfl)) pa_nil))) pa_nil)))))) pss_nil)
      (pss_cons (ps_asg (pe_c cT r2 (pa_cons (pv 0) (pa_cons (pv 1) pa_nil))) (pg_tup rfl (pgs_cons (pg_name (i := 5) nd rfl (Or.inl rfl)) (pgs_cons (pg_name (i := 6) nd rfl (Or.inl rfl)) pgs_nil))))
      (pss_cons (ps_if (pt_cmpR op_eq (pv 4) pe_str (nomark _)) (pss_one (ps_ret (pe_tup (pa_cons pe_str (pa_cons (pv 5) (pa_cons (pv 6) (pa_cons (pe_c cP hr (pa_cons (pv 0) (pa_cons (pe_ix ix_list (pe_lst (pa_cons pe_int (pa_cons pe_int pa_nil))) (pe_callTy call_int1 (by rfl) mIn (by decide +kernel) (pa_cons (pe_cmpR op_gt (pv 2) pe_int (nomark _)) pa_nil)) (fun _ _ => rfl)) pa_nil))) pa_nil))))))) pss_nil)
      (pss_cons (ps_if (pt_cmpR op_eq (pv 4) pe_str (nomark _)) (pss_one (ps_ret (pe_tup (pa_cons pe_str (pa_cons (pv 5) (pa_cons (pv 6) pa_nil)))))) pss_nil)
      (pss_cons (ps_set (i := 7) nd rfl (Or.inl rfl) (pe_lst (pa_cons (pv 5) (pa_cons (pv 6) pa_nil))))
      (pss_cons (ps_for PassesOwn.never rfl (pi_range1 (by rfl) mR (pa_cons (pv 1) pa_nil)) (pg_name (i := 8) nd rfl (Or.inl rfl)) (pss_one (ps_if (PW.pt (pw_and (pt_cmpR op_notIn_seq (pv 8) (pv 7) (by rfl)) (pw_and1 (pt_cmpR op_eq (pe_c cC r1 (pa_cons (pv 0) (pa_cons pe_int pa_nil))) pe_int (nomark _))))) (pss_one (ps_expr (pe_bm PySem.F.plainAttrs_list PySem.F.slot_list_append PySem.F.type_list_append mt_append (pv 7) (pa_cons (pv 8) pa_nil)))) pss_nil)))
      (pss_one (ps_ret (pe_tup (pa_cons pe_str (pa_cons (pe_callB cr_sorted (by rfl) mSo (by decide +kernel) (pa_cons (pv 7) pa_nil)) pa_nil))))))))))))), ?_⟩
    have lks := strs_ne hlk hS
    have xl : 0 < xs.length := List.length_pos_iff.mpr hx0
    refine ⟨_, rfl, _, rfl, _, rfl, lk, _, rfl, .inl (SqL.of hlk), sk, ((xs.map V.str).length : Int), n, rfl, hS, by omega, by rw [List.length_map]; omega, by rw [n200, List.length_map]; omega, fun r H0 r0 r1' b0 s0 z0 => ?_⟩
    rw [List.length_map] at r1'
    obtain ⟨j, rfl⟩ : ∃ j : Nat, r = (j : Int) := ⟨r.toNat, by omega⟩
    have hj : j < xs.length := by omega
    have hxj : (xs.map V.str)[j]? = some (.str xs[j]) := by rw [List.getElem?_map, List.getElem?_eq_getElem hj]; rfl
    have hW := hxw _ (List.getElem_mem hj)
    generalize xs[j] = x0 at hxj hW
    refine ⟨lk, _, _, _, rfl, rfl, SqL.of (b0 _ _ lks hlk), atI_nat hxj, ?_⟩
    refine ⟨fun σ H' => Evl.Ex H0 H' ∧ ∃ x : Str, σ = [some (.ref sk), some (.int m), some (.int o), some (.ref lk), some (.str x), none, none, none, none] ∧ Word x ∧ (m < 2 → x = "pour" ∨ x = "scoop"), ?_, ?_⟩
    · refine ⟨_, rfl, _, _, rfl, rfl, _, rfl, ?_⟩
      by_cases hm : m < 2
      · refine if_t (decide_eq_true hm) ⟨_, rfl, two, fun tq htq => ⟨tq, _, rfl, .inr (SqT.of upd_same), rfl, rfl, _, rfl, ?_⟩⟩
        rcases hW with rfl | rfl | rfl | rfl | rfl
        · exact if_f (by decide) ⟨Evl.Ex.new htq, _, rfl, .inl rfl, fun _ => .inl rfl⟩
        · exact if_f (by decide) ⟨Evl.Ex.new htq, _, rfl, .inr (.inl rfl), fun _ => .inr rfl⟩
        · exact if_t (by decide) ⟨Evl.Ex.new htq, _, rfl, .inl rfl, fun _ => .inl rfl⟩
        · exact if_t (by decide) ⟨Evl.Ex.new htq, _, rfl, .inl rfl, fun _ => .inl rfl⟩
        · exact if_t (by decide) ⟨Evl.Ex.new htq, _, rfl, .inl rfl, fun _ => .inl rfl⟩
      · exact if_f (decide_eq_false hm) (if_f rfl ⟨Evl.Ex.refl _, _, rfl, hW, fun z => absurd z hm⟩)
    · rintro σ H0' ⟨e0, x, rfl, hWx, hm2⟩
      have b0' := b0.trans (But.of_ex e0)
      have s0' := s0.ex e0
      rcases hWx with rfl | rfl | rfl | rfl | rfl
      · skip
        refine ⟨_, rfl, rfl, _, rfl, if_t (by decide) ?_⟩
        refine ⟨_, rfl, _, rfl, sk, m, n + 1, rfl, s0', by omega, m0, by rw [n200]; omega, fun k1 H1 k0 k1' b1 s1 z1 => ?_⟩
        refine ⟨_, rfl, _, rfl, _, _, rfl, rfl, sk, o + 1, n + 2, rfl, s1, by omega, by omega, by rw [n200]; omega, fun a H2 a0 a1 b2 s2 z2 => ⟨three, fun t ht => ?_⟩⟩
        exact k t (.po k1 a) _ ((b0'.trans (b1.trans b2)).trans (But.of_ex (Evl.Ex.new ht))) ((s2.ex (Evl.Ex.new ht)).le (by omega)) (nw_at (but_none (b0'.trans (b1.trans b2)) s2 ht) upd_same) ⟨⟨k0, k1'⟩, a0⟩ (fun _ _ e => by cases e; omega) (fun _ _ e => by cases e)
      · skip
        refine ⟨_, rfl, rfl, _, rfl, if_f (by decide) ?_⟩
        refine ⟨_, rfl, rfl, _, rfl, if_t (by decide) ?_⟩
        refine ⟨_, rfl, _, rfl, sk, m, n + 1, rfl, s0', by omega, m0, by rw [n200]; omega, fun k1 H1 k0 k1' b1 s1 z1 => ?_⟩
        refine ⟨_, rfl, two, fun q hq => ?_⟩
        have e1' := Evl.Ex.new (o := .lst [.int 6, .int 1000]) hq
        have b1' := b1.trans (But.of_ex (p := sk) e1')
        have s1' := s1.ex e1'
        have q1 := upd_same (H := H1) (a := q) (o := .lst [.int 6, .int 1000])
        generalize upd H1 q (.lst [.int 6, .int 1000]) = H1' at e1' b1' s1' q1
        refine ⟨_, rfl, _, _, rfl, rfl, .inr ⟨_, rfl, ?_⟩⟩
        by_cases h12 : 12 < o
        · rw [decide_eq_true h12]
          refine ⟨q, _, _, _, rfl, rfl, SqL.of q1, atI_nat (j := 1) rfl, sk, 1000, n + 2, rfl, by decide, by decide, s1', by omega, fun g p q H2 b2 s2 hg hgt hP hq4 => ⟨three, fun t ht => ?_⟩⟩
          exact k t (.sc k1 p q) _ ((b0'.trans (b1'.trans b2)).trans (But.of_ex (Evl.Ex.new ht))) ((s2.ex (Evl.Ex.new ht)).le (by omega)) ⟨g, nw_at (but_none (b0'.trans (b1'.trans b2)) s2 ht) upd_same, nw_at (but_none (b0'.trans b1') s1' hg) (Eq.trans (upd_ne (ne_of_none hgt ht)) hgt)⟩ ⟨⟨k0, k1'⟩, hP⟩ (fun _ _ e => by cases e) (fun _ _ e => by cases e; exact hq4)
        · rw [decide_eq_false h12]
          refine ⟨q, _, _, _, rfl, rfl, SqL.of q1, atI_nat (j := 0) rfl, sk, 6, n + 2, rfl, by decide, by decide, s1', by omega, fun g p q H2 b2 s2 hg hgt hP hq4 => ⟨three, fun t ht => ?_⟩⟩
          exact k t (.sc k1 p q) _ ((b0'.trans (b1'.trans b2)).trans (But.of_ex (Evl.Ex.new ht))) ((s2.ex (Evl.Ex.new ht)).le (by omega)) ⟨g, nw_at (but_none (b0'.trans (b1'.trans b2)) s2 ht) upd_same, nw_at (but_none (b0'.trans b1') s1' hg) (Eq.trans (upd_ne (ne_of_none hgt ht)) hgt)⟩ ⟨⟨k0, k1'⟩, hP⟩ (fun _ _ e => by cases e) (fun _ _ e => by cases e; exact hq4)
      · skip
        have hm2' : 2 ≤ m := by
          refine Int.not_lt.mp fun z => ?_
          rcases hm2 z with h | h <;> exact absurd h (by decide)
        refine ⟨_, rfl, rfl, _, rfl, if_f (by decide) ?_⟩
        refine ⟨_, rfl, rfl, _, rfl, if_f (by decide) ?_⟩
        refine ⟨_, rfl, _, rfl, sk, m, n + 1, rfl, hm2', m1, s0', by omega, fun t1 x y H1 b1 s1 ht1 h1 x0 x1 y0 y1 xyn => ⟨t1, _, rfl, SqT.of h1, rfl, _, _, rfl, _, _, rfl, rfl, ?_⟩⟩
        have xy := xyn
        refine ⟨_, rfl, rfl, _, rfl, if_t (by decide) ?_⟩
        refine ⟨_, rfl, _, rfl, _, rfl, two, fun q hq => ?_⟩
        have e1' := Evl.Ex.new (o := .lst [.int 6, .int 1000]) hq
        have b1' := b1.trans (But.of_ex (p := sk) e1')
        have s1' := s1.ex e1'
        have q1 := upd_same (H := H1) (a := q) (o := .lst [.int 6, .int 1000])
        generalize upd H1 q (.lst [.int 6, .int 1000]) = H1' at e1' b1' s1' q1
        refine ⟨_, rfl, _, _, rfl, rfl, .inr ⟨_, rfl, ?_⟩⟩
        by_cases h12 : 12 < o
        · rw [decide_eq_true h12]
          refine ⟨q, _, _, _, rfl, rfl, SqL.of q1, atI_nat (j := 1) rfl, sk, 1000, n + 3, rfl, by decide, by decide, s1', by omega, fun g p q H2 b2 s2 hg hgt hP hq4 => ⟨four, fun t ht => ?_⟩⟩
          exact k t (.mv x y p q) _ ((b0'.trans (b1'.trans b2)).trans (But.of_ex (Evl.Ex.new ht))) ((s2.ex (Evl.Ex.new ht)).le (by omega)) ⟨g, nw_at (but_none (b0'.trans (b1'.trans b2)) s2 ht) upd_same, nw_at (but_none (b0'.trans b1') s1' hg) (Eq.trans (upd_ne (ne_of_none hgt ht)) hgt)⟩ ⟨⟨x0, x1⟩, ⟨y0, y1⟩, xy, hP⟩ (fun _ _ e => by cases e) (fun _ _ e => by cases e; exact hq4)
        · rw [decide_eq_false h12]
          refine ⟨q, _, _, _, rfl, rfl, SqL.of q1, atI_nat (j := 0) rfl, sk, 6, n + 3, rfl, by decide, by decide, s1', by omega, fun g p q H2 b2 s2 hg hgt hP hq4 => ⟨four, fun t ht => ?_⟩⟩
          exact k t (.mv x y p q) _ ((b0'.trans (b1'.trans b2)).trans (But.of_ex (Evl.Ex.new ht))) ((s2.ex (Evl.Ex.new ht)).le (by omega)) ⟨g, nw_at (but_none (b0'.trans (b1'.trans b2)) s2 ht) upd_same, nw_at (but_none (b0'.trans b1') s1' hg) (Eq.trans (upd_ne (ne_of_none hgt ht)) hgt)⟩ ⟨⟨x0, x1⟩, ⟨y0, y1⟩, xy, hP⟩ (fun _ _ e => by cases e) (fun _ _ e => by cases e; exact hq4)
      · skip
        have hm2' : 2 ≤ m := by
          refine Int.not_lt.mp fun z => ?_
          rcases hm2 z with h | h <;> exact absurd h (by decide)
        refine ⟨_, rfl, rfl, _, rfl, if_f (by decide) ?_⟩
        refine ⟨_, rfl, rfl, _, rfl, if_f (by decide) ?_⟩
        refine ⟨_, rfl, _, rfl, sk, m, n + 1, rfl, hm2', m1, s0', by omega, fun t1 x y H1 b1 s1 ht1 h1 x0 x1 y0 y1 xyn => ⟨t1, _, rfl, SqT.of h1, rfl, _, _, rfl, _, _, rfl, rfl, ?_⟩⟩
        have xy := xyn
        refine ⟨_, rfl, rfl, _, rfl, if_f (by decide) ?_⟩
        refine ⟨_, rfl, rfl, _, rfl, if_f (by decide) ?_⟩
        refine ⟨_, rfl, _, rfl, two, fun D hD => ?_⟩
        have e2 := Evl.Ex.new (o := .lst [.int x, .int y]) hD
        have D1 := sk_ne s1 hD
        have b2 := But.of_ex (p := sk) e2
        have s2 := s1.ex e2
        have g2 : Li (upd H1 D (.lst [.int x, .int y])) D [x, y] := upd_same
        generalize upd H1 D (.lst [.int x, .int y]) = H2 at e2 b2 s2 g2
        refine ⟨_, rfl, m, rfl, by omega, by omega, for_range (n := m.toNat) (fun i σ H' => ∃ (ks : List Int) (v8 : Option V), σ = [some (.ref sk), some (.int m), some (.int o), some (.ref lk), some (.str "open"), some (.int x), some (.int y), some (.ref D), v8] ∧ But sk H1 H' ∧ Sk H' sk (n + 3 + i) ∧ Li H' D ks ∧ NdI x y ks i) ⟨_, none, rfl, b2, s2, g2, NdI.start xy⟩ ?_ ?_⟩
        · rintro i σ H3 hi ⟨ks, v8, rfl, b3, s3, hL, hN⟩
          rw [Int.zero_add]
          refine ⟨_, rfl, _, rfl, D, _, rfl, .inl (SqL.of hL), rfl, flat_iV ks, _, rfl, ?_⟩
          by_cases hin : (i : Int) ∈ ks
          · exact if_f (by rw [(inV_iV _ _).mpr hin]; rfl) (if_f rfl ⟨ks, _, rfl, b3, s3.le (by omega), hL, hN.skip⟩)
          · refine if_t (by cases hb : inV (.int (i : Int)) (iV ks) with | false => rfl | true => exact absurd ((inV_iV _ _).mp hb) hin) ?_
            refine ⟨_, rfl, sk, 3, n + 3 + i, rfl, s3, by omega, by decide, by decide, fun c H4 c0 c1 b4 s4 z4 => ⟨rfl, _, rfl, ?_⟩⟩
            have hL4 := b4 _ _ D1 hL
            by_cases hc : c = 0
            · refine if_t (by rw [hc]; rfl) ?_
              refine ⟨_, rfl, .inl ⟨rfl, _, SqL.of hL4⟩, _, rfl, D, _, _, rfl, rfl, hL4, ?_, ks ++ [(i : Int)], _, rfl, ?_, s4.upd D1, ?_, hN.more hin⟩
              · rw [iV_len]
                exact Nat.lt_of_le_of_lt hN.len (Nat.lt_of_lt_of_le (show i + 2 < 22 by omega) (by decide))
              · exact fun c o nc e => Eq.trans (upd_ne (ne_of_none' e hD)) ((b3.trans b4) c o nc e)
              · exact Eq.trans upd_same (by unfold iV; rw [List.map_append]; rfl)
            · exact if_f (decide_eq_false fun q => hc (by injection q)) ⟨ks, _, rfl, b3.trans b4, s4, hL4, hN.skip⟩
        · rintro σ H3 ⟨ks, v8, rfl, b3, s3, hL, hN⟩
          have em : ((m.toNat : Nat) : Int) = m := by omega
          have hlen := hN.len
          refine ⟨_, rfl, D, ks, rfl, SqL.of hL, by omega, fun ns p hn hs hp => ⟨two, fun t ht => ?_⟩⟩
          have e4 := Evl.Ex.new (o := .lst (ns.map V.int)) hp
          have e5 := Evl.Ex.new (o := .tup [.str "open", .ref p]) ht
          have bb := (b0'.trans (b1.trans b3)).trans (But.of_ex (e4.trans e5))
          have s5 := s3.ex (e4.trans e5)
          have ph : H p = none := but_none (b0'.trans (b1.trans b3)) s3 hp
          have th : H t = none := but_none ((b0'.trans (b1.trans b3)).trans (But.of_ex e4)) (s3.ex e4) ht
          exact k t (.op ns) _ bb (s5.le (by omega)) ⟨p, nw_at th upd_same, nw_at ph (e5 _ _ upd_same)⟩ (hN.fine hn hs em x0 x1 y0 y1 (by omega)) (fun _ _ e => by cases e) (fun _ _ e => by cases e)
      · skip
        have hm2' : 2 ≤ m := by
          refine Int.not_lt.mp fun z => ?_
          rcases hm2 z with h | h <;> exact absurd h (by decide)
        refine ⟨_, rfl, rfl, _, rfl, if_f (by decide) ?_⟩
        refine ⟨_, rfl, rfl, _, rfl, if_f (by decide) ?_⟩
        refine ⟨_, rfl, _, rfl, sk, m, n + 1, rfl, hm2', m1, s0', by omega, fun t1 x y H1 b1 s1 ht1 h1 x0 x1 y0 y1 xyn => ⟨t1, _, rfl, SqT.of h1, rfl, _, _, rfl, _, _, rfl, rfl, ?_⟩⟩
        have xy := xyn
        refine ⟨_, rfl, rfl, _, rfl, if_f (by decide) ?_⟩
        refine ⟨_, rfl, rfl, _, rfl, if_t (by decide) ?_⟩
        refine ⟨_, rfl, _, rfl, three, fun t ht => ?_⟩
        exact k t (.un x y) _ ((b0'.trans b1).trans (But.of_ex (Evl.Ex.new ht))) ((s1.ex (Evl.Ex.new ht)).le (by omega)) (nw_at (but_none (b0'.trans b1) s1 ht) upd_same) ⟨⟨x0, x1⟩, ⟨y0, y1⟩, xy⟩ (fun _ _ e => by cases e) (fun _ _ e => by cases e)
end
end V2


namespace V2
open PySem L2
open PySem.Spec PyProof.Rows
def DsJ (H : Hp) (sk ld : Addr) (m : Int) (ds : List Deed) (H' : Hp) : Prop := But sk H H' ∧ DsAt (wo sk H') ld ds ∧ (∀ d ∈ ds, okD m d) ∧ ∀ k a, Deed.po k a ∈ ds → a ≤ 1000
theorem DsJ.more {H H1 H2 : Hp} {sk ld t : Addr} {m : Int} {ds : List Deed} {d : Deed} {n i : Nat} (h : DsJ H sk ld m ds H1) (lH : H ld = none) (s : Sk H1 sk n) (b : But sk H1 H2) (hd : DAt (Nw H1 H2) t d) (ok : okD m d) (hp : ∀ k a, d = .po k a → a ≤ 1000) (hl : ds.length = i) (hi : i ≤ 100) :
    ∃ acc, H2 ld = some (.lst acc) ∧ acc.length < sizeLine ∧ DsJ H sk ld m (ds ++ [d]) (upd H2 ld (.lst (acc ++ [.ref t]))) := by
  obtain ⟨h1, h2, h3, h4⟩ := h
  have hD7 := h2.ex b.wo
  obtain ⟨acc, q1, q2⟩ := ds_list hD7
  have q1 := wo_ex _ _ q1
  have q3 := ds_more hD7 h3 (hd.ex (nw_wo s)) ok (wo_upd (x := .lst (acc ++ [.ref t]))) (wo_app q1)
  refine ⟨acc, q1, ?_, ?_, q3, ?_, ?_⟩
  · rw [q2, hl]
    exact Nat.lt_of_le_of_lt hi (by decide)
  · exact fun c o nc e => Eq.trans (upd_ne (ne_of_none' e lH)) ((h1.trans b) c o nc e)
  · intro d' h'
    rcases List.mem_append.mp h' with h | h
    · exact h3 _ h
    · rw [List.mem_singleton.mp h]
      exact ok
  · intro k' a' h'
    rcases List.mem_append.mp h' with h | h
    · exact h4 _ _ h
    · exact hp k' a' (List.mem_singleton.mp h).symm

theorem w_five : ∀ x ∈ (["pour", "scoop", "move", "open", "unless"] : List Str), Word x := fun x hx => by
  simp only [List.mem_cons, List.not_mem_nil, or_false] at hx
  rcases hx with rfl | rfl | rfl | rfl | rfl <;> (unfold Word; decide)
def PqB (ds : List Deed) : Prop := ∀ d ∈ ds, ∀ p q, partD d = some (p, q) → q ≤ 1001
theorem PqB.more {ds : List Deed} {d : Deed} (h : PqB ds) (k : ∀ p q, partD d = some (p, q) → q ≤ 1001) : PqB (ds ++ [d]) := fun e he => by
  rcases List.mem_append.mp he with h1 | h1
  · exact h e h1
  · rw [List.mem_singleton.mp h1]
    exact k
def spShape4 : Sp := fun vs H Q _ => ∃ (s : Addr) (n : Nat), vs = [.ref s] ∧ Sk H s n ∧ n ≤ 70000 ∧
  ∀ (t : Addr) (ts : List Tk) (ds : List Deed) (H' : Hp), But s H H' → Sk H' s (n + 3000) → ShAt (wo s H') t ts ds → ShW ts ds → PqB ds → Q (.ref t) H'
section
variable {base : Heap} {mg : Str → Option Value} {K : PySem.W.Frag} {w : World} {P : Program}
theorem ok_great4 {f : Addr} {fd : FuncData} (F : Fun K "_law_great_plan" "_law_great_plan" s_l_great_plan f fd) (mR : mg "range" = none) (cC : Cal P w K mg base 1 "_law_coin" p_l_coin spCoin) (cV : Cal P w K mg base 2 "_law_drawn_tanks" p_l_drawn_tanks spVats) (cD : Cal P w K mg base 4 "_law_drawn_step" p_l_drawn_step spDeed4) : FnOk P w K mg base CX0 5 f fd p_l_great_plan spShape4 := by
  refine F.ok sc_l_great_plan (fun vs H Q E h => ?_) (fun cdv A outer s H vs Q E hr h => ?_)
  · obtain ⟨s, n, rfl, _⟩ := h
    rfl
  · obtain ⟨sk, n, rfl, hS, hn, k⟩ := h
    have nd := sc_l_great_plan.nd
    have n200 := n200e
    have two : 2 ≤ sizeLine := by show 2 ≤ sizeLine; decide
    have five : 5 ≤ sizeLine := by show 5 ≤ sizeLine; decide
    have r1 : Room 1 _ := hr.mono (by decide)
    have r2 : Room 2 _ := hr.mono (by decide)
    have r4 : Room 4 _ := hr.mono (by decide)
    refine ⟨_, pss_cons (ps_set (i := 1) nd rfl (Or.inl rfl) (pe_op op_add pe_int (pe_c cC r1 (pa_cons (pv 0) (pa_cons pe_int pa_nil)))))
      (pss_cons (ps_par (i := 2) (j := 3) rfl nd rfl rfl (by decide) rfl rfl (pa_cons (pe_lst (pa_cons pe_str (pa_cons pe_str (pa_cons pe_str (pa_cons pe_str (pa_cons pe_str pa_nil)))))) (pa_cons (pe_lst pa_nil) pa_nil)) (by rfl))
      (pss_cons (ps_for PassesOwn.never rfl (pi_range1 (by rfl) mR (pa_cons (pe_c cC r1 (pa_cons (pv 0) (pa_cons (pe_ix ix_list (pe_lst (pa_cons pe_int (pa_cons pe_int pa_nil))) (pe_c cC r1 (pa_cons (pv 0) (pa_cons pe_int pa_nil))) (fun _ _ => rfl)) pa_nil))) pa_nil)) (pg_name (i := 4) nd rfl (Or.inl rfl)) (pss_one (ps_expr (pe_bm PySem.F.plainAttrs_list PySem.F.slot_list_append PySem.F.type_list_append mt_append (pv 3) (pa_cons (pe_c cD r4 (pa_cons (pv 0) (pa_cons (pv 1) (pa_cons pe_int (pa_cons (pv 2) pa_nil))))) pa_nil)))))
      (pss_one (ps_ret (pe_tup (pa_cons (pe_c cV r2 (pa_cons (pv 0) (pa_cons (pv 1) (pa_cons pe_int pa_nil)))) (pa_cons (pv 3) pa_nil))))))), ?_⟩
    refine ⟨_, rfl, sk, 20, n, rfl, hS, by omega, by decide, by decide, fun c H1 c0 c1 b1 s1 z1 => ⟨_, _, rfl, rfl, five, fun lw hlw => ?_⟩⟩
    have ew := Evl.Ex.new (o := .lst [.str "pour", .str "scoop", .str "move", .str "open", .str "unless"]) hlw
    have gw : upd H1 lw (.lst [.str "pour", .str "scoop", .str "move", .str "open", .str "unless"]) lw = some (.lst ((["pour", "scoop", "move", "open", "unless"] : List Str).map V.str)) := upd_same
    have b1' := b1.trans (But.of_ex (p := sk) ew)
    have s1' := s1.ex ew
    have wsk := sk_ne s1 hlw
    refine ⟨Nat.zero_le _, fun ld hld => ⟨_, _, rfl, ?_⟩⟩
    have lH : H ld = none := but_none b1' s1' hld
    have lsk := sk_ne s1' hld
    have e2 := Evl.Ex.new (o := .lst []) hld
    have hD2 : DsJ H sk ld (1 + c) [] (upd (upd H1 lw (.lst [.str "pour", .str "scoop", .str "move", .str "open", .str "unless"])) ld (.lst [])) := ⟨b1'.trans (But.of_ex e2), ⟨[], wo_at lsk upd_same, rfl, fun i a t h => (by cases h)⟩, (fun d h => by cases h), fun k a h => by cases h⟩
    have s2 := s1'.ex e2
    have gw2 := e2 _ _ gw
    have nwl : lw ≠ ld := fun h => by rw [← h, gw] at hld; cases hld
    generalize upd (upd H1 lw (.lst [.str "pour", .str "scoop", .str "move", .str "open", .str "unless"])) ld (.lst []) = H2 at e2 hD2 s2 gw2
    refine ⟨_, rfl, ?_⟩
    show tOp (rIxL _) (tLst _) (tCall spCoin [] E0 _) _ _ _
    refine pick_read (xs := [.int 9, .int 61]) rfl (by decide) (by decide) rfl s2 (by omega) (fun _ _ q => q) fun v H3 hv b3 s3 => ?_
    obtain ⟨x, rfl, x0, x1⟩ : ∃ x, v = .int x ∧ 0 < x ∧ x ≤ 61 := by
      simp only [List.mem_cons, List.not_mem_nil, or_false] at hv
      rcases hv with rfl | rfl <;> exact ⟨_, rfl, by decide, by decide⟩
    refine ⟨sk, x, n + 2, rfl, s3, by omega, x0, by rw [n200]; omega, fun y H4 y0 y1 b4 s4 z4 => ⟨y, rfl, by omega, by omega, ?_⟩⟩
    have hD4 : DsJ H sk ld (1 + c) [] H4 := ⟨(hD2.1.trans b3).trans b4, (hD2.2.1.ex b3.wo).ex b4.wo, hD2.2.2⟩
    refine for_range (n := y.toNat) (fun i σ H' => ∃ (ds : List Deed) (v4 : Option V), σ = [some (.ref sk), some (.int (1 + c)), some (.ref lw), some (.ref ld), v4] ∧ Sk H' sk (n + 3 + 25 * i) ∧ ds.length = i ∧ DsJ H sk ld (1 + c) ds H' ∧ PqB ds ∧ H' lw = some (.lst ((["pour", "scoop", "move", "open", "unless"] : List Str).map V.str)))
      ⟨[], none, rfl, s4, rfl, hD4, (fun d h => by cases h), b4 _ _ wsk (b3 _ _ wsk gw2)⟩ ?_ ?_
    · rintro i σ H5 hi ⟨ds, v4, rfl, s5, hl, hD5, hQ5, gw5⟩
      rw [Int.zero_add]
      obtain ⟨acc0, p1, p2⟩ := ds_list hD5.2.1
      refine ⟨_, rfl, .inl ⟨rfl, _, SqL.of (wo_ex _ _ p1)⟩, ?_⟩
      refine ⟨_, rfl, _, rfl, _, rfl, sk, lw, 1 + c, 1000, _, n + 3 + 25 * i, rfl, by omega, by omega, by decide, by decide, gw5, List.cons_ne_nil _ _, by decide, w_five, s5, by omega, fun t d H7 b7 s7 hd hdo hdp hdq => ?_⟩
      obtain ⟨acc, q1, q2, q3⟩ := hD5.more lH s5 b7 hd hdo hdp hl (by omega)
      exact ⟨ld, acc, _, rfl, rfl, q1, q2, ds ++ [d], _, rfl, (s7.upd lsk).le (by omega), by rw [List.length_append, hl]; rfl, q3, hQ5.more hdq, Eq.trans (upd_ne nwl) (b7 _ _ wsk gw5)⟩
    · rintro σ H5 ⟨ds, v4, rfl, s5, hl, hD5, hQ5, gw5⟩
      refine ⟨_, rfl, _, rfl, sk, 1 + c, 1000, _, rfl, by omega, by omega, by decide, by decide, s5, by omega, fun lv ts H6 b6 s6 lvn hT hok2 hlen hsz => ?_⟩
      refine ⟨_, rfl, two, fun t ht => ?_⟩
      have e7 := Evl.Ex.new (o := .tup [.ref lv, .ref ld]) ht
      have b7 := But.of_ex (p := sk) e7
      refine k t ts ds _ ((hD5.1.trans b6).trans b7) ((s6.ex e7).le (by omega)) ⟨lv, ld, wo_at (sk_ne s6 ht) upd_same, hT.ex b7.wo, (hD5.2.1.ex b6.wo).ex b7.wo⟩ ⟨⟨hok2, by omega, ?_⟩, hsz, hD5.2.2.2⟩ hQ5
      rw [hlen]
      exact hD5.2.2.1
theorem ok_plan4 {f : Addr} {fd : FuncData} (F : Fun K "_law_drawn_plan" "_law_drawn_plan" s_l_drawn_plan f fd) (mR : mg "range" = none) (mL : mg "len" = none) (mIn : mg "int" = none) (cC : Cal P w K mg base 1 "_law_coin" p_l_coin spCoin) (cV : Cal P w K mg base 2 "_law_drawn_tanks" p_l_drawn_tanks spVats) (cD : Cal P w K mg base 4 "_law_drawn_step" p_l_drawn_step spDeed4) : FnOk P w K mg base CX0 5 f fd p_l_drawn_plan spShape4 := by
  refine F.ok sc_l_drawn_plan (fun vs H Q E h => ?_) (fun cdv A outer s H vs Q E hr h => ?_)
  · obtain ⟨s, n, rfl, _⟩ := h
    rfl
  · obtain ⟨sk, n, rfl, hS, hn, k⟩ := h
    have nd := sc_l_drawn_plan.nd
    have n200 := n200e
    have two : 2 ≤ sizeLine := by show 2 ≤ sizeLine; decide
    have six : 6 ≤ sizeLine := by show 6 ≤ sizeLine; decide
    have r1 : Room 1 _ := hr.mono (by decide)
    have r2 : Room 2 _ := hr.mono (by decide)
    have r4 : Room 4 _ := hr.mono (by decide)
    refine ⟨_, pss_cons (ps_set (i := 1) nd rfl (Or.inl rfl) (pe_ix ix_list (pe_lst (pa_cons pe_int (pa_cons pe_int pa_nil))) (pe_c cC r1 (pa_cons (pv 0) (pa_cons pe_int pa_nil))) (fun _ _ => rfl)))
      (pss_cons (ps_set (i := 2) nd rfl (Or.inl rfl) (pe_c cV r2 (pa_cons (pv 0) (pa_cons (pe_op op_add pe_int (pe_c cC r1 (pa_cons (pv 0) (pa_cons pe_int pa_nil)))) (pa_cons (pv 1) pa_nil)))))
      (pss_cons (ps_par3 (i := 3) (j := 4) (l := 5) rfl nd rfl rfl rfl (by decide) (by decide) (by decide) rfl rfl rfl (pa_cons (pe_lst pa_nil) (pa_cons pe_int (pa_cons pe_int pa_nil))) (by rfl))
      (pss_cons (ps_for PassesOwn.never rfl (pi_range1 (by rfl) mR (pa_cons (pe_c cC r1 (pa_cons (pv 0) (pa_cons pe_int pa_nil))) pa_nil)) (pg_name (i := 6) nd rfl (Or.inl rfl)) (pss_cons (ps_set (i := 7) nd rfl (Or.inl rfl) (pe_lst (pa_cons pe_str (pa_cons pe_str (pa_cons pe_str (pa_cons pe_str (pa_cons pe_str (pa_cons pe_str pa_nil))))))))
      (Evl.pss_cut (ps_if (pt_cmpR op_gt (pv 4) pe_int (nomark _)) (pss_one (ps_set (i := 7) nd rfl (Or.inl rfl) (pe_op op_cat (pe_slice sl_list (pv 7) po_none (po_some pe_int)) (pe_slice sl_list (pv 7) (po_some pe_int) po_none)))) pss_nil)
      (Evl.pss_cut (ps_if (pt_cmpR op_gt (pv 5) pe_int (nomark _)) (pss_one (ps_setLc (i := 7) (own := [("word", 9)]) (g := (gName 9)) (tt := (tTest (tOp rNe (tVar 9) (tC (.str "unless"))))) (te := (tVar 9)) rfl nd rfl rfl (sw_true rfl rfl rfl (by decide +kernel)) (pi_list (pv 7)) (blkOk_by (N := n_l_drawn_plan) (sc := defScope s_l_drawn_plan) (by decide +kernel)) (fun _ _ _ _ _ => (pg_name (i := 9) nd rfl (Or.inl rfl))) (fun _ _ _ _ _ => pts_one (pt_cmpR op_ne (pv 9) pe_str (nomark _))) (fun _ _ _ _ _ => (pv 9)))) pss_nil)
      (pss_cons (ps_set (i := 8) nd rfl (Or.inl rfl) (pe_c cD r4 (pa_cons (pv 0) (pa_cons (pe_callB call_len_seq (by rfl) mL PySem.boot_len (pa_cons (pv 2) pa_nil)) (pa_cons (pv 1) (pa_cons (pv 7) pa_nil))))))
      (pss_cons (ps_set (i := 4) nd rfl (Or.inl rfl) (pe_op op_add (pv 4) (pe_callTy call_int1 (by rfl) mIn (by decide +kernel) (pa_cons (pe_cmpR op_eq (pe_ix ix_tup (pv 8) pe_int (fun _ _ => rfl)) pe_str (nomark _)) pa_nil))))
      (pss_cons (ps_set (i := 5) nd rfl (Or.inl rfl) (pe_op op_add (pv 5) (pe_callTy call_int1 (by rfl) mIn (by decide +kernel) (pa_cons (pe_cmpR op_eq (pe_ix ix_tup (pv 8) pe_int (fun _ _ => rfl)) pe_str (nomark _)) pa_nil))))
      (pss_one (ps_expr (pe_bm PySem.F.plainAttrs_list PySem.F.slot_list_append PySem.F.type_list_append mt_append (pv 3) (pa_cons (pv 8) pa_nil)))))))))))
      (pss_one (ps_ret (pe_tup (pa_cons (pv 2) (pa_cons (pv 3) pa_nil)))))))), ?_⟩
    show tOp (rIxL _) (tLst _) (tCall spCoin [] E0 _) _ _ _
    refine pick_read (xs := [.int 3, .int 12]) rfl (by decide) (by decide) rfl hS (by omega) (fun _ _ q => q) fun v H1 hv b1 s1 => ?_
    obtain ⟨o, rfl, o0, o1⟩ : ∃ x, v = .int x ∧ 0 < x ∧ x ≤ 12 := by
      simp only [List.mem_cons, List.not_mem_nil, or_false] at hv
      rcases hv with rfl | rfl <;> exact ⟨_, rfl, by decide, by decide⟩
    refine ⟨_, rfl, _, rfl, sk, 3, n + 1, rfl, s1, by omega, by decide, by decide, fun c H2 c0 c1 b2 s2 z2 => ⟨_, _, rfl, rfl, _, rfl, sk, 2 + c, o, n + 2, rfl, by omega, by omega, o0, by omega, s2, by omega, fun lv ts Hv bv sv lvn hT hok2 hlen hsz => ?_⟩⟩
    have bv' := (b1.trans b2).trans bv
    obtain ⟨asT, tk1, tk2, tk3⟩ := id hT
    refine ⟨Nat.zero_le _, fun ld hld => ⟨_, _, _, rfl, ?_⟩⟩
    have lH : H ld = none := but_none bv' sv hld
    have lsk := sk_ne sv hld
    have e3 := Evl.Ex.new (o := .lst []) hld
    have nlv : lv ≠ ld := fun h => by
      have := wo_ex _ _ tk1
      rw [h, hld] at this
      cases this
    have hd3 : DsAt (wo sk (upd Hv ld (.lst []))) ld [] := ⟨[], wo_at lsk upd_same, rfl, fun i a t h => (by cases h)⟩
    have hT3 : TksAt (wo sk (upd Hv ld (.lst []))) lv ts := hT.ex (ex_wo e3)
    have b3 := bv'.trans (But.of_ex (p := sk) e3)
    have s3 := sv.ex e3
    generalize upd Hv ld (.lst []) = H3 at e3 hd3 b3 s3 hT3
    refine ⟨_, rfl, sk, 7, _, rfl, s3, by omega, by decide, by decide, fun y H4 y0 y1 b4 s4 z4 => ⟨y, rfl, by omega, by omega, ?_⟩⟩
    obtain ⟨N, hN⟩ : ∃ N, N = n + 3 + (1 + 3 * (2 + c).toNat) := ⟨_, rfl⟩
    have hN100 : N ≤ n + 30 := by omega
    have s4 : Sk H4 sk (N + 1) := s4.le (by omega)
    refine for_range (n := y.toNat) (fun i σ H' => ∃ (ds : List Deed) (va ha : Int) (v6 v7 v8 : Option V), σ = [some (.ref sk), some (.int o), some (.ref lv), some (.ref ld), some (.int va), some (.int ha), v6, v7, v8, none] ∧ But sk H H' ∧ Sk H' sk (N + 1 + 30 * i) ∧ DsAt (wo sk H') ld ds ∧ ds.length = i ∧ (∀ d ∈ ds, okD (2 + c) d) ∧ (∀ k a, Deed.po k a ∈ ds → a ≤ 1000) ∧ TksAt (wo sk H') lv ts ∧ PqB ds)
      ⟨[], 0, 0, none, none, none, rfl, b3.trans b4, s4, hd3.ex b4.wo, rfl, (fun d h => by cases h), (fun k a h => by cases h), hT3.ex b4.wo, fun d h => by cases h⟩ ?_ ?_
    · rintro i σ H5 hi ⟨ds, va, ha, v6, v7, v8, rfl, b5, s5, hD, hl, hok, hp, hT5, hQ5⟩
      rw [Int.zero_add]
      refine ⟨six, fun lk hlk => ?_⟩
      have e6 := Evl.Ex.new (o := .lst [.str "pour", .str "scoop", .str "move", .str "open", .str "open", .str "unless"]) hlk
      have hk6 : upd H5 lk (.lst [.str "pour", .str "scoop", .str "move", .str "open", .str "open", .str "unless"]) lk = some (.lst ((["pour", "scoop", "move", "open", "open", "unless"] : List Str).map V.str)) := upd_same
      have wd6 : ∀ x ∈ (["pour", "scoop", "move", "open", "open", "unless"] : List Str), Word x := fun z hz => by
        simp only [List.mem_cons, List.not_mem_nil, or_false] at hz
        rcases hz with rfl | rfl | rfl | rfl | rfl | rfl <;> (unfold Word; decide)
      generalize upd H5 lk (.lst [.str "pour", .str "scoop", .str "move", .str "open", .str "open", .str "unless"]) = H6 at e6 hk6
      refine ⟨fun σ H' => ∃ (lk : Addr) (xs : List Str), σ = [some (.ref sk), some (.int o), some (.ref lv), some (.ref ld), some (.int va), some (.int ha), some (.int (i : Int)), some (.ref lk), v8, none] ∧ Evl.Ex H5 H' ∧ H' lk = some (.lst (xs.map V.str)) ∧ ("pour" : Str) ∈ xs ∧ xs.length ≤ 6 ∧ ∀ x ∈ xs, Word x, ?_, ?_⟩
      · refine ⟨_, rfl, _, _, rfl, rfl, _, rfl, ite2 (fun _ => ?_) (fun _ => ⟨_, _, rfl, e6, hk6, List.mem_cons_self, by decide, wd6⟩)⟩
        refine ⟨_, rfl, 3, rfl, lk, _, rfl, SqL.of hk6, fun p2 hp2 => ?_⟩
        have e7 := Evl.Ex.new (o := .lst (cutV ((["pour", "scoop", "move", "open", "open", "unless"] : List Str).map V.str) none (some 3))) hp2
        have g7 : upd H6 p2 (.lst (cutV ((["pour", "scoop", "move", "open", "open", "unless"] : List Str).map V.str) none (some 3))) p2 = some (.lst [.str "pour", .str "scoop", .str "move"]) := Eq.trans upd_same rfl
        refine ⟨_, rfl, 5, rfl, lk, _, rfl, SqL.of (e7 _ _ hk6), fun p3 hp3 => ?_⟩
        have e8 := Evl.Ex.new (o := .lst (cutV ((["pour", "scoop", "move", "open", "open", "unless"] : List Str).map V.str) (some 5) none)) hp3
        have g8 : upd (upd H6 p2 (.lst (cutV ((["pour", "scoop", "move", "open", "open", "unless"] : List Str).map V.str) none (some 3)))) p3 (.lst (cutV ((["pour", "scoop", "move", "open", "open", "unless"] : List Str).map V.str) (some 5) none)) p3 = some (.lst [.str "unless"]) := Eq.trans upd_same rfl
        refine ⟨p2, p3, _, _, rfl, rfl, e8 _ _ g7, g8, by show 4 ≤ sizeLine; decide, fun p4 hp4 => ⟨p4, (["pour", "scoop", "move", "unless"] : List Str), rfl, ((e6.trans e7).trans e8).trans (Evl.Ex.new hp4), Eq.trans upd_same rfl, List.mem_cons_self, by decide, fun z hz => ?_⟩⟩
        simp only [List.mem_cons, List.not_mem_nil, or_false] at hz
        rcases hz with rfl | rfl | rfl | rfl <;> (unfold Word; decide)
      rintro σ H7 ⟨lk, xs, rfl, e7, hk7, x0, x6, wd7⟩
      refine ⟨fun σ H' => ∃ (lk : Addr) (xs : List Str), σ = [some (.ref sk), some (.int o), some (.ref lv), some (.ref ld), some (.int va), some (.int ha), some (.int (i : Int)), some (.ref lk), v8, none] ∧ Evl.Ex H5 H' ∧ H' lk = some (.lst (xs.map V.str)) ∧ ("pour" : Str) ∈ xs ∧ xs.length ≤ 6 ∧ ∀ x ∈ xs, Word x, ?_, ?_⟩
      · refine ⟨_, rfl, _, _, rfl, rfl, _, rfl, ite2 (fun _ => ?_) (fun _ => ⟨_, _, rfl, e7, hk7, x0, x6, wd7⟩)⟩
        refine ⟨_, rfl, lk, rfl, ⟨_, SqL.of hk7⟩, fun D hD => lc_list (xs := xs.map V.str) (fun j H' => Evl.Ex H7 H' ∧ H' D = some (.lst (((xs.take j).filter (fun z => !decide (V.str z = V.str "unless"))).map V.str))) ⟨Evl.Ex.new hD, upd_same⟩ (fun j H' _ q => SqL.of (q.1 _ _ hk7)) ?_ ?_⟩
        · rintro j z H8 hj ⟨e8, g8⟩
          rw [List.getElem?_map] at hj
          cases hxj : xs[j]? with
          | none => rw [hxj] at hj; cases hj
          | some xj =>
            rw [hxj] at hj
            cases hj
            refine ⟨rfl, ?_⟩
            show tTest (tOp rNe (tVar 9) (tC (.str "unless"))) _ _ _
            refine ⟨_, rfl, rfl, _, rfl, ?_⟩
            have tk : (xs.take (j + 1)).filter (fun z => !decide (V.str z = V.str "unless")) = (xs.take j).filter (fun z => !decide (V.str z = V.str "unless")) ++ (if (!decide (V.str xj = V.str "unless")) = true then [xj] else []) := by
              rw [List.take_add_one, hxj, List.filter_append]
              congr 1
              show List.filter _ [xj] = _
              rw [List.filter_cons, List.filter_nil]
            have lf : (((xs.take j).filter (fun z => !decide (V.str z = V.str "unless"))).map V.str).length < sizeLine := by
              rw [List.length_map]
              have h1 := List.length_filter_le (fun z => !decide (V.str z = V.str "unless")) (xs.take j)
              rw [List.length_take] at h1
              exact Nat.lt_of_le_of_lt (show _ ≤ 6 by omega) (by decide)
            refine ite2 (fun hq => ?_) (fun hq => ⟨e8, ?_⟩)
            · refine ⟨_, rfl, _, g8, lf, Evl.Ex.mut e8 hD, ?_⟩
              rw [upd_same, tk, if_pos hq, List.map_append]
              rfl
            · rw [g8, tk, if_neg hq, List.append_nil]
        · rintro H8 ⟨e8, g8⟩
          rw [List.length_map, List.take_length] at g8
          refine ⟨D, _, rfl, e7.trans e8, g8, List.mem_filter.mpr ⟨x0, by decide +kernel⟩, Nat.le_trans (List.length_filter_le _ _) x6, fun z hz => wd7 z (List.mem_filter.mp hz).1⟩
      rintro σ H8 ⟨lk, xs, rfl, e8, hk8, x0, x6, wd8⟩
      have s8 := s5.ex e8
      have b8 := b5.trans (But.of_ex (p := sk) e8)
      have hD8 := hD.ex (ex_wo e8)
      have hT8 := hT5.ex (ex_wo e8)
      have x0' : xs ≠ [] := fun h => by rw [h] at x0; cases x0
      have gT8 := wo_ex _ _ hT8.choose_spec.1
      have lT8 : ((hT8.choose.map V.ref).length : Int) = 2 + c := by
        rw [List.length_map, hT8.choose_spec.2.1]
        exact hlen
      refine ⟨_, rfl, _, rfl, lv, _, rfl, .inl (SqL.of gT8), _, rfl, _, rfl, sk, lk, _, o, xs, N + 1 + 30 * i, rfl, by omega, by omega, o0, by omega, hk8, x0', by omega, wd8, s8, by omega, fun t d H9 b9 s9 hd hdo hdp hdq => ?_⟩
      rw [lT8] at hdo
      have hD9 := hD8.ex b9.wo
      obtain ⟨acc, q1, q2⟩ := ds_list hD9
      have q1 := wo_ex _ _ q1
      obtain ⟨wx, rs, hwx⟩ := dat_word (hd.ex Nw.ex)
      refine ⟨_, rfl, _, rfl, t, _, _, _, rfl, rfl, SqT.of hwx, (by exact atI_nat (j := 0) rfl), rfl, .inr ⟨_, rfl, _, _, rfl, rfl, ?_⟩⟩
      refine ⟨_, rfl, _, rfl, t, _, _, _, rfl, rfl, SqT.of hwx, (by exact atI_nat (j := 0) rfl), rfl, .inr ⟨_, rfl, _, _, rfl, rfl, ?_⟩⟩
      refine ⟨_, rfl, .inl ⟨rfl, _, SqL.of q1⟩, _, rfl, ?_⟩
      have q3 := ds_more hD9 hok (hd.ex (nw_wo s8)) hdo (wo_upd (x := .lst (acc ++ [.ref t]))) (wo_app q1)
      refine ⟨ld, acc, _, rfl, rfl, q1, ?_, ds ++ [d], _, _, _, _, _, rfl, ?_, (s9.upd lsk).le (by omega), q3, by rw [List.length_append, hl]; rfl, ?_, ?_, ?_, hQ5.more hdq⟩
      · rw [q2, hl]
        exact Nat.lt_of_lt_of_le (show i < 100 by omega) (by decide)
      · exact fun c o nc e => Eq.trans (upd_ne (ne_of_none' e lH)) ((b8.trans b9) c o nc e)
      · intro d' h'
        rcases List.mem_append.mp h' with h | h
        · exact hok _ h
        · rw [List.mem_singleton.mp h]
          exact hdo
      · intro k' a' h'
        rcases List.mem_append.mp h' with h | h
        · exact hp _ _ h
        · exact hdp k' a' (List.mem_singleton.mp h).symm
      · obtain ⟨as, w1, w2, w3⟩ := hT8.ex b9.wo
        refine ⟨as, ?_, w2, fun i a t ha ht => ?_⟩
        · exact wo_at (wo_ne w1) (Eq.trans (upd_ne nlv) (wo_ex _ _ w1))
        · have w := w3 i a t ha ht
          refine wo_at (wo_ne w) (Eq.trans (upd_ne (fun h => ?_)) (wo_ex _ _ w))
          rw [h] at w
          have := wo_ex _ _ w
          rw [q1] at this
          cases this
    · rintro σ H5 ⟨ds, va, ha, v6, v7, v8, rfl, b5, s5, hD, hl, hok, hp, hT5, hQ5⟩
      refine ⟨_, rfl, _, rfl, two, fun t ht => ?_⟩
      have e7 := Evl.Ex.new (o := .tup [.ref lv, .ref ld]) ht
      have b7 := But.of_ex (p := sk) e7
      refine k t ts ds _ (b5.trans b7) ((s5.ex e7).le (by omega)) ⟨lv, ld, wo_at (sk_ne s5 ht) upd_same, hT5.ex b7.wo, hD.ex b7.wo⟩ ⟨⟨hok2, by omega, ?_⟩, hsz, hp⟩ hQ5
      rw [hlen]
      exact hok
end
end V2


namespace V2
open PySem L2
open PySem.Spec PyProof.Rows
def Sp8 (ns : List Int) : Prop := Pol ns ∧ ns.length ≤ 8 ∧ ∀ n ∈ ns, n.natAbs ≤ 1000000
theorem Sp8.pn {ns : List Int} (h : Sp8 ns) : Pn ns := by
  obtain ⟨h1, h2, h3⟩ := h
  have e : (2 : Int) ^ 64 = 18446744073709551616 := by decide
  exact ⟨h1, by omega, fun x hx => by
    have := h3 x hx
    rw [e]
    omega⟩
theorem dpI' {K : PySem.W.Frag} {H : Hp} : ∀ ns : List Int, DpAll K H (iV ns) (ns.map .int)
  | [] => .nil
  | n :: r => .cons (.int n) (dpI' r)
theorem shI (ns : List Int) : SeqAt.shaped (.list (ns.map .int)) = true := shaped_ints ns
section
variable {base : Heap} {mg : Str → Option Value} {K : PySem.W.Frag} {w : World} {P : Program} {C CT fI fT fS pT_ pS : Addr}
end
end V2


namespace V2
open PySem L2
open PySem.Spec PyProof.Rows
def pcs (x : Str) : List Str := Txt.split x " "
theorem pcs_join (x : Str) : Txt.join " " (pcs x) = x := by
  rw [TL.join_eq]
  exact PySem.StrLaws.join_split x " "
theorem joinL_mem_le {y : List Nat} : ∀ {ps : List (List Nat)} {p : List Nat}, p ∈ ps → p.length ≤ (TL.joinL y ps).length
  | [q], p, h => by
    simp only [List.mem_cons, List.not_mem_nil, or_false] at h
    rw [h]
    exact Nat.le_refl _
  | q :: r :: ps, p, h => by
    show p.length ≤ (q ++ (y ++ TL.joinL y (r :: ps))).length
    rw [List.length_append, List.length_append]
    rcases List.mem_cons.mp h with h | h
    · rw [h]; omega
    · have := joinL_mem_le (y := y) h
      omega
theorem joinL_cnt {y : List Nat} (hy : 1 ≤ y.length) : ∀ ps : List (List Nat), ps.length ≤ (TL.joinL y ps).length + 1
  | [] => Nat.zero_le _
  | [_] => by simp
  | q :: r :: ps => by
    have := joinL_cnt hy (r :: ps)
    show (r :: ps).length + 1 ≤ (q ++ (y ++ TL.joinL y (r :: ps))).length + 1
    rw [List.length_append, List.length_append]
    omega
theorem split_mem_le {x y p : Str} (h : p ∈ Txt.split x y) : p.length ≤ x.length := by
  have e : Txt.join y (Txt.split x y) = x := by
    rw [TL.join_eq]
    exact PySem.StrLaws.join_split x y
  have z := joinL_mem_le (y := TL.tl y) (List.mem_map.mpr ⟨p, h, rfl⟩ : TL.tl p ∈ (Txt.split x y).map TL.tl)
  rw [← TL.tl_join, ← TL.join_eq, e, ← TL.len_tl, ← TL.len_tl] at z
  exact z
theorem split_cnt {x y : Str} (hy : 1 ≤ y.length) : (Txt.split x y).length ≤ x.length + 1 := by
  have e : Txt.join y (Txt.split x y) = x := by
    rw [TL.join_eq]
    exact PySem.StrLaws.join_split x y
  have z := joinL_cnt (y := TL.tl y) (by rw [← TL.len_tl]; exact hy) ((Txt.split x y).map TL.tl)
  rw [← TL.tl_join, ← TL.join_eq, e, ← TL.len_tl, List.length_map] at z
  exact z
theorem pcs_ne (x : Str) : pcs x ≠ [] := fun h => by
  have e := pcs_join x
  rw [h] at e
  subst e
  exact absurd h (by decide +kernel)
theorem nT_maps : ∀ {ms ns : List Int}, ms.map nT = ns.map nT → (∀ n ∈ ms, n.natAbs ≤ 999999999) → (∀ n ∈ ns, n.natAbs ≤ 999999999) → ms = ns
  | [], [], _, _, _ => rfl
  | m :: ms, n :: ns, h, h1, h2 => by
    simp only [List.map_cons, List.cons.injEq] at h
    rw [nT_inj h.1 (h1 m List.mem_cons_self) (h2 n List.mem_cons_self), nT_maps h.2 (fun x hx => h1 x (List.mem_cons_of_mem _ hx)) fun x hx => h2 x (List.mem_cons_of_mem _ hx)]
section
variable {base : Heap} {mg : Str → Option Value} {K : PySem.W.Frag} {w : World} {P : Program} {CT CU eI0 : Addr}
end
end V2


namespace V2
open PySem L2
open PySem.Spec PyProof.Rows
/-- a != b, two lists one of which is empty -/
def rNe0 (K : PySem.W.Frag) : R2 := fun x y H Q => ∃ (a b : Addr) (xs ys : List V), x = .ref a ∧ y = .ref b ∧ SqL K H a xs ∧ SqL K H b ys ∧ ys = [] ∧ Q (.bl (!decide (xs = []))) H
theorem op_ne0 {X : Cx} (hu : X.A.units + 64 < cLine) : OpR X (compareOp .NotEq) (rNe0 X.K) := by
  intro pins s σ H x y v u Q I rx ry h
  obtain ⟨a, b, xs, ys, rfl, rfl, ha, hb, rfl, q⟩ := h
  cases (show v = Value.ref a from rx)
  cases (show u = Value.ref b from ry)
  obtain ⟨us, r1, p1, _⟩ := I.list ha
  obtain ⟨ws, r2, p2, _⟩ := I.list hb
  cases r2
  cases xs with
  | nil =>
    cases r1
    exact SeqAt.RcNeAt.lists (e := fun _ => true) p1.isList p2.isList rfl (by omega) (fun j h1 _ => absurd h1 (Nat.not_lt_zero _)) _ _ _ _ ⟨.bl _, H, I, rfl, q⟩
  | cons z zs =>
    cases r1
    exact SeqAt.RcNeAt.lists_lengths p1.isList p2.isList rfl (by omega) _ _ _ _ ⟨.bl _, H, I, rfl, q⟩
theorem dg_val {x : Str} (h0 : dgs x ≠ []) (h9 : (dgs x).length ≤ 9) (ha : (dgs x).all (fun c => decide (48 ≤ c ∧ c ≤ 57)) = true) : ∃ v : Int, intText? x = some v ∧ v.natAbs ≤ 999999999 := by
  have hd : NumText.AllDigits (dgs x) := fun c hc => of_decide_eq_true (List.all_eq_true.mp ha c hc)
  have hv := val_lt hd
  have hp : 10 ^ (dgs x).length ≤ 10 ^ 9 := Nat.pow_le_pow_right (by decide) h9
  have hv9 : NumText.digitsVal (dgs x) ≤ 999999999 := by
    have e : (10 : Nat) ^ 9 = 1000000000 := by decide
    omega
  by_cases h : (TL.tl x).head? = some 45
  · have ex : x.cps.toList = 45 :: dgs x := by
      unfold dgs
      rw [if_pos h]
      show TL.tl x = _
      cases hx : TL.tl x with
      | nil => rw [hx] at h; cases h
      | cons c r =>
        rw [hx] at h
        simp at h
        rw [h]; rfl
    have lx : x.length ≤ 10 := by
      rw [TL.len_tl]
      show x.cps.toList.length ≤ 10
      rw [ex, List.length_cons]
      omega
    exact ⟨_, PySem.intText_neg ex hd h0 (by omega), by omega⟩
  · have ex : x.cps.toList = dgs x := by
      unfold dgs
      rw [if_neg h]
    have lx : x.length ≤ 10 := by
      rw [TL.len_tl]
      show x.cps.toList.length ≤ 10
      rw [ex]
      omega
    exact ⟨_, PySem.intText_digits (by rw [ex]; exact hd) (by rw [ex]; exact h0) (by omega), by rw [ex]; omega⟩
theorem flt_take {α : Type} {p : α → Bool} {l : List α} {i : Nat} {c : α} (hc : l[i]? = some c) : (l.take (i + 1)).filter p = (l.take i).filter p ++ (if p c = true then [c] else []) := by
  rw [List.take_add_one, hc, List.filter_append]
  congr 1
  cases h : p c <;> simp [h]
def rNotSign : V → V → Hp → VK → Prop := fun x y H Q => ∃ (c : Nat) (z : Str), x = .str ⟨#[c]⟩ ∧ y = .str z ∧ Q (.bl (!decide (c ∈ z.cps.toList))) H
section
variable {base : Heap} {mg : Str → Option Value} {K : PySem.W.Frag} {w : World} {P : Program}
end
end V2




namespace V2
open PySem L2
open PySem.Spec PyProof.Rows
/-! ## what a piece of a step may read as -/
inductive Gh where
  | lst (ks : List Int)
  | tup (ks : List Int)
  | int (n : Int)
def ghD : Gh → PyData
  | .lst ks => .list (ks.map .int)
  | .tup ks => .tuple (ks.map .int)
  | .int n => .int n
def NbI (ks : List Int) : Prop := ∀ k ∈ ks, k.natAbs ≤ 999999999
/-- x is the text of the thing -/
def GhP (x : Str) : Gh → Prop
  | .lst ks => 44 ∈ TL.tl x ∧ Txt.split x "," = ks.map nT ∧ NbI ks
  | .tup ks => 44 ∉ TL.tl x ∧ 47 ∈ TL.tl x ∧ Txt.split x "/" = ks.map nT ∧ NbI ks
  | .int n => 44 ∉ TL.tl x ∧ 47 ∉ TL.tl x ∧ x = nT n ∧ n.natAbs ≤ 999999999
/-- refused: an Unreadable of some text -/
def Rf (CU : Addr) (H : Hp) (E : XK) : Prop := ∀ H1, Evl.Ex H H1 → ∀ y : Str, Rz CU H1 (.str y) E
theorem Rf.go {CU : Addr} {H H1 : Hp} {E : XK} (r : Rf CU H E) (e : Evl.Ex H H1) : Rf CU H1 E := fun H2 e2 => r H2 (e.trans e2)
def spRdG (CU : Addr) : Sp := fun vs H Q E => ∃ x : Str, vs = [.str x] ∧ x.length ≤ 3900 ∧ (∀ t, GhP x t → ∀ v H', Evl.Ex H H' → Dq (Nw H H') v (ghD t) → Q v H') ∧ ((∀ t, ¬ GhP x t) → Rf CU H E)
/-- [read_integer(part) for part in pieces] -/
theorem lc_nums {K : PySem.W.Frag} {CU a D : Addr} {ps : List Str} {j : Nat} {σ : L2.St} {H1 : Hp} {E : XK} {Qd : Hp → Prop} (sz : ps.length ≤ 4000) (lp : ∀ p ∈ ps, p.length ≤ 4000) (hD : H1 D = none) (ha : H1 a = some (.lst (ps.map V.str)))
    (hw : ∀ x : V, wipe ((wipe σ [j]).set j (some x)) [j] = wipe σ [j]) (hj : ∀ x : V, ((wipe σ [j]).set j (some x))[j]? = some (some x))
    (hx : ∀ p ∈ ps, NumB p = false → ∀ H2, Evl.Ex H1 H2 → Rz CU H2 (.str p) E) (hd : ∀ ns H', ps = ns.map nT → NbI ns → Evl.Ex H1 H' → H' D = some (.lst (iV ns)) → Qd H') :
    ∃ W : Nat → Nat → Hp → Prop, (∃ m, W 0 m (upd H1 D (.lst []))) ∧ ∀ i m H, W i m H →
      ((Itl K a).stop i H ∧ Qd H) ∨ ((Itl K a).go i H ∧ ∃ Nx : Hp → Prop, (∀ H', Nx H' → ∃ m', m' < m ∧ W (i + 1) m' H') ∧ ∀ x H', (Itl K a).yld i H x H' → gName j x (wipe σ [j]) H' fun σ2 H2 => wipe σ2 [j] = wipe σ [j] ∧ tYes σ2 H2 fun b H3 =>
        if b = true then (tCall (spRdI CU) [] E (tCons (tVar j) tNil)) σ2 H3 fun y H4 => ∃ acc, H4 D = some (.lst acc) ∧ acc.length < sizeLine ∧ Nx (upd H4 D (.lst (acc ++ [y]))) else Nx H3) := by
  refine lc_list (xs := ps.map V.str) (fun i H' => Evl.Ex H1 H' ∧ ∃ ns : List Int, ps.take i = ns.map nT ∧ NbI ns ∧ H' D = some (.lst (iV ns))) ⟨Evl.Ex.new hD, [], rfl, (fun _ h => nomatch h), upd_same⟩ (fun i H' _ q => SqL.of (q.1 _ _ ha)) ?_ ?_
  · rintro i v H' hi ⟨e2, ns, hn, hs, hD'⟩
    rw [List.getElem?_map] at hi
    obtain ⟨p, hp, rfl⟩ := Option.map_eq_some_iff.mp hi
    refine ⟨hw _, ⟨_, hj _, p, rfl, lp p (List.mem_of_getElem? hp), fun n en sn H2 e3 => ⟨_, e3 _ _ hD', ?_, ?_⟩, fun nb H2 e3 => hx p (List.mem_of_getElem? hp) nb H2 (e2.trans e3)⟩⟩
    · rw [iV_len]
      have e := congrArg List.length hn
      rw [List.length_map, List.length_take] at e
      exact Nat.lt_of_le_of_lt (show ns.length ≤ 4000 by omega) (by decide)
    · refine ⟨Evl.Ex.mut (e2.trans e3) hD, ns ++ [n], ?_, fun m hm => ?_, ?_⟩
      · rw [List.take_add_one, hp, List.map_append, hn, en]
        rfl
      · rcases List.mem_append.mp hm with h | h
        · exact hs m h
        · rw [List.mem_singleton.mp h]; exact sn
      · rw [upd_same, ← iV_app]; rfl
  · rintro H' ⟨e2, ns, hn, hs, hD'⟩
    rw [List.length_map, List.take_length] at hn
    exact hd ns H' hn hs e2 hD'
section
variable {base : Heap} {mg : Str → Option Value} {K : PySem.W.Frag} {w : World} {P : Program} {CU : Addr}
theorem ok_read_thingN {f : Addr} {fd : FuncData} (F : Fun K "read_thing" "read_thing" s_read_thing f fd) (mTu : mg "tuple" = none) (cJ : CalN P w K mg base 3 "read_integer" p_read_integer (spRdI CU)) : FnOk P w K mg base (L2N.CX P w) 4 f fd p_read_thing (spRdG CU) := by
  refine okC (L2N.CX P w) F sc_read_thing (fun vs H Q E h => ?_) (fun cdv A outer s H vs Q E hr h => ?_)
  · obtain ⟨x, rfl, _⟩ := h
    rfl
  · obtain ⟨x, rfl, lx, k, kx⟩ := h
    have nd := sc_read_thing.nd
    have r3 : Room 3 _ := hr.mono (by decide)
    refine ⟨_, pss_cons (ps_if (pt_cmpR op_in_sign pe_str (pv 0) (by rfl)) (pss_one (ps_ret (pe_lcX (Zf := L2N.Zn) (own := [("part", 1)]) (g := gName 1) (tt := tYes) (te := fun E' => tCall (spRdI CU) [] E' (tCons (tVar 1) tNil)) rfl rfl (fun _ _ => L2N.Zn.steady) (L2N.takes_of rfl rfl rfl rfl) rfl nd (pi_list (pe_split (pv 0) pe_str)) (blkOk_by (N := n_read_thing) (sc := defScope s_read_thing) (by decide +kernel)) (fun _ _ _ _ _ => pg_name (i := 1) nd rfl (Or.inl rfl)) (fun _ _ _ _ _ => pts_nil) (fun _ _ _ _ _ E' xe' t => pe_cn cJ r3 t (fun _ _ _ _ h => h) (pa_cons (pv 1) pa_nil))))) pss_nil)
      (pss_cons (ps_if (pt_cmpR op_in_sign pe_str (pv 0) (by rfl)) (pss_one (ps_ret (pe_callTy call_tuple_of (by rfl) mTu (by decide +kernel) (pa_cons (pe_lcX (Zf := L2N.Zn) (own := [("part", 1)]) (g := gName 1) (tt := tYes) (te := fun E' => tCall (spRdI CU) [] E' (tCons (tVar 1) tNil)) rfl rfl (fun _ _ => L2N.Zn.steady) (L2N.takes_of rfl rfl rfl rfl) rfl nd (pi_list (pe_split (pv 0) pe_str)) (blkOk_by (N := n_read_thing) (sc := defScope s_read_thing) (by decide +kernel)) (fun _ _ _ _ _ => pg_name (i := 1) nd rfl (Or.inl rfl)) (fun _ _ _ _ _ => pts_nil) (fun _ _ _ _ _ E' xe' t => pe_cn cJ r3 t (fun _ _ _ _ h => h) (pa_cons (pv 1) pa_nil))) pa_nil)))) pss_nil)
      (pss_one (ps_ret (pe_cn (E := E) cJ r3 (L2N.takes_of rfl rfl rfl rfl) (fun _ _ _ _ h => h) (pa_cons (pv 0) pa_nil))))), ?_⟩
    have l44 : (("," : Str)) = ⟨#[44]⟩ := by decide +kernel
    have l47 : (("/" : Str)) = ⟨#[47]⟩ := by decide +kernel
    have szx : x.length + 2 ≤ sizeLine := Nat.le_trans (Nat.add_le_add_right lx 2) (by decide)
    have cnt : ∀ y : Str, 1 ≤ y.length → (Txt.split x y).length ≤ 4000 := fun y hy => by
      have := split_cnt (x := x) hy
      omega
    have lp : ∀ y : Str, ∀ p ∈ Txt.split x y, p.length ≤ 4000 := fun y p hp => by
      have := split_mem_le hp
      omega
    have badp : ∀ {ks : List Int} {ps : List Str} {p : Str}, ps = ks.map nT → NbI ks → p ∈ ps → NumB p = true := fun {ks ps p} e nb hp => by
      rw [e] at hp
      obtain ⟨n, hn, rfl⟩ := List.mem_map.mp hp
      exact numB_iff.mpr ⟨n, rfl, nb n hn⟩
    by_cases h44 : 44 ∈ TL.tl x
    · refine ⟨_, rfl, 44, _, rfl, rfl, _, rfl, if_t (decide_eq_true h44) ?_⟩
      refine ⟨_, rfl, ⟨_, rfl⟩, _, _, rfl, rfl, by rw [l44]; rfl, szx, fun L hL => ?_⟩
      have e1 := Evl.Ex.new (o := .lst ((Txt.split x ",").map V.str)) hL
      refine ⟨L, rfl, ⟨_, SqL.of upd_same⟩, fun D hD => lc_nums (cnt "," (by decide)) (lp ",") hD upd_same (fun _ => rfl) (fun _ => rfl) (fun p hp nb H2 e2 => kx (fun t ht => ?_) H2 (e1.trans e2) p) (fun ns H2 hn nb e2 g2 => ?_)⟩
      · cases t with
        | lst ks => rw [badp ht.2.1 ht.2.2 hp] at nb; cases nb
        | tup ks => exact ht.1 h44
        | int n => exact ht.1 h44
      · exact k (.lst ns) ⟨h44, hn, nb⟩ _ H2 (e1.trans e2) (.lst (nw_at (Evl.fresh_back e1 hD) g2) (dqI ns))
    refine ⟨_, rfl, 44, _, rfl, rfl, _, rfl, if_f (decide_eq_false h44) ?_⟩
    by_cases h47 : 47 ∈ TL.tl x
    · refine ⟨_, rfl, 47, _, rfl, rfl, _, rfl, if_t (decide_eq_true h47) ?_⟩
      refine ⟨_, rfl, ⟨_, rfl⟩, _, _, rfl, rfl, by rw [l47]; rfl, szx, fun L hL => ?_⟩
      have e1 := Evl.Ex.new (o := .lst ((Txt.split x "/").map V.str)) hL
      refine ⟨L, rfl, ⟨_, SqL.of upd_same⟩, fun D hD => lc_nums (cnt "/" (by decide)) (lp "/") hD upd_same (fun _ => rfl) (fun _ => rfl) (fun p hp nb H2 e2 => kx (fun t ht => ?_) H2 (e1.trans e2) p) (fun ns H2 hn nb e2 g2 => ?_)⟩
      · cases t with
        | lst ks => exact h44 ht.1
        | tup ks => rw [badp ht.2.2.1 ht.2.2.2 hp] at nb; cases nb
        | int n => exact ht.2.1 h47
      · refine ⟨D, _, rfl, .inl ⟨SqL.of g2, fun r hr => ?_⟩⟩
        have e3 := Evl.Ex.new (o := .tup (iV ns)) hr
        exact k (.tup ns) ⟨h44, h47, hn, nb⟩ _ _ ((e1.trans e2).trans e3) (.tup (nw_at (Evl.fresh_back (e1.trans e2) hr) upd_same) (dqI ns))
    refine ⟨_, rfl, 47, _, rfl, rfl, _, rfl, if_f (decide_eq_false h47) ?_⟩
    refine ⟨_, rfl, x, rfl, by omega, fun n en bn H1 e1 => k (.int n) ⟨h44, h47, en, bn⟩ _ _ e1 (.int n), fun nb H1 e1 => kx (fun t ht => ?_) H1 e1 x⟩
    cases t with
    | lst ks => exact h44 ht.1
    | tup ks => exact h47 ht.2.1
    | int n =>
      rw [numB_iff.mpr ⟨n, ht.2.2.1, ht.2.2.2⟩] at nb
      cases nb
end
end V2


namespace V2
open PySem L2
open PySem.Spec PyProof.Rows
/-- a text read as data by R, or refused -/
def spRd (R : Str → PyData → Prop) (CU : Addr) : Sp := fun vs H Q E => ∃ x : Str, vs = [.str x] ∧ x.length ≤ 3900 ∧ (∀ d, R x d → ∀ v H', Evl.Ex H H' → Dq (Nw H H') v d → Q v H') ∧ ((∀ d, ¬ R x d) → Rf CU H E)
inductive AllR (R : Str → PyData → Prop) : List Str → List PyData → Prop
  | nil : AllR R [] []
  | cons {p : Str} {ps : List Str} {d : PyData} {ds : List PyData} : R p d → AllR R ps ds → AllR R (p :: ps) (d :: ds)
theorem AllR.snoc {R : Str → PyData → Prop} {p : Str} {d : PyData} : ∀ {ps : List Str} {ds : List PyData}, AllR R ps ds → R p d → AllR R (ps ++ [p]) (ds ++ [d])
  | _, _, .nil, h => .cons h .nil
  | _, _, .cons a b, h => .cons a (b.snoc h)
theorem AllR.len {R : Str → PyData → Prop} : ∀ {ps : List Str} {ds : List PyData}, AllR R ps ds → ps.length = ds.length
  | _, _, .nil => rfl
  | _, _, .cons _ b => congrArg (· + 1) b.len
theorem AllR.mem {R : Str → PyData → Prop} : ∀ {ps : List Str} {ds : List PyData} {p : Str}, AllR R ps ds → p ∈ ps → ∃ d, R p d
  | _, _, p, .cons a b, h => (List.mem_cons.mp h).elim (fun e => ⟨_, e ▸ a⟩) fun h => b.mem h
/-- [read_x(part) for part in pieces] -/
theorem lc_rd {K : PySem.W.Frag} {R : Str → PyData → Prop} {CU a D : Addr} {ps : List Str} {j : Nat} {σ : L2.St} {H1 : Hp} {E : XK} {Qd : Hp → Prop} (sz : ps.length ≤ 4000) (lp : ∀ p ∈ ps, p.length ≤ 3900) (hD : H1 D = none) (ha : H1 a = some (.lst (ps.map V.str)))
    (hw : ∀ x : V, wipe ((wipe σ [j]).set j (some x)) [j] = wipe σ [j]) (hj : ∀ x : V, ((wipe σ [j]).set j (some x))[j]? = some (some x))
    (hx : ∀ p ∈ ps, (∀ d, ¬ R p d) → ∀ H2, Evl.Ex H1 H2 → Rf CU H2 E) (hd : ∀ ds vs H', AllR R ps ds → Evl.Ex H1 H' → H' D = some (.lst vs) → DqAll (wo D (Nw H1 H')) vs ds → Qd H') :
    ∃ W : Nat → Nat → Hp → Prop, (∃ m, W 0 m (upd H1 D (.lst []))) ∧ ∀ i m H, W i m H →
      ((Itl K a).stop i H ∧ Qd H) ∨ ((Itl K a).go i H ∧ ∃ Nx : Hp → Prop, (∀ H', Nx H' → ∃ m', m' < m ∧ W (i + 1) m' H') ∧ ∀ x H', (Itl K a).yld i H x H' → gName j x (wipe σ [j]) H' fun σ2 H2 => wipe σ2 [j] = wipe σ [j] ∧ tYes σ2 H2 fun b H3 =>
        if b = true then (tCall (spRd R CU) [] E (tCons (tVar j) tNil)) σ2 H3 fun y H4 => ∃ acc, H4 D = some (.lst acc) ∧ acc.length < sizeLine ∧ Nx (upd H4 D (.lst (acc ++ [y]))) else Nx H3) := by
  refine lc_list (xs := ps.map V.str) (fun i H' => Evl.Ex H1 H' ∧ ∃ ds vs, AllR R (ps.take i) ds ∧ H' D = some (.lst vs) ∧ DqAll (wo D (Nw H1 H')) vs ds) ⟨Evl.Ex.new hD, [], [], .nil, upd_same, .nil⟩ (fun i H' _ q => SqL.of (q.1 _ _ ha)) ?_ ?_
  · rintro i v H' hi ⟨e1, ds, vs, ar, h1, q1⟩
    rw [List.getElem?_map] at hi
    obtain ⟨p, hp, rfl⟩ := Option.map_eq_some_iff.mp hi
    refine ⟨hw _, ⟨_, hj _, p, rfl, lp p (List.mem_of_getElem? hp), fun d hd' v H2 e2 hv => ⟨vs, e2 _ _ h1, ?_, Evl.Ex.mut (e1.trans e2) hD, ds ++ [d], vs ++ [v], ?_, upd_same, ?_⟩, fun nb => hx p (List.mem_of_getElem? hp) nb H' e1⟩⟩
    · have := q1.len
      rw [this, ← ar.len, List.length_take]
      exact Nat.lt_of_le_of_lt (show min i ps.length ≤ 4000 by omega) (by decide)
    · rw [List.take_add_one, hp]
      exact ar.snoc hd'
    · refine (q1.go fun b o h => ?_).snoc (hv.go fun b o h => ?_)
      · have hb : b ≠ D := fun z => by
          rw [z] at h
          unfold wo at h
          rw [if_pos rfl] at h
          cases h
        have h' := wo_ex _ _ h
        refine wo_at hb (nw_at (nw_none h') ?_)
        rw [upd_ne hb]
        exact e2 _ _ (Nw.ex _ _ h')
      · have hb : b ≠ D := fun z => by
          rw [z] at h
          have := nw_none h
          rw [h1] at this
          cases this
        refine wo_at hb (nw_at (Evl.fresh_back e1 (nw_none h)) ?_)
        rw [upd_ne hb]
        exact Nw.ex _ _ h
  · rintro H' ⟨e1, ds, vs, ar, h1, q1⟩
    rw [List.length_map, List.take_length] at ar
    exact hd ds vs H' ar e1 h1 q1
def ThR (x : Str) (d : PyData) : Prop := ∃ t, GhP x t ∧ d = ghD t
/-- a word and its things -/
def StR (x : Str) (d : PyData) : Prop := ∃ w ps ts, Txt.split x " " = w :: ps ∧ AllR ThR ps ts ∧ d = .tuple (.str w :: ts)
theorem rdG_of {CU : Addr} {vs : List V} {H : Hp} {Q : VK} {E : XK} (h : spRd ThR CU vs H Q E) : spRdG CU vs H Q E := by
  obtain ⟨x, rfl, lx, k, kx⟩ := h
  exact ⟨x, rfl, lx, fun t ht => k _ ⟨t, ht, rfl⟩, fun no => kx fun d ⟨t, ht, _⟩ => no t ht⟩
theorem caln_imp {P : Program} {w : World} {K : PySem.W.Frag} {mg : Str → Option Value} {base : Heap} {k : Nat} {x : Str} {ps : List Str} {sp sp' : Sp} (c : CalN P w K mg base k x ps sp) (h : ∀ vs H Q E, sp' vs H Q E → sp vs H Q E) : CalN P w K mg base k x ps sp' := by
  obtain ⟨f, fd, F, m, kp, b⟩ := c
  exact ⟨f, fd, ⟨fun vs H Q E q => F.len vs H Q E (h vs H Q E q), fun A outer s H args us vs Q E hr e0 bd rv q => F.run A outer s H args us vs Q E hr e0 bd rv (h vs H Q E q)⟩, m, kp, b⟩
section
variable {base : Heap} {mg : Str → Option Value} {K : PySem.W.Frag} {w : World} {P : Program} {CU : Addr}
theorem ok_read_stepN {f : Addr} {fd : FuncData} (F : Fun K "read_step" "read_step" s_read_step f fd) (mTu : mg "tuple" = none) (cTh : CalN P w K mg base 4 "read_thing" p_read_thing (spRd ThR CU)) : FnOk P w K mg base (L2N.CX P w) 5 f fd p_read_step (spRd StR CU) := by
  refine okC (L2N.CX P w) F sc_read_step (fun vs H Q E h => ?_) (fun cdv A outer s H vs Q E hr h => ?_)
  · obtain ⟨x, rfl, _⟩ := h
    rfl
  · obtain ⟨x, rfl, lx, k, kx⟩ := h
    have nd := sc_read_step.nd
    have r4 : Room 4 _ := hr.mono (by decide)
    have szx : x.length + 2 ≤ sizeLine := Nat.le_trans (Nat.add_le_add_right lx 2) (by decide)
    refine ⟨_, pss_cons (ps_asg (pe_split (pv 0) pe_str) (pg_star rfl (pgs_cons (pg_name (i := 1) nd rfl (Or.inl rfl)) (pgs_cons (pg_name (i := 2) nd rfl (Or.inl rfl)) pgs_nil))))
      (pss_one (ps_ret (pe_callTy call_tuple_of (by rfl) mTu (by decide +kernel) (pa_cons (pe_op op_cat (pe_lst (pa_cons (pv 1) pa_nil)) (pe_lcX (Zf := L2N.Zn) (own := [("part", 3)]) (g := gName 3) (tt := tYes) (te := fun E' => tCall (spRd ThR CU) [] E' (tCons (tVar 3) tNil)) rfl rfl (fun _ _ => L2N.Zn.steady) (L2N.takes_of rfl rfl rfl rfl) rfl nd (pi_list (pv 2)) (blkOk_by (N := n_read_step) (sc := defScope s_read_step) (by decide +kernel)) (fun _ _ _ _ _ => pg_name (i := 3) nd rfl (Or.inl rfl)) (fun _ _ _ _ _ => pts_nil) (fun _ _ _ _ _ E' xe' t => pe_cn cTh r4 t (fun _ _ _ _ h => h) (pa_cons (pv 3) pa_nil)))) pa_nil)))), ?_⟩
    have cnt : (Txt.split x " ").length ≤ x.length + 1 := split_cnt (by decide)
    have lp : ∀ p ∈ Txt.split x " ", p.length ≤ 3900 := fun p hp => Nat.le_trans (split_mem_le hp) lx
    refine ⟨_, rfl, ⟨_, rfl⟩, _, _, rfl, rfl, rfl, szx, fun L hL => ?_⟩
    obtain ⟨wd, ps, hsp⟩ : ∃ wd ps, Txt.split x " " = wd :: ps := by
      cases h : Txt.split x " " with
      | nil => exact absurd h (pcs_ne x)
      | cons a b => exact ⟨a, b, rfl⟩
    rw [hsp] at cnt lp ⊢
    have e1 := Evl.Ex.new (o := .lst ((wd :: ps).map V.str)) hL
    refine ⟨L, .str wd, ps.map V.str, rfl, SqL.of upd_same, fun p hp => ⟨_, _, rfl, _, _, rfl, rfl, ?_⟩⟩
    have e2 := Evl.Ex.new (o := .lst (ps.map V.str)) hp
    have g2 := upd_same (H := upd H L (.lst ((wd :: ps).map V.str))) (a := p) (o := .lst (ps.map V.str))
    generalize upd (upd H L (.lst ((wd :: ps).map V.str))) p (.lst (ps.map V.str)) = H2 at e2 g2
    have e02 := e1.trans e2
    refine ⟨_, rfl, by show 1 ≤ sizeLine; decide, fun b hb => ?_⟩
    have e3 := Evl.Ex.new (o := .lst [.str wd]) hb
    have g3 := upd_same (H := H2) (a := b) (o := .lst [.str wd])
    refine ⟨_, rfl, p, rfl, ⟨_, SqL.of (e3 _ _ g2)⟩, fun D hD => lc_rd (by rw [List.length_cons] at cnt; omega) (fun q hq => lp q (List.mem_cons_of_mem _ hq)) hD (e3 _ _ g2) (fun _ => rfl) (fun _ => rfl) (fun q hq nb H4 e4 => (kx fun d hd => ?_).go ((e02.trans e3).trans e4)) (fun ds vs H4 ar e4 g4 q4 => ?_)⟩
    · obtain ⟨w', ps', ts, h1, h2, _⟩ := hd
      rw [hsp] at h1
      cases h1
      obtain ⟨d', hd'⟩ := h2.mem hq
      exact nb d' hd'
    have kl := q4.len
    have al := ar.len
    rw [List.length_cons] at cnt
    refine ⟨b, D, _, _, rfl, rfl, e4 _ _ g3, g4, ?_, fun p3 hp3 => ?_⟩
    · rw [kl, ← al]
      exact Nat.le_trans (show 1 + ps.length ≤ 4000 by omega) (by decide)
    have e5 := Evl.Ex.new (o := .lst ([V.str wd] ++ vs)) hp3
    refine ⟨p3, _, rfl, .inl ⟨SqL.of upd_same, fun q hq => ?_⟩⟩
    have e6 := Evl.Ex.new (o := .tup ([V.str wd] ++ vs)) hq
    have e06 := (((e02.trans e3).trans e4).trans e5)
    refine k _ ⟨wd, ps, ds, hsp, ar, rfl⟩ _ _ (e06.trans e6) (.tup (nw_at (Evl.fresh_back e06 hq) upd_same) (.cons (.str wd) (q4.go fun c o h => ?_)))
    have h' := wo_ex _ _ h
    exact nw_at (Evl.fresh_back (e02.trans e3) (nw_none h')) (e6 _ _ (e5 _ _ (Nw.ex _ _ h')))
end
end V2


namespace V2
open PySem L2
open PySem.Spec PyProof.Rows
/-- amount in width -/
def TkR (x : Str) (d : PyData) : Prop := ∃ (tw : Option Int) (ta : Int), Txt.split x " " = [nT ta, "in", wT tw] ∧ ta.natAbs ≤ 999999999 ∧ (∀ z, tw = some z → z.natAbs ≤ 999999999) ∧ d = tkD (tw, ta)
section
variable {base : Heap} {mg : Str → Option Value} {K : PySem.W.Frag} {w : World} {P : Program} {CU eI0 : Addr}
theorem ok_read_tankN {f : Addr} {fd fdI : FuncData} (F : Fun K "read_tank" "read_tank" s_read_tank f fd) (mL : mg "len" = none) (cJ : CalN P w K mg base 3 "read_integer" p_read_integer (spRdI CU)) (TU : EC K CU eI0) (G : EG K eI0) (mE : mg "Unreadable" = some (.ref CU)) (FI : FnOk P w K mg base CX0 1 eI0 fdI ["self", "value"] (spInit K)) (bI : Binds K fdI ["self", "value"] []) : FnOk P w K mg base (L2N.CX P w) 4 f fd p_read_tank (spRd TkR CU) := by
  refine okC (L2N.CX P w) F sc_read_tank (fun vs H Q E h => ?_) (fun cdv A outer s H vs Q E hr h => ?_)
  · obtain ⟨x, rfl, _⟩ := h
    rfl
  · obtain ⟨x, rfl, lx, k, kx⟩ := h
    have nd := sc_read_tank.nd
    have r2 : Room (1 + 1) _ := hr.mono (by decide)
    have r3 : Room 3 _ := hr.mono (by decide)
    have szx : x.length + 2 ≤ sizeLine := Nat.le_trans (Nat.add_le_add_right lx 2) (by decide)
    refine ⟨_, pss_cons (ps_set (i := 1) nd rfl (Or.inl rfl) (pe_split (pv 0) pe_str))
      (pss_cons (ps_if (PW.pt (pw_or (pt_cmpR op_ne (pe_callB call_len_seq (by rfl) mL PySem.boot_len (pa_cons (pv 1) pa_nil)) pe_int (nomark _)) (pw_or1 (pt_cmpR op_ne (pe_ix ix_list (pv 1) pe_int (fun _ _ => rfl)) pe_str (nomark _))))) (pss_one (L2N.ps_raise rfl (L2N.takes_of rfl rfl rfl rfl) (pmkN_oex (k := 1) TU.ox TU.iC G.tI FI r2 bI pass0 (by rfl) mE (pa_cons (pv 0) pa_nil)))) pss_nil)
      (pss_cons (ps_set (i := 2) nd rfl (Or.inl rfl) (pe_ifExp (pt_cmpR op_eq (pe_ix ix_list (pv 1) pe_int (fun _ _ => rfl)) pe_str (nomark _)) pe_non (pe_cn (E := E) cJ r3 (L2N.takes_of rfl rfl rfl rfl) (fun _ _ _ _ h => h) (pa_cons (pe_ix ix_list (pv 1) pe_int (fun _ _ => rfl)) pa_nil))))
      (pss_one (ps_ret (pe_tup (pa_cons (pv 2) (pa_cons (pe_cn (E := E) cJ r3 (L2N.takes_of rfl rfl rfl rfl) (fun _ _ _ _ h => h) (pa_cons (pe_ix ix_list (pv 1) pe_int (fun _ _ => rfl)) pa_nil)) pa_nil))))))), ?_⟩
    have lp : ∀ p ∈ Txt.split x " ", p.length ≤ 4000 := fun p hp => by
      have := split_mem_le hp
      omega
    have bad : ∀ {H1 : Hp}, Evl.Ex H H1 → (∀ d, ¬ TkR x d) → [V.str x].length ≤ 1000 ∧ ∀ a, H1 a = none → spInit K (.ref a :: ([V.str x] ++ [])) (upd H1 a (exo a CU none)) (fun v G2 => v = .non ∧ ∃ (d : Addr) (fs : List (Str × V)), G2 a = some (exo a CU (some d)) ∧ G2 d = some (exd d fs) ∧ H1 d = none ∧ E (.ref CU) (some d) (upd (del G2 a) d (.xd fs))) (fun _ _ _ => False) := fun {H1} e1 hb => raise_in TU fun e G' he ee hx => kx hb H1 e1 x e G' he ee hx
    refine ⟨_, rfl, ⟨_, rfl⟩, _, _, rfl, rfl, rfl, szx, fun L hL => ?_⟩
    generalize hsp : Txt.split x " " = ps at lp ⊢
    have e1 := Evl.Ex.new (o := .lst (ps.map V.str)) hL
    have g1 := upd_same (H := H) (a := L) (o := .lst (ps.map V.str))
    generalize upd H L (.lst (ps.map V.str)) = H1 at e1 g1
    have two : 2 ≤ sizeLine := by show 2 ≤ sizeLine; decide
    refine ⟨_, rfl, L, _, rfl, .inl (SqL.of g1), rfl, _, rfl, ?_⟩
    by_cases h3 : ps.length = 3
    · obtain ⟨a, b, c, rfl⟩ : ∃ a b c, ps = [a, b, c] := by
        match ps, h3 with
        | [a, b, c], _ => exact ⟨a, b, c, rfl⟩
      have atS : ∀ (j : Nat) (z : Str), [a, b, c][j]? = some z → atI ([a, b, c].map V.str) (j : Int) = some (.str z) := fun j z h => atI_nat (by rw [List.getElem?_map, h]; rfl)
      refine if_f (by simp) ⟨_, rfl, L, _, _, _, rfl, rfl, SqL.of g1, atS 1 b rfl, rfl, _, rfl, ?_⟩
      by_cases hb : b = "in"
      · subst hb
        have nums : ∀ (z : Str), z ∈ [a, ("in" : Str), c] → z = a ∨ (z = c ∧ c ≠ "w") → NumB z = false → ∀ d, ¬ TkR x d := fun z hz hzz nb d hd => by
          obtain ⟨tw, ta, h1, h2, h4, _⟩ := hd
          rw [hsp] at h1
          injection h1 with q1 q2
          injection q2 with q2 q3
          injection q3 with q3 q4
          rcases hzz with rfl | ⟨rfl, hc⟩
          · rw [numB_iff.mpr ⟨ta, q1, h2⟩] at nb; cases nb
          · cases tw with
            | none => exact hc q3
            | some y => rw [numB_iff.mpr ⟨y, q3, h4 y rfl⟩] at nb; cases nb
        have fin : ∀ (tw : Option Int) (H2 : Hp), Evl.Ex H1 H2 → c = wT tw → (∀ z, tw = some z → z.natAbs ≤ 999999999) → spRdI CU [.str a] H2 (fun v H3 => 2 ≤ sizeLine ∧ ∀ q, H3 q = none → Q (.ref q) (upd H3 q (.tup [wV tw, v]))) E := fun tw H2 e2 hc hz => by
          refine ⟨a, rfl, lp a List.mem_cons_self, fun n en bn H3 e3 => ⟨two, fun q hq => ?_⟩, fun nb H3 e3 => kx (nums a List.mem_cons_self (.inl rfl) nb) H3 ((e1.trans e2).trans e3) a⟩
          have e4 := (e1.trans e2).trans e3
          refine k _ ⟨tw, n, by rw [hsp, en, hc], bn, hz, rfl⟩ _ _ (e4.trans (Evl.Ex.new hq)) (.tup (nw_at (Evl.fresh_back e4 hq) upd_same) (.cons ?_ (.cons (.int n) .nil)))
          cases tw with
          | none => exact .non
          | some z => exact .int z
        refine if_f (by decide) ⟨_, rfl, L, _, _, _, rfl, rfl, SqL.of g1, atS 2 c rfl, rfl, _, rfl, ?_⟩
        by_cases hc : c = "w"
        · subst hc
          refine if_t (by decide +kernel) ⟨_, rfl, _, rfl, L, _, _, _, rfl, rfl, SqL.of g1, atS 0 a rfl, ?_⟩
          exact fin none H1 (Evl.Ex.refl _) rfl (fun z h => by cases h)
        · refine if_f (decide_eq_false fun h => hc (by injection h)) ⟨_, rfl, L, _, _, _, rfl, rfl, SqL.of g1, atS 2 c rfl, ?_⟩
          refine ⟨c, rfl, lp c (by simp), fun z ez bz H2 e2 => ?_, fun nb H2 e2 => kx (nums c (by simp) (.inr ⟨rfl, hc⟩) nb) H2 (e1.trans e2) c⟩
          exact ⟨_, rfl, _, rfl, L, _, _, _, rfl, rfl, SqL.of (e2 _ _ g1), atS 0 a rfl, fin (some z) H2 e2 ez (fun y h => by cases h; exact bz)⟩
      · refine if_t ?_ ⟨_, rfl, bad e1 fun d hd => ?_⟩
        · rw [decide_eq_false fun h => hb (by injection h)]; rfl
        · obtain ⟨tw, ta, h1, _⟩ := hd
          rw [hsp] at h1
          injection h1 with q1 q2
          injection q2 with q2 q3
          exact hb q2
    · refine if_t ?_ (if_t rfl ⟨_, rfl, bad e1 fun d hd => ?_⟩)
      · rw [decide_eq_false fun h => h3 (by injection h with h; rw [List.length_map] at h; omega)]
        rfl
      · obtain ⟨tw, ta, h1, _⟩ := hd
        rw [hsp] at h1
        exact h3 (by rw [h1]; rfl)
end
end V2


namespace V2
open PySem L2
open PySem.Spec PyProof.Rows
def spTksN (CI : Addr) : Sp := fun vs H Q E => ∃ (l : Addr) (ts : List Tk), vs = [.ref l] ∧ TksAt H l ts ∧ ts.length ≤ 4000 ∧
  ((∀ t ∈ ts, tkB t = true) → ts.countP (fun t => t.1.isNone) = 1 → Evl.RetV .non H Q) ∧
  (∀ (i : Nat) (t : Tk), ts[i]? = some t → tkB t = false → (∀ (j : Nat) (z : Tk), j < i → ts[j]? = some z → tkB z = true) → ∀ (y : V) (H1 : Hp), Evl.Ex H H1 → TrD (Nw H H1) y (tkD t) [] → Rz CI H1 y E) ∧
  ((∀ t ∈ ts, tkB t = true) → ts.countP (fun t => t.1.isNone) ≠ 1 → ∀ (H1 : Hp), Evl.Ex H H1 → Rz CI H1 .non E)
section
variable {base : Heap} {mg : Str → Option Value} {K : PySem.W.Frag} {w : World} {P : Program}
theorem ok_check_tanksN {CI fI : Addr} {f : Addr} {fd fdI : FuncData} (F : Fun K "check_tanks" "check_tanks" s_check_tanks f fd) (mL : mg "len" = none) (cT : Cal P w K mg base 3 "is_tank" p_is_tank spTankB) (cc : Cal P w K mg base 2 "copied" p_copied (spCt 1)) (T : EC K CI fI) (G : EG K fI) (mE : mg "InvalidTank" = some (.ref CI)) (FI : FnOk P w K mg base CX0 1 fI fdI ["self", "value"] (spInit K)) (bI : Binds K fdI ["self", "value"] []) : FnOk P w K mg base (L2N.CX P w) 4 f fd p_check_tanks (spTksN CI) := by
  refine okC (L2N.CX P w) F sc_check_tanks (fun vs H Q E h => ?_) (fun cdv A outer s H vs Q E hr h => ?_)
  · obtain ⟨l, ts, rfl, _⟩ := h
    rfl
  · obtain ⟨l, ts, rfl, hT, h20, k, kx, kn⟩ := h
    obtain ⟨as, hl, hlen, hat⟩ := hT
    have nd := sc_check_tanks.nd
    have r2 : Room (1 + 1) _ := hr.mono (by decide)
    have r2c : Room 2 _ := hr.mono (by decide)
    refine ⟨_, pss_cons (ps_for (passes_of rfl) rfl (pi_list (pv 0)) (pg_name (i := 1) nd rfl (Or.inl rfl)) (pss_one (ps_if (pt_not (pt_val (pe_c cT hr (pa_cons (pv 1) pa_nil)))) (pss_one (L2N.ps_raise rfl (L2N.takes_of rfl rfl rfl rfl) (pmkN_oex (k := 1) T.ox T.iC G.tI FI r2 bI pass0 (by rfl) mE (pa_cons (pe_c cc r2c (pa_cons (pv 1) pa_nil)) pa_nil)))) pss_nil)))
      (pss_one (ps_if (pt_cmpR op_ne (pe_callB call_len_seq (by rfl) mL PySem.boot_len (pa_cons (pe_lc (own := [("tank", 1)]) (g := gName 1) (tt := tB (tIsN (tOp (rIxT K) (tVar 1) (tC (.int 0))))) (te := tVar 1) rfl nd (pi_list (pv 0)) (blkOk_by (N := n_check_tanks) (sc := defScope s_check_tanks) (by decide +kernel)) (fun _ _ _ _ _ => pg_name (i := 1) nd rfl (Or.inl rfl))
          (fun _ _ _ _ _ => pts_one (pt_cmp (pc_isN (pe_ix ix_tup (pv 1) pe_int (fun _ _ => rfl))))) (fun _ _ _ _ _ => pv 1)) pa_nil)) pe_int (nomark _)) (pss_one (L2N.ps_raise rfl (L2N.takes_of rfl rfl rfl rfl) (pmkN_oex (k := 1) T.ox T.iC G.tI FI r2 bI pass0 (by rfl) mE (pa_cons pe_non pa_nil)))) pss_nil)), ?_⟩
    have get : ∀ {i : Nat} {x : V}, (as.map V.ref)[i]? = some x → ∃ a t, x = .ref a ∧ as[i]? = some a ∧ ts[i]? = some t ∧ H a = some (.tup [wV t.1, .int t.2]) := fun {i x} hx => by
      rw [List.getElem?_map] at hx
      cases e : as[i]? with
      | none =>
        rw [e] at hx
        cases hx
      | some a =>
        rw [e] at hx
        have hi : i < ts.length := by
          have := (List.getElem?_eq_some_iff.mp e).1
          omega
        exact ⟨a, ts[i], (Option.some.inj hx).symm, rfl, List.getElem?_eq_getElem hi, hat i a _ e (List.getElem?_eq_getElem hi)⟩
    refine ⟨_, rfl, l, rfl, ⟨_, SqL.of hl⟩, for_list (xs := as.map V.ref) (fun i σ H' => Evl.Ex H H' ∧ (∀ (j : Nat) (z : Tk), j < i → ts[j]? = some z → tkB z = true) ∧ ∃ v, σ = [some (.ref l), v]) ⟨Evl.Ex.refl _, (fun j z h => absurd h (Nat.not_lt_zero _)), none, rfl⟩ (fun i σ H' _ q => SqL.of (q.1 _ _ hl)) ?_ ?_⟩
    · rintro i x σ H1 hi ⟨e1, hlo, v, rfl⟩
      obtain ⟨a, t, rfl, _, ht, ha⟩ := get hi
      refine ⟨_, rfl, a, t, rfl, e1 _ _ ha, fun H2 e2 => ⟨_, rfl, ?_⟩⟩
      cases hb : tkB t with
      | true =>
        exact if_f rfl ⟨e1.trans e2, (fun j z hj hz => by
          rcases Nat.lt_succ_iff_lt_or_eq.mp hj with h | rfl
          · exact hlo j z h hz
          · rw [ht] at hz
            cases hz
            exact hb), _, rfl⟩
      | false =>
        refine if_t rfl ?_
        have e12 := e1.trans e2
        have cp : Cp 1 (tkD t) := .tup (by show 2 ≤ 100; decide) fun d hd => by
          simp only [List.mem_cons, List.not_mem_nil, or_false] at hd
          rcases hd with rfl | rfl
          · obtain ⟨tw, ta⟩ := t
            cases tw with
            | none => exact .non
            | some z => exact .int _
          · exact .int _
        have dq : Dq H2 (.ref a) (tkD t) := .tup (e12 _ _ ha) (.cons (by
          obtain ⟨tw, ta⟩ := t
          cases tw with
          | none => exact .non
          | some z => exact .int _) (.cons (.int _) .nil))
        refine ⟨_, rfl, _, _, rfl, dq, cp, fun v' as H3 e3 hv' _ => ?_⟩
        obtain rfl := tr_flat2 hv' tr_fl_w tr_fl_int
        exact raise_in T fun e G' he ee hx => kx i t ht hb hlo v' H3 (e12.trans e3) (hv'.go fun b o z => nw_ofEx e12 z) e G' he ee hx
    · rintro σ H1 ⟨e1, hlo, v, rfl⟩
      have hlen' : (as.map V.ref).length = ts.length := by rw [List.length_map]; exact hlen
      rw [hlen'] at hlo
      have hall : ∀ t ∈ ts, tkB t = true := fun t ht => by
        obtain ⟨j, hj⟩ := List.getElem?_of_mem ht
        exact hlo j t (List.getElem?_eq_some_iff.mp hj).1 hj
      refine ⟨_, rfl, l, rfl, ⟨_, SqL.of (e1 _ _ hl)⟩, fun D hD => lc_list (xs := as.map V.ref) (fun i H' => Evl.Ex H1 H' ∧ ∃ acc, H' D = some (.lst acc) ∧ acc.length = (ts.take i).countP (fun t => t.1.isNone)) ⟨Evl.Ex.new hD, [], upd_same, rfl⟩ (fun i H' _ q => SqL.of (q.1 _ _ (e1 _ _ hl))) ?_ ?_⟩
      · rintro i x H2 hi ⟨e2, acc, h2, hc⟩
        obtain ⟨a, t, rfl, _, ht, ha⟩ := get hi
        have hcn := cntN ht
        refine ⟨rfl, ?_⟩
        show tB (tIsN (tOp (rIxT K) (tVar 1) (tC (.int 0)))) _ _ _
        refine ⟨_, rfl, a, _, _, _, rfl, rfl, SqT.of (e2 _ _ (e1 _ _ ha)), rfl, _, rfl, ?_⟩
        obtain ⟨tw, ta⟩ := t
        cases tw with
        | none =>
          refine if_t rfl ?_
          show tVar 1 _ _ _
          refine ⟨_, rfl, acc, h2, ?_, Evl.Ex.mut e2 hD, _, upd_same, ?_⟩
          · have := List.countP_le_length (p := fun t : Tk => t.1.isNone) (l := ts.take i)
            rw [List.length_take] at this
            exact Nat.lt_of_le_of_lt (show acc.length ≤ 4000 by omega) (by decide)
          · rw [List.length_append, hcn, hc]
            rfl
        | some z =>
          refine if_f rfl ⟨e2, acc, h2, ?_⟩
          rw [hcn, hc]
          rfl
      · rintro H2 ⟨e2, acc, h2, hc⟩
        rw [List.length_map, hlen, List.take_length] at hc
        refine ⟨D, _, rfl, .inl (SqL.of h2), ?_⟩
        by_cases c : ts.countP (fun t => t.1.isNone) = 1
        · rw [hc, c]
          exact ⟨rfl, _, rfl, if_f rfl (k hall c _ (e1.trans e2))⟩
        · rw [hc]
          refine ⟨rfl, _, rfl, if_t ?_ ?_⟩
          · rw [decide_eq_false (fun z => c (by injection z with z; omega))]
            rfl
          · exact raise_in T fun e G' he ee hx => kn hall c H2 (e1.trans e2) e G' he ee hx

end
end V2


namespace V2
open PySem L2
open PySem.Spec PyProof.Rows
def Gh.isI : Gh → Bool
  | .int _ => true
  | _ => false
def Gh.amt : Gh → Bool
  | .int n => decide (0 ≤ n)
  | _ => false
def spIntG : Sp := fun vs H Q _ => ∃ (v : V) (g : Gh), vs = [v] ∧ Dq H v (ghD g) ∧ Evl.RetV (.bl g.isI) H Q
def spAmtG : Sp := fun vs H Q _ => ∃ (v : V) (g : Gh), vs = [v] ∧ Dq H v (ghD g) ∧ Evl.RetV (.bl g.amt) H Q
/-- what stands for a thing -/
theorem gh_int {H : Hp} {v : V} {n : Int} (h : Dq H v (ghD (.int n))) : v = .int n := by
  cases h; rfl
theorem gh_lst {H : Hp} {v : V} {ks : List Int} (h : Dq H v (ghD (.lst ks))) : ∃ a, v = .ref a ∧ H a = some (.lst (iV ks)) := by
  cases h with
  | lst ha hd =>
    have := dq_ints hd
    subst this
    exact ⟨_, rfl, ha⟩
theorem gh_tup {H : Hp} {v : V} {ks : List Int} (h : Dq H v (ghD (.tup ks))) : ∃ a, v = .ref a ∧ H a = some (.tup (iV ks)) := by
  cases h with
  | tup ha hd =>
    have := dq_ints hd
    subst this
    exact ⟨_, rfl, ha⟩
section
variable {base : Heap} {mg : Str → Option Value} {K : PySem.W.Frag} {w : World} {P : Program}
theorem ok_is_integerG {f : Addr} {fd : FuncData} (F : Fun K "is_integer" "is_integer" s_is_integer f fd) (T : T3 mg) : FnOk P w K mg base CX0 1 f fd p_is_integer spIntG := by
  refine F.ok sc_is_integer (fun vs H Q E h => ?_) (fun cdv A outer s H vs Q E hr h => ?_)
  · obtain ⟨v, g, rfl, _⟩ := h
    rfl
  · obtain ⟨v, g, rfl, hv, k⟩ := h
    refine ⟨_, pss_one (ps_ret (pe_and (pe_callB call_isi (by rfl) T.isi (by decide +kernel) (pa_cons (pv 0) (pa_cons (pe_bltn (v := .ty "int") (by rfl) T.int (by decide +kernel) rfl) pa_nil)))
      (pe_one (pe_not (pe_callB call_isi (by rfl) T.isi (by decide +kernel) (pa_cons (pv 0) (pa_cons (pe_bltn (v := .ty "bool") (by rfl) T.bool (by decide +kernel) rfl) pa_nil))))))), ?_⟩
    cases g with
    | int n =>
      obtain rfl := gh_int hv
      refine ⟨_, rfl, _, _, _, _, true, rfl, .ty "int", .base (.int n), kit_ty (by decide +kernel), true, rfl, if_t rfl ?_⟩
      refine ⟨_, rfl, _, _, _, _, false, rfl, .ty "bool", .base (.int n), kit_ty (by decide +kernel), false, rfl, ?_⟩
      exact k _ (Evl.Ex.refl _)
    | lst ks =>
      obtain ⟨a, rfl, ha⟩ := gh_lst hv
      exact ⟨_, rfl, _, _, _, _, false, rfl, .ty "int", .base (.lst ha), kit_ty (by decide +kernel), false, rfl, if_f rfl (k _ (Evl.Ex.refl _))⟩
    | tup ks =>
      obtain ⟨a, rfl, ha⟩ := gh_tup hv
      exact ⟨_, rfl, _, _, _, _, false, rfl, .ty "int", .base (.tup ha), kit_ty (by decide +kernel), false, rfl, if_f rfl (k _ (Evl.Ex.refl _))⟩
theorem ok_is_amountG {f : Addr} {fd : FuncData} (F : Fun K "is_amount" "is_amount" s_is_amount f fd) (cI : Cal P w K mg base 1 "is_integer" p_is_integer spIntG) : FnOk P w K mg base CX0 2 f fd p_is_amount spAmtG := by
  refine F.ok sc_is_amount (fun vs H Q E h => ?_) (fun cdv A outer s H vs Q E hr h => ?_)
  · obtain ⟨v, g, rfl, _⟩ := h
    rfl
  · obtain ⟨v, g, rfl, hv, k⟩ := h
    refine ⟨_, pss_one (ps_ret (pe_and (pe_c cI hr (pa_cons (pv 0) pa_nil)) (pe_one (pe_cmpR op_ge (pv 0) pe_int (nomark _))))), ?_⟩
    refine ⟨_, rfl, v, g, rfl, hv, fun H1 e1 => ⟨_, rfl, ?_⟩⟩
    cases g with
    | int n =>
      obtain rfl := gh_int hv
      exact if_t rfl ⟨_, rfl, _, _, rfl, rfl, k _ e1⟩
    | lst ks => exact if_f rfl (k _ e1)
    | tup ks => exact if_f rfl (k _ e1)
end
end V2


namespace V2
open PySem L2
open PySem.Spec PyProof.Rows
def Gh.asc : Gh → Bool
  | .lst ks => decide (2 ≤ ks.length) && ascB ks
  | _ => false
def Gh.sz : Gh → Prop
  | .lst ks => ks.length ≤ 4000
  | .tup ks => ks.length ≤ 4000
  | .int _ => True
def spAscG : Sp := fun vs H Q _ => ∃ (v : V) (g : Gh), vs = [v] ∧ Dq H v (ghD g) ∧ g.sz ∧ Evl.RetV (.bl g.asc) H Q
section
variable {base : Heap} {mg : Str → Option Value} {K : PySem.W.Frag} {w : World} {P : Program}
theorem ok_is_ascendingG {f : Addr} {fd : FuncData} (F : Fun K "is_ascending" "is_ascending" s_is_ascending f fd) (T : T3 mg) (mR : mg "range" = none) (cI : Cal P w K mg base 1 "is_integer" p_is_integer spInt) : FnOk P w K mg base CX0 2 f fd p_is_ascending spAscG := by
  refine F.ok sc_is_ascending (fun vs H Q E h => ?_) (fun cdv A outer s H vs Q E hr h => ?_)
  · obtain ⟨v, g, rfl, _⟩ := h
    rfl
  · obtain ⟨v, g, rfl, hv, h30, k⟩ := h
    have nd := sc_is_ascending.nd
    refine ⟨_, pss_cons (ps_if (PW.pt (pw_or (pt_not (pt_val (pe_callB call_isi (by rfl) T.isi (by decide +kernel) (pa_cons (pv 0) (pa_cons (pe_bltn (v := .ty "list") (by rfl) T.lst (by decide +kernel) rfl) pa_nil)))))
        (pw_or (pt_cmpR op_lt (pe_callB call_len_seq (by rfl) T.len PySem.boot_len (pa_cons (pv 0) pa_nil)) pe_int (nomark _))
        (pw_or1 (pt_not (pt_val (pe_callB (cr_all rfl) (by rfl) T.all (by decide +kernel) (pa_cons (pe_lc (own := [("number", 1)]) (g := gName 1) (tt := tYes) (te := tCall spInt [] E0 (tCons (tVar 1) tNil)) rfl nd (pi_list (pv 0)) (blkOk_by (N := n_is_ascending) (sc := defScope s_is_ascending) (by decide +kernel)) (fun _ _ _ _ _ => pg_name (i := 1) nd rfl (Or.inl rfl)) (fun _ _ _ _ _ => pts_nil)
          (fun _ _ _ _ _ => pe_c cI hr (pa_cons (pv 1) pa_nil))) pa_nil)))))))) (pss_one (ps_ret pe_bl)) pss_nil)
      (pss_one (ps_ret (pe_callB (cr_all rfl) (by rfl) T.all (by decide +kernel) (pa_cons (pe_lc (own := [("k", 2)]) (g := gName 2) (tt := tYes) (te := tOp (rI0 fun i j => .bl (decide (i < j))) (tOp (rIxL K) (tVar 0) (tVar 2)) (tOp (rIxL K) (tVar 0) (tOp (rI0 fun i j => .int (i + j)) (tVar 2) (tC (.int 1))))) rfl nd (pi_range1 (by rfl) mR (pa_cons (pe_op op_sub (pe_callB call_len_seq (by rfl) T.len PySem.boot_len (pa_cons (pv 0) pa_nil)) pe_int) pa_nil)) (blkOk_by (N := n_is_ascending) (sc := defScope s_is_ascending) (by decide +kernel)) (fun _ _ _ _ _ => pg_name (i := 2) nd rfl (Or.inl rfl)) (fun _ _ _ _ _ => pts_nil)
          (fun _ _ _ _ _ => pe_cmpR op_lt (pe_ix ix_list (pv 0) (pv 2) (fun _ _ => rfl)) (pe_ix ix_list (pv 0) (pe_op op_add (pv 2) pe_int) (fun _ _ => rfl)) (nomark _))) pa_nil)))), ?_⟩
    cases g with
    | int n =>
      obtain rfl := gh_int hv
      exact ⟨_, rfl, _, _, _, _, false, rfl, .ty "list", .base (.int n), kit_ty (by decide +kernel), false, rfl, if_t rfl (if_t rfl (k _ (Evl.Ex.refl _)))⟩
    | tup ks =>
      obtain ⟨l, rfl, hl⟩ := gh_tup hv
      exact ⟨_, rfl, _, _, _, _, false, rfl, .ty "list", .base (.tup hl), kit_ty (by decide +kernel), false, rfl, if_t rfl (if_t rfl (k _ (Evl.Ex.refl _)))⟩
    | lst ks =>
      obtain ⟨l, rfl, hl⟩ := gh_lst hv
      have hl : Li H l ks := hl
      have h30 : ks.length ≤ 4000 := h30
      have k : Evl.RetV (.bl (decide (2 ≤ ks.length) && ascB ks)) H Q := k
      refine ⟨_, rfl, _, _, _, _, true, rfl, .ty "list", .base (.lst hl), kit_ty (by decide +kernel), true, rfl, if_f rfl ?_⟩
      refine ⟨_, rfl, l, _, rfl, .inl hl.sq, _, _, rfl, rfl, _, rfl, ?_⟩
      by_cases h2 : ks.length < 2
      · refine if_t (decide_eq_true (by rw [iV_len]; omega)) ?_
        rw [decide_eq_false (by omega), Bool.false_and] at k
        exact k _ (Evl.Ex.refl _)
      refine if_f (decide_eq_false (by rw [iV_len]; omega)) ?_
      refine ⟨_, rfl, l, rfl, ⟨_, hl.sq⟩, fun D hD => lc_list (xs := iV ks) (fun i H' => Evl.Ex H H' ∧ H' D = some (.lst (List.replicate i (.bl true)))) ⟨Evl.Ex.new hD, upd_same⟩ (fun i H' _ q => SqL.of (q.1 _ _ hl)) ?_ ?_⟩
      · rintro i x H' hi ⟨e1, h1⟩
        obtain ⟨n, hn, rfl⟩ := iV_get hi
        have hlt : i < ks.length := (List.getElem?_eq_some_iff.mp hn).1
        refine ⟨rfl, ?_⟩
        show tCall spInt [] E0 (tCons (tVar 1) tNil) _ _ _
        refine ⟨_, rfl, n, rfl, fun H2 e2 => ⟨_, e2 _ _ h1, ?_, ?_, ?_⟩⟩
        · rw [List.length_replicate]; exact Nat.lt_of_lt_of_le (show i < 5000 by omega) (by decide)
        · exact Evl.Ex.mut (e1.trans e2) hD
        · rw [upd_same, rep_snoc]
      · rintro H1 ⟨e1, h1⟩
        rw [iV_len] at h1
        refine ⟨D, List.replicate ks.length true, rfl, SqL.of (by rw [h1, List.map_replicate]), true, by simp, if_f rfl ?_⟩
        have hl1 : Li H1 l ks := e1 _ _ hl
        refine ⟨_, rfl, l, _, rfl, .inl hl1.sq, _, _, rfl, rfl, _, rfl, ?_, ?_, fun D2 hD2 => ?_⟩
        · rw [iV_len]; omega
        · rw [iV_len]; omega
        have en : (((iV ks).length : Int) - 1).toNat = ks.length - 1 := by rw [iV_len]; omega
        refine lc_range (n := (((iV ks).length : Int) - 1).toNat) (fun i H' => Evl.Ex H1 H' ∧ H' D2 = some (.lst ((List.range i).map fun j => V.bl (decide (ks.getD j 0 < ks.getD (j + 1) 0))))) ⟨Evl.Ex.new hD2, upd_same⟩ ?_ ?_
        · rintro i H2 hi ⟨e2, h2'⟩
          rw [en] at hi
          obtain ⟨xa, g1⟩ : ∃ x, ks[i]? = some x := ⟨_, List.getElem?_eq_getElem (by omega)⟩
          obtain ⟨xb, g2⟩ : ∃ x, ks[i + 1]? = some x := ⟨_, List.getElem?_eq_getElem (by omega)⟩
          refine ⟨rfl, ?_⟩
          show tOp (rI0 fun i j => .bl (decide (i < j))) (tOp (rIxL K) (tVar 0) (tVar 2)) (tOp (rIxL K) (tVar 0) (tOp (rI0 fun i j => .int (i + j)) (tVar 2) (tC (.int 1)))) _ _ _
          refine ⟨_, rfl, _, rfl, l, _, _, _, rfl, rfl, SqL.of (e2 _ _ hl1), by rw [Int.zero_add]; exact atI_nat (iV_at g1), ?_⟩
          refine ⟨_, rfl, _, rfl, _, _, rfl, rfl, l, _, _, .int xb, rfl, rfl, SqL.of (e2 _ _ hl1), ?_, _, _, rfl, rfl, _, h2', ?_, Evl.Ex.mut e2 hD2, ?_⟩
          · show atI _ (0 + (i : Int) + 1) = _
            rw [show (0 + (i : Int) + 1) = ((i + 1 : Nat) : Int) by omega]
            exact atI_nat (iV_at g2)
          · rw [List.length_map, List.length_range]; exact Nat.lt_of_lt_of_le (show i < 5000 by omega) (by decide)
          · rw [upd_same, List.range_succ, List.map_append]
            have a1 : ks.getD i 0 = xa := by rw [List.getD_eq_getElem?_getD, g1]; rfl
            have a2 : ks.getD (i + 1) 0 = xb := by rw [List.getD_eq_getElem?_getD, g2]; rfl
            show some (HO.lst (_ ++ [V.bl (decide (xa < xb))])) = some (HO.lst (_ ++ [V.bl (decide (ks.getD i 0 < ks.getD (i + 1) 0))]))
            rw [a1, a2]
        · rintro H2 ⟨e2, h2'⟩
          rw [en] at h2'
          refine ⟨D2, (List.range (ks.length - 1)).map fun j => decide (ks.getD j 0 < ks.getD (j + 1) 0), rfl, SqL.of (by rw [h2', List.map_map]; rfl), ?_⟩
          have e : ((List.range (ks.length - 1)).map fun j => decide (ks.getD j 0 < ks.getD (j + 1) 0)).all id = ascB ks := by
            unfold ascB
            rw [List.all_map]
            rfl
          rw [e]
          rw [decide_eq_true (show 2 ≤ ks.length by omega), Bool.true_and] at k
          exact k _ (e1.trans e2)
end
end V2




namespace V2
open PySem L2
open PySem.Spec PyProof.Rows
def ghNe (a b : Gh) : Bool := !PyData.eqv (ghD a) (ghD b)
def stI (x : Str) (gs : List Gh) : Bool := if x = "open" then (match gs with | g :: _ => g.asc | _ => false) else if x = "pour" then (match gs with | _ :: g :: _ => g.amt | _ => false) else (decide (x = "scoop") || (match gs with | g :: h :: _ => ghNe g h | _ => false))
/-- is_step of a word and things -/
def stG (x : Str) (gs : List Gh) : Bool := decide (thN x = some (gs.length + 1)) && stI x gs
theorem th_cases {x : Str} {n : Nat} (h : thN x = some n) : (x = "open" ∧ n = 2) ∨ (x = "pour" ∧ n = 3) ∨ (x = "scoop" ∧ n = 3) ∨ (x = "move" ∧ n = 4) ∨ (x = "unless" ∧ n = 3) := by
  unfold thN at h
  split at h
  · cases h; exact .inl ⟨‹_›, rfl⟩
  split at h
  · cases h; exact .inr (.inl ⟨‹_›, rfl⟩)
  split at h
  · cases h; exact .inr (.inr (.inl ⟨‹_›, rfl⟩))
  split at h
  · cases h; exact .inr (.inr (.inr (.inl ⟨‹_›, rfl⟩)))
  split at h
  · cases h; exact .inr (.inr (.inr (.inr ⟨‹_›, rfl⟩)))
  · cases h
structure ThA (K : PySem.W.Frag) (aT : Addr) : Prop where
  no : ∀ x : Str, thN x = none → PySem.W.nsIn K aT x = some none
/-- a word and things at v -/
def SgAt (H : Hp) (v : V) (x : Str) (gs : List Gh) : Prop := ∃ a vs, v = .ref a ∧ H a = some (.tup (.str x :: vs)) ∧ DqAll H vs (gs.map ghD)
def spStepG : Sp := fun vs H Q _ => ∃ (v : V) (x : Str) (gs : List Gh), vs = [v] ∧ SgAt H v x gs ∧ (∀ g ∈ gs, g.sz) ∧ Evl.RetV (.bl (stG x gs)) H Q
theorem dqall1 {H : Hp} {vs : List V} {d : PyData} {ds : List PyData} (h : DqAll H vs (d :: ds)) : ∃ v vs', vs = v :: vs' ∧ Dq H v d ∧ DqAll H vs' ds := by
  cases h with
  | cons a b => exact ⟨_, _, rfl, a, b⟩
theorem dqall0 {H : Hp} {vs : List V} (h : DqAll H vs []) : vs = [] := by
  cases h; rfl
theorem gh_dp {K : PySem.W.Frag} {H : Hp} {v : V} {g : Gh} (h : Dq H v (ghD g)) : Dp K H v (ghD g) := by
  cases g with
  | int n => obtain rfl := gh_int h; exact .int n
  | lst ks => obtain ⟨a, rfl, ha⟩ := gh_lst h; exact .lst (SqL.of ha) (dpI' ks)
  | tup ks => obtain ⟨a, rfl, ha⟩ := gh_tup h; exact .tup (SqT.of ha) (dpI' ks)
theorem shaped_gh (g : Gh) : SeqAt.shaped (ghD g) = true := by
  cases g with
  | int n => rfl
  | lst ks => exact shI ks
  | tup ks => exact shI ks
section
variable {base : Heap} {mg : Str → Option Value} {K : PySem.W.Frag} {w : World} {P : Program} {aT : Addr} {es : Array DictEntry} {nT : Nat} {t1 t2 t3 t4 t5 : Tok}
theorem ok_is_stepG {f : Addr} {fd : FuncData} (F : Fun K "is_step" "is_step" s_is_step f fd) (T : T3 mg) (mS : mg "str" = none) (th : Th K w mg aT es nT t1 t2 t3 t4 t5) (tn : ThA K aT) (cA : Cal P w K mg base 2 "is_ascending" p_is_ascending spAscG) (cM : Cal P w K mg base 2 "is_amount" p_is_amount spAmtG) : FnOk P w K mg base CX0 3 f fd p_is_step spStepG := by
  refine F.ok sc_is_step (fun vs H Q E h => ?_) (fun cdv A outer s H vs Q E hr h => ?_)
  · obtain ⟨v, x, gs, rfl, _⟩ := h
    rfl
  · obtain ⟨_, x, gs, rfl, ⟨a, vs, rfl, ha, hv⟩, hsz, k⟩ := h
    have nd := sc_is_step.nd
    refine ⟨_, pss_cons (ps_if (PW.pt (pw_or (pt_not (pt_val (pe_callB call_isi (by rfl) T.isi (by decide +kernel) (pa_cons (pv 0) (pa_cons (pe_bltn (v := .ty "tuple") (by rfl) T.tup (by decide +kernel) rfl) pa_nil)))))
        (pw_or (pt_not (pt_truth (pv 0) (by intro _; rfl)))
        (pw_or (pt_not (pt_val (pe_callB call_isi (by rfl) T.isi (by decide +kernel) (pa_cons (pe_ix ix_tup (pv 0) pe_int (fun _ _ => rfl)) (pa_cons (pe_bltn (v := .ty "str") (by rfl) mS (by decide +kernel) rfl) pa_nil)))))
        (pw_or1 (pt_cmpR (op_notIn_kd th.D) (pe_ix ix_tup (pv 0) pe_int (fun _ _ => rfl)) (pe_glob (v := .ref aT) (by rfl) th.g rfl) (by rfl))))))) (pss_one (ps_ret pe_bl)) pss_nil)
      (pss_cons (ps_set (i := 1) nd rfl (Or.inl rfl) (pe_ix ix_tup (pv 0) pe_int (fun _ _ => rfl)))
      (pss_cons (ps_if (pt_cmpR op_ne (pe_callB call_len_seq (by rfl) T.len PySem.boot_len (pa_cons (pv 0) pa_nil)) (pe_ix ix_kdict (pe_glob (v := .ref aT) (by rfl) th.g rfl) (pv 1) (fun _ _ => rfl)) (nomark _)) (pss_one (ps_ret pe_bl)) pss_nil)
      (pss_cons (ps_if (pt_cmpR op_eq (pv 1) pe_str (nomark _)) (pss_one (ps_ret (pe_c cA hr (pa_cons (pe_ix ix_tup (pv 0) pe_int (fun _ _ => rfl)) pa_nil)))) pss_nil)
      (pss_cons (ps_if (pt_cmpR op_eq (pv 1) pe_str (nomark _)) (pss_one (ps_ret (pe_c cM hr (pa_cons (pe_ix ix_tup (pv 0) pe_int (fun _ _ => rfl)) pa_nil)))) pss_nil)
      (pss_one (ps_ret (pe_or (pe_cmpR op_eq (pv 1) pe_str (nomark _)) (pe_one (pe_cmpR (op_neD hr.units) (pe_ix ix_tup (pv 0) pe_int (fun _ _ => rfl)) (pe_ix ix_tup (pv 0) pe_int (fun _ _ => rfl)) (nomark _)))))))))), ?_⟩
    have hl := dqall_len hv
    rw [List.length_map] at hl
    refine ⟨_, rfl, _, _, _, _, true, rfl, .ty "tuple", .base (.tup ha), kit_ty (by decide +kernel), true, rfl, if_f rfl ?_⟩
    refine ⟨_, rfl, _, .inr (.inl ⟨_, SqT.of ha, rfl⟩), if_f rfl ?_⟩
    refine ⟨_, rfl, a, _, _, _, rfl, rfl, SqT.of ha, (by exact atI_nat (j := 0) rfl), _, _, _, _, true, rfl, .ty "str", .base (.str _), kit_ty (by decide +kernel), true, rfl, if_f rfl ?_⟩
    cases hx : thN x with
    | none =>
      have e : stG x gs = false := by
        unfold stG
        rw [hx]
        rfl
      rw [e] at k
      exact ⟨_, rfl, a, _, _, _, rfl, rfl, SqT.of ha, (by exact atI_nat (j := 0) rfl), _, _, rfl, rfl, tn.no x hx, _, rfl, if_t rfl (k _ (Evl.Ex.refl _))⟩
    | some n =>
      obtain ⟨t, ht⟩ := th_some th hx
      refine ⟨_, rfl, a, _, _, _, rfl, rfl, SqT.of ha, (by exact atI_nat (j := 0) rfl), _, _, rfl, rfl, ht, _, rfl, if_f rfl ?_⟩
      refine ⟨_, rfl, a, _, _, _, rfl, rfl, SqT.of ha, (by exact atI_nat (j := 0) rfl), ?_⟩
      refine ⟨_, rfl, a, _, rfl, .inr (SqT.of ha), _, rfl, aT, _, .int n, rfl, rfl, ⟨_, _, _, th.D.at_, th.D.lit, ht, ⟨_, rfl⟩⟩, rfl, _, rfl, ?_⟩
      by_cases hn : ¬ gs.length + 1 = n
      · have e : stG x gs = false := by
          unfold stG
          rw [hx, decide_eq_false (fun z => hn (by injection z with z; exact z.symm))]
          rfl
        rw [e] at k
        refine if_t ?_ (k _ (Evl.Ex.refl _))
        rw [decide_eq_false (fun z => ?_)]
        · rfl
        · injection z with z
          rw [List.length_cons] at z
          omega
      have hn := Decidable.not_not.mp hn
      refine if_f ?_ ?_
      · rw [decide_eq_true (by rw [List.length_cons]; congr 1; omega)]
        rfl
      have k : Evl.RetV (.bl (stI x gs)) H Q := by
        have e : decide (thN x = some (gs.length + 1)) = true := decide_eq_true (by rw [hx, hn])
        unfold stG at k
        rw [e, Bool.true_and] at k
        exact k
      rcases th_cases hx with ⟨rfl, rfl⟩ | ⟨rfl, rfl⟩ | ⟨rfl, rfl⟩ | ⟨rfl, rfl⟩ | ⟨rfl, rfl⟩
      · obtain ⟨g1, rfl⟩ : ∃ g1, gs = [g1] := by
          match gs, hn with
          | [g1], _ => exact ⟨g1, rfl⟩
        obtain ⟨v1, vs1, rfl, d1, hv⟩ := dqall1 hv
        refine ⟨_, rfl, rfl, _, rfl, if_t (by decide) ?_⟩
        exact ⟨_, rfl, a, _, _, _, rfl, rfl, SqT.of ha, (by exact atI_nat (j := 1) rfl), v1, g1, rfl, d1, hsz g1 (by simp), k⟩
      · obtain ⟨g1, g2, rfl⟩ : ∃ g1 g2, gs = [g1, g2] := by
          match gs, hn with
          | [g1, g2], _ => exact ⟨g1, g2, rfl⟩
        obtain ⟨v1, vs1, rfl, d1, hv⟩ := dqall1 hv
        obtain ⟨v2, vs2, rfl, d2, hv⟩ := dqall1 hv
        refine ⟨_, rfl, rfl, _, rfl, if_f (by decide) ?_⟩
        refine ⟨_, rfl, rfl, _, rfl, if_t (by decide) ?_⟩
        exact ⟨_, rfl, a, _, _, _, rfl, rfl, SqT.of ha, (by exact atI_nat (j := 2) rfl), v2, g2, rfl, d2, k⟩
      · refine ⟨_, rfl, rfl, _, rfl, if_f (by decide) ?_⟩
        refine ⟨_, rfl, rfl, _, rfl, if_f (by decide) ?_⟩
        exact ⟨_, rfl, rfl, _, rfl, if_t (by decide) (k _ (Evl.Ex.refl _))⟩
      · obtain ⟨g1, g2, g3, rfl⟩ : ∃ g1 g2 g3, gs = [g1, g2, g3] := by
          match gs, hn with
          | [g1, g2, g3], _ => exact ⟨g1, g2, g3, rfl⟩
        obtain ⟨v1, vs1, rfl, d1, hv⟩ := dqall1 hv
        obtain ⟨v2, vs2, rfl, d2, hv⟩ := dqall1 hv
        refine ⟨_, rfl, rfl, _, rfl, if_f (by decide) ?_⟩
        refine ⟨_, rfl, rfl, _, rfl, if_f (by decide) ?_⟩
        refine ⟨_, rfl, rfl, _, rfl, if_f (by decide) ?_⟩
        exact ⟨_, rfl, a, _, _, _, rfl, rfl, SqT.of ha, (by exact atI_nat (j := 1) rfl), _, rfl, a, _, _, _, rfl, rfl, SqT.of ha, (by exact atI_nat (j := 2) rfl), _, _, gh_dp d1, gh_dp d2, shaped_gh g1, shaped_gh g2, k _ (Evl.Ex.refl _)⟩
      · obtain ⟨g1, g2, rfl⟩ : ∃ g1 g2, gs = [g1, g2] := by
          match gs, hn with
          | [g1, g2], _ => exact ⟨g1, g2, rfl⟩
        obtain ⟨v1, vs1, rfl, d1, hv⟩ := dqall1 hv
        obtain ⟨v2, vs2, rfl, d2, hv⟩ := dqall1 hv
        refine ⟨_, rfl, rfl, _, rfl, if_f (by decide) ?_⟩
        refine ⟨_, rfl, rfl, _, rfl, if_f (by decide) ?_⟩
        refine ⟨_, rfl, rfl, _, rfl, if_f (by decide) ?_⟩
        exact ⟨_, rfl, a, _, _, _, rfl, rfl, SqT.of ha, (by exact atI_nat (j := 1) rfl), _, rfl, a, _, _, _, rfl, rfl, SqT.of ha, (by exact atI_nat (j := 2) rfl), _, _, gh_dp d1, gh_dp d2, shaped_gh g1, shaped_gh g2, k _ (Evl.Ex.refl _)⟩
end
end V2


namespace V2
open PySem L2
open PySem.Spec PyProof.Rows
/-- the tanks that a step names -/
def tofG (x : Str) (gs : List Gh) : List Gh := if x = "open" then (match gs with | .lst ks :: _ => ks.map .int | _ => []) else if x = "move" ∨ x = "unless" then gs.take 2 else gs.take 1
def spTofG : Sp := fun vs H Q _ => ∃ (v : V) (x : Str) (gs : List Gh), vs = [v] ∧ SgAt H v x gs ∧ stG x gs = true ∧ ∀ (l : Addr) (ws : List V) (H' : Hp), Evl.Ex H H' → H' l = some (.lst ws) → DqAll H' ws ((tofG x gs).map ghD) → Q (.ref l) H'
theorem stG_len {x : Str} {gs : List Gh} (h : stG x gs = true) : thN x = some (gs.length + 1) ∧ stI x gs = true := by
  unfold stG at h
  rw [Bool.and_eq_true] at h
  exact ⟨of_decide_eq_true h.1, h.2⟩
section
variable {base : Heap} {mg : Str → Option Value} {K : PySem.W.Frag} {w : World} {P : Program}
theorem ok_tanks_ofG {f : Addr} {fd : FuncData} (F : Fun K "tanks_of" "tanks_of" s_tanks_of f fd) : FnOk P w K mg base CX0 1 f fd p_tanks_of spTofG := by
  refine F.ok sc_tanks_of (fun vs H Q E h => ?_) (fun cdv A outer s H vs Q E hr h => ?_)
  · obtain ⟨v, x, gs, rfl, _⟩ := h
    rfl
  · obtain ⟨_, x, gs, rfl, ⟨a, vs, rfl, ha, hv⟩, hst, k⟩ := h
    have one : 1 ≤ sizeLine := by show 1 ≤ sizeLine; decide
    have two : 2 ≤ sizeLine := by show 2 ≤ sizeLine; decide
    refine ⟨_, pss_cons (ps_if (pt_cmpR op_eq (pe_ix ix_tup (pv 0) pe_int (fun _ _ => rfl)) pe_str (nomark _)) (pss_one (ps_ret (pe_ix ix_tup (pv 0) pe_int (fun _ _ => rfl)))) pss_nil)
      (pss_one (ps_ret (pe_ifExp (pt_cmpR op_in_seq (pe_ix ix_tup (pv 0) pe_int (fun _ _ => rfl)) (pe_tup (pa_cons pe_str (pa_cons pe_str pa_nil))) (by rfl))
        (pe_lst (pa_cons (pe_ix ix_tup (pv 0) pe_int (fun _ _ => rfl)) (pa_cons (pe_ix ix_tup (pv 0) pe_int (fun _ _ => rfl)) pa_nil))) (pe_lst (pa_cons (pe_ix ix_tup (pv 0) pe_int (fun _ _ => rfl)) pa_nil))))), ?_⟩
    obtain ⟨hx, hi⟩ := stG_len hst
    rcases th_cases hx with ⟨rfl, hn⟩ | ⟨rfl, hn⟩ | ⟨rfl, hn⟩ | ⟨rfl, hn⟩ | ⟨rfl, hn⟩
    all_goals have hn := Nat.succ.inj hn
    · obtain ⟨g1, rfl⟩ : ∃ g1, gs = [g1] := by
        match gs, hn with
        | [g1], _ => exact ⟨g1, rfl⟩
      obtain ⟨v1, vs1, rfl, d1, hv⟩ := dqall1 hv
      cases g1 with
      | int n => cases hi
      | tup ks => cases hi
      | lst ks =>
        obtain ⟨l, rfl, hl⟩ := gh_lst d1
        refine ⟨_, rfl, a, _, _, _, rfl, rfl, SqT.of ha, (by exact atI_nat (j := 0) rfl), rfl, _, rfl, if_t (by decide) ?_⟩
        refine ⟨_, rfl, a, _, _, _, rfl, rfl, SqT.of ha, (by exact atI_nat (j := 1) rfl), k l (iV ks) H (Evl.Ex.refl _) hl ?_⟩
        show DqAll H (iV ks) ((ks.map Gh.int).map ghD)
        rw [List.map_map]
        exact dqI ks
    · obtain ⟨g1, g2, rfl⟩ : ∃ g1 g2, gs = [g1, g2] := by
        match gs, hn with
        | [g1, g2], _ => exact ⟨g1, g2, rfl⟩
      obtain ⟨v1, vs1, rfl, d1, hv⟩ := dqall1 hv
      obtain ⟨v2, vs2, rfl, d2, hv⟩ := dqall1 hv
      refine ⟨_, rfl, a, _, _, _, rfl, rfl, SqT.of ha, (by exact atI_nat (j := 0) rfl), rfl, _, rfl, if_f (by decide) ?_⟩
      refine ⟨_, rfl, a, _, _, _, rfl, rfl, SqT.of ha, (by exact atI_nat (j := 0) rfl), two, fun t ht => ?_⟩
      have e1 := Evl.Ex.new (o := .tup [.str "move", .str "unless"]) ht
      refine ⟨t, _, rfl, .inr (SqT.of upd_same), rfl, rfl, _, rfl, if_f (by decide) ?_⟩
      exact ⟨_, rfl, a, _, _, _, rfl, rfl, SqT.of (e1 _ _ ha), (by exact atI_nat (j := 1) rfl), one, fun l hl => k l _ _ (e1.trans (Evl.Ex.new hl)) upd_same (.cons (d1.go (e1.trans (Evl.Ex.new hl))) .nil)⟩
    · obtain ⟨g1, g2, rfl⟩ : ∃ g1 g2, gs = [g1, g2] := by
        match gs, hn with
        | [g1, g2], _ => exact ⟨g1, g2, rfl⟩
      obtain ⟨v1, vs1, rfl, d1, hv⟩ := dqall1 hv
      obtain ⟨v2, vs2, rfl, d2, hv⟩ := dqall1 hv
      refine ⟨_, rfl, a, _, _, _, rfl, rfl, SqT.of ha, (by exact atI_nat (j := 0) rfl), rfl, _, rfl, if_f (by decide) ?_⟩
      refine ⟨_, rfl, a, _, _, _, rfl, rfl, SqT.of ha, (by exact atI_nat (j := 0) rfl), two, fun t ht => ?_⟩
      have e1 := Evl.Ex.new (o := .tup [.str "move", .str "unless"]) ht
      refine ⟨t, _, rfl, .inr (SqT.of upd_same), rfl, rfl, _, rfl, if_f (by decide) ?_⟩
      exact ⟨_, rfl, a, _, _, _, rfl, rfl, SqT.of (e1 _ _ ha), (by exact atI_nat (j := 1) rfl), one, fun l hl => k l _ _ (e1.trans (Evl.Ex.new hl)) upd_same (.cons (d1.go (e1.trans (Evl.Ex.new hl))) .nil)⟩
    · obtain ⟨g1, g2, g3, rfl⟩ : ∃ g1 g2 g3, gs = [g1, g2, g3] := by
        match gs, hn with
        | [g1, g2, g3], _ => exact ⟨g1, g2, g3, rfl⟩
      obtain ⟨v1, vs1, rfl, d1, hv⟩ := dqall1 hv
      obtain ⟨v2, vs2, rfl, d2, hv⟩ := dqall1 hv
      refine ⟨_, rfl, a, _, _, _, rfl, rfl, SqT.of ha, (by exact atI_nat (j := 0) rfl), rfl, _, rfl, if_f (by decide) ?_⟩
      refine ⟨_, rfl, a, _, _, _, rfl, rfl, SqT.of ha, (by exact atI_nat (j := 0) rfl), two, fun t ht => ?_⟩
      have e1 := Evl.Ex.new (o := .tup [.str "move", .str "unless"]) ht
      refine ⟨t, _, rfl, .inr (SqT.of upd_same), rfl, rfl, _, rfl, if_t (by decide) ?_⟩
      exact ⟨_, rfl, a, _, _, _, rfl, rfl, SqT.of (e1 _ _ ha), (by exact atI_nat (j := 1) rfl), _, rfl, a, _, _, _, rfl, rfl, SqT.of (e1 _ _ ha), (by exact atI_nat (j := 2) rfl), two, fun l hl => k l _ _ (e1.trans (Evl.Ex.new hl)) upd_same (.cons (d1.go (e1.trans (Evl.Ex.new hl))) (.cons (d2.go (e1.trans (Evl.Ex.new hl))) .nil))⟩
    · obtain ⟨g1, g2, rfl⟩ : ∃ g1 g2, gs = [g1, g2] := by
        match gs, hn with
        | [g1, g2], _ => exact ⟨g1, g2, rfl⟩
      obtain ⟨v1, vs1, rfl, d1, hv⟩ := dqall1 hv
      obtain ⟨v2, vs2, rfl, d2, hv⟩ := dqall1 hv
      refine ⟨_, rfl, a, _, _, _, rfl, rfl, SqT.of ha, (by exact atI_nat (j := 0) rfl), rfl, _, rfl, if_f (by decide) ?_⟩
      refine ⟨_, rfl, a, _, _, _, rfl, rfl, SqT.of ha, (by exact atI_nat (j := 0) rfl), two, fun t ht => ?_⟩
      have e1 := Evl.Ex.new (o := .tup [.str "move", .str "unless"]) ht
      refine ⟨t, _, rfl, .inr (SqT.of upd_same), rfl, rfl, _, rfl, if_t (by decide) ?_⟩
      exact ⟨_, rfl, a, _, _, _, rfl, rfl, SqT.of (e1 _ _ ha), (by exact atI_nat (j := 1) rfl), _, rfl, a, _, _, _, rfl, rfl, SqT.of (e1 _ _ ha), (by exact atI_nat (j := 2) rfl), two, fun l hl => k l _ _ (e1.trans (Evl.Ex.new hl)) upd_same (.cons (d1.go (e1.trans (Evl.Ex.new hl))) (.cons (d2.go (e1.trans (Evl.Ex.new hl))) .nil))⟩
end
end V2


namespace V2
open PySem L2
open PySem.Spec PyProof.Rows
/-- data of lists and tuples, n deep at most, long ones too -/
inductive Cq : Nat → PyData → Prop
  | non {n : Nat} : Cq n .none
  | bl {n : Nat} (b : Bool) : Cq n (.bool b)
  | int {n : Nat} (i : Int) : Cq n (.int i)
  | str {n : Nat} (x : Str) : Cq n (.str x)
  | lst {n : Nat} {ds : List PyData} : ds.length ≤ 5000 → (∀ d ∈ ds, Cq n d) → Cq (n + 1) (.list ds)
  | tup {n : Nat} {ds : List PyData} : ds.length ≤ 5000 → (∀ d ∈ ds, Cq n d) → Cq (n + 1) (.tuple ds)
def spCq (n : Nat) : Sp := fun vs H Q _ => ∃ (v : V) (d : PyData), vs = [v] ∧ Dq H v d ∧ Cq n d ∧ ∀ v' H', Evl.Ex H H' → Dq (Nw H H') v' d → Q v' H'
section
variable {base : Heap} {mg : Str → Option Value} {K : PySem.W.Frag} {w : World} {P : Program}
theorem ok_cq0 {f : Addr} {fd : FuncData} (F : Fun K "copied" "copied" s_copied f fd) (T : T5 mg) : FnOk P w K mg base CX0 1 f fd p_copied (spCq 0) := by
  refine F.ok sc_copied (fun vs H Q E h => ?_) (fun cdv A outer s H vs Q E hr h => ?_)
  · obtain ⟨v, d, rfl, _⟩ := h
    rfl
  · obtain ⟨v, d, rfl, hd, hc, k⟩ := h
    refine ⟨_, pss_cons (ps_if (pt_val (pe_callB call_isi (by rfl) T.isi (by decide +kernel) (pa_cons (pv 0) (pa_cons (pe_bltn (v := .ty "list") (by rfl) T.lst (by decide +kernel) rfl) pa_nil)))) (pss_one ps_never) pss_nil)
      (pss_cons (ps_if (pt_val (pe_callB call_isi (by rfl) T.isi (by decide +kernel) (pa_cons (pv 0) (pa_cons (pe_bltn (v := .ty "tuple") (by rfl) T.tup (by decide +kernel) rfl) pa_nil)))) (pss_one ps_never) pss_nil)
      (pss_one (ps_ret (pv 0)))), ?_⟩
    cases hc with
    | non =>
      cases hd
      exact ⟨_, rfl, _, _, _, _, false, rfl, .ty "list", .base .non, kit_ty (by decide +kernel), false, rfl, if_f rfl ⟨_, rfl, _, _, _, _, false, rfl, .ty "tuple", .base .non, kit_ty (by decide +kernel), false, rfl, if_f rfl ⟨_, rfl, k _ _ (Evl.Ex.refl _) .non⟩⟩⟩
    | bl b =>
      cases hd
      exact ⟨_, rfl, _, _, _, _, false, rfl, .ty "list", .base (.bl b), kit_ty (by decide +kernel), false, rfl, if_f rfl ⟨_, rfl, _, _, _, _, false, rfl, .ty "tuple", .base (.bl b), kit_ty (by decide +kernel), false, rfl, if_f rfl ⟨_, rfl, k _ _ (Evl.Ex.refl _) (.bl b)⟩⟩⟩
    | int i =>
      cases hd
      exact ⟨_, rfl, _, _, _, _, false, rfl, .ty "list", .base (.int i), kit_ty (by decide +kernel), false, rfl, if_f rfl ⟨_, rfl, _, _, _, _, false, rfl, .ty "tuple", .base (.int i), kit_ty (by decide +kernel), false, rfl, if_f rfl ⟨_, rfl, k _ _ (Evl.Ex.refl _) (.int i)⟩⟩⟩
    | str x =>
      cases hd
      exact ⟨_, rfl, _, _, _, _, false, rfl, .ty "list", .base (.str x), kit_ty (by decide +kernel), false, rfl, if_f rfl ⟨_, rfl, _, _, _, _, false, rfl, .ty "tuple", .base (.str x), kit_ty (by decide +kernel), false, rfl, if_f rfl ⟨_, rfl, k _ _ (Evl.Ex.refl _) (.str x)⟩⟩⟩
/-- the turns of the comprehension -/
theorem cq_turns {H H1 H2 H3 : Hp} {D : Addr} {v' : V} {acc : List V} {ds : List PyData} {d : PyData} (hD : H1 D = none) (e0 : Evl.Ex H H1) (e1 : Evl.Ex H1 H2) (hD2 : H2 D = some (.lst acc)) (ha : DqAll (Nw H (fun b => if b = D then none else H2 b)) acc ds) (e2 : Evl.Ex H2 H3) (hd : Dq (Nw H2 H3) v' d) :
    DqAll (Nw H (fun b => if b = D then none else upd H3 D (.lst (acc ++ [v'])) b)) (acc ++ [v']) (ds ++ [d]) := by
  have hHD : H D = none := Evl.fresh_back e0 hD
  refine DqAll.snoc (ha.go fun b o h => ?_) (hd.go fun b o h => ?_)
  · have n := nw_none h
    have z := Nw.ex _ _ h
    by_cases hb : b = D
    · rw [if_pos hb] at z
      cases z
    · rw [if_neg hb] at z
      refine nw_at n ?_
      show (if b = D then none else upd H3 D (.lst (acc ++ [v'])) b) = some o
      rw [if_neg hb, upd_ne hb]
      exact e2 _ _ z
  · have n := nw_none h
    have z := Nw.ex _ _ h
    have hb : b ≠ D := fun q => by
      rw [q, hD2] at n
      cases n
    refine nw_at (Evl.fresh_back (e0.trans e1) n) ?_
    show (if b = D then none else upd H3 D (.lst (acc ++ [v'])) b) = some o
    rw [if_neg hb, upd_ne hb]
    exact z
theorem ok_cqS {n k : Nat} {f : Addr} {fd : FuncData} (F : Fun K "copied" "copied" s_copied f fd) (T : T5 mg) (c0 : Cal P w K mg base k "copied" p_copied (spCq n)) : FnOk P w K mg base CX0 (k + 1) f fd p_copied (spCq (n + 1)) := by
  refine F.ok sc_copied (fun vs H Q E h => ?_) (fun cdv A outer s H vs Q E hr h => ?_)
  · obtain ⟨v, d, rfl, _⟩ := h
    rfl
  · obtain ⟨v, d, rfl, hd, hc, kk⟩ := h
    have nd := sc_copied.nd
    cases hc with
    | non =>
      cases hd
      refine ⟨_, pss_cons (ps_if (pt_val (pe_callB call_isi (by rfl) T.isi (by decide +kernel) (pa_cons (pv 0) (pa_cons (pe_bltn (v := .ty "list") (by rfl) T.lst (by decide +kernel) rfl) pa_nil)))) (pss_one ps_never) pss_nil)
        (pss_cons (ps_if (pt_val (pe_callB call_isi (by rfl) T.isi (by decide +kernel) (pa_cons (pv 0) (pa_cons (pe_bltn (v := .ty "tuple") (by rfl) T.tup (by decide +kernel) rfl) pa_nil)))) (pss_one ps_never) pss_nil)
        (pss_one (ps_ret (pv 0)))), ?_⟩
      exact ⟨_, rfl, _, _, _, _, false, rfl, .ty "list", .base .non, kit_ty (by decide +kernel), false, rfl, if_f rfl ⟨_, rfl, _, _, _, _, false, rfl, .ty "tuple", .base .non, kit_ty (by decide +kernel), false, rfl, if_f rfl ⟨_, rfl, kk _ _ (Evl.Ex.refl _) .non⟩⟩⟩
    | bl b =>
      cases hd
      refine ⟨_, pss_cons (ps_if (pt_val (pe_callB call_isi (by rfl) T.isi (by decide +kernel) (pa_cons (pv 0) (pa_cons (pe_bltn (v := .ty "list") (by rfl) T.lst (by decide +kernel) rfl) pa_nil)))) (pss_one ps_never) pss_nil)
        (pss_cons (ps_if (pt_val (pe_callB call_isi (by rfl) T.isi (by decide +kernel) (pa_cons (pv 0) (pa_cons (pe_bltn (v := .ty "tuple") (by rfl) T.tup (by decide +kernel) rfl) pa_nil)))) (pss_one ps_never) pss_nil)
        (pss_one (ps_ret (pv 0)))), ?_⟩
      exact ⟨_, rfl, _, _, _, _, false, rfl, .ty "list", .base (.bl b), kit_ty (by decide +kernel), false, rfl, if_f rfl ⟨_, rfl, _, _, _, _, false, rfl, .ty "tuple", .base (.bl b), kit_ty (by decide +kernel), false, rfl, if_f rfl ⟨_, rfl, kk _ _ (Evl.Ex.refl _) (.bl b)⟩⟩⟩
    | int i =>
      cases hd
      refine ⟨_, pss_cons (ps_if (pt_val (pe_callB call_isi (by rfl) T.isi (by decide +kernel) (pa_cons (pv 0) (pa_cons (pe_bltn (v := .ty "list") (by rfl) T.lst (by decide +kernel) rfl) pa_nil)))) (pss_one ps_never) pss_nil)
        (pss_cons (ps_if (pt_val (pe_callB call_isi (by rfl) T.isi (by decide +kernel) (pa_cons (pv 0) (pa_cons (pe_bltn (v := .ty "tuple") (by rfl) T.tup (by decide +kernel) rfl) pa_nil)))) (pss_one ps_never) pss_nil)
        (pss_one (ps_ret (pv 0)))), ?_⟩
      exact ⟨_, rfl, _, _, _, _, false, rfl, .ty "list", .base (.int i), kit_ty (by decide +kernel), false, rfl, if_f rfl ⟨_, rfl, _, _, _, _, false, rfl, .ty "tuple", .base (.int i), kit_ty (by decide +kernel), false, rfl, if_f rfl ⟨_, rfl, kk _ _ (Evl.Ex.refl _) (.int i)⟩⟩⟩
    | str x =>
      cases hd
      refine ⟨_, pss_cons (ps_if (pt_val (pe_callB call_isi (by rfl) T.isi (by decide +kernel) (pa_cons (pv 0) (pa_cons (pe_bltn (v := .ty "list") (by rfl) T.lst (by decide +kernel) rfl) pa_nil)))) (pss_one ps_never) pss_nil)
        (pss_cons (ps_if (pt_val (pe_callB call_isi (by rfl) T.isi (by decide +kernel) (pa_cons (pv 0) (pa_cons (pe_bltn (v := .ty "tuple") (by rfl) T.tup (by decide +kernel) rfl) pa_nil)))) (pss_one ps_never) pss_nil)
        (pss_one (ps_ret (pv 0)))), ?_⟩
      exact ⟨_, rfl, _, _, _, _, false, rfl, .ty "list", .base (.str x), kit_ty (by decide +kernel), false, rfl, if_f rfl ⟨_, rfl, _, _, _, _, false, rfl, .ty "tuple", .base (.str x), kit_ty (by decide +kernel), false, rfl, if_f rfl ⟨_, rfl, kk _ _ (Evl.Ex.refl _) (.str x)⟩⟩⟩
    | @lst _ ds hl hcs =>
      cases hd with
      | @lst a xs _ ha hds =>
      refine ⟨_, pss_cons (ps_if (pt_val (pe_callB call_isi (by rfl) T.isi (by decide +kernel) (pa_cons (pv 0) (pa_cons (pe_bltn (v := .ty "list") (by rfl) T.lst (by decide +kernel) rfl) pa_nil))))
          (pss_one (ps_ret (pe_lc (own := [("part", 1)]) (g := gName 1) (tt := tYes) (te := tCall (spCq n) [] E0 (tCons (tVar 1) tNil)) rfl nd (pi_list (pv 0)) (blkOk_by (N := n_copied) (sc := defScope s_copied) (by decide +kernel)) (fun _ _ _ _ _ => pg_name (i := 1) nd rfl (Or.inl rfl)) (fun _ _ _ _ _ => pts_nil)
            (fun _ _ _ _ _ => pe_c c0 hr (pa_cons (pv 1) pa_nil))))) pss_nil)
        (pss_cons ps_never (pss_one ps_never)), ?_⟩
      refine ⟨_, rfl, _, _, _, _, true, rfl, .ty "list", .base (.lst ha), kit_ty (by decide +kernel), true, rfl, if_t rfl ?_⟩
      have hlen := hds.len
      refine ⟨_, rfl, a, rfl, ⟨_, SqL.of ha⟩, fun D hD => lc_list (xs := xs) (fun i H' => Evl.Ex H H' ∧ ∃ acc, H' D = some (.lst acc) ∧ DqAll (Nw H (fun b => if b = D then none else H' b)) acc (ds.take i)) ⟨Evl.Ex.new hD, [], upd_same, .nil⟩ (fun i H' _ q => SqL.of (q.1 _ _ ha)) ?_ ?_⟩
      · rintro i x H2 hi ⟨e2, acc, hD2, hacc⟩
        obtain ⟨d, hdi, hdx⟩ := hds.get hi
        refine ⟨rfl, ?_⟩
        show tCall (spCq n) [] E0 (tCons (tVar 1) tNil) _ _ _
        refine ⟨_, rfl, x, d, rfl, hdx.go e2, hcs d (List.mem_of_getElem? hdi), fun v' H3 e3 hv' => ⟨acc, e3 _ _ hD2, ?_, Evl.Ex.mut (e2.trans e3) hD, _, upd_same, ?_⟩⟩
        · have h1 := hacc.len
          rw [List.length_take] at h1
          exact Nat.lt_of_le_of_lt (show acc.length ≤ 5000 by omega) (by decide)
        · rw [ds_take hdi]
          exact cq_turns hD (Evl.Ex.refl _) e2 hD2 hacc e3 hv'
      · rintro H2 ⟨e2, acc, hD2, hacc⟩
        rw [hlen, List.take_length] at hacc
        refine kk _ _ e2 (.lst (nw_at hD hD2) (hacc.go fun b o h => nw_at (nw_none h) ?_))
        have z := Nw.ex _ _ h
        by_cases hb : b = D
        · rw [if_pos hb] at z
          cases z
        · rw [if_neg hb] at z
          exact z
    | @tup _ ds hl hcs =>
      cases hd with
      | @tup a xs _ ha hds =>
      refine ⟨_, pss_cons (ps_if (pt_val (pe_callB call_isi (by rfl) T.isi (by decide +kernel) (pa_cons (pv 0) (pa_cons (pe_bltn (v := .ty "list") (by rfl) T.lst (by decide +kernel) rfl) pa_nil)))) (pss_one ps_never) pss_nil)
        (pss_cons (ps_if (pt_val (pe_callB call_isi (by rfl) T.isi (by decide +kernel) (pa_cons (pv 0) (pa_cons (pe_bltn (v := .ty "tuple") (by rfl) T.tup (by decide +kernel) rfl) pa_nil))))
          (pss_one (ps_ret (pe_callTy call_tuple_of (by rfl) T.tup (by decide +kernel) (pa_cons (pe_lc (own := [("part", 1)]) (g := gName 1) (tt := tYes) (te := tCall (spCq n) [] E0 (tCons (tVar 1) tNil)) rfl nd (pi_tup (pv 0)) (blkOk_by (N := n_copied) (sc := defScope s_copied) (by decide +kernel)) (fun _ _ _ _ _ => pg_name (i := 1) nd rfl (Or.inl rfl)) (fun _ _ _ _ _ => pts_nil)
            (fun _ _ _ _ _ => pe_c c0 hr (pa_cons (pv 1) pa_nil))) pa_nil)))) pss_nil)
        (pss_one ps_never)), ?_⟩
      refine ⟨_, rfl, _, _, _, _, false, rfl, .ty "list", .base (.tup ha), kit_ty (by decide +kernel), false, rfl, if_f rfl ?_⟩
      refine ⟨_, rfl, _, _, _, _, true, rfl, .ty "tuple", .base (.tup ha), kit_ty (by decide +kernel), true, rfl, if_t rfl ?_⟩
      have hlen := hds.len
      refine ⟨_, rfl, a, rfl, ⟨_, SqT.of ha⟩, fun D hD => lc_tup (xs := xs) (fun i H' => Evl.Ex H H' ∧ ∃ acc, H' D = some (.lst acc) ∧ DqAll (Nw H (fun b => if b = D then none else H' b)) acc (ds.take i)) ⟨Evl.Ex.new hD, [], upd_same, .nil⟩ (fun i H' _ q => SqT.of (q.1 _ _ ha)) ?_ ?_⟩
      · rintro i x H2 hi ⟨e2, acc, hD2, hacc⟩
        obtain ⟨d, hdi, hdx⟩ := hds.get hi
        refine ⟨rfl, ?_⟩
        show tCall (spCq n) [] E0 (tCons (tVar 1) tNil) _ _ _
        refine ⟨_, rfl, x, d, rfl, hdx.go e2, hcs d (List.mem_of_getElem? hdi), fun v' H3 e3 hv' => ⟨acc, e3 _ _ hD2, ?_, Evl.Ex.mut (e2.trans e3) hD, _, upd_same, ?_⟩⟩
        · have h1 := hacc.len
          rw [List.length_take] at h1
          exact Nat.lt_of_le_of_lt (show acc.length ≤ 5000 by omega) (by decide)
        · rw [ds_take hdi]
          exact cq_turns hD (Evl.Ex.refl _) e2 hD2 hacc e3 hv'
      · rintro H2 ⟨e2, acc, hD2, hacc⟩
        rw [hlen, List.take_length] at hacc
        refine ⟨D, _, rfl, .inl ⟨SqL.of hD2, fun l hl2 => ?_⟩⟩
        have e3 := Evl.Ex.new (o := .tup acc) hl2
        refine kk _ _ (e2.trans e3) (.tup (nw_at (Evl.fresh_back e2 hl2) upd_same) (hacc.go fun b o h => nw_at (nw_none h) (e3 _ _ ?_)))
        have z := Nw.ex _ _ h
        by_cases hb : b = D
        · rw [if_pos hb] at z
          cases z
        · rw [if_neg hb] at z
          exact z
end
end V2


namespace V2
open PySem L2
open PySem.Spec PyProof.Rows
/-- refused by an error of a class, whatever is said -/
def Rv (C : Addr) (H : Hp) (E : XK) : Prop := ∀ H1, Evl.Ex H H1 → ∀ y : V, Rz C H1 y E
theorem Rv.go {C : Addr} {H H1 : Hp} {E : XK} (r : Rv C H E) (e : Evl.Ex H H1) : Rv C H1 E := fun H2 e2 => r H2 (e.trans e2)
/-- small numbers -/
def Gh.nb : Gh → Prop
  | .lst ks => NbI ks
  | .tup ks => NbI ks
  | .int n => n.natAbs ≤ 999999999
def Gh.fr : Gh → Bool
  | .tup [p, q] => frB p q
  | _ => false
def Gh.pt : Gh → Bool
  | .tup [p, q] => ptB p q
  | _ => false
/-- a tank's number -/
def ghIn (n : Int) : Gh → Bool
  | .int z => decide (0 ≤ z) && decide (z < n)
  | _ => false
theorem gh_cq (g : Gh) (h : g.sz) : Cq 1 (ghD g) := by
  cases g with
  | int n => exact .int n
  | lst ks =>
    refine .lst (by rw [List.length_map]; exact Nat.le_trans (show ks.length ≤ 4000 from h) (by decide)) fun d hd => ?_
    obtain ⟨n, _, rfl⟩ := List.mem_map.mp hd
    exact .int n
  | tup ks =>
    refine .tup (by rw [List.length_map]; exact Nat.le_trans (show ks.length ≤ 4000 from h) (by decide)) fun d hd => ?_
    obtain ⟨n, _, rfl⟩ := List.mem_map.mp hd
    exact .int n
def spFrG : Sp := fun vs H Q _ => ∃ (v : V) (g : Gh), vs = [v] ∧ Dq H v (ghD g) ∧ Evl.RetV (.bl g.fr) H Q
def spNumsN (CT : Addr) : Sp := fun vs H Q E => ∃ (l : Addr) (ws : List V) (gs : List Gh) (n : Int), vs = [.ref l, .int n] ∧ H l = some (.lst ws) ∧ DqAll H ws (gs.map ghD) ∧ (∀ g ∈ gs, g.sz) ∧ ((∀ g ∈ gs, ghIn n g = true) → Evl.RetV .non H Q) ∧ ((∃ g ∈ gs, ghIn n g = false) → Rv CT H E)
def spPartN (CF : Addr) : Sp := fun vs H Q E => ∃ (v : V) (g : Gh), vs = [v] ∧ Dq H v (ghD g) ∧ g.sz ∧ g.nb ∧ (g.pt = true → Evl.RetV .non H Q) ∧ (g.pt = false → Rv CF H E)
section
variable {base : Heap} {mg : Str → Option Value} {K : PySem.W.Frag} {w : World} {P : Program} {CT CF fI : Addr}
theorem ok_is_fractionG {f : Addr} {fd : FuncData} (F : Fun K "is_fraction" "is_fraction" s_is_fraction f fd) (T : T3 mg) (cI : Cal P w K mg base 1 "is_integer" p_is_integer spInt) : FnOk P w K mg base CX0 2 f fd p_is_fraction spFrG := by
  refine F.ok sc_is_fraction (fun vs H Q E h => ?_) (fun cdv A outer s H vs Q E hr h => ?_)
  · obtain ⟨v, g, rfl, _⟩ := h
    rfl
  · obtain ⟨v, g, rfl, hv, k⟩ := h
    have nd := sc_is_fraction.nd
    refine ⟨_, pss_cons (ps_if (PW.pt (pw_or (pt_not (pt_val (pe_callB call_isi (by rfl) T.isi (by decide +kernel) (pa_cons (pv 0) (pa_cons (pe_bltn (v := .ty "tuple") (by rfl) T.tup (by decide +kernel) rfl) pa_nil)))))
        (pw_or1 (pt_cmpR op_ne (pe_callB call_len_seq (by rfl) T.len PySem.boot_len (pa_cons (pv 0) pa_nil)) pe_int (nomark _))))) (pss_one (ps_ret pe_bl)) pss_nil)
      (pss_cons (ps_asg (pv 0) (pg_tup rfl (pgs_cons (pg_name (i := 1) nd rfl (Or.inl rfl)) (pgs_cons (pg_name (i := 2) nd rfl (Or.inl rfl)) pgs_nil))))
      (pss_one (ps_ret (pe_and (pe_c cI hr (pa_cons (pv 1) pa_nil)) (pe_and (pe_c cI hr (pa_cons (pv 2) pa_nil)) (pe_and (pe_cmpR op_ge (pv 2) pe_int (nomark _)) (pe_one (pe_cmpR op_eq (pe_callBfun cr_gcd (by rfl) T.gcd (pa_cons (pv 1) (pa_cons (pv 2) pa_nil))) pe_int (nomark _))))))))), ?_⟩
    cases g with
    | int n =>
      obtain rfl := gh_int hv
      exact ⟨_, rfl, _, _, _, _, false, rfl, .ty "tuple", .base (.int n), kit_ty (by decide +kernel), false, rfl, if_t rfl (k _ (Evl.Ex.refl _))⟩
    | lst ks =>
      obtain ⟨a, rfl, ha⟩ := gh_lst hv
      exact ⟨_, rfl, _, _, _, _, false, rfl, .ty "tuple", .base (.lst ha), kit_ty (by decide +kernel), false, rfl, if_t rfl (k _ (Evl.Ex.refl _))⟩
    | tup ks =>
      obtain ⟨a, rfl, ha⟩ := gh_tup hv
      refine ⟨_, rfl, _, _, _, _, true, rfl, .ty "tuple", .base (.tup ha), kit_ty (by decide +kernel), true, rfl, if_f rfl ?_⟩
      refine ⟨_, rfl, a, _, rfl, .inr (SqT.of ha), rfl, _, rfl, ?_⟩
      by_cases h2 : ks.length = 2
      · obtain ⟨p, q, rfl⟩ : ∃ p q, ks = [p, q] := by
          match ks, h2 with
          | [p, q], _ => exact ⟨p, q, rfl⟩
        refine if_f (by simp [iV]) ?_
        have k : Evl.RetV (.bl (frB p q)) H Q := k
        refine ⟨_, rfl, a, _, rfl, SqT.of ha, rfl, _, _, rfl, _, _, rfl, rfl, ?_⟩
        refine ⟨_, rfl, p, rfl, fun H1 e1 => ⟨_, rfl, if_t rfl ⟨_, rfl, q, rfl, fun H2 e2 => ⟨_, rfl, if_t rfl ⟨_, rfl, _, _, rfl, rfl, _, rfl, ?_⟩⟩⟩⟩⟩
        unfold frB at k
        by_cases c : 1 ≤ q
        · refine if_t (decide_eq_true c) ?_
          rw [decide_eq_true c, Bool.true_and] at k
          refine ⟨_, rfl, _, rfl, p, q, rfl, rfl, ?_⟩
          have e : decide (V.int ((Nat.gcd p.natAbs q.natAbs : Nat) : Int) = V.int 1) = decide (Int.gcd p q = 1) := decide_eq_decide.mpr ⟨fun z => by injection z with z; show Nat.gcd p.natAbs q.natAbs = 1; omega, fun z => by have z : Nat.gcd p.natAbs q.natAbs = 1 := z; rw [z]; rfl⟩
          show Q (.bl (decide (V.int ((Nat.gcd p.natAbs q.natAbs : Nat) : Int) = V.int 1))) H2
          rw [e]
          exact k _ (e1.trans e2)
        · refine if_f (decide_eq_false c) ?_
          rw [decide_eq_false c, Bool.false_and] at k
          exact k _ (e1.trans e2)
      · refine if_t ?_ ?_
        · rw [decide_eq_false (fun z => h2 (by injection z with z; rw [iV_len] at z; omega))]
          rfl
        · have e : Gh.fr (.tup ks) = false := by
            match ks, h2 with
            | [], _ => rfl
            | [_], _ => rfl
            | [_, _], h => exact absurd rfl h
            | _ :: _ :: _ :: _, _ => rfl
          rw [e] at k
          exact k _ (Evl.Ex.refl _)
theorem ok_check_numbersN {f : Addr} {fd fdI : FuncData} (F : Fun K "check_numbers" "check_numbers" s_check_numbers f fd) (cA : Cal P w K mg base 2 "is_amount" p_is_amount spAmtG) (cc : Cal P w K mg base 2 "copied" p_copied (spCq 1)) (T : EC K CT fI) (G : EG K fI) (mE : mg "UnknownTank" = some (.ref CT)) (FI : FnOk P w K mg base CX0 1 fI fdI ["self", "value"] (spInit K)) (bI : Binds K fdI ["self", "value"] []) : FnOk P w K mg base (L2N.CX P w) 3 f fd p_check_numbers (spNumsN CT) := by
  refine okC (L2N.CX P w) F sc_check_numbers (fun vs H Q E h => ?_) (fun cdv A outer s H vs Q E hr h => ?_)
  · obtain ⟨l, ws, gs, n, rfl, _⟩ := h
    rfl
  · obtain ⟨l, ws, gs, n, rfl, hl, hw, hsz, k, kx⟩ := h
    have nd := sc_check_numbers.nd
    have r2 : Room (1 + 1) _ := hr.mono (by decide)
    have r2c : Room 2 _ := hr.mono (by decide)
    refine ⟨_, pss_one (ps_for (passes_of rfl) rfl (pi_list (pv 0)) (pg_name (i := 2) nd rfl (Or.inl rfl)) (pss_one (ps_if (PW.pt (pw_or (pt_not (pt_val (pe_c cA r2c (pa_cons (pv 2) pa_nil)))) (pw_or1 (pt_cmpR op_ge (pv 2) (pv 1) (nomark _))))) (pss_one (L2N.ps_raise rfl (L2N.takes_of rfl rfl rfl rfl) (pmkN_oex (k := 1) T.ox T.iC G.tI FI r2 bI pass0 (by rfl) mE (pa_cons (pe_c cc r2c (pa_cons (pv 2) pa_nil)) pa_nil)))) pss_nil))), ?_⟩
    refine ⟨_, rfl, l, rfl, ⟨_, SqL.of hl⟩, for_list (xs := ws) (fun i σ H' => Evl.Ex H H' ∧ (∀ g ∈ gs.take i, ghIn n g = true) ∧ ∃ v, σ = [some (.ref l), some (.int n), v]) ⟨Evl.Ex.refl _, (fun g h => by cases h), none, rfl⟩ (fun i σ H' _ q => SqL.of (q.1 _ _ hl)) ?_ ?_⟩
    · rintro i x σ H1 hi ⟨e1, hlo, v, rfl⟩
      obtain ⟨d, hdi, hdx⟩ := hw.get hi
      rw [List.getElem?_map] at hdi
      obtain ⟨g, hg, rfl⟩ := Option.map_eq_some_iff.mp hdi
      have hgm := List.mem_of_getElem? hg
      have bad : ∀ {H2 : Hp}, Evl.Ex H H2 → ghIn n g = false → spCq 1 [x] H2 (fun y H3 => [y].length ≤ 1000 ∧ ∀ a, H3 a = none → spInit K (.ref a :: ([y] ++ [])) (upd H3 a (exo a CT none)) (fun v G2 => v = .non ∧ ∃ (d : Addr) (fs : List (Str × V)), G2 a = some (exo a CT (some d)) ∧ G2 d = some (exd d fs) ∧ H3 d = none ∧ E (.ref CT) (some d) (upd (del G2 a) d (.xd fs))) (fun _ _ _ => False)) E0 := fun {H2} e2 hb => ⟨x, ghD g, rfl, hdx.go e2, gh_cq g (hsz g hgm), fun v' H3 e3 _ => raise_in T fun e G' he ee hx => kx ⟨g, hgm, hb⟩ H3 (e2.trans e3) v' e G' he ee hx⟩
      refine ⟨_, rfl, x, g, rfl, hdx.go e1, fun H2 e2 => ⟨_, rfl, ?_⟩⟩
      cases ha : g.amt with
      | false =>
        refine if_t rfl ⟨_, rfl, bad (e1.trans e2) ?_⟩
        cases g with
        | int z =>
          have ha : decide (0 ≤ z) = false := ha
          show (decide (0 ≤ z) && _) = false
          rw [ha]; rfl
        | lst ks => rfl
        | tup ks => rfl
      | true =>
        refine if_f rfl ?_
        cases g with
        | lst ks => cases ha
        | tup ks => cases ha
        | int z =>
          obtain rfl := gh_int hdx
          have c0 : 0 ≤ z := of_decide_eq_true ha
          by_cases c1 : z < n
          · refine ⟨_, rfl, _, rfl, _, _, rfl, rfl, _, rfl, if_f (decide_eq_false (by omega)) ⟨e1.trans e2, fun g' hg' => ?_, _, rfl⟩⟩
            rw [List.take_add_one, hg, List.mem_append] at hg'
            rcases hg' with h | h
            · exact hlo g' h
            · obtain rfl : g' = .int z := by simpa using h
              show (decide (0 ≤ z) && decide (z < n)) = true
              rw [decide_eq_true c0, decide_eq_true c1]; rfl
          · refine ⟨_, rfl, _, rfl, _, _, rfl, rfl, _, rfl, if_t (decide_eq_true (by omega)) ⟨_, rfl, bad (e1.trans e2) ?_⟩⟩
            show (decide (0 ≤ z) && decide (z < n)) = false
            rw [decide_eq_false c1, Bool.and_false]
    · rintro σ H1 ⟨e1, hlo, v, rfl⟩
      have hlen := hw.len
      rw [List.length_map] at hlen
      rw [hlen, List.take_length] at hlo
      exact k hlo _ e1
theorem ok_check_partN {f : Addr} {fd fdI : FuncData} (F : Fun K "check_part" "check_part" s_check_part f fd) (cF : Cal P w K mg base 2 "is_fraction" p_is_fraction spFrG) (cO : Cal P w K mg base 2 "order_of_fractions" p_order_of_fractions spOrd) (cc : Cal P w K mg base 2 "copied" p_copied (spCq 1)) (T : EC K CF fI) (G : EG K fI) (mE : mg "InvalidFraction" = some (.ref CF)) (FI : FnOk P w K mg base CX0 1 fI fdI ["self", "value"] (spInit K)) (bI : Binds K fdI ["self", "value"] []) : FnOk P w K mg base (L2N.CX P w) 3 f fd p_check_part (spPartN CF) := by
  refine okC (L2N.CX P w) F sc_check_part (fun vs H Q E h => ?_) (fun cdv A outer s H vs Q E hr h => ?_)
  · obtain ⟨v, g, rfl, _⟩ := h
    rfl
  · obtain ⟨v, g, rfl, hv, hsz, hnb, k, kx⟩ := h
    have two : 2 ≤ sizeLine := by show 2 ≤ sizeLine; decide
    have r2 : Room (1 + 1) _ := hr.mono (by decide)
    have r2c : Room 2 _ := hr.mono (by decide)
    refine ⟨_, pss_one (ps_if (PW.pt (pw_or (pt_not (pt_val (pe_c cF hr (pa_cons (pv 0) pa_nil)))) (pw_or (pt_cmpR op_lt (pe_ix ix_tup (pv 0) pe_int (fun _ _ => rfl)) pe_int (nomark _))
      (pw_or1 (pt_cmpR op_gt (pe_c cO hr (pa_cons (pv 0) (pa_cons (pe_tup (pa_cons pe_int (pa_cons pe_int pa_nil))) pa_nil))) pe_int (nomark _)))))) (pss_one (L2N.ps_raise rfl (L2N.takes_of rfl rfl rfl rfl) (pmkN_oex (k := 1) T.ox T.iC G.tI FI r2 bI pass0 (by rfl) mE (pa_cons (pe_c cc r2c (pa_cons (pv 0) pa_nil)) pa_nil)))) pss_nil), ?_⟩
    have bad : ∀ {H2 : Hp}, Evl.Ex H H2 → g.pt = false → spCq 1 [v] H2 (fun y H3 => [y].length ≤ 1000 ∧ ∀ a, H3 a = none → spInit K (.ref a :: ([y] ++ [])) (upd H3 a (exo a CF none)) (fun v G2 => v = .non ∧ ∃ (d : Addr) (fs : List (Str × V)), G2 a = some (exo a CF (some d)) ∧ G2 d = some (exd d fs) ∧ H3 d = none ∧ E (.ref CF) (some d) (upd (del G2 a) d (.xd fs))) (fun _ _ _ => False)) E0 := fun {H2} e2 hb => ⟨v, ghD g, rfl, hv.go e2, gh_cq g hsz, fun v' H3 e3 _ => raise_in T fun e G' he ee hx => kx hb H3 (e2.trans e3) v' e G' he ee hx⟩
    refine ⟨_, rfl, v, g, rfl, hv, fun H1 e1 => ⟨_, rfl, ?_⟩⟩
    cases c : g.fr with
    | false =>
      refine if_t rfl ⟨_, rfl, bad e1 ?_⟩
      cases g with
      | int n => rfl
      | lst ks => rfl
      | tup ks =>
        match ks, c with
        | [], _ => rfl
        | [_], _ => rfl
        | [p, q], c =>
          have c : frB p q = false := c
          show (frB p q && _) = false
          rw [c]; rfl
        | _ :: _ :: _ :: _, _ => rfl
    | true =>
      refine if_f rfl ?_
      obtain ⟨p, q, rfl⟩ : ∃ p q, g = .tup [p, q] := by
        cases g with
        | int n => cases c
        | lst ks => cases c
        | tup ks =>
          match ks, c with
          | [], c => cases c
          | [_], c => cases c
          | [p, q], _ => exact ⟨p, q, rfl⟩
          | _ :: _ :: _ :: _, c => cases c
      obtain ⟨a, rfl, ha⟩ := gh_tup hv
      have c : frB p q = true := c
      have bp : p.natAbs < 2 ^ 50 := Nat.lt_of_le_of_lt (hnb p (by simp)) (by decide)
      have bq : q.natAbs < 2 ^ 50 := Nat.lt_of_le_of_lt (hnb q (by simp)) (by decide)
      have ept : Gh.pt (.tup [p, q]) = (frB p q && (decide (0 ≤ p) && decide (p ≤ q))) := rfl
      rw [c, Bool.true_and] at ept
      by_cases c0 : 0 ≤ p
      · refine ⟨_, rfl, a, _, _, _, rfl, rfl, SqT.of (e1 _ _ ha), rfl, _, _, rfl, rfl, _, rfl, if_f (decide_eq_false (by omega)) ?_⟩
        refine ⟨_, rfl, two, fun t ht => ?_⟩
        have e2 := Evl.Ex.new (o := .tup [.int 1, .int 1]) ht
        refine ⟨a, t, p, q, 1, 1, rfl, e2 _ _ (e1 _ _ ha), upd_same, bp, bq, by decide, by decide, fun H2 e3 => ⟨_, _, rfl, rfl, _, rfl, ?_⟩⟩
        by_cases c1 : p ≤ q
        · refine if_f (decide_eq_false ?_) (k (by rw [ept, decide_eq_true c0, decide_eq_true c1]; rfl) _ ((e1.trans e2).trans e3))
          have := sgn_le (x := p * 1 - 1 * q) (by omega)
          omega
        · refine if_t (decide_eq_true ?_) ?_
          · unfold sgn
            rw [if_neg (by omega), if_pos (by omega)]
            decide
          · exact ⟨_, rfl, bad ((e1.trans e2).trans e3) (by rw [ept, decide_eq_false c1, Bool.and_false])⟩
      · refine ⟨_, rfl, a, _, _, _, rfl, rfl, SqT.of (e1 _ _ ha), rfl, _, _, rfl, rfl, _, rfl, if_t (decide_eq_true (by omega)) ?_⟩
        exact ⟨_, rfl, bad e1 (by rw [ept, decide_eq_false c0, Bool.false_and])⟩
end
end V2


namespace V2
open PySem L2
open PySem.Spec PyProof.Rows
def sgD (s : Str × List Gh) : PyData := .tuple (.str s.1 :: s.2.map ghD)
/-- a step of n tanks -/
def sgOk (n : Int) (x : Str) (gs : List Gh) : Bool := stG x gs && ((tofG x gs).all (ghIn n) && (if x = "scoop" ∨ x = "move" then (match gs.getLast? with | some g => g.pt | none => false) else true))
def spStepN (CS CT CF : Addr) : Sp := fun vs H Q E => ∃ (v : V) (x : Str) (gs : List Gh) (n : Int), vs = [v, .int n] ∧ SgAt H v x gs ∧ gs.length ≤ 4000 ∧ (∀ g ∈ gs, g.sz ∧ g.nb) ∧ (sgOk n x gs = true → Evl.RetV .non H Q) ∧ (sgOk n x gs = false → Rv CS H E ∧ Rv CT H E ∧ Rv CF H E)
theorem SgAt.go {H H1 : Hp} {v : V} {x : Str} {gs : List Gh} (h : SgAt H v x gs) (e : Evl.Ex H H1) : SgAt H1 v x gs := by
  obtain ⟨a, vs, rfl, ha, hv⟩ := h
  exact ⟨a, vs, rfl, e _ _ ha, hv.go e⟩
theorem SgAt.dq {H : Hp} {v : V} {x : Str} {gs : List Gh} (h : SgAt H v x gs) : Dq H v (sgD (x, gs)) := by
  obtain ⟨a, vs, rfl, ha, hv⟩ := h
  exact .tup ha (.cons (.str x) hv)
theorem dq_sg {H : Hp} {v : V} {s : Str × List Gh} (h : Dq H v (sgD s)) : SgAt H v s.1 s.2 := by
  unfold sgD at h
  cases h with
  | tup ha hd =>
    obtain ⟨v1, vs1, rfl, d1, d2⟩ := dqall1 hd
    cases d1
    exact ⟨_, _, rfl, ha, d2⟩
theorem sg_cq {x : Str} {gs : List Gh} (hl : gs.length ≤ 4000) (h : ∀ g ∈ gs, g.sz) : Cq 2 (sgD (x, gs)) := by
  refine .tup ?_ fun d hd => ?_
  · rw [List.length_cons, List.length_map]
    exact Nat.le_trans (show gs.length + 1 ≤ 4001 by omega) (by decide)
  · rcases List.mem_cons.mp hd with rfl | hd
    · exact .str x
    · obtain ⟨g, hg, rfl⟩ := List.mem_map.mp hd
      exact gh_cq g (h g hg)
section
variable {base : Heap} {mg : Str → Option Value} {K : PySem.W.Frag} {w : World} {P : Program} {CS CT CF fI : Addr}
theorem ok_check_stepN {f : Addr} {fd fdI : FuncData} (F : Fun K "check_step" "check_step" s_check_step f fd) (cS : Cal P w K mg base 3 "is_step" p_is_step spStepG) (cT : Cal P w K mg base 1 "tanks_of" p_tanks_of spTofG) (cN : CalN P w K mg base 3 "check_numbers" p_check_numbers (spNumsN CT)) (cP : CalN P w K mg base 3 "check_part" p_check_part (spPartN CF)) (cc : Cal P w K mg base 3 "copied" p_copied (spCq 2)) (T : EC K CS fI) (G : EG K fI) (mE : mg "InvalidStep" = some (.ref CS)) (FI : FnOk P w K mg base CX0 1 fI fdI ["self", "value"] (spInit K)) (bI : Binds K fdI ["self", "value"] []) : FnOk P w K mg base (L2N.CX P w) 4 f fd p_check_step (spStepN CS CT CF) := by
  refine okC (L2N.CX P w) F sc_check_step (fun vs H Q E h => ?_) (fun cdv A outer s H vs Q E hr h => ?_)
  · obtain ⟨v, x, gs, n, rfl, _⟩ := h
    rfl
  · obtain ⟨v, x, gs, n, rfl, hsg, h4, hsz, k, kx⟩ := h
    have two : 2 ≤ sizeLine := by show 2 ≤ sizeLine; decide
    have r1 : Room 1 _ := hr.mono (by decide)
    have r2 : Room (1 + 1) _ := hr.mono (by decide)
    refine ⟨_, pss_cons (ps_if (pt_not (pt_val (pe_c cS hr (pa_cons (pv 0) pa_nil)))) (pss_one (L2N.ps_raise rfl (L2N.takes_of rfl rfl rfl rfl) (pmkN_oex (k := 1) T.ox T.iC G.tI FI r2 bI pass0 (by rfl) mE (pa_cons (pe_c cc hr (pa_cons (pv 0) pa_nil)) pa_nil)))) pss_nil)
      (pss_cons (ps_expr (pe_cn (E := E) cN hr (L2N.takes_of rfl rfl rfl rfl) (fun _ _ _ _ h => h) (pa_cons (pe_c cT r1 (pa_cons (pv 0) pa_nil)) (pa_cons (pv 1) pa_nil))))
      (pss_one (ps_if (pt_cmpR op_in_seq (pe_ix ix_tup (pv 0) pe_int (fun _ _ => rfl)) (pe_tup (pa_cons pe_str (pa_cons pe_str pa_nil))) (by rfl)) (pss_one (ps_expr (pe_cn (E := E) cP hr (L2N.takes_of rfl rfl rfl rfl) (fun _ _ _ _ h => h) (pa_cons (pe_ix ix_tup (pv 0) (pe_un un_neg pe_int) (fun _ _ => rfl)) pa_nil)))) pss_nil))), ?_⟩
    have hsz1 : ∀ g ∈ gs, g.sz := fun g hg => (hsz g hg).1
    refine ⟨_, rfl, v, x, gs, rfl, hsg, hsz1, fun H1 e1 => ⟨_, rfl, ?_⟩⟩
    unfold sgOk at k kx
    cases hs : stG x gs with
    | false =>
      rw [hs, Bool.false_and] at kx
      have kz := kx rfl
      refine if_t rfl ⟨_, rfl, v, _, rfl, (hsg.go e1).dq, sg_cq h4 hsz1, fun v' H2 e2 _ => ?_⟩
      exact raise_in T fun e G' he ee hx => kz.1 H2 (e1.trans e2) v' e G' he ee hx
    | true =>
      rw [hs, Bool.true_and] at k kx
      refine if_f rfl ?_
      have hszT : ∀ g ∈ tofG x gs, g.sz := fun g hg => by
        unfold tofG at hg
        split at hg
        · split at hg
          · obtain ⟨i, _, rfl⟩ := List.mem_map.mp hg
            trivial
          · cases hg
        · split at hg
          · exact hsz1 g (List.mem_of_mem_take hg)
          · exact hsz1 g (List.mem_of_mem_take hg)
      refine ⟨_, rfl, v, x, gs, rfl, hsg.go e1, hs, fun l ws H2 e2 hl hw => ⟨_, rfl, l, ws, tofG x gs, n, rfl, hl, hw, hszT, fun hall H3 e3 => ?_, fun hbad => ?_⟩⟩
      · have hall : (tofG x gs).all (ghIn n) = true := List.all_eq_true.mpr hall
        rw [hall, Bool.true_and] at k kx
        have e13 := (e1.trans e2).trans e3
        obtain ⟨a, vs, rfl, ha, hv⟩ := hsg.go e13
        obtain ⟨hx, hi⟩ := stG_len hs
        rcases th_cases hx with ⟨rfl, hn⟩ | ⟨rfl, hn⟩ | ⟨rfl, hn⟩ | ⟨rfl, hn⟩ | ⟨rfl, hn⟩
        all_goals have hn := Nat.succ.inj hn
        · refine ⟨_, rfl, a, _, _, _, rfl, rfl, SqT.of ha, (by exact atI_nat (j := 0) rfl), two, fun t ht => ⟨t, _, rfl, .inr (SqT.of upd_same), rfl, rfl, _, rfl, if_f (by decide) ?_⟩⟩
          exact k (by rw [if_neg (by decide)]) _ (e13.trans (Evl.Ex.new ht))
        · refine ⟨_, rfl, a, _, _, _, rfl, rfl, SqT.of ha, (by exact atI_nat (j := 0) rfl), two, fun t ht => ⟨t, _, rfl, .inr (SqT.of upd_same), rfl, rfl, _, rfl, if_f (by decide) ?_⟩⟩
          exact k (by rw [if_neg (by decide)]) _ (e13.trans (Evl.Ex.new ht))
        · obtain ⟨g1, g2, rfl⟩ : ∃ g1 g2, gs = [g1, g2] := by
            match gs, hn with
            | [g1, g2], _ => exact ⟨g1, g2, rfl⟩
          obtain ⟨v1, vs1, rfl, d1, hv⟩ := dqall1 hv
          obtain ⟨v2, vs2, rfl, d2, hv⟩ := dqall1 hv
          obtain rfl := dqall0 hv
          refine ⟨_, rfl, a, _, _, _, rfl, rfl, SqT.of ha, (by exact atI_nat (j := 0) rfl), two, fun t ht => ⟨t, _, rfl, .inr (SqT.of upd_same), rfl, rfl, _, rfl, if_t (by decide) ?_⟩⟩
          have e4 := Evl.Ex.new (o := .tup [.str "scoop", .str "move"]) ht
          have hz := hsz g2 (by simp)
          refine ⟨_, rfl, _, rfl, a, _, _, _, rfl, rfl, SqT.of (e4 _ _ ha), rfl, v2, g2, rfl, d2.go e4, hz.1, hz.2, fun hp H4 e5 => k ?_ _ ((e13.trans e4).trans e5), fun hp => ?_⟩
          · rw [if_pos (by decide)]; exact hp
          · exact (kx (by rw [if_pos (by decide)]; exact hp)).2.2.go (e13.trans e4)
        · obtain ⟨g1, g2, g3, rfl⟩ : ∃ g1 g2 g3, gs = [g1, g2, g3] := by
            match gs, hn with
            | [g1, g2, g3], _ => exact ⟨g1, g2, g3, rfl⟩
          obtain ⟨v1, vs1, rfl, d1, hv⟩ := dqall1 hv
          obtain ⟨v2, vs2, rfl, d2, hv⟩ := dqall1 hv
          obtain ⟨v3, vs3, rfl, d3, hv⟩ := dqall1 hv
          obtain rfl := dqall0 hv
          refine ⟨_, rfl, a, _, _, _, rfl, rfl, SqT.of ha, (by exact atI_nat (j := 0) rfl), two, fun t ht => ⟨t, _, rfl, .inr (SqT.of upd_same), rfl, rfl, _, rfl, if_t (by decide) ?_⟩⟩
          have e4 := Evl.Ex.new (o := .tup [.str "scoop", .str "move"]) ht
          have hz := hsz g3 (by simp)
          refine ⟨_, rfl, _, rfl, a, _, _, _, rfl, rfl, SqT.of (e4 _ _ ha), rfl, v3, g3, rfl, d3.go e4, hz.1, hz.2, fun hp H4 e5 => k ?_ _ ((e13.trans e4).trans e5), fun hp => ?_⟩
          · rw [if_pos (by decide)]; exact hp
          · exact (kx (by rw [if_pos (by decide)]; exact hp)).2.2.go (e13.trans e4)
        · refine ⟨_, rfl, a, _, _, _, rfl, rfl, SqT.of ha, (by exact atI_nat (j := 0) rfl), two, fun t ht => ⟨t, _, rfl, .inr (SqT.of upd_same), rfl, rfl, _, rfl, if_f (by decide) ?_⟩⟩
          exact k (by rw [if_neg (by decide)]) _ (e13.trans (Evl.Ex.new ht))
      · have hall : (tofG x gs).all (ghIn n) = false := by
          obtain ⟨g, hg, hb⟩ := hbad
          exact List.all_eq_false.mpr ⟨g, hg, by rw [hb]; decide⟩
        rw [hall, Bool.false_and] at kx
        exact (kx rfl).2.1.go (e1.trans e2)
end
end V2




namespace V2
open PySem L2
open PySem.Spec PyProof.Rows
abbrev Sg := Str × List Gh
/-- tanks and steps that make a script -/
def scB (ts : List Tk) (ss : List Sg) : Bool := ts.all tkB && (decide (ts.countP (fun t => t.1.isNone) = 1) && ss.all (fun s => sgOk ts.length s.1 s.2))
/-- sizes -/
def ScSz (ts : List Tk) (ss : List Sg) : Prop := ts.length ≤ 4000 ∧ ss.length ≤ 4000 ∧ ∀ s ∈ ss, s.2.length ≤ 4000 ∧ ∀ g ∈ s.2, g.sz ∧ g.nb
def spScN (C CI CS CT CF : Addr) : Sp := fun vs H Q E => ∃ (x dx : Addr) (v u : V) (ts : List Tk) (ss : List Sg), vs = [.ref x, v, u] ∧ H x = some (.ins C dx []) ∧ Dq H v (.list (ts.map tkD)) ∧ Dq H u (.list (ss.map sgD)) ∧ ScSz ts ss ∧
  (scB ts ss = true → ∀ (v' u' : V) (fs : List (Str × V)) (H' : Hp), But x H H' → H' x = some (.ins C dx fs) → fs.lookup ("_tanks" : Str) = some v' → fs.lookup ("_steps" : Str) = some u' → Dq (Nw H H') v' (.list (ts.map tkD)) → Dq (Nw H H') u' (.list (ss.map sgD)) → Q .non H') ∧
  (scB ts ss = false → Rv CI H E ∧ Rv CS H E ∧ Rv CT H E ∧ Rv CF H E)
def spGetQ (C : Addr) (n : Nat) (f : Str) : Sp := fun vs H Q _ => ∃ (x dx : Addr) (fs : List (Str × V)) (v : V) (d : PyData), vs = [.ref x] ∧ H x = some (.ins C dx fs) ∧ fs.lookup f = some v ∧ Dq H v d ∧ Cq n d ∧ ∀ v' H', Evl.Ex H H' → Dq (Nw H H') v' d → Q v' H'
theorem cq_tk (t : Tk) : Cq 1 (tkD t) := .tup (by show 2 ≤ 5000; decide) fun d hd => by
  simp only [List.mem_cons, List.not_mem_nil, or_false] at hd
  obtain ⟨tw, ta⟩ := t
  rcases hd with rfl | rfl
  · cases tw with
    | none => exact .non
    | some z => exact .int _
  · exact .int _
theorem cq_tks {ts : List Tk} (h : ts.length ≤ 4000) : Cq 2 (.list (ts.map tkD)) := .lst (by rw [List.length_map]; omega) fun d hd => by
  obtain ⟨t, _, rfl⟩ := List.mem_map.mp hd
  exact cq_tk t
theorem cq_sgs {ts : List Tk} {ss : List Sg} (h : ScSz ts ss) : Cq 3 (.list (ss.map sgD)) := .lst (by rw [List.length_map]; have := h.2.1; omega) fun d hd => by
  obtain ⟨s, hs, rfl⟩ := List.mem_map.mp hd
  have z := h.2.2 s hs
  exact sg_cq z.1 fun g hg => (z.2 g hg).1
section
variable {base : Heap} {mg : Str → Option Value} {K : PySem.W.Frag} {w : World} {P : Program} {C fI fT fS pT pS CI CS CT CF : Addr}
theorem ok_Sc_tanksQ {f : Addr} {fd : FuncData} (F : Fun K "tanks" "Script.tanks" s_Sc_tanks f fd) (c : ScC K C fI fT fS pT pS) (c2 : Cal P w K mg base 3 "copied" p_copied (spCq 2)) : FnOk P w K mg base CX0 4 f fd p_Sc_tanks (spGetQ C 2 "_tanks") := by
  refine F.ok sc_Sc_tanks (fun vs H Q E h => ?_) (fun cdv A outer s H vs Q E hr h => ?_)
  · obtain ⟨x, dx, fs, v, d, rfl, _⟩ := h
    rfl
  · obtain ⟨x, dx, fs, v, d, rfl, hx, hf, hd, hc, k⟩ := h
    refine ⟨_, pss_one (ps_ret (pe_c c2 hr (pa_cons (pe_fld (pv 0) rfl) pa_nil))), ?_⟩
    exact ⟨_, rfl, x, C, dx, fs, v, rfl, hx, c.cls, c.na1, hf, v, d, rfl, hd, hc, k⟩
theorem ok_Sc_stepsQ {f : Addr} {fd : FuncData} (F : Fun K "steps" "Script.steps" s_Sc_steps f fd) (c : ScC K C fI fT fS pT pS) (c3 : Cal P w K mg base 4 "copied" p_copied (spCq 3)) : FnOk P w K mg base CX0 5 f fd p_Sc_steps (spGetQ C 3 "_steps") := by
  refine F.ok sc_Sc_steps (fun vs H Q E h => ?_) (fun cdv A outer s H vs Q E hr h => ?_)
  · obtain ⟨x, dx, fs, v, d, rfl, _⟩ := h
    rfl
  · obtain ⟨x, dx, fs, v, d, rfl, hx, hf, hd, hc, k⟩ := h
    refine ⟨_, pss_one (ps_ret (pe_c c3 hr (pa_cons (pe_fld (pv 0) rfl) pa_nil))), ?_⟩
    exact ⟨_, rfl, x, C, dx, fs, v, rfl, hx, c.cls, c.na2, hf, v, d, rfl, hd, hc, k⟩
theorem ok_Sc_initN {f : Addr} {fd : FuncData} (F : Fun K "__init__" "Script.__init__" s_Sc_init f fd) (mL : mg "len" = none) (c : ScC K C fI fT fS pT pS) (c2 : Cal P w K mg base 3 "copied" p_copied (spCq 2)) (c3 : Cal P w K mg base 4 "copied" p_copied (spCq 3)) (cT : CalN P w K mg base 4 "check_tanks" p_check_tanks (spTksN CI)) (cS : CalN P w K mg base 4 "check_step" p_check_step (spStepN CS CT CF)) : FnOk P w K mg base (L2N.CX P w) 5 f fd p_Sc_init (spScN C CI CS CT CF) := by
  refine okC (L2N.CX P w) F sc_Sc_init (fun vs H Q E h => ?_) (fun cdv A outer s H vs Q E hr h => ?_)
  · obtain ⟨x, dx, v, u, ts, ss, rfl, _⟩ := h
    rfl
  · obtain ⟨x, dx, v, u, ts, ss, rfl, hx, hv, hu, hsz, k, kx⟩ := h
    have nd := sc_Sc_init.nd
    have r3 : Room 3 _ := hr.mono (by decide)
    obtain ⟨lt, rfl, hlt⟩ := hv.tks
    refine ⟨_, pss_cons (ps_expr (pe_cn (E := E) cT hr (L2N.takes_of rfl rfl rfl rfl) (fun _ _ _ _ h => h) (pa_cons (pv 1) pa_nil)))
      (pss_cons (ps_for (passes_of rfl) rfl (pi_list (pv 2)) (pg_name (i := 3) nd rfl (Or.inl rfl)) (pss_one (ps_expr (pe_cn (E := E) cS hr (L2N.takes_of rfl rfl rfl rfl) (fun _ _ _ _ h => h) (pa_cons (pv 3) (pa_cons (pe_callB call_len_seq (by rfl) mL PySem.boot_len (pa_cons (pv 1) pa_nil)) pa_nil))))))
      (pss_cons (ps_fld (pv 0) (pe_c c2 r3 (pa_cons (pv 1) pa_nil)) (by rfl))
      (pss_one (ps_fld (pv 0) (pe_c c3 hr (pa_cons (pv 2) pa_nil)) (by rfl))))), ?_⟩
    obtain ⟨ls, us, rfl, hl, hq⟩ : ∃ a xs, u = .ref a ∧ H a = some (.lst xs) ∧ DqAll H xs (ss.map sgD) := by
      cases hu with
      | lst h d => exact ⟨_, _, rfl, h, d⟩
    obtain ⟨bs, hlb, hlenb, hatb⟩ := id hlt
    have hlen : (((bs.map V.ref).length : Nat) : Int) = ts.length := by rw [List.length_map, hlenb]
    have fal : (ts.all tkB && decide (ts.countP (fun t => t.1.isNone) = 1)) = false → scB ts ss = false := fun h => by
      unfold scB
      rw [← Bool.and_assoc, h, Bool.false_and]
    refine ⟨_, rfl, lt, ts, rfl, hlt, hsz.1, fun hall hone H1 e1 => ?_, fun i t hi hb hlo y H1 e1 hy => ?_, fun hall hne H1 e1 => ?_⟩
    · have hs : scB ts ss = ss.all (fun s => sgOk ts.length s.1 s.2) := by
        unfold scB
        rw [List.all_eq_true.mpr hall, decide_eq_true hone]
        rfl
      refine ⟨_, rfl, ls, rfl, ⟨_, SqL.of (e1 _ _ hl)⟩, for_list (xs := us) (fun i σ H' => Evl.Ex H H' ∧ (∀ s ∈ ss.take i, sgOk ts.length s.1 s.2 = true) ∧ ∃ v, σ = [some (.ref x), some (.ref lt), some (.ref ls), v]) ⟨e1, (fun s h => by cases h), none, rfl⟩ (fun i σ H' _ q => SqL.of (q.1 _ _ hl)) ?_ ?_⟩
      · rintro i y σ H2 hi ⟨e2, hlo, v, rfl⟩
        obtain ⟨d, hd, hqd⟩ := hq.get hi
        rw [List.getElem?_map] at hd
        obtain ⟨s, hs', rfl⟩ := Option.map_eq_some_iff.mp hd
        have hsm := List.mem_of_getElem? hs'
        have z := hsz.2.2 s hsm
        refine ⟨_, rfl, _, rfl, lt, _, rfl, .inl (SqL.of (e2 _ _ hlb)), y, s.1, s.2, (((bs.map V.ref).length : Nat) : Int), rfl, dq_sg (hqd.go e2), z.1, z.2, fun hok H3 e3 => ⟨e2.trans e3, fun s' hm => ?_, _, rfl⟩, fun hno => ?_⟩
        · rw [List.take_add_one, hs', List.mem_append] at hm
          rcases hm with h | h
          · exact hlo s' h
          · obtain rfl : s' = s := by simpa using h
            rw [← hlen]; exact hok
        · have hf : scB ts ss = false := by
            rw [hs]
            exact List.all_eq_false.mpr ⟨s, hsm, by rw [← hlen, hno]; decide⟩
          have q := kx hf
          exact ⟨q.2.1.go e2, q.2.2.1.go e2, q.2.2.2.go e2⟩
      · rintro σ H2 ⟨e2, hlo, v, rfl⟩
        have hul := hq.len
        rw [List.length_map] at hul
        rw [hul, List.take_length] at hlo
        have hok : scB ts ss = true := by rw [hs]; exact List.all_eq_true.mpr hlo
        have k := k hok
        refine ⟨_, rfl, _, _, rfl, hv.go e2, cq_tks hsz.1, fun v' H3 e3 hv' => ?_⟩
        have hx3 : H3 x = some (.ins C dx []) := e3 _ _ (e2 _ _ hx)
        refine ⟨_, rfl, x, C, dx, [], rfl, hx3, c.cls, c.na1, by decide, ?_⟩
        have b3 : But x H3 (upd H3 x (.ins C dx (putF "_tanks" v' []))) := But.upd
        have x4 : upd H3 x (.ins C dx (putF "_tanks" v' [])) x = some (.ins C dx (putF "_tanks" v' [])) := upd_same
        have hu4 := ((hu.go e2).go e3).keep (keep_ins hx3 b3)
        have b4 : But x H (upd H3 x (.ins C dx (putF "_tanks" v' []))) := (But.of_ex (e2.trans e3)).trans b3
        generalize upd H3 x (.ins C dx (putF "_tanks" v' [])) = H4 at b3 x4 hu4 b4
        refine ⟨_, rfl, _, _, rfl, hu4, cq_sgs hsz, fun u' H5 e5 hu' => ?_⟩
        refine ⟨_, rfl, x, C, dx, _, rfl, e5 _ _ x4, c.cls, c.na2, by show 1 < 1000; decide, ?_⟩
        have b6 : But x H5 (upd H5 x (.ins C dx (putF "_steps" u' (putF "_tanks" v' [])))) := But.upd
        refine k v' u' _ _ ((b4.trans (But.of_ex e5)).trans b6) upd_same (by rfl) (by rfl) (hv'.go fun b o z => ?_) (hu'.go fun b o z => ?_)
        · have n := nw_none z
          have nx : b ≠ x := fun q => by
            rw [q, e2 _ _ hx] at n
            cases n
          exact nw_at (Evl.fresh_back e2 n) (b6 _ _ nx (e5 _ _ (b3 _ _ nx (Nw.ex _ _ z))))
        · have n := nw_none z
          have nx : b ≠ x := fun q => by
            rw [q, x4] at n
            cases n
          refine nw_at ?_ (b6 _ _ nx (Nw.ex _ _ z))
          cases e : H b with
          | none => rfl
          | some o' =>
            rw [b4 _ _ nx e] at n
            cases n
    · have hf : ts.all tkB = false := List.all_eq_false.mpr ⟨t, List.mem_of_getElem? hi, by rw [hb]; decide⟩
      exact (kx (fal (by rw [hf]; rfl))).1 H1 e1 y
    · exact (kx (fal (by rw [decide_eq_false hne, Bool.and_false]))).1 H1 e1 .non
end
end V2


namespace V2
open PySem L2
open PySem.Spec PyProof.Rows
inductive Al2 {α : Type} (R : Str → α → Prop) : List Str → List α → Prop
  | nil : Al2 R [] []
  | cons {p : Str} {ps : List Str} {a : α} {as : List α} : R p a → Al2 R ps as → Al2 R (p :: ps) (a :: as)
theorem al2_of {α : Type} {R : Str → PyData → Prop} {R' : Str → α → Prop} {f : α → PyData} (h : ∀ x d, R x d → ∃ a, R' x a ∧ d = f a) : ∀ {ps : List Str} {ds : List PyData}, AllR R ps ds → ∃ as, Al2 R' ps as ∧ ds = as.map f
  | _, _, .nil => ⟨[], .nil, rfl⟩
  | _, _, .cons a b => by
    obtain ⟨x, h1, rfl⟩ := h _ _ a
    obtain ⟨xs, h2, rfl⟩ := al2_of h b
    exact ⟨x :: xs, .cons h1 h2, rfl⟩
theorem al2_to {α : Type} {R : Str → PyData → Prop} {R' : Str → α → Prop} {f : α → PyData} (h : ∀ x a, R' x a → R x (f a)) : ∀ {ps : List Str} {as : List α}, Al2 R' ps as → AllR R ps (as.map f)
  | _, _, .nil => .nil
  | _, _, .cons a b => .cons (h _ _ a) (al2_to h b)
theorem Al2.len {α : Type} {R : Str → α → Prop} : ∀ {ps : List Str} {as : List α}, Al2 R ps as → ps.length = as.length
  | _, _, .nil => rfl
  | _, _, .cons _ b => congrArg (· + 1) b.len
theorem Al2.mem {α : Type} {R : Str → α → Prop} : ∀ {ps : List Str} {as : List α} {a : α}, Al2 R ps as → a ∈ as → ∃ p ∈ ps, R p a
  | _, _, a, .cons x b, h => (List.mem_cons.mp h).elim (fun e => ⟨_, List.mem_cons_self, e ▸ x⟩) fun h => by
    obtain ⟨p, hp, hr⟩ := b.mem h
    exact ⟨p, List.mem_cons_of_mem _ hp, hr⟩
def TkP (x : Str) (t : Tk) : Prop := Txt.split x " " = [nT t.2, "in", wT t.1] ∧ t.2.natAbs ≤ 999999999 ∧ ∀ z, t.1 = some z → z.natAbs ≤ 999999999
def StP (x : Str) (s : Sg) : Prop := ∃ ps, Txt.split x " " = s.1 :: ps ∧ Al2 GhP ps s.2
theorem tkR_of {x : Str} {d : PyData} (h : TkR x d) : ∃ t, TkP x t ∧ d = tkD t := by
  obtain ⟨tw, ta, h1, h2, h3, rfl⟩ := h
  exact ⟨(tw, ta), ⟨h1, h2, h3⟩, rfl⟩
theorem tkR_to {x : Str} {t : Tk} (h : TkP x t) : TkR x (tkD t) := ⟨t.1, t.2, h.1, h.2.1, h.2.2, rfl⟩
theorem stR_of {x : Str} {d : PyData} (h : StR x d) : ∃ s, StP x s ∧ d = sgD s := by
  obtain ⟨w, ps, ts, h1, h2, rfl⟩ := h
  obtain ⟨gs, h3, rfl⟩ := al2_of (R' := GhP) (f := ghD) (fun _ _ q => q) h2
  exact ⟨(w, gs), ⟨ps, h1, h3⟩, rfl⟩
theorem stR_to {x : Str} {s : Sg} (h : StP x s) : StR x (sgD s) := by
  obtain ⟨ps, h1, h2⟩ := h
  exact ⟨s.1, ps, _, h1, al2_to (R := ThR) (fun _ a q => ⟨a, q, rfl⟩) h2, rfl⟩
/-- x reads as tanks and steps -/
def ScT (x : Str) (ts : List Tk) (ss : List Sg) : Prop := ∃ p ps, Txt.split x "; " = p :: ps ∧ Al2 TkP (Txt.split p ", ") ts ∧ Al2 StP ps ss
theorem ghP_sz {x : Str} {g : Gh} (h : GhP x g) (hx : x.length ≤ 3900) : g.sz ∧ g.nb := by
  have cnt : ∀ {y : Str} {ks : List Int}, 1 ≤ y.length → Txt.split x y = ks.map nT → ks.length ≤ 4000 := fun {y ks} hy e => by
    have h1 := split_cnt (x := x) hy
    rw [e, List.length_map] at h1
    omega
  cases g with
  | lst ks => exact ⟨cnt (by decide) h.2.1, h.2.2⟩
  | tup ks => exact ⟨cnt (by decide) h.2.2.1, h.2.2.2⟩
  | int n => exact ⟨trivial, h.2.2.2⟩
theorem stP_sz {x : Str} {s : Sg} (h : StP x s) (hx : x.length ≤ 3900) : s.2.length ≤ 4000 ∧ ∀ g ∈ s.2, g.sz ∧ g.nb := by
  obtain ⟨ps, h1, h2⟩ := h
  have cnt := split_cnt (x := x) (y := " ") (by decide)
  rw [h1, List.length_cons] at cnt
  refine ⟨by have := h2.len; omega, fun g hg => ?_⟩
  obtain ⟨p, hp, hr⟩ := h2.mem hg
  exact ghP_sz hr (Nat.le_trans (split_mem_le (x := x) (y := " ") (by rw [h1]; exact List.mem_cons_of_mem _ hp)) hx)
theorem scT_sz {x : Str} {ts : List Tk} {ss : List Sg} (h : ScT x ts ss) (hx : x.length ≤ 3900) : ScSz ts ss := by
  obtain ⟨p, ps, h1, h2, h3⟩ := h
  have hm : ∀ q ∈ p :: ps, q.length ≤ 3900 := fun q hq => Nat.le_trans (split_mem_le (x := x) (y := "; ") (by rw [h1]; exact hq)) hx
  have c1 := split_cnt (x := x) (y := "; ") (by decide)
  rw [h1, List.length_cons] at c1
  have c2 := split_cnt (x := p) (y := ", ") (by decide)
  have hp := hm p List.mem_cons_self
  refine ⟨by have := h2.len; omega, by have := h3.len; omega, fun s hs => ?_⟩
  obtain ⟨q, hq, hr⟩ := h3.mem hs
  exact stP_sz hr (hm q (List.mem_cons_of_mem _ hq))
theorem split_ne (x : Str) {y : Str} (h : Txt.split "" y ≠ []) : Txt.split x y ≠ [] := fun q => by
  have e : Txt.join y (Txt.split x y) = x := by
    rw [TL.join_eq]
    exact PySem.StrLaws.join_split x y
  rw [q] at e
  subst e
  exact h q
theorem Al2.uniq {α : Type} {R : Str → α → Prop} (h : ∀ x a b, R x a → R x b → a = b) : ∀ {ps : List Str} {as bs : List α}, Al2 R ps as → Al2 R ps bs → as = bs
  | _, _, _, .nil, .nil => rfl
  | _, _, _, .cons a b, .cons c d => by rw [h _ _ _ a c, Al2.uniq h b d]
theorem wT_inj {s t : Option Int} (h : wT s = wT t) (hs : ∀ z, s = some z → z.natAbs ≤ 999999999) (ht : ∀ z, t = some z → z.natAbs ≤ 999999999) : s = t := by
  have nw : ∀ z : Int, nT z ≠ "w" := fun z q => by
    have : 119 ∉ TL.tl (nT z) := nT_free (by omega) (by omega)
    rw [q] at this
    exact this (by decide +kernel)
  cases s with
  | none => cases t with
    | none => rfl
    | some z => exact absurd h.symm (nw z)
  | some y => cases t with
    | none => exact absurd h (nw y)
    | some z => rw [nT_inj h (hs y rfl) (ht z rfl)]
theorem tkP_uniq (x : Str) (s t : Tk) (hs : TkP x s) (ht : TkP x t) : s = t := by
  have e := hs.1.symm.trans ht.1
  simp only [List.cons.injEq, and_true, true_and] at e
  exact Prod.ext (wT_inj e.2 hs.2.2 ht.2.2) (nT_inj e.1 hs.2.1 ht.2.1)
theorem ghP_uniq (x : Str) (g h : Gh) (hg : GhP x g) (hh : GhP x h) : g = h := by
  cases g with
  | lst ks => cases h with
    | lst js => rw [nT_maps (hg.2.1.symm.trans hh.2.1) hg.2.2 hh.2.2]
    | tup js => exact absurd hg.1 hh.1
    | int n => exact absurd hg.1 hh.1
  | tup ks => cases h with
    | lst js => exact absurd hh.1 hg.1
    | tup js => rw [nT_maps (hg.2.2.1.symm.trans hh.2.2.1) hg.2.2.2 hh.2.2.2]
    | int n => exact absurd hg.2.1 hh.2.1
  | int m => cases h with
    | lst js => exact absurd hh.1 hg.1
    | tup js => exact absurd hh.2.1 hg.2.1
    | int n => rw [nT_inj (hg.2.2.1.symm.trans hh.2.2.1) hg.2.2.2 hh.2.2.2]
theorem stP_uniq (x : Str) (s t : Sg) (hs : StP x s) (ht : StP x t) : s = t := by
  obtain ⟨ps, h1, h2⟩ := hs
  obtain ⟨qs, h3, h4⟩ := ht
  have e := h1.symm.trans h3
  injection e with e1 e2
  subst e2
  exact Prod.ext e1 (h2.uniq ghP_uniq h4)
theorem scT_uniq {x : Str} {ts us : List Tk} {ss rs : List Sg} (h : ScT x ts ss) (h' : ScT x us rs) : ts = us ∧ ss = rs := by
  obtain ⟨p, ps, h1, h2, h3⟩ := h
  obtain ⟨q, qs, g1, g2, g3⟩ := h'
  have e := h1.symm.trans g1
  injection e with e1 e2
  subst e1 e2
  exact ⟨h2.uniq tkP_uniq g2, h3.uniq stP_uniq g3⟩
/-- a script's object -/
def ScAtQ (H : Hp) (C x : Addr) (ts : List Tk) (ss : List Sg) : Prop := ∃ dx fs v u, H x = some (.ins C dx fs) ∧ fs.lookup ("_tanks" : Str) = some v ∧ fs.lookup ("_steps" : Str) = some u ∧ Dq H v (.list (ts.map tkD)) ∧ Dq H u (.list (ss.map sgD))
def spRdScX (C CU : Addr) : Sp := fun vs H Q E => ∃ x : Str, vs = [.str x] ∧ x.length ≤ 3900 ∧ (∀ ts ss, ScT x ts ss → scB ts ss = true → ∀ y H', Evl.Ex H H' → ScAtQ H' C y ts ss → Q (.ref y) H') ∧ ((∀ ts ss, ScT x ts ss → scB ts ss = false) → ∀ H1, Evl.Ex H H1 → Rz CU H1 (.str x) E)
section
variable {base : Heap} {mg : Str → Option Value} {K : PySem.W.Frag} {w : World} {P : Program} {C fI fT fS pT pS CA CU CI CS CT CF eI0 : Addr}
theorem ok_read_scriptX {f : Addr} {fd fdI fdE : FuncData} (F : Fun K "read_script" "read_script" s_read_script f fd) (mTE : mg "TankError" = some (.ref CA)) (mC : mg "Script" = some (.ref C)) (c : ScC K C fI fT fS pT pS) (FI : FnOk P w K mg base (L2N.CX P w) 5 fI fdI p_Sc_init (spScN C CI CS CT CF)) (bI : Binds K fdI p_Sc_init [])
    (cTk : CalN P w K mg base 4 "read_tank" p_read_tank (spRd TkR CU)) (cSt : CalN P w K mg base 5 "read_step" p_read_step (spRd StR CU))
    (TU : EC K CU eI0) (G : EG K eI0) (mE : mg "Unreadable" = some (.ref CU)) (FH : L2H.FnH P w K mg base CX0 1 eI0 fdE ["self", "value"] (spInit K)) (bE : Binds K fdE ["self", "value"] [])
    (hU : PySem.W.exmOne K (.ref CU) (.ref CA) = some true) (hI : PySem.W.exmOne K (.ref CI) (.ref CA) = some true) (hS : PySem.W.exmOne K (.ref CS) (.ref CA) = some true) (hT' : PySem.W.exmOne K (.ref CT) (.ref CA) = some true) (hF : PySem.W.exmOne K (.ref CF) (.ref CA) = some true) :
    FnOk P w K mg base (L2.CX P w) 7 f fd p_read_script (spRdScX C CU) := by
  refine F.okX sc_read_script (fun vs H Q E h => ?_) (fun cdv A outer s H vs Q E hr h => ?_)
  · obtain ⟨x, rfl, _⟩ := h
    rfl
  · obtain ⟨x, rfl, lx, k, kx⟩ := h
    have nd := sc_read_script.nd
    have r2 : Room 2 _ := hr.mono (by decide)
    have r4 : Room 4 _ := hr.mono (by decide)
    have r5 : Room 5 _ := hr.mono (by decide)
    have r6 : Room 6 _ := hr.mono (by decide)
    have szx : x.length + 2 ≤ sizeLine := Nat.le_trans (Nat.add_le_add_right lx 2) (by decide)
    refine ⟨_, pss_cons (ps_asg (pe_split (pv 0) pe_str) (pg_star rfl (pgs_cons (pg_name (i := 1) nd rfl (Or.inl rfl)) (pgs_cons (pg_name (i := 2) nd rfl (Or.inl rfl)) pgs_nil))))
      (pss_one (L2H.ps_try_onlyX (tb := fun W => tSeq (tAsg (tLcX W (iList K (tM1 rSpl (tVar 1) (tC (.str ", ")))) (gName 4) tYes (fun E' => tCall (spRd TkR CU) [] E' (tCons (tVar 4) tNil)) [4]) (gName 3)) (tRet (tMkS C (spScN C CI CS CT CF) (WE W) (tCons (tVar 3) (tCons (tLcX W (iList K (tVar 2)) (gName 4) tYes (fun E' => tCall (spRd StR CU) [] E' (tCons (tVar 4) tNil)) [4]) tNil)))))
          (ts := fun _ _ _ _ σ H => tMkO CU (spInit K) [] (tCons (tVar 0) tNil) σ H fun cls d H' => E cls d H') (c := .ref CA) (Wout := fun cls d _ H => E cls d H) rfl rfl ⟨rfl, by decide, .inl mTE⟩ (fun hd => L2H.passesAt_of rfl hd) (takes_of rfl rfl rfl rfl)
          (fun W pn xe tk tk2 po => pss_cons (ps_setLcX (Zf := L2N.Zn) (i := 3) (own := [("part", 4)]) (g := gName 4) (tt := tYes) (te := fun E' => tCall (spRd TkR CU) [] E' (tCons (tVar 4) tNil)) rfl rfl (fun _ _ => L2N.Zn.steady) tk rfl nd rfl rfl (sw_true rfl rfl rfl (by decide +kernel)) (pi_list (pe_split (pv 1) pe_str)) (blkOk_by (N := n_read_script) (sc := defScope s_read_script) (by decide +kernel))
            (fun _ _ _ _ _ => pg_name (i := 4) nd rfl (Or.inl rfl)) (fun _ _ _ _ _ => pts_nil) (fun _ _ _ _ _ E' xe' t => pe_cn cTk r4 t (fun _ _ _ _ h => h) (pa_cons (pv 4) pa_nil)))
            (pss_one (ps_ret (pe_mkS c.mkI FI r6 (by rfl) mC bI (fun σ => L2N.passAt tk σ) (pa_cons (pv 3) (pa_cons (pe_lcX (Zf := L2N.Zn) (own := [("part", 4)]) (g := gName 4) (tt := tYes) (te := fun E' => tCall (spRd StR CU) [] E' (tCons (tVar 4) tNil)) rfl rfl (fun _ _ => L2N.Zn.steady) tk rfl nd (pi_list (pv 2)) (blkOk_by (N := n_read_script) (sc := defScope s_read_script) (by decide +kernel)) (fun _ _ _ _ _ => pg_name (i := 4) nd rfl (Or.inl rfl)) (fun _ _ _ _ _ => pts_nil) (fun _ _ _ _ _ E' xe' t => pe_cn cSt r5 t (fun _ _ _ _ h => h) (pa_cons (pv 4) pa_nil))) pa_nil))))))
          (fun a oe cls d pn hz hv tkS hot => pss_one (L2H.ps_raiseHN hot tkS (L2H.pmk5_oexH (k := 1) TU.ox TU.iC G.tI FH (L2H.roomH_mark r2 _) hot bE pass0 (by rfl) mE (pa_cons (pv 0) pa_nil)))))), ?_⟩
    have bad : ∀ {H1 : Hp}, Evl.Ex H H1 → (∀ ts ss, ScT x ts ss → scB ts ss = false) → [V.str x].length ≤ 1000 ∧ ∀ a, H1 a = none → spInit K (.ref a :: ([V.str x] ++ [])) (upd H1 a (exo a CU none)) (fun v G2 => v = .non ∧ ∃ (d : Addr) (fs : List (Str × V)), G2 a = some (exo a CU (some d)) ∧ G2 d = some (exd d fs) ∧ H1 d = none ∧ E (.ref CU) (some d) (upd (del G2 a) d (.xd fs))) (fun _ _ _ => False) := fun {H1} e1 hb => raise_in TU fun e G' he ee hx => kx hb H1 e1 e G' he ee hx
    refine ⟨_, rfl, ⟨_, rfl⟩, _, _, rfl, rfl, rfl, szx, fun L hL => ?_⟩
    obtain ⟨p0, ps, hsp⟩ : ∃ p0 ps, Txt.split x "; " = p0 :: ps := by
      cases h : Txt.split x "; " with
      | nil => exact absurd h (split_ne x (by decide +kernel))
      | cons a b => exact ⟨a, b, rfl⟩
    have hm : ∀ q ∈ p0 :: ps, q.length ≤ 3900 := fun q hq => Nat.le_trans (split_mem_le (x := x) (y := "; ") (by rw [hsp]; exact hq)) lx
    have c1 := split_cnt (x := x) (y := "; ") (by decide)
    rw [hsp, List.length_cons] at c1
    have hp0 := hm p0 List.mem_cons_self
    have c2 := split_cnt (x := p0) (y := ", ") (by decide)
    have lt : p0.length + 2 ≤ sizeLine := Nat.le_trans (Nat.add_le_add_right hp0 2) (by decide)
    rw [hsp]
    have e1 := Evl.Ex.new (o := .lst ((p0 :: ps).map V.str)) hL
    refine ⟨L, .str p0, ps.map V.str, rfl, SqL.of upd_same, fun p hp => ⟨_, _, rfl, _, _, rfl, rfl, ?_⟩⟩
    have e2 := Evl.Ex.new (o := .lst (ps.map V.str)) hp
    have g2 := upd_same (H := upd H L (.lst ((p0 :: ps).map V.str))) (a := p) (o := .lst (ps.map V.str))
    generalize upd (upd H L (.lst ((p0 :: ps).map V.str))) p (.lst (ps.map V.str)) = H2 at e2 g2
    have e02 := e1.trans e2
    refine ⟨_, rfl, ⟨_, rfl⟩, _, _, rfl, rfl, rfl, lt, fun M hM => ?_⟩
    have e3 := Evl.Ex.new (o := .lst ((Txt.split p0 ", ").map V.str)) hM
    have g3 := upd_same (H := H2) (a := M) (o := .lst ((Txt.split p0 ", ").map V.str))
    have lq : ∀ q ∈ Txt.split p0 ", ", q.length ≤ 3900 := fun q hq => Nat.le_trans (split_mem_le hq) hp0
    refine ⟨M, rfl, ⟨_, SqL.of g3⟩, fun D hD => lc_rd (R := TkR) (CU := CU) (by omega) lq hD g3 (fun _ => rfl) (fun _ => rfl) (fun q hq nb H4 e4 H5 e5 y e G' he ee hx => ⟨true, hU, fun _ a0 na => ⟨_, rfl, bad ((((e02.trans e3).trans e4).trans e5).trans ee) fun ts ss hr => ?_⟩, fun z => nomatch z⟩) (fun ds vs H4 ar e4 g4 q4 => ?_)⟩
    · obtain ⟨p', ps', h1, h2, h3⟩ := hr
      rw [hsp] at h1
      injection h1 with q1 q2
      subst q1
      obtain ⟨d, hd⟩ := (al2_to (R := TkR) (fun _ _ z => tkR_to z) h2).mem hq
      exact absurd hd (nb d)
    obtain ⟨ts, hts, rfl⟩ := al2_of (R' := TkP) (f := tkD) (fun _ _ z => tkR_of z) ar
    have e04 := (e02.trans e3).trans e4
    have g24 := e4 _ _ (e3 _ _ g2)
    refine ⟨_, rfl, _, rfl, p, rfl, ⟨_, SqL.of g24⟩, fun D2 hD2 => lc_rd (R := StR) (CU := CU) (by omega) (fun q hq => hm q (List.mem_cons_of_mem _ hq)) hD2 g24 (fun _ => rfl) (fun _ => rfl) (fun q hq nb H5 e5 H6 e6 y e G' he ee hx => ⟨true, hU, fun _ a0 na => ⟨_, rfl, bad (((e04.trans e5).trans e6).trans ee) fun ts ss hr => ?_⟩, fun z => nomatch z⟩) (fun ds2 us H5 ar2 e5 g5 q5 => ?_)⟩
    · obtain ⟨p', ps', h1, h2, h3⟩ := hr
      rw [hsp] at h1
      injection h1 with q1 q2
      subst q2
      obtain ⟨d, hd⟩ := (al2_to (R := StR) (fun _ _ z => stR_to z) h3).mem hq
      exact absurd hd (nb d)
    obtain ⟨ss, hss, rfl⟩ := al2_of (R' := StP) (f := sgD) (fun _ _ z => stR_of z) ar2
    have hT : ScT x ts ss := ⟨p0, ps, hsp, hts, hss⟩
    have e05 := e04.trans e5
    intro y' dy hy' hdy' hne
    have e6 : Evl.Ex H5 (upd (upd H5 dy (.own y')) y' (.ins C dy [])) := fun b o h => Eq.trans (upd_ne (ne_of_none' h hy')) (Eq.trans (upd_ne (ne_of_none' h hdy')) h)
    have d1 : Dq H5 (.ref D) (.list (ts.map tkD)) := .lst (e5 _ _ g4) (q4.go fun c o h => e5 _ _ (Nw.ex _ _ (wo_ex _ _ h)))
    have d2 : Dq H5 (.ref D2) (.list (ss.map sgD)) := .lst g5 (q5.go fun c o h => Nw.ex _ _ (wo_ex _ _ h))
    have no : scB ts ss = false → ∀ ts' ss', ScT x ts' ss' → scB ts' ss' = false := fun h ts' ss' h' => by
      obtain ⟨rfl, rfl⟩ := scT_uniq hT h'
      exact h
    refine ⟨y', dy, .ref D, .ref D2, ts, ss, rfl, upd_same, d1.go e6, d2.go e6, scT_sz hT lx, fun hok v' u' fs' H' b hyy g1' g2' d1' d2' => ⟨rfl, ?_⟩, fun hno => ?_⟩
    · refine k ts ss hT hok y' H' (fun cc o h => ?_) ⟨dy, fs', v', u', hyy, g1', g2', d1'.go Nw.ex, d2'.go Nw.ex⟩
      have h5 := e05 _ _ h
      exact b _ _ (ne_of_none' h5 hy') (e6 _ _ h5)
    · have e06 := e05.trans e6
      refine ⟨fun H7 e7 y e G' he ee hx => ⟨true, hI, fun _ a0 na => ⟨_, rfl, bad ((e06.trans e7).trans ee) (no hno)⟩, fun z => nomatch z⟩, fun H7 e7 y e G' he ee hx => ⟨true, hS, fun _ a0 na => ⟨_, rfl, bad ((e06.trans e7).trans ee) (no hno)⟩, fun z => nomatch z⟩,
        fun H7 e7 y e G' he ee hx => ⟨true, hT', fun _ a0 na => ⟨_, rfl, bad ((e06.trans e7).trans ee) (no hno)⟩, fun z => nomatch z⟩, fun H7 e7 y e G' he ee hx => ⟨true, hF, fun _ a0 na => ⟨_, rfl, bad ((e06.trans e7).trans ee) (no hno)⟩, fun z => nomatch z⟩⟩
end
end V2


namespace V2
open PySem L2
open PySem.Spec PyProof.Rows
theorem joinL_sum {y : List Nat} : ∀ ps : List (List Nat), (ps.map List.length).sum ≤ (TL.joinL y ps).length
  | [] => Nat.zero_le _
  | [p] => by simp only [List.map_cons, List.map_nil, List.sum_cons, List.sum_nil]; exact Nat.le_refl _
  | p :: q :: ps => by
    have ih := joinL_sum (y := y) (q :: ps)
    show _ ≤ (p ++ (y ++ TL.joinL y (q :: ps))).length
    rw [List.length_append, List.length_append]
    simp only [List.map_cons, List.sum_cons] at ih ⊢
    omega
theorem split_join (x y : Str) : Txt.join y (Txt.split x y) = x := by
  rw [TL.join_eq]
  exact PySem.StrLaws.join_split x y
theorem split_sum (x y : Str) : ((Txt.split x y).map (·.length)).sum ≤ x.length := by
  have z := joinL_sum (y := TL.tl y) ((Txt.split x y).map TL.tl)
  rw [← TL.tl_join, ← TL.join_eq, split_join, ← TL.len_tl, List.map_map] at z
  have e : ((Txt.split x y).map (List.length ∘ TL.tl)) = (Txt.split x y).map (·.length) := List.map_congr_left fun p _ => (TL.len_tl p).symm
  rw [e] at z
  exact z
theorem Al2.get {α : Type} {R : Str → α → Prop} : ∀ {ps : List Str} {as : List α} {i : Nat} {a : α}, Al2 R ps as → as[i]? = some a → ∃ p, ps[i]? = some p ∧ R p a
  | _, _, i, a, .nil, h => by cases h
  | _, _, 0, a, .cons x b, h => by cases h; exact ⟨_, rfl, x⟩
  | _, _, i + 1, a, .cons x b, h => Al2.get (i := i) b h
theorem nt_small {ks : List Int} {i : Nat} {n : Int} (h : NbI ks) (hn : ks[i]? = some n) : n.natAbs ≤ 999999999 := h n (List.mem_of_getElem? hn)
/-- a word's or a thing's text -/
def WgP (x : Str) (d : PyData) : Prop := d = .str x ∨ ∃ g, GhP x g ∧ d = ghD g
def spShW : Sp := fun vs H Q _ => ∃ (v : V) (d : PyData) (x : Str), vs = [v] ∧ Dq H v d ∧ WgP x d ∧ x.length ≤ 3900 ∧ Evl.RetV (.str x) H Q
def spShScQ (C : Addr) : Sp := fun vs H Q _ => ∃ (y : Addr) (x : Str) (ts : List Tk) (ss : List Sg), vs = [.ref y] ∧ ScAtQ H C y ts ss ∧ ScT x ts ss ∧ scB ts ss = true ∧ x.length ≤ 3900 ∧ Evl.RetV (.str x) H Q
section
variable {base : Heap} {mg : Str → Option Value} {K : PySem.W.Frag} {w : World} {P : Program} {C fI fT fS pT pS : Addr}
theorem ok_show_thingW {f : Addr} {fd : FuncData} (F : Fun K "show_thing" "show_thing" s_show_thing f fd) (mIs : mg "isinstance" = none) (mS : mg "str" = none) (mLs : mg "list" = none) (mTu : mg "tuple" = none) (cI : Cal P w K mg base 1 "show_integer" p_show_integer spShI) : FnOk P w K mg base CX0 2 f fd p_show_thing spShW := by
  refine F.ok sc_show_thing (fun vs H Q E h => ?_) (fun cdv A outer s H vs Q E hr h => ?_)
  · obtain ⟨v, d, x, rfl, _⟩ := h
    rfl
  · obtain ⟨v, d, x, rfl, hv, ok, lx, k⟩ := h
    have nd := sc_show_thing.nd
    have r1 : Room 1 _ := hr.mono (by decide)
    refine ⟨_, pss_cons (ps_if (pt_val (pe_callB call_isi (by rfl) mIs (by decide +kernel) (pa_cons (pv 0) (pa_cons (pe_bltn (v := .ty "str") (by rfl) mS (by decide +kernel) rfl) pa_nil)))) (pss_one (ps_ret (pv 0))) pss_nil)
      (pss_cons (ps_if (pt_val (pe_callB call_isi (by rfl) mIs (by decide +kernel) (pa_cons (pv 0) (pa_cons (pe_bltn (v := .ty "list") (by rfl) mLs (by decide +kernel) rfl) pa_nil)))) (pss_one (ps_ret (pe_join pe_str (pe_lc (own := [("number", 1)]) (g := (gName 1)) (tt := tYes) (te := (tCall spShI [] E0 (tCons (tVar 1) tNil))) rfl nd (pi_list (pv 0)) (blkOk_by (N := n_show_thing) (sc := defScope s_show_thing) (by decide +kernel)) (fun _ _ _ _ _ => (pg_name (i := 1) nd rfl (Or.inl rfl))) (fun _ _ _ _ _ => pts_nil) (fun _ _ _ _ _ => (pe_c cI r1 (pa_cons (pv 1) pa_nil))))))) pss_nil)
      (pss_cons (ps_if (pt_val (pe_callB call_isi (by rfl) mIs (by decide +kernel) (pa_cons (pv 0) (pa_cons (pe_bltn (v := .ty "tuple") (by rfl) mTu (by decide +kernel) rfl) pa_nil)))) (pss_one (ps_ret (pe_join pe_str (pe_lc (own := [("number", 1)]) (g := (gName 1)) (tt := tYes) (te := (tCall spShI [] E0 (tCons (tVar 1) tNil))) rfl nd (pi_tup (pv 0)) (blkOk_by (N := n_show_thing) (sc := defScope s_show_thing) (by decide +kernel)) (fun _ _ _ _ _ => (pg_name (i := 1) nd rfl (Or.inl rfl))) (fun _ _ _ _ _ => pts_nil) (fun _ _ _ _ _ => (pe_c cI r1 (pa_cons (pv 1) pa_nil))))))) pss_nil)
      (pss_one (ps_ret (pe_c cI r1 (pa_cons (pv 0) pa_nil)))))), ?_⟩
    have cnt : ∀ (y : Str), 1 ≤ y.length → (Txt.split x y).length ≤ 3901 := fun y hy => by have := split_cnt (x := x) hy; omega
    rcases ok with rfl | ⟨g, hg, rfl⟩
    · cases hv
      exact ⟨_, rfl, _, _, _, _, true, rfl, .ty "str", .base (.str x), kit_ty (by decide +kernel), true, rfl, if_t rfl ⟨_, rfl, k _ (Evl.Ex.refl _)⟩⟩
    cases g with
    | int n =>
      obtain rfl := gh_int hv
      obtain ⟨_, _, hx, hn⟩ := hg
      rw [hx] at k
      exact ⟨_, rfl, _, _, _, _, false, rfl, .ty "str", .base (.int n), kit_ty (by decide +kernel), false, rfl, if_f rfl ⟨_, rfl, _, _, _, _, false, rfl, .ty "list", .base (.int n), kit_ty (by decide +kernel), false, rfl, if_f rfl ⟨_, rfl, _, _, _, _, false, rfl, .ty "tuple", .base (.int n), kit_ty (by decide +kernel), false, rfl, if_f rfl ⟨_, rfl, n, rfl, hn, k⟩⟩⟩⟩
    | lst ks =>
      obtain ⟨l, rfl, hl⟩ := gh_lst hv
      obtain ⟨_, hsp, hnb⟩ := hg
      have c1 := cnt "," (by decide)
      have s1 := split_sum x ","
      rw [hsp] at s1 c1
      rw [List.length_map] at c1
      refine ⟨_, rfl, _, _, _, _, false, rfl, .ty "str", .base (.lst hl), kit_ty (by decide +kernel), false, rfl, if_f rfl ⟨_, rfl, _, _, _, _, true, rfl, .ty "list", .base (.lst hl), kit_ty (by decide +kernel), true, rfl, if_t rfl ⟨⟨_, rfl⟩, ?_⟩⟩⟩
      refine ⟨_, rfl, l, rfl, ⟨_, SqL.of hl⟩, fun D hD => lc_strs (ks.map nT) (by rw [List.length_map, iV_len]) (by rw [List.length_map]; omega) hD hl (fun _ => rfl) (fun i y z H' Q' hi hz e1 k' => ?_) (fun H1 e1 h1 => ?_)⟩
      · obtain ⟨n, hn, rfl⟩ := iV_get hi
        rw [List.getElem?_map, hn] at hz
        cases hz
        exact ⟨_, rfl, n, rfl, nt_small hnb hn, k'⟩
      · refine ⟨",", D, ks.map nT, rfl, rfl, .inl (SqL.of h1), ?_, ?_⟩
        · have a3 : (("," : Str)).length = 1 := rfl
          rw [List.length_map, a3]
          omega
        · have e : Txt.join "," (ks.map nT) = x := by rw [← hsp]; exact split_join x ","
          rw [e]
          exact k _ e1
    | tup ks =>
      obtain ⟨l, rfl, hl⟩ := gh_tup hv
      obtain ⟨_, _, hsp, hnb⟩ := hg
      have c1 := cnt "/" (by decide)
      have s1 := split_sum x "/"
      rw [hsp] at s1 c1
      rw [List.length_map] at c1
      refine ⟨_, rfl, _, _, _, _, false, rfl, .ty "str", .base (.tup hl), kit_ty (by decide +kernel), false, rfl, if_f rfl ⟨_, rfl, _, _, _, _, false, rfl, .ty "list", .base (.tup hl), kit_ty (by decide +kernel), false, rfl, if_f rfl ⟨_, rfl, _, _, _, _, true, rfl, .ty "tuple", .base (.tup hl), kit_ty (by decide +kernel), true, rfl, if_t rfl ⟨⟨_, rfl⟩, ?_⟩⟩⟩⟩
      refine ⟨_, rfl, l, rfl, ⟨_, SqT.of hl⟩, fun D hD => lc_strsT (ks.map nT) (by rw [List.length_map, iV_len]) (by rw [List.length_map]; omega) hD hl (fun _ => rfl) (fun i y z H' Q' hi hz e1 k' => ?_) (fun H1 e1 h1 => ?_)⟩
      · obtain ⟨n, hn, rfl⟩ := iV_get hi
        rw [List.getElem?_map, hn] at hz
        cases hz
        exact ⟨_, rfl, n, rfl, nt_small hnb hn, k'⟩
      · refine ⟨"/", D, ks.map nT, rfl, rfl, .inl (SqL.of h1), ?_, ?_⟩
        · have a3 : (("/" : Str)).length = 1 := rfl
          rw [List.length_map, a3]
          omega
        · have e : Txt.join "/" (ks.map nT) = x := by rw [← hsp]; exact split_join x "/"
          rw [e]
          exact k _ e1
theorem ok_show_scriptQ {f : Addr} {fd fdT fdS : FuncData} (F : Fun K "show_script" "show_script" s_show_script f fd) (c : ScC K C fI fT fS pT pS) (FT : FnOk P w K mg base CX0 4 fT fdT p_Sc_tanks (spGetQ C 2 "_tanks")) (bT : Binds K fdT p_Sc_tanks []) (FS : FnOk P w K mg base CX0 5 fS fdS p_Sc_steps (spGetQ C 3 "_steps")) (bS : Binds K fdS p_Sc_steps []) (cT : Cal P w K mg base 2 "show_tank" p_show_tank spShT) (cH : Cal P w K mg base 2 "show_thing" p_show_thing spShW) : FnOk P w K mg base CX0 7 f fd p_show_script (spShScQ C) := by
  refine F.ok sc_show_script (fun vs H Q E h => ?_) (fun cdv A outer s H vs Q E hr h => ?_)
  · obtain ⟨y, x, ts, ss, rfl, _⟩ := h
    rfl
  · obtain ⟨y, x, ts, ss, rfl, ⟨dx, fs, v, u, hx, hv, hu, hdv, hdu⟩, hT, hok, lx, k⟩ := h
    have nd := sc_show_script.nd
    have r2 : Room 2 _ := hr.mono (by decide)
    have r5 : Room 5 _ := hr.mono (by decide)
    have r6 : Room 6 _ := hr.mono (by decide)
    refine ⟨_, pss_cons (ps_set (i := 1) nd rfl (Or.inl rfl) (pe_join pe_str (pe_lc (own := [("tank", 2)]) (g := gName 2) (tt := tYes) (te := tCall spShT [] E0 (tCons (tVar 2) tNil)) rfl nd (pi_list (pe_prop (pv 0) c.cls c.prT FT r5 bT .nil pass0 rfl)) (blkOk_by (N := n_show_script) (sc := defScope s_show_script) (by decide +kernel)) (fun _ _ _ _ _ => pg_name (i := 2) nd rfl (Or.inl rfl)) (fun _ _ _ _ _ => pts_nil) (fun _ _ _ _ _ => pe_c cT r2 (pa_cons (pv 2) pa_nil)))))
      (pss_one (ps_ret (pe_join pe_str (pe_op op_cat (pe_lst (pa_cons (pv 1) pa_nil)) (pe_lc (own := [("step", 3)]) (g := gName 3) (tt := tYes) (te := tM1 (rJoin K) (tC (.str " ")) (tLc (iTup K (tVar 3)) (gName 4) tYes (tCall spShW [] E0 (tCons (tVar 4) tNil)) [4])) rfl nd (pi_list (pe_prop (pv 0) c.cls c.prS FS r6 bS .nil pass0 rfl)) (blkOk_by (N := n_show_script) (sc := defScope s_show_script) (by decide +kernel)) (fun _ _ _ _ _ => pg_name (i := 3) nd rfl (Or.inl rfl)) (fun _ _ _ _ _ => pts_nil)
        (fun _ _ _ _ _ => pe_join pe_str (pe_lc (own := [("thing", 4)]) (g := gName 4) (tt := tYes) (te := tCall spShW [] E0 (tCons (tVar 4) tNil)) rfl nd (pi_tup (pv 3)) (blkOk_none (N := n_show_script) { kind := .function, names := [], isGenerator := false, isCoroutine := false, more := [] } rfl (by decide +kernel)) (fun _ _ _ _ _ => pg_name (i := 4) nd rfl (Or.inl rfl)) (fun _ _ _ _ _ => pts_nil) (fun _ _ _ _ _ => pe_c cH r2 (pa_cons (pv 4) pa_nil))))))))), ?_⟩
    have hsz := scT_sz hT lx
    obtain ⟨p0, ps, hsp, hts, hss⟩ := hT
    have hm : ∀ q ∈ p0 :: ps, q.length ≤ 3900 := fun q hq => Nat.le_trans (split_mem_le (x := x) (y := "; ") (by rw [hsp]; exact hq)) lx
    have c1 := split_cnt (x := x) (y := "; ") (by decide)
    have s0 := split_sum x "; "
    rw [hsp] at s0 c1
    rw [List.length_cons] at c1
    have hp0 := hm p0 List.mem_cons_self
    have c2 := split_cnt (x := p0) (y := ", ") (by decide)
    have s2 := split_sum p0 ", "
    have tb : ∀ t ∈ ts, tkB t = true := by
      unfold scB at hok
      rw [Bool.and_eq_true] at hok
      exact List.all_eq_true.mp hok.1
    refine ⟨⟨_, rfl⟩, _, rfl, y, dx, _, rfl, hx, y, dx, _, v, _, rfl, hx, hv, hdv, cq_tks hsz.1, fun v' H1 e1 d1 => ?_⟩
    obtain ⟨l, rfl, as, g1, g2, g3⟩ := (d1.go Nw.ex).tks
    refine ⟨l, rfl, ⟨_, SqL.of g1⟩, fun D hD => lc_strs (Txt.split p0 ", ") (by rw [List.length_map, g2]; exact hts.len) (by omega) hD g1 (fun _ => rfl) (fun i z z' H2 Q' hi hz e2 k' => ?_) (fun H2 e2 h2 => ?_)⟩
    · rw [List.getElem?_map] at hi
      cases ha : as[i]? with
      | none => rw [ha] at hi; cases hi
      | some a =>
        rw [ha] at hi
        cases hi
        obtain ⟨t, ht⟩ : ∃ t, ts[i]? = some t := ⟨_, List.getElem?_eq_getElem (by have := (List.getElem?_eq_some_iff.mp ha).1; omega)⟩
        obtain ⟨p, hp, hq⟩ := hts.get ht
        rw [hp] at hz
        cases hz
        have bt := tb t (List.mem_of_getElem? ht)
        have ex : tkT t = z' := by
          rw [tkT_join, ← hq.1]
          exact split_join _ _
        rw [← ex] at k'
        obtain ⟨tw, ta⟩ := t
        unfold tkB at bt
        rw [Bool.and_eq_true] at bt
        have b2 : 0 ≤ ta := of_decide_eq_true bt.2
        have q1 : ta.natAbs ≤ 999999999 := hq.2.1
        refine ⟨_, rfl, a, (tw, ta), rfl, e2 _ _ (g3 i a _ ha ht), fun z hz => ?_, b2, by show ta ≤ _; omega, k'⟩
        have hz : tw = some z := hz
        subst hz
        have b1 : 1 ≤ z := of_decide_eq_true bt.1
        have q2 := hq.2.2 z rfl
        omega
    have ep : Txt.join ", " (Txt.split p0 ", ") = p0 := split_join _ _
    refine ⟨", ", D, Txt.split p0 ", ", rfl, rfl, .inl (SqL.of h2), ?_, ⟨_, rfl⟩, ?_⟩
    · have l3 : ((", " : Str)).length = 2 := rfl
      rw [l3]
      omega
    rw [ep]
    have e02 := e1.trans e2
    refine ⟨_, rfl, by show 1 ≤ sizeLine; decide, fun b hb => ?_⟩
    have e3 := Evl.Ex.new (o := .lst [.str p0]) hb
    have g4 := upd_same (H := H2) (a := b) (o := .lst [.str p0])
    show tLc _ _ _ _ _ _ (upd H2 b (.lst [.str p0])) _
    generalize upd H2 b (.lst [.str p0]) = H3 at e3 g4 ⊢
    have e03 := e02.trans e3
    have hx3 := e03 _ _ hx
    refine ⟨_, rfl, y, dx, _, rfl, hx3, y, dx, _, u, _, rfl, hx3, hu, hdu.go e03, cq_sgs hsz, fun v'' H4 e4 d4 => ?_⟩
    have e04 := e03.trans e4
    have d4 := d4.go Nw.ex
    cases d4 with
    | lst k1 hA =>
      rename_i ls vs
      have kl := dqAll_len hA
      rw [List.length_map] at kl
      have pl := hss.len
      refine ⟨ls, rfl, ⟨_, SqL.of k1⟩, fun D2 hD2 => lc_strs ps (by rw [kl, pl]) (by omega) hD2 k1 (fun _ => rfl) (fun i z z' H5 Q' hi hz e5 k' => ?_) (fun H5 e5 h5 => ?_)⟩
      · obtain ⟨dd, hdd, hq⟩ := dqAll_get hA hi
        rw [List.getElem?_map] at hdd
        obtain ⟨s, hs, rfl⟩ := Option.map_eq_some_iff.mp hdd
        obtain ⟨p, hp, hr⟩ := hss.get hs
        rw [hp] at hz
        cases hz
        have lz := hm z' (List.mem_cons_of_mem _ (List.mem_of_getElem? hp))
        obtain ⟨qs, hq1, hq2⟩ := hr
        obtain ⟨a, ws, rfl, ha, hW⟩ := dq_sg (hq.go e5)
        have kw := dqAll_len hW
        rw [List.length_map] at kw
        have lq := hq2.len
        have c5 := split_cnt (x := z') (y := " ") (by decide)
        have s5 := split_sum z' " "
        have m5 : ∀ q ∈ s.1 :: qs, q.length ≤ 3900 := fun q hq => Nat.le_trans (split_mem_le (x := z') (y := " ") (by rw [hq1]; exact hq)) lz
        have e5' : Txt.join " " (s.1 :: qs) = z' := by rw [← hq1]; exact split_join _ _
        rw [hq1] at c5 s5
        rw [List.length_cons] at c5
        show tM1 (rJoin K) (tC (.str " ")) (tLc (iTup K (tVar 3)) (gName 4) tYes (tCall spShW [] E0 (tCons (tVar 4) tNil)) [4]) _ _ _
        refine ⟨⟨_, rfl⟩, _, rfl, a, rfl, ⟨_, SqT.of ha⟩, fun D3 hD3 => lc_strsT (s.1 :: qs) (by rw [List.length_cons, List.length_cons, kw, lq]) (by rw [List.length_cons]; omega) hD3 ha (fun _ => rfl) (fun i y z H6 Q6 hi hz e6 k6 => ?_) (fun H6 e6 h6 => ?_)⟩
        · cases i with
          | zero =>
            cases hi
            cases hz
            exact ⟨_, rfl, _, .str s.1, s.1, rfl, .str _, .inl rfl, m5 _ List.mem_cons_self, k6⟩
          | succ i =>
            have hi : ws[i]? = some y := hi
            have hz : qs[i]? = some z := hz
            obtain ⟨td, htd, hq6⟩ := dqAll_get hW hi
            rw [List.getElem?_map] at htd
            obtain ⟨g, hg, rfl⟩ := Option.map_eq_some_iff.mp htd
            obtain ⟨p, hp, hr⟩ := hq2.get hg
            rw [hp] at hz
            cases hz
            exact ⟨_, rfl, y, _, _, rfl, hq6.go e6, .inr ⟨g, hr, rfl⟩, m5 _ (List.mem_cons_of_mem _ (List.mem_of_getElem? hp)), k6⟩
        refine ⟨" ", D3, s.1 :: qs, rfl, rfl, .inl (SqL.of h6), ?_, ?_⟩
        · have l3 : ((" " : Str)).length = 1 := rfl
          rw [List.length_cons, l3]
          omega
        · rw [e5']
          exact k' _ e6
      have e35 := e4.trans e5
      have e05 := e03.trans e35
      refine ⟨b, D2, _, _, rfl, rfl, e35 _ _ g4, h5, ?_, fun p hp => ?_⟩
      · rw [List.length_map]
        exact Nat.le_trans (show 1 + ps.length ≤ 4000 by omega) (by decide)
      refine ⟨"; ", p, p0 :: ps, rfl, rfl, .inl (SqL.of upd_same), ?_, ?_⟩
      · have l3 : (("; " : Str)).length = 2 := rfl
        rw [List.length_cons, l3]
        omega
      · have e : Txt.join "; " (p0 :: ps) = x := by rw [← hsp]; exact split_join _ _
        rw [e]
        exact k _ (e05.trans (Evl.Ex.new hp))
end
end V2


/-! set(ints of a list), sorted(such a set), len of it: any number below the bound of scans -/
namespace L2
open PySem PySem.Spec PyProof.Rows
abbrev eSet (w : World) : Obj := { cls := .type "set", dict := none, data := .set #[] 0 (.fresh 0 0 (!w.params.followText "set-order")) }
section
variable {P : Program} {w : World} {A : Around} {E : Value → Shared → Prop} {s : Shared}
theorem call_set_intsL {l : Addr} {items : Array Value} (ns : List Int) {Q : Value → Shared → Prop} (nohd : A.handled = none) (isl : s.heap.IsList l items) (are : IntsAre items.toList ns) (few : ns.length + 1 < scanBound)
    (fin : ∀ (h' : Heap) (tk c : Nat), SetR w h' s.heap.objs.size (fun j => decide (j ∈ ns)) c → c ≤ ns.length → (∀ b o, s.heap.get? b = some o → h'.get? b = some o) → Q (.ref s.heap.objs.size) { s with heap := h', toks := tk }) :
    wpAny (model P w) A (call (.type "set") [.ref l]) Q E s := by
  have cnt : items.size = ns.length := by rw [← Array.length_toList]; exact are.length
  obtain ⟨c0, t0, m0⟩ := F.called_set.mro
  have m1 := F.called_set.made
  have m2 := F.called_set.sub
  refine wpAny_call (codeAny_of_tree ?_)
  show wpAny _ _ (callAny (.type "set") _) _ _ _
  refine wpAny_pure ⟨Code.quiet_builtin _ (by decide +kernel), ?_⟩
  refine codeAny_builtin F.entry_type_call ?_
  have weigh := weight_type_call_type "set" [.ref l] []
  rw [Around.under_plain weigh rfl]
  have n1 := F.called_set.notType
  have n2 := F.called_set.canCreate
  have n3 := F.typeCall_set_1 (.ref l)
  repeat (any_goals (first | assumption | wp_step))
  refine codeAny_mono (code_set_led1 (.ref l) (E := E) (Q₁ := fun x s₁ => x = .ref s.heap.objs.size ∧ s₁ = { s with heap := s.heap.push (eSet w) }) ⟨rfl, rfl⟩) fun r s₁ hr => ?_
  match r, hr with
  | .error e, hr => exact hr
  | .ok .next, hr => exact hr.elim
  | .ok .brk, hr => exact hr.elim
  | .ok .cont, hr => exact hr.elim
  | .ok (.ret x), hr =>
    obtain ⟨rfl, rfl⟩ := hr
    have at0 : (s.heap.push (eSet w)).get? s.heap.objs.size = some (eSet w) := Heap.get?_push_size _ rfl
    have ty0 : Shared.TypeIs { s with heap := s.heap.push (eSet w) } (.ref s.heap.objs.size) "set" := ⟨_, at0, rfl⟩
    have n4 := F.called_set.init.lookup
    have n5 := F.called_set.init.bind (.ref s.heap.objs.size)
    repeat (any_goals (first | assumption | wp_step))
    refine codeAny_mono (codeAny_call_builtin (R := wants (fun r s₂ => r = .none ∧ ∃ h' tk c, s₂ = { s with heap := h', toks := tk } ∧ SetR w h' s.heap.objs.size (fun j => decide (j ∈ ns)) c ∧ c ≤ ns.length ∧ ∀ b o, s.heap.get? b = some o → h'.get? b = some o) E)
      F.called_set.init.plain F.entry_set_init (check_set_init_1 ty0 ?_)) fun r₂ s₂ hr₂ => ?_
    · obtain ⟨⟨kc, kd, dt, sl⟩, hol, hcl, nl, hdl⟩ := isl
      simp only at hcl hdl
      subst hcl; subst hdl
      have ll : l < s.heap.objs.size := Heap.lt_size hol
      have atl : (s.heap.push (eSet w)).get? l = some { cls := .type "list", dict := kd, data := .seq items nl, slots := sl } := Heap.get?_push_of_some _ hol
      have q1 := F.sub_list_set
      have q2 := F.sub_list_frozenset
      have q3 : (Value.type "list" == Value.type "dict") = false := by decide
      have isl1 : (s.heap.push (eSet w)).IsList l items := ⟨_, atl, rfl, nl, rfl⟩
      unfold Builtin.«set.__init__» noKeywords Builtin.Frozenset.updateFrom
      generalize hit : pyIter = it
      wp_walk
      subst hit
      refine wpAny_pyIter_list isl1 ?_
      refine wpAny_bind (wpAny_runValue ?_)
      have nohd3 : A.in1.in1.in1.handled = none := by simp [nohd]
      have big : (s.heap.push (eSet w)).objs.size = s.heap.objs.size + 1 := Heap.size_push ..
      have la : l ≠ (s.heap.push (eSet w)).objs.size := by rw [big]; exact Nat.ne_of_lt (Nat.lt_succ_of_lt ll)
      have sa : s.heap.objs.size ∉ [(s.heap.push (eSet w)).objs.size, l] := by
        rw [big]
        intro h
        simp only [List.mem_cons, List.not_mem_nil, or_false] at h
        rcases h with h | h
        · exact absurd h (Nat.ne_of_lt (Nat.lt_succ_self _))
        · exact absurd h (Nat.ne_of_gt ll)
      have val : ∀ (i : Nat) (v : Value), items[i]? = some v → ∃ k t, ns[i]? = some k ∧ v = .int k t := fun i v hv => by
        have li : i < ns.length := by rw [← cnt]; exact (Array.getElem?_eq_some_iff.mp hv).1
        obtain ⟨t, e⟩ := IntsAre.int_at are i v (by rw [Array.getElem?_toList]; exact hv)
        exact ⟨ns[i], t, List.getElem?_eq_getElem li, by rw [e, List.getD_eq_getElem?_getD, List.getElem?_eq_getElem li]; rfl⟩
      refine set_update_ints ((Walks.list nohd3 _ l la items).toS) s.heap.objs.size sa ns cnt few val (items.size - 0) 0 _ (by omega) (Nat.zero_le _) ⟨⟨_, Heap.get?_push_size _ rfl, rfl, rfl⟩, isl1.push _⟩ ?_ ?_
      · exact ⟨0, Nat.le_refl 0, setR_new_at (Heap.get?_push_of_some _ at0)⟩
      · intro s' c' hm hc' hS'
        have es : s' = { s with heap := s'.heap, toks := s'.toks } := by
          have eg : s'.gens = s.gens := hm.gens
          have ed : s'.drawn = s.drawn := hm.drawn
          have eo : s'.os = s.os := hm.os
          cases s'
          simp only at eg ed eo
          rw [eg, ed, eo]
        rw [cnt] at hc'
        show wpAny _ _ _ _ _ _
        refine wpAny_pure ?_
        show wpAny _ _ (ret Value.none) _ _ _
        refine wpAny_pure ⟨rfl, s'.heap, s'.toks, c', es, hS', hc', fun b o e => ?_⟩
        have hb : b < s.heap.objs.size := Heap.lt_size e
        refine hm.heap b o (fun h => ?_) (Heap.get?_push_of_some _ (Heap.get?_push_of_some _ e))
        simp only [List.mem_cons, List.not_mem_nil, or_false] at h
        rcases h with h | h
        · exact absurd h (Nat.ne_of_lt hb)
        · rw [big] at h
          exact absurd h (Nat.ne_of_lt (Nat.lt_succ_of_lt hb))
    · match r₂, hr₂ with
      | .error e, hr₂ => exact hr₂
      | .ok .next, hr₂ => exact hr₂.elim
      | .ok .brk, hr₂ => exact hr₂.elim
      | .ok .cont, hr₂ => exact hr₂.elim
      | .ok (.ret r), hr₂ =>
        obtain ⟨rfl, h', tk, c', rfl, hS', hc', hk'⟩ := hr₂
        repeat (any_goals (first | assumption | wp_step))
        exact fin _ _ _ hS' hc' hk'
theorem sorted_setA {a : Addr} {S : Int → Bool} {n : Nat} {Q : Value → Shared → Prop} (R : SetR w s.heap a S n) (nohd : A.handled = none)
    (fin : ∀ s' p (out : Array Value) (c : Nat) (ns : List Int), (∀ b o, s.heap.get? b = some o → s'.heap.get? b = some o) → s'.gens = s.gens → s'.os = s.os → s.heap.objs.size ≤ p → s'.heap.get? p = some (seqObj "list" out c) → IntsAre out.toList ns → ns.Pairwise (· < ·) → (∀ k, k ∈ ns ↔ S k = true) → ns.length = n → Q (.ref p) s') :
    wpAny (model P w) A (call (.builtin "sorted") [.ref a]) Q E s := by
  obtain ⟨o, es, ep, t, ho, hex, hd, g, nd, hm, hb, hf, hn, hr, hl⟩ := R
  refine Calls.call_function_entry kind_sorted plain_sorted entry_sorted (args_sorted1 _) ?_
  unfold Builtin.«sorted»
  refine wpAny_bind (m := checkCount "sorted" 1 1 _) (wpAny_pure ?_)
  refine wpAny_bind (collect_set (A := A.in1) nohd ⟨o, ho, hex.1, hd⟩ hf hb hr hl fun s1 vs k1 hz g1 o1 pm => ?_)
  have many : vs.length = n := by rw [pm.length_eq, List.length_map, Array.length_toList]; exact hn
  have few : vs.length ≤ sizeLine := by
    rw [many, ← hn, sizeLine_eq]
    have hb : es.size < 4096 := hb
    omega
  have are : IntsAre vs (vs.map Builtin.Re.reRawOf) := ints_of vs fun v hv => by
    obtain ⟨e, he, q⟩ := List.mem_map.mp (pm.mem_iff.mp hv)
    obtain ⟨k, tk, h1, _⟩ := g e he
    exact ⟨k, tk, q ▸ h1⟩
  have perm : (vs.map Builtin.Re.reRawOf).Perm (es.toList.map keyOf) := by
    have q := pm.map Builtin.Re.reRawOf
    rwa [List.map_map] at q
  refine wpAny_bind (wpAny_newList ?_ few)
  have hoL : (s1.heap.push (seqObj "list" vs.toArray 0)).get? s1.heap.objs.size = some (seqObj "list" vs.toArray 0) := Heap.get?_push_size _ rfl
  refine wpAny_bind (wpAny_holding (wpAny_call_entry slot_list_sort ⟨_, hoL, rfl⟩ entry_list_sort (SrtO.list_sort_ord SrtO.swo_int hoL few (fun h2 => SrtO.ints_sortable are h2) fun out h1 h2 => ⟨_, rfl, ?_⟩) (args_list_sort _)))
  obtain ⟨c, hc⟩ := sortedHeap_at (vs := vs) (out := out.toArray) hoL
  obtain ⟨k2, k3, k4⟩ := SrtO.ints_out are h1 h2
  have pn := k3.trans perm
  refine wpAny_pure ⟨_, rfl, fin _ s1.heap.objs.size out.toArray c (out.map SrtO.iv) (fun b u e => ?_) g1 o1 hz hc k2 (lt_of_le_nodup _ k4 (pn.nodup_iff.mpr nd)) (fun k => by rw [pn.mem_iff, ← hm k]) ?_⟩
  · have q := k1 b u e
    have hlt := Heap.lt_size q
    show (sortedHeap (s1.heap.push (seqObj "list" vs.toArray 0)) s1.heap.objs.size vs out.toArray).get? b = some u
    rw [sortedHeap_old (Nat.ne_of_lt hlt) (by rw [size_push']; exact Nat.lt_succ_of_lt hlt)]
    exact Heap.get?_push_of_some _ q
  · rw [pn.length_eq, List.length_map, Array.length_toList]; exact hn
end
section
variable {X : Cx}
/-- set(xs) of a list of ints -/
def rSetLA (K : PySem.W.Frag) (w : World) : List V → Hp → VK → Prop := fun xs H Q => ∃ (l : Addr) (ns : List Int), xs = [V.ref l] ∧ SqL K H l (ns.map V.int) ∧ ns.length ≤ 4000 ∧
  ∀ (a : Addr) (ms : List Int), H a = none → ms.Nodup → (∀ k, k ∈ ms ↔ k ∈ ns) → Q (.ref a) (upd H a (SetO w a (fun j => decide (j ∈ ns)) ms.length))
theorem cr_setLA (hc : X.calm = true) : CallR X (.type "set") (rSetLA X.K X.w) := by
  intro pins s σ H vs us Q I r h
  obtain ⟨l, ns, rfl, hs, few, q⟩ := h
  obtain ⟨its, rv, hl, hz⟩ := I.list hs
  rw [Vals.ref1 r]
  refine call_set_intsL ns (I.ok.hd hc) hl.isList (by simpa using rv.ints) (Nat.lt_of_le_of_lt (Nat.succ_le_succ few) (by decide)) fun h' tk c R hc' k => ?_
  have R0 := R
  obtain ⟨o, es, ep, t, ho, hex, hd, g, nd, hm, hb, hf, hn, hr, hl'⟩ := R0
  have z := q s.heap.objs.size (es.toList.map keyOf) (I.hok.fresh (Nat.le_refl _)) nd (fun k => by rw [← hm k]; exact decide_eq_true_iff)
  rw [List.length_map, Array.length_toList, hn] at z
  exact ⟨.ref _, upd H s.heap.objs.size (SetO X.w s.heap.objs.size (fun j => decide (j ∈ ns)) c), I.laid (t' := tk) (fun b u e => k b u e) (Nat.le_refl _) (setO_new R), rfl, z⟩
/-- sorted(set) -/
def rSortedSetA (w : World) : List V → Hp → VK → Prop := fun vs H Q => ∃ (a : Addr) (S : Int → Bool) (n : Nat), vs = [V.ref a] ∧ H a = some (SetO w a S n) ∧
  ∀ (ns : List Int) (p : Addr), ns.Pairwise (· < ·) → (∀ k : Int, k ∈ ns ↔ S k = true) → H p = none → Q (.ref p) (upd H p (.lst (ns.map V.int)))
theorem cr_sortedSetA (hc : X.calm = true) : CallR X (.builtin "sorted") (rSortedSetA X.w) := by
  intro pins s σ H vs us Q I r h
  obtain ⟨a, S, n, rfl, ha, q⟩ := h
  have R := setO_get I ha
  have few : n < 4096 := by
    obtain ⟨o, es, ep, t, ho, hex, hd, g, nd, hm, hb, hf, hn, hr, hl⟩ := R
    rw [← hn]; exact hb
  rw [Vals.ref1 r]
  refine sorted_setA R (I.ok.hd hc) fun s' p out c ns k g o hp hg hi hs hm hl => ?_
  have hlen : (ns.map V.int).length ≤ sizeLine := by rw [List.length_map, hl, sizeLine_eq]; omega
  have hn : H p = none := I.hok.fresh hp
  have e : s' = { s with heap := s'.heap, gens := s'.gens, drawn := s'.drawn, toks := s'.toks } := by
    cases s'
    simp only at o
    rw [o]
  have J : Inv X pins σ (upd H p (.lst (ns.map V.int))) { s with heap := s'.heap, gens := s'.gens, drawn := s'.drawn, toks := s'.toks } :=
    I.call (ch := []) (Un.laid k hp hn) (I.hok.laid k hp ⟨hlen, out.toList, c, vals_of_ints hi, hg⟩) (by rw [g]; exact I.bare) (fun _ z => nomatch z)
  rw [e]
  exact ⟨.ref p, _, J, rfl, q ns p hs hm hn⟩
/-- len(set) -/
def rLenSet (w : World) : List V → Hp → VK → Prop := fun vs H Q => ∃ (a : Addr) (S : Int → Bool) (n : Nat), vs = [V.ref a] ∧ H a = some (SetO w a S n) ∧ Q (.int n) H
theorem cr_lenSet : CallR X (.builtin "len") (rLenSet X.w) := by
  intro pins s σ H vs us Q I r h
  obtain ⟨a, S, n, rfl, ha, q⟩ := h
  obtain ⟨o, es, ep, t, ho, hex, hd, g, nd, hm, hb, hf, hn, hr, hl⟩ := setO_get I ha
  have hb : es.size < 4096 := hb
  rw [Vals.ref1 r]
  exact call_len_set ho hex hd hf (Int.lt_of_lt_of_le (show (es.size : Int) < 4096 by omega) (by decide)) ⟨.int n, H, I.tok _, ⟨_, by rw [hn]⟩, q⟩
end
end L2


namespace V2
open PySem L2
open PySem.Spec PyProof.Rows
/-! ## the law's own look at texts -/
open Classical in
/-- the integer from 0 on of a text, -1 if it is none -/
noncomputable def noN (x : Str) : Int := if h : ∃ n : Int, 0 ≤ n ∧ n ≤ 999999999 ∧ x = nT n then h.choose else -1
theorem noN_nT {n : Int} (h0 : 0 ≤ n) (h9 : n ≤ 999999999) : noN (nT n) = n := by
  have h : ∃ m : Int, 0 ≤ m ∧ m ≤ 999999999 ∧ nT n = nT m := ⟨n, h0, h9, rfl⟩
  unfold noN
  rw [dif_pos h]
  have z := h.choose_spec
  exact (nT_inj z.2.2 (by omega) (by omega)).symm
theorem noN_cases (x : Str) : (noN x = -1 ∧ ∀ n : Int, 0 ≤ n → n ≤ 999999999 → x ≠ nT n) ∨ (0 ≤ noN x ∧ noN x ≤ 999999999 ∧ x = nT (noN x)) := by
  by_cases h : ∃ m : Int, 0 ≤ m ∧ m ≤ 999999999 ∧ x = nT m
  · obtain ⟨m, h0, h9, rfl⟩ := h
    rw [noN_nT h0 h9]
    exact .inr ⟨h0, h9, rfl⟩
  · left
    refine ⟨by unfold noN; rw [dif_neg h], fun n h0 h9 e => h ⟨n, h0, h9, e⟩⟩
theorem noN_pos {x : Str} (h : 0 ≤ noN x) : noN x ≤ 999999999 ∧ x = nT (noN x) := by
  rcases noN_cases x with h' | h'
  · omega
  · exact h'.2
/-- texts of numbers from 0 on -/
theorem noN_maps {ps : List Str} {ks : List Int} (h : ps = ks.map nT) (hk : ∀ k ∈ ks, 0 ≤ k ∧ k ≤ 999999999) : ps.map noN = ks := by
  rw [h, List.map_map]
  exact (List.map_congr_left fun k hk' => noN_nT (hk k hk').1 (hk k hk').2).trans (List.map_id' _)
theorem noN_back {ps : List Str} (h : ∀ k ∈ ps.map noN, 0 ≤ k) : ps = (ps.map noN).map nT ∧ NbI (ps.map noN) := by
  constructor
  · rw [List.map_map]
    have e : ∀ p ∈ ps, p = (nT ∘ noN) p := fun p hp => (noN_pos (h _ (List.mem_map.mpr ⟨p, hp, rfl⟩))).2
    exact (List.map_id' ps).symm.trans (List.map_congr_left e)
  · intro k hk
    have h0 := h k hk
    obtain ⟨p, hp, rfl⟩ := List.mem_map.mp hk
    have := (noN_pos h0).1
    omega
def spNo : Sp := fun vs H Q _ => ∃ x : Str, vs = [.str x] ∧ x.length ≤ 200000 ∧ Evl.RetV (.int (noN x)) H Q
section
variable {base : Heap} {mg : Str → Option Value} {K : PySem.W.Frag} {w : World} {P : Program}
theorem ok_l_number_of {f : Addr} {fd : FuncData} (F : Fun K "_law_number_of" "_law_number_of" s_l_number_of f fd) (mL : mg "len" = none) (mIn : mg "int" = none) (mS : mg "str" = none) : FnOk P w K mg base CX0 1 f fd p_l_number_of spNo := by
  refine F.ok sc_l_number_of (fun vs H Q E h => ?_) (fun cdv A outer s H vs Q E hr h => ?_)
  · obtain ⟨x, rfl, _⟩ := h
    rfl
  · obtain ⟨x, rfl, lx, k⟩ := h
    have nd := sc_l_number_of.nd
    have szx : x.length ≤ sizeLine := Nat.le_trans lx (by decide)
    refine ⟨_, pss_cons (ps_if (PW.pt (pw_or (pt_not (pt_chain op_lt op_lt pe_int (pe_callB call_len_str (by rfl) mL PySem.boot_len (pa_cons (pv 0) pa_nil)) pe_int)) (pw_or1 (pt_cmpR (op_ne0 hr.units) (pe_lc (own := [("sign_now", 1)]) (g := gName 1) (tt := tTest (tOp rNotSign (tVar 1) (tC (.str "0123456789")))) (te := tVar 1) rfl nd (pi_str (pv 0)) (blkOk_by (N := n_l_number_of) (sc := defScope s_l_number_of) (by decide +kernel)) (fun _ _ _ _ _ => pg_name (i := 1) nd rfl (Or.inl rfl)) (fun _ _ _ _ _ => pts_one (pt_cmpR op_notIn_sign (pv 1) pe_str (by rfl))) (fun _ _ _ _ _ => pv 1)) (pe_lst pa_nil) (nomark _))))) (pss_one (ps_ret (pe_un un_neg pe_int))) pss_nil)
      (pss_one (ps_ret (pe_ifExp (pt_cmpR op_eq (pe_callTy call_str_int (by rfl) mS (by decide +kernel) (pa_cons (pe_callTy call_int_str (by rfl) mIn (by decide +kernel) (pa_cons (pv 0) pa_nil)) pa_nil)) (pv 0) (nomark _)) (pe_callTy call_int_str (by rfl) mIn (by decide +kernel) (pa_cons (pv 0) pa_nil)) (pe_un un_neg pe_int)))), ?_⟩
    obtain ⟨y, hy⟩ : ∃ y, y = TL.tl x := ⟨_, rfl⟩
    have ly : x.length = y.length := by rw [hy, TL.len_tl]
    -- a number from 0 on has these digits
    have num : ∀ n : Int, 0 ≤ n → n ≤ 999999999 → x = nT n → y ≠ [] ∧ y.length ≤ 9 ∧ y.all (fun c => decide (48 ≤ c ∧ c ≤ 57)) = true := fun n h0 h9 e => by
      obtain ⟨m, rfl⟩ := Int.eq_ofNat_of_zero_le h0
      have ex : y = TL.numL m := by rw [hy, e]; exact tl_nT_nat m
      rw [ex]
      exact ⟨TL.numL_ne m, TL.numL_len (by decide) (by omega), List.all_eq_true.mpr fun c hc => decide_eq_true (TL.numL_digits m c hc)⟩
    have no : ∀ {H2 : Hp}, Evl.Ex H H2 → ¬ (y ≠ [] ∧ y.length ≤ 9 ∧ y.all (fun c => decide (48 ≤ c ∧ c ≤ 57)) = true) → Q (.int (-1)) H2 := fun {H2} e2 h => by
      have z := k H2 e2
      rcases noN_cases x with h' | h'
      · rw [h'.1] at z; exact z
      · exact absurd (num _ h'.1 h'.2.1 h'.2.2) h
    refine ⟨_, rfl, x, rfl, szx, _, _, rfl, rfl, _, rfl, ?_⟩
    by_cases h0 : y = []
    · exact if_f (decide_eq_false (by rw [ly, h0]; decide)) ⟨_, rfl, if_t rfl (if_t rfl ⟨_, rfl, no (Evl.Ex.refl _) (fun h => h.1 h0)⟩)⟩
    have y0 : 0 < x.length := by
      rw [ly]; exact List.length_pos_iff.mpr h0
    refine if_t (decide_eq_true (by omega)) ⟨_, _, rfl, rfl, _, rfl, ?_⟩
    by_cases h9 : ¬ y.length ≤ 9
    · rw [decide_eq_false (show ¬ (x.length : Int) < 10 by omega)]
      exact if_t rfl (if_t rfl ⟨_, rfl, no (Evl.Ex.refl _) (fun h => h9 h.2.1)⟩)
    have h9 := Decidable.not_not.mp h9
    rw [decide_eq_true (show (x.length : Int) < 10 by omega)]
    refine if_f rfl ⟨_, rfl, x, rfl, fun D hD => lc_str (fun i H2 => Evl.Ex H H2 ∧ H2 D = some (.lst (((y.take i).filter fun c => !decide (48 ≤ c ∧ c ≤ 57)).map fun c => V.str ⟨#[c]⟩))) ⟨Evl.Ex.new hD, upd_same⟩ ?_ ?_⟩
    · rintro i c H2 hc ⟨e2, g2⟩
      rw [← hy] at hc
      refine ⟨rfl, ?_⟩
      show tTest (tOp rNotSign (tVar 1) (tC (.str "0123456789"))) _ _ _
      refine ⟨_, rfl, c, _, rfl, rfl, _, rfl, ?_⟩
      rw [dig10]
      have tk := flt_take (p := fun c => !decide (48 ≤ c ∧ c ≤ 57)) hc
      by_cases hq : (48 ≤ c ∧ c ≤ 57)
      · rw [decide_eq_true hq] at tk ⊢
        refine if_f rfl ⟨e2, ?_⟩
        rw [g2, tk, if_neg (by decide), List.append_nil]
      · rw [decide_eq_false hq] at tk ⊢
        refine if_t rfl ⟨_, rfl, _, g2, ?_, Evl.Ex.mut e2 hD, ?_⟩
        · rw [List.length_map]
          exact Nat.lt_of_le_of_lt (Nat.le_trans (List.length_filter_le _ _) (by rw [List.length_take]; show min i y.length ≤ 9; omega)) (by decide)
        · rw [upd_same, tk, if_pos (by decide), List.map_append]
          rfl
    rintro H2 ⟨e2, g2⟩
    rw [← hy, List.take_length] at g2
    refine ⟨Nat.zero_le _, fun p hp => ⟨D, p, _, [], rfl, rfl, SqL.of (by rw [upd_ne (ne_of_none g2 hp)]; exact g2), SqL.of upd_same, rfl, _, rfl, ?_⟩⟩
    have e3 := e2.trans (Evl.Ex.new (o := .lst []) hp)
    by_cases ha : y.all (fun c => decide (48 ≤ c ∧ c ≤ 57)) = true
    · have hf : y.filter (fun c => !decide (48 ≤ c ∧ c ≤ 57)) = [] := by
        rw [List.filter_eq_nil_iff]
        intro c hc
        rw [List.all_eq_true.mp ha c hc]
        decide
      rw [hf]
      have ed : dgs x = y := by
        unfold dgs
        rw [hy]
        refine if_neg fun h => ?_
        cases hx : TL.tl x with
        | nil => rw [hx] at h; cases h
        | cons c r =>
          rw [hx] at h
          cases h
          have := List.all_eq_true.mp ha 45 (by rw [hy, hx]; exact List.mem_cons_self)
          revert this
          decide
      obtain ⟨v, hv, hv9⟩ := dg_val (x := x) (by rw [ed]; exact h0) (by rw [ed]; exact h9) (by rw [ed]; exact ha)
      have v0 : 0 ≤ v := by
        have q := PySem.intText_digits (x := x) (fun c hc => of_decide_eq_true (List.all_eq_true.mp ha c (by rw [hy]; exact hc))) (fun h => h0 (by rw [hy]; exact h)) (by omega)
        rw [q] at hv
        cases hv
        exact Int.natCast_nonneg _
      have lx640 : x.length ≤ 640 := by omega
      refine if_f rfl ⟨_, rfl, x, v, rfl, hv, lx640, v, rfl, log_sm hv9, _, rfl, rfl, _, rfl, ?_⟩
      by_cases hb : V.str (Str.ofString (toString v)) = V.str x
      · refine if_t (decide_eq_true hb) ⟨_, rfl, x, v, rfl, hv, lx640, ?_⟩
        have ex : x = nT v := by injection hb with hb; exact hb.symm
        have z := k _ e3
        rw [ex, noN_nT v0 (by omega)] at z
        exact z
      · refine if_f (decide_eq_false hb) ⟨_, rfl, ?_⟩
        have z := k _ e3
        rcases noN_cases x with h' | h'
        · rw [h'.1] at z; exact z
        · exfalso
          obtain ⟨h1, h2, h3⟩ := h'
          have q := nT_reads (n := noN x) (by omega)
          rw [← h3, hv] at q
          injection q with q
          exact hb (by rw [q]; exact congrArg V.str h3.symm)
    · have hf : y.filter (fun c => !decide (48 ≤ c ∧ c ≤ 57)) ≠ [] := fun hf => by
        rw [List.filter_eq_nil_iff] at hf
        refine ha (List.all_eq_true.mpr fun c hc => ?_)
        have := hf c hc
        simpa using this
      refine if_t ?_ ⟨_, rfl, no e3 (fun h => ha h.2.2)⟩
      rw [decide_eq_false (fun h => hf (List.map_eq_nil_iff.mp h))]
      rfl
end
end V2


namespace V2
open PySem L2
open PySem.Spec PyProof.Rows
/-- a fraction from 0 to 1 -/
def PtX (x : Str) : Prop := ∃ p q : Int, Txt.split x "/" = [nT p, nT q] ∧ NbI [p, q] ∧ ptB p q = true
/-- a list of at least two ascending tanks of n -/
def LsX (n : Int) (x : Str) : Prop := ∃ ks : List Int, Txt.split x "," = ks.map nT ∧ NbI ks ∧ 2 ≤ ks.length ∧ ascB ks = true ∧ ∀ k ∈ ks, 0 ≤ k ∧ k < n
def spPtL : Sp := fun vs H Q _ => ∃ x : Str, vs = [.str x] ∧ x.length ≤ 200000 ∧ ∀ b : Bool, (b = true ↔ PtX x) → Evl.RetV (.bl b) H Q
def spLsL : Sp := fun vs H Q _ => ∃ (x : Str) (n : Int), vs = [.str x, .int n] ∧ x.length ≤ 200000 ∧ (Txt.split x ",").length ≤ 4000 ∧ ∀ b : Bool, (b = true ↔ LsX n x) → Evl.RetV (.bl b) H Q
/-- [number_of(one) for one in pieces] -/
theorem lc_no {K : PySem.W.Frag} {a D : Addr} {ps : List Str} {j : Nat} {σ : L2.St} {H1 : Hp} {Qd : Hp → Prop} (sz : ps.length ≤ 200001) (lp : ∀ p ∈ ps, p.length ≤ 200000) (hD : H1 D = none) (ha : H1 a = some (.lst (ps.map V.str)))
    (hw : ∀ x : V, wipe ((wipe σ [j]).set j (some x)) [j] = wipe σ [j]) (hj : ∀ x : V, ((wipe σ [j]).set j (some x))[j]? = some (some x))
    (hd : ∀ H', Evl.Ex H1 H' → H' D = some (.lst (iV (ps.map noN))) → Qd H') :
    ∃ W : Nat → Nat → Hp → Prop, (∃ m, W 0 m (upd H1 D (.lst []))) ∧ ∀ i m H, W i m H →
      ((Itl K a).stop i H ∧ Qd H) ∨ ((Itl K a).go i H ∧ ∃ Nx : Hp → Prop, (∀ H', Nx H' → ∃ m', m' < m ∧ W (i + 1) m' H') ∧ ∀ x H', (Itl K a).yld i H x H' → gName j x (wipe σ [j]) H' fun σ2 H2 => wipe σ2 [j] = wipe σ [j] ∧ tYes σ2 H2 fun b H3 =>
        if b = true then (tCall spNo [] E0 (tCons (tVar j) tNil)) σ2 H3 fun y H4 => ∃ acc, H4 D = some (.lst acc) ∧ acc.length < sizeLine ∧ Nx (upd H4 D (.lst (acc ++ [y]))) else Nx H3) := by
  refine lc_list (xs := ps.map V.str) (fun i H' => Evl.Ex H1 H' ∧ H' D = some (.lst (iV ((ps.take i).map noN)))) ⟨Evl.Ex.new hD, upd_same⟩ (fun i H' _ q => SqL.of (q.1 _ _ ha)) ?_ ?_
  · rintro i v H' hi ⟨e1, h1⟩
    rw [List.getElem?_map] at hi
    obtain ⟨p, hp, rfl⟩ := Option.map_eq_some_iff.mp hi
    refine ⟨hw _, ⟨_, hj _, p, rfl, lp p (List.mem_of_getElem? hp), fun H2 e2 => ⟨_, e2 _ _ h1, ?_, Evl.Ex.mut (e1.trans e2) hD, ?_⟩⟩⟩
    · rw [iV_len, List.length_map, List.length_take]
      exact Nat.lt_of_le_of_lt (show min i ps.length ≤ 200001 by omega) (by decide)
    · rw [upd_same, List.take_add_one, hp, List.map_append, ← iV_app]; rfl
  · rintro H' ⟨e1, h1⟩
    rw [List.length_map, List.take_length] at h1
    exact hd H' e1 h1
section
variable {base : Heap} {mg : Str → Option Value} {K : PySem.W.Frag} {w : World} {P : Program}
theorem ok_l_is_part {f : Addr} {fd : FuncData} (F : Fun K "_law_is_part" "_law_is_part" s_l_is_part f fd) (mL : mg "len" = none) (mMn : mg "min" = none) (cN : Cal P w K mg base 1 "_law_number_of" p_l_number_of spNo) (cS : Cal P w K mg base 1 "_law_shared" p_l_shared spSh4) : FnOk P w K mg base CX0 2 f fd p_l_is_part spPtL := by
  refine F.ok sc_l_is_part (fun vs H Q E h => ?_) (fun cdv A outer s H vs Q E hr h => ?_)
  · obtain ⟨x, rfl, _⟩ := h
    rfl
  · obtain ⟨x, rfl, lx, k⟩ := h
    have nd := sc_l_is_part.nd
    have r1 : Room 1 _ := hr.mono (by decide)
    have szx : x.length + 2 ≤ sizeLine := Nat.le_trans (Nat.add_le_add_right lx 2) (by decide)
    refine ⟨_, pss_cons (ps_setLc (i := 1) (own := [("one", 2)]) (g := gName 2) (tt := tYes) (te := tCall spNo [] E0 (tCons (tVar 2) tNil)) rfl nd rfl rfl (sw_true rfl rfl rfl (by decide +kernel)) (pi_list (pe_split (pv 0) pe_str)) (blkOk_by (N := n_l_is_part) (sc := defScope s_l_is_part) (by decide +kernel)) (fun _ _ _ _ _ => pg_name (i := 2) nd rfl (Or.inl rfl)) (fun _ _ _ _ _ => pts_nil) (fun _ _ _ _ _ => pe_c cN r1 (pa_cons (pv 2) pa_nil)))
      (pss_cons (ps_if (PW.pt (pw_or (pt_cmpR op_ne (pe_callB call_len_seq (by rfl) mL PySem.boot_len (pa_cons (pv 1) pa_nil)) pe_int (nomark _)) (pw_or (pt_cmpR op_lt (pe_callB (cr_min rfl) (by rfl) mMn (by decide +kernel) (pa_cons (pv 1) pa_nil)) pe_int (nomark _)) (pw_or1 (pt_cmpR op_lt (pe_ix ix_list (pv 1) pe_int (fun _ _ => rfl)) pe_int (nomark _)))))) (pss_one (ps_ret pe_bl)) pss_nil)
      (pss_one (ps_ret (pe_and (pe_cmpR op_le (pe_ix ix_list (pv 1) pe_int (fun _ _ => rfl)) (pe_ix ix_list (pv 1) pe_int (fun _ _ => rfl)) (nomark _)) (pe_one (pe_cmpR op_eq (pe_c cS r1 (pa_cons (pe_ix ix_list (pv 1) pe_int (fun _ _ => rfl)) (pa_cons (pe_ix ix_list (pv 1) pe_int (fun _ _ => rfl)) pa_nil))) pe_int (nomark _))))))), ?_⟩
    have cnt : (Txt.split x "/").length ≤ 200001 := by have := split_cnt (x := x) (y := "/") (by decide); omega
    have lp : ∀ p ∈ Txt.split x "/", p.length ≤ 200000 := fun p hp => Nat.le_trans (split_mem_le hp) lx
    have l47 : (("/" : Str)) = ⟨#[47]⟩ := by decide +kernel
    refine ⟨_, rfl, ⟨_, rfl⟩, _, _, rfl, rfl, by rw [l47]; rfl, szx, fun L hL => ?_⟩
    have e1 := Evl.Ex.new (o := .lst ((Txt.split x "/").map V.str)) hL
    refine ⟨L, rfl, ⟨_, SqL.of upd_same⟩, fun D hD => lc_no cnt lp hD upd_same (fun _ => rfl) (fun _ => rfl) (fun H1 e2 h1 => ?_)⟩
    have e02 := e1.trans e2
    have no : ∀ {H2 : Hp}, Evl.Ex H H2 → ¬ PtX x → Q (.bl false) H2 := fun {H2} e h => k false ⟨fun z => Bool.noConfusion z, fun z => absurd z h⟩ H2 e
    have ln : ∀ p q, Txt.split x "/" = [nT p, nT q] → (Txt.split x "/").length = 2 := fun p q h => by rw [h]; rfl
    refine ⟨_, rfl, D, _, rfl, .inl (SqL.of h1), rfl, _, rfl, ?_⟩
    by_cases h2 : (Txt.split x "/").length = 2
    · obtain ⟨a, b, hab⟩ : ∃ a b, Txt.split x "/" = [a, b] := by
        match Txt.split x "/", h2 with
        | [a, b], _ => exact ⟨a, b, rfl⟩
      rw [hab] at h1
      have h1 : H1 D = some (.lst (iV [noN a, noN b])) := h1
      have un : PtX x → 0 ≤ noN a ∧ 1 ≤ noN b ∧ noN a ≤ noN b ∧ Int.gcd (noN a) (noN b) = 1 := fun h => by
        obtain ⟨p, q, h1, h2, h3⟩ := h
        rw [hab] at h1
        injection h1 with q1 q2
        injection q2 with q2 _
        unfold ptB frB at h3
        simp only [Bool.and_eq_true, decide_eq_true_eq] at h3
        have b1 := h2 p (by simp)
        have b2 := h2 q (by simp)
        rw [q1, q2, noN_nT h3.2.1 (by omega), noN_nT (by omega) (by omega)]
        exact ⟨h3.2.1, h3.1.1, h3.2.2, h3.1.2⟩
      refine if_f (by rw [hab]; simp [iV]) ?_
      refine ⟨_, rfl, D, [noN a, noN b], rfl, SqL.of h1, by simp, fun m hm hle => ⟨_, _, rfl, rfl, _, rfl, ?_⟩⟩
      have hla := hle (noN a) (by simp)
      have hlb := hle (noN b) (by simp)
      have hm : m = noN a ∨ m = noN b := by simpa using hm
      by_cases m0 : m < 0
      · exact if_t (decide_eq_true m0) (if_t rfl (no e02 fun h => by have := un h; omega))
      refine if_f (decide_eq_false m0) ⟨_, rfl, D, _, _, _, rfl, rfl, SqL.of h1, rfl, _, _, rfl, rfl, _, rfl, ?_⟩
      by_cases b0 : noN b < 1
      · exact if_t (decide_eq_true b0) (no e02 fun h => by have := un h; omega)
      refine if_f (decide_eq_false b0) ?_
      have pa := noN_pos (x := a) (by omega)
      have pb := noN_pos (x := b) (by omega)
      refine ⟨_, rfl, D, _, _, _, rfl, rfl, SqL.of h1, rfl, _, rfl, D, _, _, _, rfl, rfl, SqL.of h1, rfl, _, _, rfl, rfl, _, rfl, ?_⟩
      by_cases ab : noN a ≤ noN b
      · refine if_t (decide_eq_true ab) ⟨_, rfl, D, _, _, _, rfl, rfl, SqL.of h1, rfl, _, rfl, D, _, _, _, rfl, rfl, SqL.of h1, rfl, _, _, rfl, bn190 (by omega) (by omega), bn190 (by omega) (by omega), fun H3 e3 => ⟨rfl, ?_⟩⟩
        refine k _ ?_ H3 (e02.trans e3)
        rw [decide_eq_true_iff]
        constructor
        · intro h
          injection h with h
          have h : Int.gcd (noN a) (noN b) = 1 := by exact_mod_cast h
          refine ⟨noN a, noN b, by rw [hab, ← pa.2, ← pb.2], fun z hz => ?_, ?_⟩
          · simp only [List.mem_cons, List.not_mem_nil, or_false] at hz
            rcases hz with rfl | rfl <;> omega
          · unfold ptB frB
            rw [decide_eq_true (show 1 ≤ noN b by omega), decide_eq_true h, decide_eq_true (show 0 ≤ noN a by omega), decide_eq_true ab]
            rfl
        · intro h
          have := (un h).2.2.2
          rw [this]
          rfl
      · exact if_f (decide_eq_false ab) (no e02 fun h => ab (un h).2.2.1)
    · refine if_t ?_ (if_t rfl (no e02 fun h => ?_))
      · rw [decide_eq_false (fun z => h2 (by injection z with z; rw [iV_len, List.length_map] at z; omega))]
        rfl
      · obtain ⟨p, q, h, _⟩ := h
        exact h2 (ln p q h)
end
end V2


namespace V2
open PySem L2
open PySem.Spec PyProof.Rows
theorem eqvL : ∀ xs ys : List Int, PyData.eqvAll (xs.map .int) (ys.map .int) = decide (xs = ys)
  | [], [] => by simp [PyData.eqvAll]
  | [], _ :: _ => by simp [PyData.eqvAll]
  | _ :: _, [] => by simp [PyData.eqvAll]
  | x :: xs, y :: ys => by
    simp only [List.map_cons, PyData.eqvAll, PyData.eqv, eqvL xs ys]
    by_cases h : x = y
    · subst h; simp
    · simp [h]
theorem eqvLi (xs ys : List Int) : PyData.eqv (.list (xs.map .int)) (.list (ys.map .int)) = decide (xs = ys) := by
  simp only [PyData.eqv]
  exact eqvL xs ys
theorem pw_uniq : ∀ {xs ys : List Int}, xs.Pairwise (· < ·) → ys.Pairwise (· < ·) → (∀ k, k ∈ xs ↔ k ∈ ys) → xs = ys
  | [], [], _, _, _ => rfl
  | [], y :: ys, _, _, h => absurd ((h y).mpr List.mem_cons_self) (by simp)
  | x :: xs, [], _, _, h => absurd ((h x).mp List.mem_cons_self) (by simp)
  | x :: xs, y :: ys, h1, h2, h => by
    rw [List.pairwise_cons] at h1 h2
    have e : x = y := by
      rcases List.mem_cons.mp ((h x).mp List.mem_cons_self) with e | e
      · exact e
      rcases List.mem_cons.mp ((h y).mpr List.mem_cons_self) with e' | e'
      · exact e'.symm
      have := h1.1 y e'
      have := h2.1 x e
      omega
    subst e
    rw [pw_uniq h1.2 h2.2 fun k => ?_]
    constructor
    · intro hk
      rcases List.mem_cons.mp ((h k).mp (List.mem_cons_of_mem _ hk)) with e | e
      · have := h1.1 k hk; omega
      · exact e
    · intro hk
      rcases List.mem_cons.mp ((h k).mpr (List.mem_cons_of_mem _ hk)) with e | e
      · have := h2.1 k hk; omega
      · exact e
theorem asc_pw {ks : List Int} : ascB ks = true ↔ ks.Pairwise (· < ·) := by
  unfold ascB
  rw [List.all_eq_true]
  constructor
  · intro h
    induction ks with
    | nil => exact .nil
    | cons a r ih =>
      have ih := ih fun i hi => by
        have hi := List.mem_range.mp hi
        have := h (i + 1) (List.mem_range.mpr (by simp only [List.length_cons]; omega))
        simpa using this
      rw [List.pairwise_cons]
      refine ⟨fun b hb => ?_, ih⟩
      cases r with
      | nil => cases hb
      | cons c q =>
        have h0 := h 0 (List.mem_range.mpr (by simp))
        have h0 : a < c := by simpa using h0
        rcases List.mem_cons.mp hb with e | e
        · rw [e]; exact h0
        · have := (List.pairwise_cons.mp ih).1 b e
          omega
  · intro h i hi
    have hi := List.mem_range.mp hi
    have z := List.pairwise_iff_getElem.mp h i (i + 1) (by omega) (by omega) (Nat.lt_succ_self _)
    rw [List.getD_eq_getElem?_getD, List.getD_eq_getElem?_getD, List.getElem?_eq_getElem (show i < ks.length by omega), List.getElem?_eq_getElem (show i + 1 < ks.length by omega)]
    exact decide_eq_true z
section
variable {base : Heap} {mg : Str → Option Value} {K : PySem.W.Frag} {w : World} {P : Program}
theorem ok_l_is_list {f : Addr} {fd : FuncData} (F : Fun K "_law_is_list" "_law_is_list" s_l_is_list f fd) (mL : mg "len" = none) (mMn : mg "min" = none) (mSo : mg "sorted" = none) (mSe : mg "set" = none) (cN : Cal P w K mg base 1 "_law_number_of" p_l_number_of spNo) : FnOk P w K mg base CX0 2 f fd p_l_is_list spLsL := by
  refine F.ok sc_l_is_list (fun vs H Q E h => ?_) (fun cdv A outer s H vs Q E hr h => ?_)
  · obtain ⟨x, n, rfl, _⟩ := h
    rfl
  · obtain ⟨x, n, rfl, lx, lc, k⟩ := h
    have nd := sc_l_is_list.nd
    have r1 : Room 1 _ := hr.mono (by decide)
    have szx : x.length + 2 ≤ sizeLine := Nat.le_trans (Nat.add_le_add_right lx 2) (by decide)
    refine ⟨_, pss_cons (ps_setLc (i := 2) (own := [("one", 3)]) (g := gName 3) (tt := tYes) (te := tCall spNo [] E0 (tCons (tVar 3) tNil)) rfl nd rfl rfl (sw_true rfl rfl rfl (by decide +kernel)) (pi_list (pe_split (pv 0) pe_str)) (blkOk_by (N := n_l_is_list) (sc := defScope s_l_is_list) (by decide +kernel)) (fun _ _ _ _ _ => pg_name (i := 3) nd rfl (Or.inl rfl)) (fun _ _ _ _ _ => pts_nil) (fun _ _ _ _ _ => pe_c cN r1 (pa_cons (pv 3) pa_nil)))
      (pss_cons (ps_if (PW.pt (pw_or (pt_cmpR op_lt (pe_callB call_len_seq (by rfl) mL PySem.boot_len (pa_cons (pv 2) pa_nil)) pe_int (nomark _)) (pw_or1 (pt_cmpR op_lt (pe_callB (cr_min rfl) (by rfl) mMn (by decide +kernel) (pa_cons (pv 2) pa_nil)) pe_int (nomark _))))) (pss_one (ps_ret pe_bl)) pss_nil)
      (pss_one (ps_ret (pe_and (pe_cmpR (op_eqD hr.units) (pv 2) (pe_callB (cr_sortedSetA rfl) (by rfl) mSo (by decide +kernel) (pa_cons (pe_callTy (cr_setLA rfl) (by rfl) mSe (by decide +kernel) (pa_cons (pv 2) pa_nil)) pa_nil)) (nomark _)) (pe_one (pe_cmpR op_lt (pe_ix ix_list (pv 2) (pe_un un_neg pe_int) (fun _ _ => rfl)) (pv 1) (nomark _))))))), ?_⟩
    have cnt : (Txt.split x ",").length ≤ 200001 := by omega
    have lp : ∀ p ∈ Txt.split x ",", p.length ≤ 200000 := fun p hp => Nat.le_trans (split_mem_le hp) lx
    have l44 : (("," : Str)) = ⟨#[44]⟩ := by decide +kernel
    refine ⟨_, rfl, ⟨_, rfl⟩, _, _, rfl, rfl, by rw [l44]; rfl, szx, fun L hL => ?_⟩
    have e1 := Evl.Ex.new (o := .lst ((Txt.split x ",").map V.str)) hL
    refine ⟨L, rfl, ⟨_, SqL.of upd_same⟩, fun D hD => lc_no cnt lp hD upd_same (fun _ => rfl) (fun _ => rfl) (fun H1 e2 h1 => ?_)⟩
    have e02 := e1.trans e2
    have no : ∀ {H2 : Hp}, Evl.Ex H H2 → ¬ LsX n x → Q (.bl false) H2 := fun {H2} e h => k false ⟨fun z => Bool.noConfusion z, fun z => absurd z h⟩ H2 e
    -- what is right
    have un : LsX n x → 2 ≤ ((Txt.split x ",").map noN).length ∧ ((Txt.split x ",").map noN).Pairwise (· < ·) ∧ ∀ k ∈ (Txt.split x ",").map noN, 0 ≤ k ∧ k < n := fun h => by
      obtain ⟨ks, h1, h2, h3, h4, h5⟩ := h
      rw [noN_maps h1 fun z hz => ⟨(h5 z hz).1, by have := h2 z hz; omega⟩]
      exact ⟨h3, asc_pw.mp h4, h5⟩
    have bk : (∀ k ∈ (Txt.split x ",").map noN, 0 ≤ k) → 2 ≤ ((Txt.split x ",").map noN).length → ((Txt.split x ",").map noN).Pairwise (· < ·) → (∀ k ∈ (Txt.split x ",").map noN, k < n) → LsX n x := fun h0 h2 hp hn => by
      obtain ⟨b1, b2⟩ := noN_back h0
      exact ⟨_, b1, b2, h2, asc_pw.mpr hp, fun z hz => ⟨h0 z hz, hn z hz⟩⟩
    have lks : ((Txt.split x ",").map noN).length ≤ 4000 := by rw [List.length_map]; exact lc
    generalize (Txt.split x ",").map noN = ks at *
    refine ⟨_, rfl, D, _, rfl, .inl (SqL.of h1), _, _, rfl, rfl, _, rfl, ?_⟩
    by_cases h2 : ks.length < 2
    · refine if_t (decide_eq_true (by rw [iV_len]; omega)) (if_t rfl (no e02 fun h => ?_))
      have := (un h).1; omega
    refine if_f (decide_eq_false (by rw [iV_len]; omega)) ⟨_, rfl, D, ks, rfl, SqL.of h1, by omega, fun m hm hle => ⟨_, _, rfl, rfl, _, rfl, ?_⟩⟩
    by_cases m0 : m < 0
    · refine if_t (decide_eq_true m0) (no e02 fun h => ?_)
      have := ((un h).2.2 m hm).1; omega
    refine if_f (decide_eq_false m0) ?_
    have k0 : ∀ k ∈ ks, 0 ≤ k := fun z hz => by have := hle z hz; omega
    refine ⟨_, rfl, _, rfl, D, ks, rfl, SqL.of h1, lks, fun a ms ha hnd hms => ?_⟩
    have e3 := Evl.Ex.new (o := SetO w a (fun j => decide (j ∈ ks)) ms.length) ha
    refine ⟨a, _, _, rfl, upd_same, fun ns p hpw hns hp => ?_⟩
    have e4 := Evl.Ex.new (o := .lst (ns.map V.int)) hp
    have e24 := e3.trans e4
    have h4 : upd (upd H1 a (SetO w a (fun j => decide (j ∈ ks)) ms.length)) p (.lst (ns.map V.int)) p = some (.lst (iV ns)) := upd_same
    refine ⟨.list (ks.map .int), .list (ns.map .int), .lst (SqL.of (e24 _ _ h1)) (dpI' ks), .lst (SqL.of h4) (dpI' ns), shI ks, shI ns, _, rfl, ?_⟩
    rw [eqvLi]
    have hns : ∀ k, k ∈ ns ↔ k ∈ ks := fun k => (hns k).trans decide_eq_true_iff
    by_cases he : ks = ns
    · refine if_t (decide_eq_true he) ?_
      subst he
      have hne : ks ≠ [] := fun h => by rw [h] at h2; exact h2 (by decide)
      obtain ⟨y, hy, hy2⟩ := atI_end hne
      refine ⟨_, rfl, _, rfl, D, _, _, _, rfl, rfl, SqL.of (e24 _ _ h1), hy2, _, rfl, _, _, rfl, rfl, ?_⟩
      refine k _ ?_ _ (e02.trans e24)
      rw [decide_eq_true_iff]
      have hym : y ∈ ks := List.mem_of_getElem? hy
      constructor
      · intro hyn
        refine bk k0 (by omega) hpw fun z hz => ?_
        obtain ⟨j, hj⟩ := List.getElem?_of_mem hz
        have jl := (List.getElem?_eq_some_iff.mp hj)
        have yl := (List.getElem?_eq_some_iff.mp hy)
        by_cases je : j = ks.length - 1
        · rw [je] at hj
          rw [hy] at hj
          cases hj
          exact hyn
        · have hj1 := jl.1
          have := List.pairwise_iff_getElem.mp hpw j (ks.length - 1) jl.1 yl.1 (by omega)
          rw [jl.2, yl.2] at this
          omega
      · intro h
        exact ((un h).2.2 y hym).2
    · refine if_f (decide_eq_false he) (no (e02.trans e24) fun h => he ?_)
      exact pw_uniq (un h).2.1 hpw fun k => (hns k).symm
end
end V2


namespace V2
open PySem L2
open PySem.Spec PyProof.Rows
/-- a step of n tanks -/
def SX (n : Int) (x : Str) : Prop := ∃ s : Sg, StP x s ∧ sgOk n s.1 s.2 = true
theorem joinL_sep {y : List Nat} {s : Nat} (hs : s ∈ y) : ∀ {ps : List (List Nat)}, 2 ≤ ps.length → s ∈ TL.joinL y ps
  | [], h => absurd h (by decide)
  | [_], h => absurd h (by simp)
  | p :: q :: ps, _ => by
    show s ∈ p ++ (y ++ TL.joinL y (q :: ps))
    exact List.mem_append_right _ (List.mem_append_left _ hs)
theorem split_sep {x y : Str} {s : Nat} (hs : s ∈ TL.tl y) (h : 2 ≤ (Txt.split x y).length) : s ∈ TL.tl x := by
  have z := joinL_sep hs (ps := (Txt.split x y).map TL.tl) (by rw [List.length_map]; exact h)
  rw [← TL.tl_join, ← TL.join_eq, split_join] at z
  exact z
theorem split_free {x y : Str} {s : Nat} (hy : s ∉ TL.tl y) (h : ∀ p ∈ Txt.split x y, s ∉ TL.tl p) : s ∉ TL.tl x := by
  have z := join_free hy h
  rw [split_join] at z
  exact z
theorem t44 : 44 ∈ TL.tl (("," : Str)) := by decide +kernel
theorem t47 : 47 ∈ TL.tl (("/" : Str)) := by decide +kernel
theorem nT44 (n : Int) : 44 ∉ TL.tl (nT n) := nT_free (by omega) (by omega)
theorem nT47 (n : Int) : 47 ∉ TL.tl (nT n) := nT_free (by omega) (by omega)
theorem ghP_int {x : Str} (h : 0 ≤ noN x) : GhP x (.int (noN x)) := by
  obtain ⟨h1, h2⟩ := noN_pos h
  refine ⟨?_, ?_, h2, by omega⟩
  · rw [h2]; exact nT44 _
  · rw [h2]; exact nT47 _
theorem ghP_lst {x : Str} {ks : List Int} (h1 : Txt.split x "," = ks.map nT) (h2 : NbI ks) (h3 : 2 ≤ ks.length) : GhP x (.lst ks) :=
  ⟨split_sep t44 (by rw [h1, List.length_map]; exact h3), h1, h2⟩
theorem ghP_tup {x : Str} {p q : Int} (h1 : Txt.split x "/" = [nT p, nT q]) (h2 : NbI [p, q]) : GhP x (.tup [p, q]) := by
  refine ⟨split_free (by decide +kernel) (y := "/") fun z hz => ?_, split_sep t47 (by rw [h1]; exact Nat.le_refl _), h1, h2⟩
  rw [h1] at hz
  simp only [List.mem_cons, List.not_mem_nil, or_false] at hz
  rcases hz with rfl | rfl
  · exact nT44 _
  · exact nT44 _
theorem gh_in {x : Str} {g : Gh} {n : Int} (h : GhP x g) (hi : ghIn n g = true) : g = .int (noN x) ∧ 0 ≤ noN x ∧ noN x < n := by
  cases g with
  | lst ks => cases hi
  | tup ks => cases hi
  | int z =>
    have hi : (decide (0 ≤ z) && decide (z < n)) = true := hi
    rw [Bool.and_eq_true] at hi
    have h0 : 0 ≤ z := of_decide_eq_true hi.1
    have h1 : z < n := of_decide_eq_true hi.2
    obtain ⟨_, _, hx, hb⟩ := h
    rw [hx, noN_nT h0 (by omega)]
    exact ⟨rfl, h0, h1⟩
theorem gh_amt {x : Str} {g : Gh} (h : GhP x g) (hi : g.amt = true) : g = .int (noN x) ∧ 0 ≤ noN x := by
  cases g with
  | lst ks => cases hi
  | tup ks => cases hi
  | int z =>
    have h0 : 0 ≤ z := of_decide_eq_true hi
    obtain ⟨_, _, hx, hb⟩ := h
    rw [hx, noN_nT h0 (by omega)]
    exact ⟨rfl, h0⟩
theorem gh_pt {x : Str} {g : Gh} (h : GhP x g) (hi : g.pt = true) : PtX x := by
  cases g with
  | lst ks => cases hi
  | int z => cases hi
  | tup ks =>
    match ks, hi, h with
    | [], hi, _ => cases hi
    | [_], hi, _ => cases hi
    | [p, q], hi, h => exact ⟨p, q, h.2.2.1, h.2.2.2, hi⟩
    | _ :: _ :: _ :: _, hi, _ => cases hi
theorem ptX_gh {x : Str} (h : PtX x) : ∃ g, GhP x g ∧ g.pt = true := by
  obtain ⟨p, q, h1, h2, h3⟩ := h
  exact ⟨.tup [p, q], ghP_tup h1 h2, h3⟩
theorem inI {n z : Int} (h0 : 0 ≤ z) (h1 : z < n) : ghIn n (.int z) = true := by
  show (decide (0 ≤ z) && decide (z < n)) = true
  rw [decide_eq_true h0, decide_eq_true h1]; rfl
theorem amI {z : Int} (h0 : 0 ≤ z) : Gh.amt (.int z) = true := decide_eq_true h0
theorem neI {y z : Int} : ghNe (.int y) (.int z) = true ↔ y ≠ z := by
  show (!PyData.eqv (.int y) (.int z)) = true ↔ _
  simp [PyData.eqv]
theorem sx_no {x w : Str} {ps : List Str} {n : Int} (hs : Txt.split x " " = w :: ps) (h : thN w ≠ some (ps.length + 1)) : ¬ SX n x := by
  rintro ⟨s, ⟨qs, h1, h2⟩, h3⟩
  rw [hs] at h1
  injection h1 with e1 e2
  subst e2
  unfold sgOk at h3
  rw [Bool.and_eq_true] at h3
  have := (stG_len h3.1).1
  rw [← e1, ← h2.len] at this
  exact h this
theorem sx_open {x p : Str} {n : Int} (hs : Txt.split x " " = [("open" : Str), p]) : SX n x ↔ LsX n p := by
  constructor
  · rintro ⟨⟨w, gs⟩, ⟨qs, h1, h2⟩, h3⟩
    rw [hs] at h1
    injection h1 with e1 e2
    have e1 : ("open" : Str) = w := e1
    subst e1 e2
    cases h2 with
    | cons hg h2 =>
      cases h2
      rename_i g
      unfold sgOk at h3
      simp only [Bool.and_eq_true] at h3
      obtain ⟨_, hi⟩ := stG_len h3.1
      have hi : g.asc = true := hi
      cases g with
      | tup ks => cases hi
      | int z => cases hi
      | lst ks =>
        have hi : (decide (2 ≤ ks.length) && ascB ks) = true := hi
        rw [Bool.and_eq_true] at hi
        refine ⟨ks, hg.2.1, hg.2.2, of_decide_eq_true hi.1, hi.2, fun k hk => ?_⟩
        have ha : (ks.map Gh.int).all (ghIn n) = true := h3.2.1
        have := List.all_eq_true.mp ha _ (List.mem_map.mpr ⟨k, hk, rfl⟩)
        have this : (decide (0 ≤ k) && decide (k < n)) = true := this
        rw [Bool.and_eq_true] at this
        exact ⟨of_decide_eq_true this.1, of_decide_eq_true this.2⟩
  · rintro ⟨ks, h1, h2, h3, h4, h5⟩
    refine ⟨("open", [.lst ks]), ⟨[p], hs, .cons (ghP_lst h1 h2 h3) .nil⟩, ?_⟩
    unfold sgOk
    have a1 : stG "open" [.lst ks] = true := by
      show (decide (thN "open" = some 2) && (decide (2 ≤ ks.length) && ascB ks)) = true
      rw [h4, decide_eq_true h3]; rfl
    have a2 : (tofG "open" [.lst ks]).all (ghIn n) = true := by
      show (ks.map Gh.int).all (ghIn n) = true
      refine List.all_eq_true.mpr fun g hg => ?_
      obtain ⟨k, hk, rfl⟩ := List.mem_map.mp hg
      exact inI (h5 k hk).1 (h5 k hk).2
    rw [a1, a2]
    rfl
theorem sx_pour {x p q : Str} {n : Int} (hs : Txt.split x " " = [("pour" : Str), p, q]) : SX n x ↔ (0 ≤ noN p ∧ noN p < n) ∧ 0 ≤ noN q := by
  constructor
  · rintro ⟨⟨w, gs⟩, ⟨qs, h1, h2⟩, h3⟩
    rw [hs] at h1
    injection h1 with e1 e2
    have e1 : ("pour" : Str) = w := e1
    subst e1 e2
    cases h2 with
    | cons hg h2 => cases h2 with
      | cons hh h2 =>
        cases h2
        rename_i g h
        unfold sgOk at h3
        simp only [Bool.and_eq_true] at h3
        obtain ⟨_, hi⟩ := stG_len h3.1
        have hi : h.amt = true := hi
        have ha : [g].all (ghIn n) = true := h3.2.1
        exact ⟨(gh_in hg (List.all_eq_true.mp ha _ List.mem_cons_self)).2, (gh_amt hh hi).2⟩
  · rintro ⟨⟨h0, h1⟩, h2⟩
    refine ⟨("pour", [.int (noN p), .int (noN q)]), ⟨[p, q], hs, .cons (ghP_int h0) (.cons (ghP_int h2) .nil)⟩, ?_⟩
    have a : sgOk n "pour" [.int (noN p), .int (noN q)] = (Gh.amt (.int (noN q)) && ((ghIn n (.int (noN p)) && true) && true)) := rfl
    rw [a, amI h2, inI h0 h1]
    rfl
theorem sx_scoop {x p q : Str} {n : Int} (hs : Txt.split x " " = [("scoop" : Str), p, q]) : SX n x ↔ (0 ≤ noN p ∧ noN p < n) ∧ PtX q := by
  constructor
  · rintro ⟨⟨w, gs⟩, ⟨qs, h1, h2⟩, h3⟩
    rw [hs] at h1
    injection h1 with e1 e2
    have e1 : ("scoop" : Str) = w := e1
    subst e1 e2
    cases h2 with
    | cons hg h2 => cases h2 with
      | cons hh h2 =>
        cases h2
        rename_i g h
        unfold sgOk at h3
        simp only [Bool.and_eq_true] at h3
        have ha : [g].all (ghIn n) = true := h3.2.1
        have hp := h3.2.2
        rw [if_pos (by decide)] at hp
        exact ⟨(gh_in hg (List.all_eq_true.mp ha _ List.mem_cons_self)).2, gh_pt hh hp⟩
  · rintro ⟨⟨h0, h1⟩, h2⟩
    obtain ⟨g, hg, hp⟩ := ptX_gh h2
    refine ⟨("scoop", [.int (noN p), g]), ⟨[p, q], hs, .cons (ghP_int h0) (.cons hg .nil)⟩, ?_⟩
    have a : sgOk n "scoop" [.int (noN p), g] = (true && ((ghIn n (.int (noN p)) && true) && g.pt)) := rfl
    rw [a, hp, inI h0 h1]
    rfl
theorem sx_move {x p q r : Str} {n : Int} (hs : Txt.split x " " = [("move" : Str), p, q, r]) : SX n x ↔ ((0 ≤ noN p ∧ noN p < n) ∧ (0 ≤ noN q ∧ noN q < n) ∧ noN p ≠ noN q) ∧ PtX r := by
  constructor
  · rintro ⟨⟨w, gs⟩, ⟨qs, h1, h2⟩, h3⟩
    rw [hs] at h1
    injection h1 with e1 e2
    have e1 : ("move" : Str) = w := e1
    subst e1 e2
    cases h2 with
    | cons hg h2 => cases h2 with
      | cons hh h2 => cases h2 with
        | cons hk h2 =>
          cases h2
          rename_i g h k
          unfold sgOk at h3
          simp only [Bool.and_eq_true] at h3
          obtain ⟨_, hi⟩ := stG_len h3.1
          have hi : ghNe g h = true := hi
          have ha : [g, h].all (ghIn n) = true := h3.2.1
          have hp := h3.2.2
          rw [if_pos (by decide)] at hp
          have b1 := gh_in hg (List.all_eq_true.mp ha _ (by simp))
          have b2 := gh_in hh (List.all_eq_true.mp ha _ (by simp))
          rw [b1.1, b2.1] at hi
          exact ⟨⟨b1.2, b2.2, neI.mp hi⟩, gh_pt hk hp⟩
  · rintro ⟨⟨⟨h0, h1⟩, ⟨h2, h3⟩, h4⟩, h5⟩
    obtain ⟨g, hg, hp⟩ := ptX_gh h5
    refine ⟨("move", [.int (noN p), .int (noN q), g]), ⟨[p, q, r], hs, .cons (ghP_int h0) (.cons (ghP_int h2) (.cons hg .nil))⟩, ?_⟩
    have a : sgOk n "move" [.int (noN p), .int (noN q), g] = (ghNe (.int (noN p)) (.int (noN q)) && ((ghIn n (.int (noN p)) && (ghIn n (.int (noN q)) && true)) && g.pt)) := rfl
    rw [a, hp, inI h0 h1, inI h2 h3, neI.mpr h4]
    rfl
theorem sx_unless {x p q : Str} {n : Int} (hs : Txt.split x " " = [("unless" : Str), p, q]) : SX n x ↔ ((0 ≤ noN p ∧ noN p < n) ∧ (0 ≤ noN q ∧ noN q < n) ∧ noN p ≠ noN q) := by
  constructor
  · rintro ⟨⟨w, gs⟩, ⟨qs, h1, h2⟩, h3⟩
    rw [hs] at h1
    injection h1 with e1 e2
    have e1 : ("unless" : Str) = w := e1
    subst e1 e2
    cases h2 with
    | cons hg h2 => cases h2 with
      | cons hh h2 =>
        cases h2
        rename_i g h
        unfold sgOk at h3
        simp only [Bool.and_eq_true] at h3
        obtain ⟨_, hi⟩ := stG_len h3.1
        have hi : ghNe g h = true := hi
        have ha : [g, h].all (ghIn n) = true := h3.2.1
        have b1 := gh_in hg (List.all_eq_true.mp ha _ (by simp))
        have b2 := gh_in hh (List.all_eq_true.mp ha _ (by simp))
        rw [b1.1, b2.1] at hi
        exact ⟨b1.2, b2.2, neI.mp hi⟩
  · rintro ⟨⟨h0, h1⟩, ⟨h2, h3⟩, h4⟩
    refine ⟨("unless", [.int (noN p), .int (noN q)]), ⟨[p, q], hs, .cons (ghP_int h0) (.cons (ghP_int h2) .nil)⟩, ?_⟩
    have a : sgOk n "unless" [.int (noN p), .int (noN q)] = (ghNe (.int (noN p)) (.int (noN q)) && ((ghIn n (.int (noN p)) && (ghIn n (.int (noN q)) && true)) && true)) := rfl
    rw [a, inI h0 h1, inI h2 h3, neI.mpr h4]
    rfl
end V2


namespace V2
open PySem L2
open PySem.Spec PyProof.Rows
/-- few commas between the blanks -/
def CmB (x : Str) : Prop := ∀ p ∈ Txt.split x " ", (Txt.split p ",").length ≤ 4000
def spStL : Sp := fun vs H Q _ => ∃ (x : Str) (n : Int), vs = [.str x, .int n] ∧ x.length ≤ 200000 ∧ CmB x ∧ ∀ b : Bool, (b = true ↔ SX n x) → Evl.RetV (.bl b) H Q
theorem at_of {ps : List Str} {j : Nat} {z : Str} (h : ps[j]? = some z) : atI (ps.map V.str) (j : Int) = some (.str z) := atI_nat (by rw [List.getElem?_map, h]; rfl)
section
variable {base : Heap} {mg : Str → Option Value} {K : PySem.W.Frag} {w : World} {P : Program}
theorem ok_l_is_step {f : Addr} {fd : FuncData} (F : Fun K "_law_is_step" "_law_is_step" s_l_is_step f fd) (mL : mg "len" = none) (mMn : mg "min" = none) (mMx : mg "max" = none) (mSe : mg "set" = none) (mIn : mg "int" = none) (cN : Cal P w K mg base 1 "_law_number_of" p_l_number_of spNo) (cP : Cal P w K mg base 2 "_law_is_part" p_l_is_part spPtL) (cL : Cal P w K mg base 2 "_law_is_list" p_l_is_list spLsL) : FnOk P w K mg base CX0 3 f fd p_l_is_step spStL := by
  refine F.ok sc_l_is_step (fun vs H Q E h => ?_) (fun cdv A outer s H vs Q E hr h => ?_)
  · obtain ⟨x, n, rfl, _⟩ := h
    rfl
  · obtain ⟨x, n, rfl, lx, cm, k⟩ := h
    have nd := sc_l_is_step.nd
    have r1 : Room 1 _ := hr.mono (by decide)
    have three : 3 ≤ sizeLine := by show 3 ≤ sizeLine; decide
    have szx : x.length + 2 ≤ sizeLine := Nat.le_trans (Nat.add_le_add_right lx 2) (by decide)
    refine ⟨_, pss_cons (ps_set (i := 2) nd rfl (Or.inl rfl) (pe_split (pv 0) pe_str))
      (pss_cons (ps_set (i := 3) nd rfl (Or.inl rfl) (pe_dget2 (Nat.lt_of_le_of_lt (Nat.add_le_add_left (by decide) _) hr.units) (pe_disp (pps_cons pe_str pe_int (pps_cons pe_str pe_int (pps_cons pe_str pe_int (pps_cons pe_str pe_int (pps_cons pe_str pe_int pps_nil))))) rfl rfl (by intro h; cases h) (by decide)) (pe_ix ix_list (pv 2) pe_int (fun _ _ => rfl)) pe_int ⟨rfl, rfl, rfl, rfl⟩))
      (pss_cons (ps_if (pt_cmpR op_ne (pe_callB call_len_seq (by rfl) mL PySem.boot_len (pa_cons (pv 2) pa_nil)) (pv 3) (nomark _)) (pss_one (ps_ret pe_bl)) pss_nil)
      (pss_cons (ps_if (pt_cmpR op_eq (pe_ix ix_list (pv 2) pe_int (fun _ _ => rfl)) pe_str (nomark _)) (pss_one (ps_ret (pe_c cL hr (pa_cons (pe_ix ix_list (pv 2) pe_int (fun _ _ => rfl)) (pa_cons (pv 1) pa_nil))))) pss_nil)
      (pss_cons (ps_set (i := 4) nd rfl (Or.inl rfl) (pe_op op_sub (pv 3) (pe_callTy call_int1 (by rfl) mIn (by decide +kernel) (pa_cons (pe_cmpR op_in_seq (pe_ix ix_list (pv 2) pe_int (fun _ _ => rfl)) (pe_tup (pa_cons pe_str (pa_cons pe_str (pa_cons pe_str pa_nil)))) (by rfl)) pa_nil))))
      (pss_cons (ps_setLc (i := 5) (own := [("one", 6)]) (g := gName 6) (tt := tYes) (te := tCall spNo [] E0 (tCons (tVar 6) tNil)) rfl nd rfl rfl (sw_true rfl rfl rfl (by decide +kernel)) (pi_list (pe_slice sl_list (pv 2) (po_some pe_int) (po_some (pv 4)))) (blkOk_by (N := n_l_is_step) (sc := defScope s_l_is_step) (by decide +kernel)) (fun _ _ _ _ _ => pg_name (i := 6) nd rfl (Or.inl rfl)) (fun _ _ _ _ _ => pts_nil) (fun _ _ _ _ _ => pe_c cN r1 (pa_cons (pv 6) pa_nil)))
      (pss_cons (ps_if (PW.pt (pw_or (pt_cmpR op_lt (pe_callB (cr_min rfl) (by rfl) mMn (by decide +kernel) (pa_cons (pv 5) pa_nil)) pe_int (nomark _)) (pw_or (pt_cmpR op_ge (pe_callB (cr_max rfl) (by rfl) mMx (by decide +kernel) (pa_cons (pv 5) pa_nil)) (pv 1) (nomark _)) (pw_or1 (pt_cmpR op_lt (pe_callB cr_lenSet (by rfl) mL PySem.boot_len (pa_cons (pe_callTy (cr_setLA rfl) (by rfl) mSe (by decide +kernel) (pa_cons (pv 5) pa_nil)) pa_nil)) (pe_callB call_len_seq (by rfl) mL PySem.boot_len (pa_cons (pv 5) pa_nil)) (nomark _)))))) (pss_one (ps_ret pe_bl)) pss_nil)
      (pss_cons (ps_if (pt_cmpR op_eq (pe_ix ix_list (pv 2) pe_int (fun _ _ => rfl)) pe_str (nomark _)) (pss_one (ps_ret (pe_cmpR op_ge (pe_c cN r1 (pa_cons (pe_ix ix_list (pv 2) pe_int (fun _ _ => rfl)) pa_nil)) pe_int (nomark _)))) pss_nil)
      (pss_one (ps_ret (pe_or (pe_cmpR op_eq (pe_ix ix_list (pv 2) pe_int (fun _ _ => rfl)) pe_str (nomark _)) (pe_one (pe_c cP hr (pa_cons (pe_ix ix_list (pv 2) (pe_un un_neg pe_int) (fun _ _ => rfl)) pa_nil))))))))))))), ?_⟩
    refine ⟨_, rfl, ⟨_, rfl⟩, _, _, rfl, rfl, rfl, szx, fun L hL => ?_⟩
    obtain ⟨wd, ps, hsp⟩ : ∃ wd ps, Txt.split x " " = wd :: ps := by
      cases h : Txt.split x " " with
      | nil => exact absurd h (pcs_ne x)
      | cons a b => exact ⟨a, b, rfl⟩
    have cnt : (Txt.split x " ").length ≤ 200001 := by have := split_cnt (x := x) (y := " ") (by decide); omega
    have lp : ∀ p ∈ Txt.split x " ", p.length ≤ 200000 := fun p hp => Nat.le_trans (split_mem_le hp) lx
    unfold CmB at cm
    rw [hsp] at cnt lp cm ⊢
    have e1 := Evl.Ex.new (o := .lst ((wd :: ps).map V.str)) hL
    have gL := upd_same (H := H) (a := L) (o := .lst ((wd :: ps).map V.str))
    generalize upd H L (.lst ((wd :: ps).map V.str)) = H1 at e1 gL
    refine fun p hp => ⟨upd_same, kSz, rfl, by decide, ?_⟩
    have e2 : Evl.Ex H1 (upd (upd H1 p (.dK [])) p (.dK (mergeK [] kSz))) := fun c o h => Eq.trans (upd_ne (ne_of_none' h hp)) (Eq.trans (upd_ne (ne_of_none' h hp)) h)
    have sz : upd (upd H1 p (.dK [])) p (.dK (mergeK [] kSz)) p = some (.dK kSz) := upd_same
    generalize upd (upd H1 p (.dK [])) p (.dK (mergeK [] kSz)) = H2 at e2 sz
    have gL := e2 _ _ gL
    have e02 := e1.trans e2
    have get : DGet H2 p (.str wd) ((thN wd).map fun n => V.int (n : Int)) := by
      rw [← sz_val]
      exact DGet.k (k := .inr wd) sz
    have no : ∀ {H3 : Hp}, Evl.Ex H H3 → ¬ SX n x → Q (.bl false) H3 := fun {H3} e h => k false ⟨fun z => Bool.noConfusion z, fun z => absurd z h⟩ H3 e
    refine ⟨p, rfl, .inl ⟨_, .inl sz⟩, _, rfl, L, _, _, _, rfl, rfl, SqL.of gL, (by exact atI_nat (j := 0) rfl), _, get, ?_⟩
    refine ⟨_, rfl, L, _, rfl, .inl (SqL.of gL), _, rfl, (by cases thN wd <;> rfl), _, rfl, ?_⟩
    by_cases hw : thN wd = some (ps.length + 1)
    · rcases th_cases hw with ⟨rfl, hn⟩ | ⟨rfl, hn⟩ | ⟨rfl, hn⟩ | ⟨rfl, hn⟩ | ⟨rfl, hn⟩
      all_goals have hn := Nat.succ.inj hn
      · obtain ⟨p1, rfl⟩ : ∃ p1, ps = [p1] := by
          match ps, hn with
          | [p1], _ => exact ⟨p1, rfl⟩
        refine if_f (by rw [hw]; simp) ⟨_, rfl, L, _, _, _, rfl, rfl, SqL.of gL, (by exact atI_nat (j := 0) rfl), rfl, _, rfl, if_t (by decide) ?_⟩
        refine ⟨_, rfl, L, _, _, _, rfl, rfl, SqL.of gL, (by exact atI_nat (j := 1) rfl), _, rfl, p1, n, rfl, lp p1 (by simp), cm p1 (by simp), fun b hb => ?_⟩
        exact fun H3 e3 => k b (hb.trans (sx_open hsp).symm) H3 (e02.trans e3)
      · obtain ⟨p1, p2, rfl⟩ : ∃ p1 p2, ps = [p1, p2] := by
          match ps, hn with
          | [p1, p2], _ => exact ⟨p1, p2, rfl⟩
        refine if_f (by rw [hw]; simp) ⟨_, rfl, L, _, _, _, rfl, rfl, SqL.of gL, (by exact atI_nat (j := 0) rfl), rfl, _, rfl, if_f (by decide) ?_⟩
        refine ⟨_, rfl, _, rfl, L, _, _, _, rfl, rfl, SqL.of gL, (by exact atI_nat (j := 0) rfl), three, fun t ht => ?_⟩
        have e3 := Evl.Ex.new (o := .tup [.str "pour", .str "scoop", .str "move"]) ht
        have gL3 := e3 _ _ gL
        have e03 := e02.trans e3
        refine ⟨t, _, rfl, .inr (SqT.of upd_same), rfl, rfl, .inr ⟨_, rfl, _, _, rfl, rfl, ?_⟩⟩
        refine ⟨_, rfl, 1, rfl, _, rfl, _, rfl, L, _, rfl, SqL.of gL3, fun q hq => ?_⟩
        have e4 := Evl.Ex.new (o := .lst (([p1] : List Str).map V.str)) hq
        have g4 := upd_same (H := upd H2 t (.tup [.str "pour", .str "scoop", .str "move"])) (a := q) (o := .lst (([p1] : List Str).map V.str))
        refine ⟨q, rfl, ⟨_, SqL.of g4⟩, fun D hD => lc_no (ps := [p1]) (by simp) (fun z hz => lp z (by simp at hz ⊢; rcases hz with rfl <;> simp)) hD g4 (fun _ => rfl) (fun _ => rfl) (fun H5 e5 h5 => ?_)⟩
        have e45 := e4.trans e5
        have e05 := e03.trans e45
        have gL5 := e45 _ _ gL3
        have h5 : H5 D = some (.lst (iV [noN p1])) := h5
        refine ⟨_, rfl, D, [noN p1], rfl, SqL.of h5, by simp, fun m hm hle => ⟨_, _, rfl, rfl, _, rfl, ?_⟩⟩
        by_cases m0 : m < 0
        · refine if_t (decide_eq_true m0) (if_t rfl (no e05 fun h => ?_))
          have := (sx_pour hsp).mp h
          simp at hm
          omega
        refine if_f (decide_eq_false m0) ⟨_, rfl, D, [noN p1], rfl, SqL.of h5, by simp, fun m2 hm2 hle2 => ⟨_, rfl, _, _, rfl, rfl, _, rfl, ?_⟩⟩
        by_cases m3 : n ≤ m2
        · refine if_t (decide_eq_true m3) (if_t rfl (no e05 fun h => ?_))
          have := (sx_pour hsp).mp h
          simp at hm2
          omega
        refine if_f (decide_eq_false m3) ⟨_, rfl, D, [noN p1], rfl, SqL.of h5, by simp, fun sa ms hsa hnd hms => ?_⟩
        have e6 := Evl.Ex.new (o := SetO w sa (fun j => decide (j ∈ [noN p1])) ms.length) hsa
        have h6 := e6 _ _ h5
        have e06 := e05.trans e6
        have gL6 := e6 _ _ gL5
        refine ⟨sa, _, _, rfl, upd_same, _, rfl, D, _, rfl, .inl (SqL.of h6), _, _, rfl, rfl, _, rfl, ?_⟩
        have z1 := hle (noN p1) (by simp)
        have y1 := hle2 (noN p1) (by simp)
        have l1 : ms.length = 1 := by
          have : ms = [noN p1] := by
            match ms, hnd, hms with
            | [], _, hms => exact absurd ((hms (noN p1)).mpr (by simp)) (by simp)
            | [a], _, hms => rw [show a = noN p1 by simpa using (hms a).mp (by simp)]
            | a :: b :: r, hnd, hms =>
              have h1 : a = noN p1 := by simpa using (hms a).mp (by simp)
              have h2 : b = noN p1 := by simpa using (hms b).mp (by simp)
              rw [h1, h2] at hnd
              simp at hnd
          rw [this]; rfl
        refine if_f (decide_eq_false (by rw [l1]; simp [iV])) ?_
        refine ⟨_, rfl, L, _, _, _, rfl, rfl, SqL.of gL6, (by exact atI_nat (j := 0) rfl), rfl, _, rfl, if_t (by decide) ?_⟩
        refine ⟨_, rfl, L, _, _, _, rfl, rfl, SqL.of gL6, (by exact atI_nat (j := 2) rfl), p2, rfl, lp p2 (by simp), fun H7 e7 => ⟨_, _, rfl, rfl, ?_⟩⟩
        refine k _ ?_ H7 (e06.trans e7)
        rw [decide_eq_true_iff, sx_pour hsp]
        constructor
        · intro h; exact ⟨⟨by omega, by omega⟩, h⟩
        · intro h; exact h.2
      · obtain ⟨p1, p2, rfl⟩ : ∃ p1 p2, ps = [p1, p2] := by
          match ps, hn with
          | [p1, p2], _ => exact ⟨p1, p2, rfl⟩
        refine if_f (by rw [hw]; simp) ⟨_, rfl, L, _, _, _, rfl, rfl, SqL.of gL, (by exact atI_nat (j := 0) rfl), rfl, _, rfl, if_f (by decide) ?_⟩
        refine ⟨_, rfl, _, rfl, L, _, _, _, rfl, rfl, SqL.of gL, (by exact atI_nat (j := 0) rfl), three, fun t ht => ?_⟩
        have e3 := Evl.Ex.new (o := .tup [.str "pour", .str "scoop", .str "move"]) ht
        have gL3 := e3 _ _ gL
        have e03 := e02.trans e3
        refine ⟨t, _, rfl, .inr (SqT.of upd_same), rfl, rfl, .inr ⟨_, rfl, _, _, rfl, rfl, ?_⟩⟩
        refine ⟨_, rfl, 1, rfl, _, rfl, _, rfl, L, _, rfl, SqL.of gL3, fun q hq => ?_⟩
        have e4 := Evl.Ex.new (o := .lst (([p1] : List Str).map V.str)) hq
        have g4 := upd_same (H := upd H2 t (.tup [.str "pour", .str "scoop", .str "move"])) (a := q) (o := .lst (([p1] : List Str).map V.str))
        refine ⟨q, rfl, ⟨_, SqL.of g4⟩, fun D hD => lc_no (ps := [p1]) (by simp) (fun z hz => lp z (by simp at hz ⊢; rcases hz with rfl <;> simp)) hD g4 (fun _ => rfl) (fun _ => rfl) (fun H5 e5 h5 => ?_)⟩
        have e45 := e4.trans e5
        have e05 := e03.trans e45
        have gL5 := e45 _ _ gL3
        have h5 : H5 D = some (.lst (iV [noN p1])) := h5
        refine ⟨_, rfl, D, [noN p1], rfl, SqL.of h5, by simp, fun m hm hle => ⟨_, _, rfl, rfl, _, rfl, ?_⟩⟩
        by_cases m0 : m < 0
        · refine if_t (decide_eq_true m0) (if_t rfl (no e05 fun h => ?_))
          have := (sx_scoop hsp).mp h
          simp at hm
          omega
        refine if_f (decide_eq_false m0) ⟨_, rfl, D, [noN p1], rfl, SqL.of h5, by simp, fun m2 hm2 hle2 => ⟨_, rfl, _, _, rfl, rfl, _, rfl, ?_⟩⟩
        by_cases m3 : n ≤ m2
        · refine if_t (decide_eq_true m3) (if_t rfl (no e05 fun h => ?_))
          have := (sx_scoop hsp).mp h
          simp at hm2
          omega
        refine if_f (decide_eq_false m3) ⟨_, rfl, D, [noN p1], rfl, SqL.of h5, by simp, fun sa ms hsa hnd hms => ?_⟩
        have e6 := Evl.Ex.new (o := SetO w sa (fun j => decide (j ∈ [noN p1])) ms.length) hsa
        have h6 := e6 _ _ h5
        have e06 := e05.trans e6
        have gL6 := e6 _ _ gL5
        refine ⟨sa, _, _, rfl, upd_same, _, rfl, D, _, rfl, .inl (SqL.of h6), _, _, rfl, rfl, _, rfl, ?_⟩
        have z1 := hle (noN p1) (by simp)
        have y1 := hle2 (noN p1) (by simp)
        have l1 : ms.length = 1 := by
          have : ms = [noN p1] := by
            match ms, hnd, hms with
            | [], _, hms => exact absurd ((hms (noN p1)).mpr (by simp)) (by simp)
            | [a], _, hms => rw [show a = noN p1 by simpa using (hms a).mp (by simp)]
            | a :: b :: r, hnd, hms =>
              have h1 : a = noN p1 := by simpa using (hms a).mp (by simp)
              have h2 : b = noN p1 := by simpa using (hms b).mp (by simp)
              rw [h1, h2] at hnd
              simp at hnd
          rw [this]; rfl
        refine if_f (decide_eq_false (by rw [l1]; simp [iV])) ?_
        refine ⟨_, rfl, L, _, _, _, rfl, rfl, SqL.of gL6, (by exact atI_nat (j := 0) rfl), rfl, _, rfl, if_f (by decide) ?_⟩
        refine ⟨_, rfl, L, _, _, _, rfl, rfl, SqL.of gL6, (by exact atI_nat (j := 0) rfl), rfl, _, rfl, if_f (by decide) ?_⟩
        refine ⟨_, rfl, _, rfl, L, _, _, _, rfl, rfl, SqL.of gL6, rfl, p2, rfl, lp p2 (by simp), fun b hb H7 e7 => k b (hb.trans ?_) H7 (e06.trans e7)⟩
        rw [sx_scoop hsp]
        constructor
        · intro h; exact ⟨⟨by omega, by omega⟩, h⟩
        · intro h; exact h.2
      · obtain ⟨p1, p2, p3, rfl⟩ : ∃ p1 p2 p3, ps = [p1, p2, p3] := by
          match ps, hn with
          | [p1, p2, p3], _ => exact ⟨p1, p2, p3, rfl⟩
        refine if_f (by rw [hw]; simp) ⟨_, rfl, L, _, _, _, rfl, rfl, SqL.of gL, (by exact atI_nat (j := 0) rfl), rfl, _, rfl, if_f (by decide) ?_⟩
        refine ⟨_, rfl, _, rfl, L, _, _, _, rfl, rfl, SqL.of gL, (by exact atI_nat (j := 0) rfl), three, fun t ht => ?_⟩
        have e3 := Evl.Ex.new (o := .tup [.str "pour", .str "scoop", .str "move"]) ht
        have gL3 := e3 _ _ gL
        have e03 := e02.trans e3
        refine ⟨t, _, rfl, .inr (SqT.of upd_same), rfl, rfl, .inr ⟨_, rfl, _, _, rfl, rfl, ?_⟩⟩
        refine ⟨_, rfl, 1, rfl, _, rfl, _, rfl, L, _, rfl, SqL.of gL3, fun q hq => ?_⟩
        have e4 := Evl.Ex.new (o := .lst (([p1, p2] : List Str).map V.str)) hq
        have g4 := upd_same (H := upd H2 t (.tup [.str "pour", .str "scoop", .str "move"])) (a := q) (o := .lst (([p1, p2] : List Str).map V.str))
        refine ⟨q, rfl, ⟨_, SqL.of g4⟩, fun D hD => lc_no (ps := [p1, p2]) (by simp) (fun z hz => lp z (by simp at hz ⊢; rcases hz with rfl | rfl <;> simp)) hD g4 (fun _ => rfl) (fun _ => rfl) (fun H5 e5 h5 => ?_)⟩
        have e45 := e4.trans e5
        have e05 := e03.trans e45
        have gL5 := e45 _ _ gL3
        have h5 : H5 D = some (.lst (iV [noN p1, noN p2])) := h5
        refine ⟨_, rfl, D, [noN p1, noN p2], rfl, SqL.of h5, by simp, fun m hm hle => ⟨_, _, rfl, rfl, _, rfl, ?_⟩⟩
        by_cases m0 : m < 0
        · refine if_t (decide_eq_true m0) (if_t rfl (no e05 fun h => ?_))
          have := (sx_move hsp).mp h
          simp at hm
          omega
        refine if_f (decide_eq_false m0) ⟨_, rfl, D, [noN p1, noN p2], rfl, SqL.of h5, by simp, fun m2 hm2 hle2 => ⟨_, rfl, _, _, rfl, rfl, _, rfl, ?_⟩⟩
        by_cases m3 : n ≤ m2
        · refine if_t (decide_eq_true m3) (if_t rfl (no e05 fun h => ?_))
          have := (sx_move hsp).mp h
          simp at hm2
          omega
        refine if_f (decide_eq_false m3) ⟨_, rfl, D, [noN p1, noN p2], rfl, SqL.of h5, by simp, fun sa ms hsa hnd hms => ?_⟩
        have e6 := Evl.Ex.new (o := SetO w sa (fun j => decide (j ∈ [noN p1, noN p2])) ms.length) hsa
        have h6 := e6 _ _ h5
        have e06 := e05.trans e6
        have gL6 := e6 _ _ gL5
        refine ⟨sa, _, _, rfl, upd_same, _, rfl, D, _, rfl, .inl (SqL.of h6), _, _, rfl, rfl, _, rfl, ?_⟩
        have z1 := hle (noN p1) (by simp)
        have y1 := hle2 (noN p1) (by simp)
        have z2 := hle (noN p2) (by simp)
        have y2 := hle2 (noN p2) (by simp)
        by_cases ne : noN p1 = noN p2
        · have l1 : ms.length = 1 := by
            have : ms = [noN p1] := by
              match ms, hnd, hms with
              | [], _, hms => exact absurd ((hms (noN p1)).mpr (by simp)) (by simp)
              | [a], _, hms => rw [show a = noN p1 by have := (hms a).mp (by simp); simp at this; rcases this with h | h <;> omega]
              | a :: b :: r, hnd, hms =>
                have h1 : a = noN p1 := by have := (hms a).mp (by simp); simp at this; rcases this with h | h <;> omega
                have h2 : b = noN p1 := by have := (hms b).mp (by simp); simp at this; rcases this with h | h <;> omega
                rw [h1, h2] at hnd
                simp at hnd
            rw [this]; rfl
          refine if_t (decide_eq_true (by rw [l1]; simp [iV])) (no e06 fun h => ?_)
          have := (sx_move hsp).mp h
          omega
        have l2 : ¬ ms.length < 2 := fun hlt => by
          have m1 := (hms (noN p1)).mpr (by simp)
          have m2 := (hms (noN p2)).mpr (by simp)
          match ms, m1, m2, hlt with
          | [], m1, _, _ => cases m1
          | [a], m1, m2, _ =>
            simp at m1 m2
            omega
        refine if_f (decide_eq_false (by simp [iV]; omega)) ?_
        refine ⟨_, rfl, L, _, _, _, rfl, rfl, SqL.of gL6, (by exact atI_nat (j := 0) rfl), rfl, _, rfl, if_f (by decide) ?_⟩
        refine ⟨_, rfl, L, _, _, _, rfl, rfl, SqL.of gL6, (by exact atI_nat (j := 0) rfl), rfl, _, rfl, if_f (by decide) ?_⟩
        refine ⟨_, rfl, _, rfl, L, _, _, _, rfl, rfl, SqL.of gL6, rfl, p3, rfl, lp p3 (by simp), fun b hb H7 e7 => k b (hb.trans ?_) H7 (e06.trans e7)⟩
        rw [sx_move hsp]
        constructor
        · intro h; exact ⟨⟨⟨by omega, by omega⟩, ⟨by omega, by omega⟩, ne⟩, h⟩
        · intro h; exact h.2
      · obtain ⟨p1, p2, rfl⟩ : ∃ p1 p2, ps = [p1, p2] := by
          match ps, hn with
          | [p1, p2], _ => exact ⟨p1, p2, rfl⟩
        refine if_f (by rw [hw]; simp) ⟨_, rfl, L, _, _, _, rfl, rfl, SqL.of gL, (by exact atI_nat (j := 0) rfl), rfl, _, rfl, if_f (by decide) ?_⟩
        refine ⟨_, rfl, _, rfl, L, _, _, _, rfl, rfl, SqL.of gL, (by exact atI_nat (j := 0) rfl), three, fun t ht => ?_⟩
        have e3 := Evl.Ex.new (o := .tup [.str "pour", .str "scoop", .str "move"]) ht
        have gL3 := e3 _ _ gL
        have e03 := e02.trans e3
        refine ⟨t, _, rfl, .inr (SqT.of upd_same), rfl, rfl, .inr ⟨_, rfl, _, _, rfl, rfl, ?_⟩⟩
        refine ⟨_, rfl, 1, rfl, _, rfl, _, rfl, L, _, rfl, SqL.of gL3, fun q hq => ?_⟩
        have e4 := Evl.Ex.new (o := .lst (([p1, p2] : List Str).map V.str)) hq
        have g4 := upd_same (H := upd H2 t (.tup [.str "pour", .str "scoop", .str "move"])) (a := q) (o := .lst (([p1, p2] : List Str).map V.str))
        refine ⟨q, rfl, ⟨_, SqL.of g4⟩, fun D hD => lc_no (ps := [p1, p2]) (by simp) (fun z hz => lp z (by simp at hz ⊢; rcases hz with rfl | rfl <;> simp)) hD g4 (fun _ => rfl) (fun _ => rfl) (fun H5 e5 h5 => ?_)⟩
        have e45 := e4.trans e5
        have e05 := e03.trans e45
        have gL5 := e45 _ _ gL3
        have h5 : H5 D = some (.lst (iV [noN p1, noN p2])) := h5
        refine ⟨_, rfl, D, [noN p1, noN p2], rfl, SqL.of h5, by simp, fun m hm hle => ⟨_, _, rfl, rfl, _, rfl, ?_⟩⟩
        by_cases m0 : m < 0
        · refine if_t (decide_eq_true m0) (if_t rfl (no e05 fun h => ?_))
          have := (sx_unless hsp).mp h
          simp at hm
          omega
        refine if_f (decide_eq_false m0) ⟨_, rfl, D, [noN p1, noN p2], rfl, SqL.of h5, by simp, fun m2 hm2 hle2 => ⟨_, rfl, _, _, rfl, rfl, _, rfl, ?_⟩⟩
        by_cases m3 : n ≤ m2
        · refine if_t (decide_eq_true m3) (if_t rfl (no e05 fun h => ?_))
          have := (sx_unless hsp).mp h
          simp at hm2
          omega
        refine if_f (decide_eq_false m3) ⟨_, rfl, D, [noN p1, noN p2], rfl, SqL.of h5, by simp, fun sa ms hsa hnd hms => ?_⟩
        have e6 := Evl.Ex.new (o := SetO w sa (fun j => decide (j ∈ [noN p1, noN p2])) ms.length) hsa
        have h6 := e6 _ _ h5
        have e06 := e05.trans e6
        have gL6 := e6 _ _ gL5
        refine ⟨sa, _, _, rfl, upd_same, _, rfl, D, _, rfl, .inl (SqL.of h6), _, _, rfl, rfl, _, rfl, ?_⟩
        have z1 := hle (noN p1) (by simp)
        have y1 := hle2 (noN p1) (by simp)
        have z2 := hle (noN p2) (by simp)
        have y2 := hle2 (noN p2) (by simp)
        by_cases ne : noN p1 = noN p2
        · have l1 : ms.length = 1 := by
            have : ms = [noN p1] := by
              match ms, hnd, hms with
              | [], _, hms => exact absurd ((hms (noN p1)).mpr (by simp)) (by simp)
              | [a], _, hms => rw [show a = noN p1 by have := (hms a).mp (by simp); simp at this; rcases this with h | h <;> omega]
              | a :: b :: r, hnd, hms =>
                have h1 : a = noN p1 := by have := (hms a).mp (by simp); simp at this; rcases this with h | h <;> omega
                have h2 : b = noN p1 := by have := (hms b).mp (by simp); simp at this; rcases this with h | h <;> omega
                rw [h1, h2] at hnd
                simp at hnd
            rw [this]; rfl
          refine if_t (decide_eq_true (by rw [l1]; simp [iV])) (no e06 fun h => ?_)
          have := (sx_unless hsp).mp h
          omega
        have l2 : ¬ ms.length < 2 := fun hlt => by
          have m1 := (hms (noN p1)).mpr (by simp)
          have m2 := (hms (noN p2)).mpr (by simp)
          match ms, m1, m2, hlt with
          | [], m1, _, _ => cases m1
          | [a], m1, m2, _ =>
            simp at m1 m2
            omega
        refine if_f (decide_eq_false (by simp [iV]; omega)) ?_
        refine ⟨_, rfl, L, _, _, _, rfl, rfl, SqL.of gL6, (by exact atI_nat (j := 0) rfl), rfl, _, rfl, if_f (by decide) ?_⟩
        refine ⟨_, rfl, L, _, _, _, rfl, rfl, SqL.of gL6, (by exact atI_nat (j := 0) rfl), rfl, _, rfl, if_t (by decide) ?_⟩
        exact k true ⟨fun _ => (sx_unless hsp).mpr ⟨⟨by omega, by omega⟩, ⟨by omega, by omega⟩, ne⟩, fun _ => rfl⟩ _ e06
    · refine if_t ?_ (no e02 (sx_no hsp hw))
      cases hx : thN wd with
      | none => simp; omega
      | some m =>
        rw [hx] at hw
        simp only [Option.some.injEq] at hw
        simp
        omega
end
end V2


namespace V2
open PySem L2
open PySem.Spec PyProof.Rows
/-- a text of a script -/
def ScX (x : Str) : Prop := ∃ ts ss, ScT x ts ss ∧ scB ts ss = true
def cma (x : Str) : Nat := (TL.tl x).count 44
theorem joinL_count_ge {y : List Nat} {s : Nat} : ∀ {ps : List (List Nat)} {p : List Nat}, p ∈ ps → p.count s ≤ (TL.joinL y ps).count s
  | [], p, h => by cases h
  | [q], p, h => by
    obtain rfl : p = q := by simpa using h
    exact Nat.le_refl _
  | q :: r :: ps, p, h => by
    show _ ≤ (q ++ (y ++ TL.joinL y (r :: ps))).count s
    rw [List.count_append, List.count_append]
    rcases List.mem_cons.mp h with e | e
    · subst e; omega
    · have := joinL_count_ge (y := y) (s := s) e
      omega
theorem joinL_count_seps {y : List Nat} {s : Nat} (hy : s ∈ y) : ∀ ps : List (List Nat), ps.length ≤ (TL.joinL y ps).count s + 1
  | [] => Nat.zero_le _
  | [_] => by simp
  | q :: r :: ps => by
    have ih := joinL_count_seps hy (r :: ps)
    have h1 : 1 ≤ y.count s := List.count_pos_iff.mpr hy
    show _ ≤ (q ++ (y ++ TL.joinL y (r :: ps))).count s + 1
    rw [List.count_append, List.count_append]
    rw [List.length_cons]
    omega
theorem cma_piece {x y p : Str} (h : p ∈ Txt.split x y) : cma p ≤ cma x := by
  have z := joinL_count_ge (y := TL.tl y) (s := 44) (List.mem_map.mpr ⟨p, h, rfl⟩ : TL.tl p ∈ (Txt.split x y).map TL.tl)
  rw [← TL.tl_join, ← TL.join_eq, split_join] at z
  exact z
theorem cma_split (x : Str) : (Txt.split x ",").length ≤ cma x + 1 := by
  have z := joinL_count_seps t44 ((Txt.split x ",").map TL.tl)
  rw [← TL.tl_join, ← TL.join_eq, split_join, List.length_map] at z
  exact z
theorem cmB_of {x : Str} (h : cma x ≤ 3990) : CmB x := fun p hp => by
  have h1 := cma_split p
  have h2 := cma_piece hp
  omega
/-! ### tanks -/
/-- what a tank's text is -/
def TkX (x : Str) (t : Tk) : Prop := TkP x t ∧ tkB t = true
theorem in_join (a b : Str) : Txt.join " " [a, "in", b] = Txt.join " in " [a, b] := by
  refine tl_inj1 ?_
  rw [TL.join_eq, TL.join_eq, TL.tl_join, TL.tl_join]
  show TL.tl a ++ (TL.tl " " ++ (TL.tl "in" ++ (TL.tl " " ++ TL.tl b))) = TL.tl a ++ (TL.tl " in " ++ TL.tl b)
  have e : TL.tl (" in " : Str) = TL.tl (" " : Str) ++ (TL.tl ("in" : Str) ++ TL.tl (" " : Str)) := by decide +kernel
  rw [e, List.append_assoc, List.append_assoc]
theorem nT32 (n : Int) : 32 ∉ TL.tl (nT n) := nT_free (by omega) (by omega)
theorem wT32 (t : Option Int) : 32 ∉ TL.tl (wT t) := by
  cases t with
  | none => decide +kernel
  | some z => exact nT32 z
theorem nT_w (z : Int) : nT z ≠ "w" := fun q => by
  have : 119 ∉ TL.tl (nT z) := nT_free (by omega) (by omega)
  rw [q] at this
  exact this (by decide +kernel)
theorem tkX_split {x : Str} {t : Tk} (h : TkX x t) : Txt.split x " in " = [nT t.2, wT t.1] ∧ 0 ≤ noN (nT t.2) ∧ (wT t.1 = "w" ↔ t.1.isNone = true) ∧ (t.1.isNone = false → 1 ≤ noN (wT t.1)) := by
  obtain ⟨⟨h1, h2, h3⟩, hb⟩ := h
  obtain ⟨tw, ta⟩ := t
  unfold tkB at hb
  rw [Bool.and_eq_true] at hb
  have b2 : 0 ≤ ta := of_decide_eq_true hb.2
  have h2 : ta.natAbs ≤ 999999999 := h2
  have hx : x = Txt.join " in " [nT ta, wT tw] := by
    rw [← in_join, ← show Txt.split x " " = [nT ta, "in", wT tw] from h1]
    exact (split_join _ _).symm
  refine ⟨?_, by rw [noN_nT b2 (by omega)]; exact b2, ?_, ?_⟩
  · rw [hx]
    refine TL.split_join (y := " in ") (s := 32) (S := [105, 110, 32]) (by decide +kernel) (by decide +kernel) (List.cons_ne_nil _ _) (fun z hz => ?_)
    simp only [List.mem_cons, List.not_mem_nil, or_false] at hz
    rcases hz with rfl | rfl
    · exact nT32 _
    · exact wT32 _
  · cases tw with
    | none => exact ⟨fun _ => rfl, fun _ => rfl⟩
    | some z => exact ⟨fun q => absurd q (nT_w z), fun q => by cases q⟩
  · intro q
    cases tw with
    | none => cases q
    | some z =>
      have b1 : 1 ≤ z := of_decide_eq_true hb.1
      have h3 := h3 z rfl
      show 1 ≤ noN (nT z)
      rw [noN_nT (by omega) (by omega)]
      exact b1
theorem tkX_of {x p0 p1 : Str} (hs : Txt.split x " in " = [p0, p1]) (h0 : 0 ≤ noN p0) (h1 : p1 = "w" ∨ 1 ≤ noN p1) : ∃ t, TkX x t ∧ (t.1.isNone = true ↔ p1 = "w") := by
  obtain ⟨a9, ea⟩ := noN_pos h0
  have fin : ∀ tw : Option Int, p1 = wT tw → (∀ z, tw = some z → 1 ≤ z ∧ z ≤ 999999999) → TkX x (tw, noN p0) := fun tw hw hz => by
    refine ⟨⟨?_, by show (noN p0).natAbs ≤ _; omega, fun z h => by have := hz z h; omega⟩, ?_⟩
    · have hx : x = Txt.join " " [nT (noN p0), "in", wT tw] := by
        rw [in_join, ← ea, ← hw, ← hs]
        exact (split_join _ _).symm
      rw [hx]
      refine TL.split_join (y := " ") (s := 32) (S := []) (by decide +kernel) (by decide +kernel) (List.cons_ne_nil _ _) (fun z hz => ?_)
      simp only [List.mem_cons, List.not_mem_nil, or_false] at hz
      rcases hz with rfl | rfl | rfl
      · exact nT32 _
      · decide +kernel
      · exact wT32 _
    · unfold tkB
      rw [Bool.and_eq_true]
      refine ⟨?_, decide_eq_true h0⟩
      cases tw with
      | none => rfl
      | some z => exact decide_eq_true (hz z rfl).1
  by_cases hw : p1 = "w"
  · exact ⟨(none, noN p0), fin none hw (fun z h => by cases h), ⟨fun _ => hw, fun _ => rfl⟩⟩
  · have h1 := h1.resolve_left hw
    obtain ⟨b9, eb⟩ := noN_pos (x := p1) (by omega)
    exact ⟨(some (noN p1), noN p0), fin (some (noN p1)) eb (fun z h => by cases h; exact ⟨h1, b9⟩), ⟨fun h => absurd (show (false : Bool) = true from h) (by decide), fun h => absurd h hw⟩⟩
/-! ### a script -/
theorem al2_all {α : Type} {R : Str → α → Prop} {f : α → Bool} : ∀ {ps : List Str} {as : List α}, Al2 R ps as → as.all f = true → Al2 (fun x a => R x a ∧ f a = true) ps as
  | _, _, .nil, _ => .nil
  | _, _, .cons a b, h => by
    rw [List.all_cons, Bool.and_eq_true] at h
    exact .cons ⟨a, h.1⟩ (al2_all b h.2)
theorem al2_un {α : Type} {R : Str → α → Prop} {f : α → Bool} : ∀ {ps : List Str} {as : List α}, Al2 (fun x a => R x a ∧ f a = true) ps as → Al2 R ps as ∧ as.all f = true
  | _, _, .nil => ⟨.nil, rfl⟩
  | _, _, .cons a b => by
    obtain ⟨h1, h2⟩ := al2_un b
    exact ⟨.cons a.1 h1, by rw [List.all_cons, a.2, h2]; rfl⟩
theorem al2_get {α : Type} {R : Str → α → Prop} : ∀ {ps : List Str} {as : List α} {p : Str}, Al2 R ps as → p ∈ ps → ∃ a, R p a
  | _, _, p, .cons x b, h => (List.mem_cons.mp h).elim (fun e => ⟨_, e ▸ x⟩) fun h => al2_get b h
theorem al2_mk {α : Type} {R : Str → α → Prop} : ∀ {ps : List Str}, (∀ p ∈ ps, ∃ a, R p a) → ∃ as, Al2 R ps as
  | [], _ => ⟨[], .nil⟩
  | p :: ps, h => by
    obtain ⟨a, ha⟩ := h p List.mem_cons_self
    obtain ⟨as, has⟩ := al2_mk fun q hq => h q (List.mem_cons_of_mem _ hq)
    exact ⟨a :: as, .cons ha has⟩
theorem Al2.snoc {α : Type} {R : Str → α → Prop} {p : Str} {a : α} : ∀ {ps : List Str} {as : List α}, Al2 R ps as → R p a → Al2 R (ps ++ [p]) (as ++ [a])
  | _, _, .nil, h => .cons h .nil
  | _, _, .cons a b, h => .cons a (b.snoc h)
theorem tkX_uniq (x : Str) (s t : Tk) (hs : TkX x s) (ht : TkX x t) : s = t := tkP_uniq x s t hs.1 ht.1
theorem scX_iff {x p0 : Str} {qs : List Str} {ts : List Tk} (hs : Txt.split x "; " = p0 :: qs) (ht : Al2 TkX (Txt.split p0 ", ") ts) : ScX x ↔ ts.countP (fun t => t.1.isNone) = 1 ∧ ∀ q ∈ qs, SX ts.length q := by
  constructor
  · rintro ⟨us, ss, ⟨p, ps, h1, h2, h3⟩, hb⟩
    rw [hs] at h1
    injection h1 with e1 e2
    subst e1 e2
    unfold scB at hb
    simp only [Bool.and_eq_true] at hb
    have e : us = ts := (al2_all h2 hb.1).uniq tkX_uniq ht
    subst e
    refine ⟨of_decide_eq_true hb.2.1, fun q hq => ?_⟩
    obtain ⟨s, h⟩ := al2_get (al2_all (f := fun s : Sg => sgOk us.length s.1 s.2) h3 hb.2.2) hq
    exact ⟨s, h⟩
  · rintro ⟨hc, hq⟩
    obtain ⟨ss, hss⟩ := al2_mk (R := fun x s => StP x s ∧ sgOk ts.length s.1 s.2 = true) hq
    obtain ⟨h1, h2⟩ := al2_un (f := fun s : Sg => sgOk ts.length s.1 s.2) hss
    obtain ⟨h3, h4⟩ := al2_un (f := tkB) ht
    refine ⟨ts, ss, ⟨p0, qs, hs, h3, h1⟩, ?_⟩
    unfold scB
    rw [h4, h2, decide_eq_true hc]
    rfl
theorem scX_tk {x p0 : Str} {qs : List Str} (hs : Txt.split x "; " = p0 :: qs) (h : ScX x) : ∀ p ∈ Txt.split p0 ", ", ∃ t, TkX p t := by
  obtain ⟨us, ss, ⟨p, ps, h1, h2, h3⟩, hb⟩ := h
  rw [hs] at h1
  injection h1 with e1 e2
  subst e1 e2
  unfold scB at hb
  simp only [Bool.and_eq_true] at hb
  exact fun q hq => al2_get (al2_all h2 hb.1) hq
theorem eqv_strs : ∀ l : List Str, PyData.eqv (.list (l.map .str)) (.list []) = decide (l = [])
  | [] => by simp [PyData.eqv, PyData.eqvAll]
  | _ :: _ => by simp [PyData.eqv, PyData.eqvAll]
def spScL : Sp := fun vs H Q _ => ∃ x : Str, vs = [.str x] ∧ x.length ≤ 200000 ∧ cma x ≤ 3990 ∧ ∀ b : Bool, (b = true ↔ ScX x) → Evl.RetV (.bl b) H Q
end V2


namespace V2
open PySem L2
open PySem.Spec PyProof.Rows
/-- a == b, two lists, the second one empty -/
def rEq0 (K : PySem.W.Frag) : R2 := fun x y H Q => ∃ (a b : Addr) (xs : List V), x = .ref a ∧ y = .ref b ∧ SqL K H a xs ∧ SqL K H b [] ∧ Q (.bl (decide (xs = []))) H
theorem op_eq0 {X : Cx} (hu : X.A.units + 64 < cLine) : OpR X (compareOp .Eq) (rEq0 X.K) := by
  intro pins s σ H x y v u Q I rx ry h
  obtain ⟨a, b, xs, rfl, rfl, ha, hb, q⟩ := h
  cases (show v = Value.ref a from rx)
  cases (show u = Value.ref b from ry)
  obtain ⟨us, r1, p1, _⟩ := I.list ha
  obtain ⟨ws, r2, p2, _⟩ := I.list hb
  cases r2
  cases xs with
  | nil =>
    cases r1
    exact SeqAt.eq_listAt (e := fun _ => true) p1.isList p2.isList rfl (by omega) (fun j h1 _ => absurd h1 (Nat.not_lt_zero _)) ⟨.bl _, H, I, rfl, q⟩
  | cons z zs =>
    cases r1
    exact SeqAt.eq_list_lengthsAt p1.isList p2.isList rfl (by omega) ⟨.bl _, H, I, rfl, q⟩
end V2


namespace V2
open PySem L2
open PySem.Spec PyProof.Rows
theorem flt_snoc {α : Type} {p : α → Bool} {l : List α} {i : Nat} {c : α} (hc : l[i]? = some c) : (l.take (i + 1)).filter p = (l.take i).filter p ++ (if p c = true then [c] else []) := flt_take hc
section
variable {base : Heap} {mg : Str → Option Value} {K : PySem.W.Frag} {w : World} {P : Program}
open Classical in
theorem ok_l_is_script {f : Addr} {fd : FuncData} (F : Fun K "_law_is_script" "_law_is_script" s_l_is_script f fd) (mL : mg "len" = none) (cN : Cal P w K mg base 1 "_law_number_of" p_l_number_of spNo) (cS : Cal P w K mg base 3 "_law_is_step" p_l_is_step spStL) : FnOk P w K mg base CX0 4 f fd p_l_is_script spScL := by
  refine F.ok sc_l_is_script (fun vs H Q E h => ?_) (fun cdv A outer s H vs Q E hr h => ?_)
  · obtain ⟨x, rfl, _⟩ := h
    rfl
  · obtain ⟨x, rfl, lx, cx, k⟩ := h
    have nd := sc_l_is_script.nd
    have r1 : Room 1 _ := hr.mono (by decide)
    have szx : x.length + 2 ≤ sizeLine := Nat.le_trans (Nat.add_le_add_right lx 2) (by decide)
    refine ⟨_, pss_cons (ps_set (i := 1) nd rfl (Or.inl rfl) (pe_split (pv 0) pe_str))
      (pss_cons (ps_set (i := 2) nd rfl (Or.inr rfl) (pe_split (pe_ix ix_list (pv 1) pe_int (fun _ _ => rfl)) pe_str))
      (pss_cons (ps_set (i := 3) nd rfl (Or.inl rfl) pe_int)
      (pss_cons (ps_for PassesOwn.never rfl (pi_list (pv 2)) (pg_name (i := 4) nd rfl (Or.inl rfl))
        (pss_cons (ps_set (i := 5) nd rfl (Or.inl rfl) (pe_split (pv 4) pe_str))
        (pss_cons (ps_if (PW.pt (pw_or (pt_cmpR op_ne (pe_callB call_len_seq (by rfl) mL PySem.boot_len (pa_cons (pv 5) pa_nil)) pe_int (nomark _)) (pw_or1 (pt_cmpR op_lt (pe_c cN r1 (pa_cons (pe_ix ix_list (pv 5) pe_int (fun _ _ => rfl)) pa_nil)) pe_int (nomark _))))) (pss_one (ps_ret pe_bl)) pss_nil)
        (pss_one (ps_if (pt_cmpR op_eq (pe_ix ix_list (pv 5) pe_int (fun _ _ => rfl)) pe_str (nomark _)) (pss_one (ps_set (i := 3) nd rfl (Or.inl rfl) (pe_op op_add (pv 3) pe_int)))
          (pss_one (ps_if (pt_cmpR op_lt (pe_c cN r1 (pa_cons (pe_ix ix_list (pv 5) pe_int (fun _ _ => rfl)) pa_nil)) pe_int (nomark _)) (pss_one (ps_ret pe_bl)) pss_nil)))))))
      (pss_cons (ps_if (pt_cmpR op_ne (pv 3) pe_int (nomark _)) (pss_one (ps_ret pe_bl)) pss_nil)
      (pss_one (ps_ret (pe_cmpR (op_eq0 hr.units) (pe_lc (own := [("one", 4)]) (g := gName 4) (tt := tNot (tB (tCall spStL [] E0 (tCons (tVar 4) (tCons (tCB (Evl.rLenS K) (tCons (tVar 2) tNil)) tNil))))) (te := tVar 4) rfl nd (pi_list (pe_slice sl_list (pv 1) (po_some pe_int) po_none)) (blkOk_by (N := n_l_is_script) (sc := defScope s_l_is_script) (by decide +kernel)) (fun _ _ _ _ _ => pg_name (i := 4) nd rfl (Or.inl rfl)) (fun _ _ _ _ _ => pts_one (pt_not (pt_val (pe_c cS hr (pa_cons (pv 4) (pa_cons (pe_callB call_len_seq (by rfl) mL PySem.boot_len (pa_cons (pv 2) pa_nil)) pa_nil)))))) (fun _ _ _ _ _ => pv 4)) (pe_lst pa_nil) (nomark _)))))))), ?_⟩
    refine ⟨_, rfl, ⟨_, rfl⟩, _, _, rfl, rfl, rfl, szx, fun L hL => ?_⟩
    obtain ⟨p0, qs, hsp⟩ : ∃ p0 qs, Txt.split x "; " = p0 :: qs := by
      cases h : Txt.split x "; " with
      | nil => exact absurd h (split_ne x (by decide +kernel))
      | cons a b => exact ⟨a, b, rfl⟩
    have hm : ∀ q ∈ p0 :: qs, q.length ≤ 200000 ∧ cma q ≤ 3990 := fun q hq => by
      have hq : q ∈ Txt.split x "; " := by rw [hsp]; exact hq
      exact ⟨Nat.le_trans (split_mem_le hq) lx, Nat.le_trans (cma_piece hq) cx⟩
    have c1 := split_cnt (x := x) (y := "; ") (by decide)
    rw [hsp, List.length_cons] at c1
    have hp0 := hm p0 List.mem_cons_self
    have c2 := split_cnt (x := p0) (y := ", ") (by decide)
    have szp : p0.length + 2 ≤ sizeLine := Nat.le_trans (Nat.add_le_add_right hp0.1 2) (by decide)
    rw [hsp]
    have e1 := Evl.Ex.new (o := .lst ((p0 :: qs).map V.str)) hL
    have gL := upd_same (H := H) (a := L) (o := .lst ((p0 :: qs).map V.str))
    generalize upd H L (.lst ((p0 :: qs).map V.str)) = H1 at e1 gL
    refine ⟨_, rfl, L, _, _, _, rfl, rfl, SqL.of gL, (by exact atI_nat (j := 0) rfl), ⟨_, rfl⟩, _, _, rfl, rfl, rfl, szp, fun T hT => ?_⟩
    obtain ⟨ps, hps⟩ : ∃ ps, Txt.split p0 ", " = ps := ⟨_, rfl⟩
    have lq : ∀ q ∈ ps, q.length ≤ 200000 := fun q hq => Nat.le_trans (split_mem_le (x := p0) (y := ", ") (by rw [hps]; exact hq)) hp0.1
    have tk0 := scX_tk (x := x) hsp
    have iff0 := fun ts h => scX_iff (x := x) (ts := ts) hsp h
    rw [hps] at c2 tk0 iff0 ⊢
    have e2 := Evl.Ex.new (o := .lst (ps.map V.str)) hT
    have gT := upd_same (H := H1) (a := T) (o := .lst (ps.map V.str))
    have gL := e2 _ _ gL
    generalize upd H1 T (.lst (ps.map V.str)) = H2 at e2 gL gT
    have e02 := e1.trans e2
    have no : ∀ {H3 : Hp}, Evl.Ex H H3 → ¬ ScX x → Q (.bl false) H3 := fun {H3} e h => k false ⟨fun z => Bool.noConfusion z, fun z => absurd z h⟩ H3 e
    refine ⟨_, rfl, T, rfl, ⟨_, SqL.of gT⟩, for_list (xs := ps.map V.str) (fun i σ H' => Evl.Ex H2 H' ∧ ∃ (ts : List Tk) (v u : Option V), Al2 TkX (ps.take i) ts ∧ σ = [some (.str x), some (.ref L), some (.ref T), some (.int ((ts.countP (fun t => t.1.isNone) : Nat) : Int)), v, u]) ⟨Evl.Ex.refl _, [], none, none, .nil, rfl⟩ (fun i σ H' _ q => SqL.of (q.1 _ _ gT)) ?_ ?_⟩
    · rintro i y σ H3 hi ⟨e3, ts, v, u, hts, rfl⟩
      rw [List.getElem?_map] at hi
      obtain ⟨p, hp, rfl⟩ := Option.map_eq_some_iff.mp hi
      have hpm := List.mem_of_getElem? hp
      have szq : p.length + 2 ≤ sizeLine := Nat.le_trans (Nat.add_le_add_right (lq p hpm) 2) (by decide)
      have bad : ∀ {H4 : Hp}, Evl.Ex H3 H4 → (∀ t, ¬ TkX p t) → Q (.bl false) H4 := fun {H4} e4 hb => no ((e02.trans e3).trans e4) fun h => by
        obtain ⟨t, ht⟩ := tk0 h p hpm
        exact hb t ht
      refine ⟨_, rfl, ⟨_, rfl⟩, _, _, rfl, rfl, rfl, szq, fun M hM => ?_⟩
      obtain ⟨cs, hcs⟩ : ∃ cs, Txt.split p " in " = cs := ⟨_, rfl⟩
      have lc : ∀ q ∈ cs, q.length ≤ 200000 := fun q hq => Nat.le_trans (split_mem_le (x := p) (y := " in ") (by rw [hcs]; exact hq)) (lq p hpm)
      have spl : ∀ t, TkX p t → cs = [nT t.2, wT t.1] ∧ 0 ≤ noN (nT t.2) ∧ (wT t.1 = "w" ↔ t.1.isNone = true) ∧ (t.1.isNone = false → 1 ≤ noN (wT t.1)) := fun t ht => by
        have := tkX_split ht
        rw [hcs] at this
        exact this
      have mk := fun {a b : Str} (h : cs = [a, b]) => tkX_of (x := p) (hcs.trans h)
      rw [hcs]
      have e4 := Evl.Ex.new (o := .lst (cs.map V.str)) hM
      have gM := upd_same (H := H3) (a := M) (o := .lst (cs.map V.str))
      generalize upd H3 M (.lst (cs.map V.str)) = H4 at e4 gM
      refine ⟨_, rfl, M, _, rfl, .inl (SqL.of gM), rfl, _, rfl, ?_⟩
      by_cases h2 : cs.length = 2
      · obtain ⟨a, b, rfl⟩ : ∃ a b, cs = [a, b] := by
          match cs, h2 with
          | [a, b], _ => exact ⟨a, b, rfl⟩
        have mk := mk rfl
        refine if_f (by simp) ⟨_, rfl, M, _, _, _, rfl, rfl, SqL.of gM, (by exact atI_nat (j := 0) rfl), a, rfl, lc a (by simp), fun H5 e5 => ⟨_, _, rfl, rfl, _, rfl, ?_⟩⟩
        have e45 := e4.trans e5
        by_cases a0 : noN a < 0
        · refine if_t (decide_eq_true a0) (bad e45 fun t ht => ?_)
          obtain ⟨h1, h2, _⟩ := spl t ht
          injection h1 with q1 _
          rw [q1] at a0
          omega
        refine if_f (decide_eq_false a0) ⟨_, rfl, M, _, _, _, rfl, rfl, SqL.of (e5 _ _ gM), (by exact atI_nat (j := 1) rfl), rfl, _, rfl, ?_⟩
        by_cases hw : b = "w"
        · obtain ⟨t, ht, hn⟩ := mk (by omega) (.inl hw)
          refine if_t (decide_eq_true (by rw [hw])) ⟨_, rfl, _, _, rfl, rfl, e3.trans e45, ts ++ [t], some (.str p), some (.ref M), ?_, ?_⟩
          · rw [List.take_add_one, hp]; exact hts.snoc ht
          · rw [List.countP_append, List.countP_singleton, if_pos (hn.mpr hw)]
            rfl
        · refine if_f (decide_eq_false fun h => hw (by injection h)) ⟨_, rfl, M, _, _, _, rfl, rfl, SqL.of (e5 _ _ gM), (by exact atI_nat (j := 1) rfl), b, rfl, lc b (by simp), fun H6 e6 => ⟨_, _, rfl, rfl, _, rfl, ?_⟩⟩
          have e46 := e45.trans e6
          by_cases b1 : noN b < 1
          · refine if_t (decide_eq_true b1) (bad e46 fun t ht => ?_)
            obtain ⟨h1, h2, h3, h4⟩ := spl t ht
            injection h1 with q1 q2
            injection q2 with q2 _
            cases hn : t.1.isNone with
            | true => exact hw (q2.trans (h3.mpr hn))
            | false =>
              have := h4 hn
              rw [q2] at b1
              omega
          · obtain ⟨t, ht, hn⟩ := mk (by omega) (.inr (by omega))
            refine if_f (decide_eq_false b1) ⟨e3.trans e46, ts ++ [t], some (.str p), some (.ref M), ?_, ?_⟩
            · rw [List.take_add_one, hp]; exact hts.snoc ht
            · rw [List.countP_append, List.countP_singleton, if_neg (fun h => hw (hn.mp h))]
              rfl
      · refine if_t ?_ (if_t rfl (bad e4 fun t ht => ?_))
        · rw [decide_eq_false (fun z => h2 (by injection z with z; rw [List.length_map] at z; omega))]
          rfl
        · obtain ⟨h1, _⟩ := spl t ht
          exact h2 (by rw [h1]; rfl)
    · rintro σ H3 ⟨e3, ts, v, u, hts, rfl⟩
      rw [List.length_map, List.take_length] at hts
      have iff1 := iff0 ts hts
      have e03 := e02.trans e3
      have tl := hts.len
      refine ⟨_, rfl, rfl, _, rfl, ?_⟩
      by_cases hc : ts.countP (fun t => t.1.isNone) = 1
      · rw [hc]
        refine if_f (by decide) ?_
        rw [hc] at iff1
        have gL3 := e3 _ _ gL
        have gT3 := e3 _ _ gT
        have gc : cutV ((p0 :: qs).map V.str) (some 1) none = qs.map V.str := by
          unfold cutV
          rw [show (1 : Int) = ((1 : Nat) : Int) from rfl, HT.sIx_nat, HT.sIx_none]
          simp
          exact List.take_of_length_le (by rw [List.length_map]; exact Nat.le_refl _)
        refine ⟨_, rfl, 1, rfl, L, _, rfl, SqL.of gL3, fun r hr' => ?_⟩
        have e4 := Evl.Ex.new (o := .lst (cutV ((p0 :: qs).map V.str) (some 1) none)) hr'
        have g4 : upd H3 r (.lst (cutV ((p0 :: qs).map V.str) (some 1) none)) r = some (.lst (qs.map V.str)) := by rw [upd_same, gc]
        generalize upd H3 r (.lst (cutV ((p0 :: qs).map V.str) (some 1) none)) = H4 at e4 g4
        refine ⟨r, rfl, ⟨_, SqL.of g4⟩, fun D hD => lc_list (xs := qs.map V.str) (fun i H' => Evl.Ex H4 H' ∧ H' D = some (.lst (((qs.take i).filter fun q => !decide (SX ts.length q)).map V.str))) ⟨Evl.Ex.new hD, upd_same⟩ (fun i H' _ q => SqL.of (q.1 _ _ g4)) ?_ ?_⟩
        · rintro i y H' hi ⟨e5, h5⟩
          rw [List.getElem?_map] at hi
          obtain ⟨q, hq, rfl⟩ := Option.map_eq_some_iff.mp hi
          have hqm := hm q (List.mem_cons_of_mem _ (List.mem_of_getElem? hq))
          refine ⟨rfl, ?_⟩
          show tNot (tB (tCall spStL [] E0 (tCons (tVar 4) (tCons (tCB (Evl.rLenS K) (tCons (tVar 2) tNil)) tNil)))) _ _ _
          refine ⟨_, rfl, _, rfl, T, _, rfl, .inl (SqL.of (e5 _ _ (e4 _ _ gT3))), q, _, rfl, hqm.1, cmB_of hqm.2, fun b hb H6 e6 => ⟨_, rfl, ?_⟩⟩
          have hb' : b = decide (SX ts.length q) := by
            rw [List.length_map, tl] at hb
            cases b with
            | true => exact (decide_eq_true (hb.mp rfl)).symm
            | false => exact (decide_eq_false fun h => Bool.noConfusion (hb.mpr h)).symm
          have tk := flt_take (p := fun q => !decide (SX ts.length q)) hq
          rw [← hb'] at tk
          cases b with
          | true =>
            refine if_f rfl ⟨e5.trans e6, ?_⟩
            rw [e6 _ _ h5, tk, if_neg (by decide), List.append_nil]
          | false =>
            refine if_t rfl ⟨_, rfl, _, e6 _ _ h5, ?_, Evl.Ex.mut (e5.trans e6) hD, ?_⟩
            · rw [List.length_map]
              exact Nat.lt_of_le_of_lt (Nat.le_trans (List.length_filter_le _ _) (by rw [List.length_take]; show min i qs.length ≤ 200001; omega)) (by decide)
            · rw [upd_same, tk, if_pos (by decide), List.map_append]
              rfl
        rintro H5 ⟨e5, h5⟩
        rw [List.length_map, List.take_length] at h5
        refine ⟨Nat.zero_le _, fun z hz => ?_⟩
        have e6 := Evl.Ex.new (o := .lst []) hz
        refine ⟨D, z, _, rfl, rfl, SqL.of (e6 _ _ h5), SqL.of upd_same, ?_⟩
        refine k _ ?_ _ (((e03.trans e4).trans e5).trans e6)
        rw [decide_eq_true_iff, iff1, List.map_eq_nil_iff, List.filter_eq_nil_iff]
        constructor
        · intro h
          refine ⟨rfl, fun q hq => ?_⟩
          have := h q hq
          simpa using this
        · rintro ⟨_, h⟩ q hq
          simpa using h q hq
      · refine if_t ?_ (no e03 fun h => hc (iff1.mp h).1)
        rw [decide_eq_false (fun z => hc (by injection z with z; omega))]
        rfl
end
end V2


namespace V2
open PySem L2
open PySem.Spec PyProof.Rows
section
variable {base : Heap} {mg : Str → Option Value} {K : PySem.W.Frag} {w : World} {P : Program}
theorem ok_coinL {f : Addr} {fd : FuncData} (F : Fun K "_law_coin" "_law_coin" s_l_coin f fd) (T : T0 mg) : FnOk P w K mg base CX0 1 f fd p_l_coin spCoin := by
  refine F.ok sc_l_coin (fun vs H Q E h => ?_) (fun cdv A outer s H vs Q E hr h => ?_)
  · obtain ⟨p, many, m, rfl, _⟩ := h
    rfl
  · obtain ⟨p, many, m, rfl, ⟨a, b, c, hp, ha, hb, hb2, hc, hc2⟩, hm, h0, h200, k⟩ := h
    have nd := sc_l_coin.nd
    refine ⟨_, pss_cons (ps_if (pt_cmpR op_gt (pe_ix ix_list (pv 0) pe_int (fun _ _ => rfl)) pe_int (nomark _))
        (pss_cons (ps_set (i := 2) nd rfl (Or.inl rfl) (pe_op op_mod (pe_callTy call_int1 (by rfl) T.int (by decide +kernel) (pa_cons (pe_ix ix_list (pv 0) pe_int (fun _ _ => rfl)) pa_nil)) (pv 1)))
        (pss_cons (ps_asg (pe_op op_fdivW (pe_ix ix_list (pv 0) pe_int (fun _ _ => rfl)) (pv 1)) (pg_sub (pv 0) pe_int set_list))
        (pss_one (ps_ret (pv 2))))) pss_nil)
      (pss_cons (ps_asg (pe_op op_add (pe_ix ix_list (pv 0) pe_int (fun _ _ => rfl)) pe_int) (pg_sub (pv 0) pe_int set_list))
      (pss_cons (ps_set (i := 3) nd rfl (Or.inl rfl) (pe_op op_mod (pe_op op_powX (pe_callTy call_int1 (by rfl) T.int (by decide +kernel) (pa_cons (pe_op op_add (pe_ix ix_list (pv 0) pe_int (fun _ _ => rfl)) (pe_op op_mul pe_int (pe_ix ix_list (pv 0) pe_int (fun _ _ => rfl)))) pa_nil)) pe_int) (pe_op op_add (pe_op op_powX pe_int pe_int) pe_int)))
      (pss_cons (ps_set (i := 3) nd rfl (Or.inl rfl) (pe_op op_mod (pe_op op_powX (pe_callTy call_int1 (by rfl) T.int (by decide +kernel) (pa_cons (pe_op op_add (pv 3) (pe_op op_mul pe_int (pe_ix ix_list (pv 0) pe_int (fun _ _ => rfl)))) pa_nil)) pe_int) (pe_op op_add (pe_op op_powX pe_int pe_int) pe_int)))
      (pss_one (ps_ret (pe_op op_mod (pe_callTy call_int1 (by rfl) T.int (by decide +kernel) (pa_cons (pe_op op_fdivW (pv 3) pe_int) pa_nil)) (pv 1))))))), ?_⟩
    refine ⟨_, rfl, p, _, _, _, rfl, rfl, SqL.of hp, at0, _, _, rfl, rfl, _, rfl, ?_⟩
    refine ite2 (fun q => ?_) (fun _ => ?_)
    · have q0 : 0 < a := by simpa using q
      refine ⟨_, rfl, p, _, _, _, rfl, rfl, SqL.of hp, at0, .inl ⟨_, rfl, _, rfl, _, _, rfl, rfl, h0, ?_⟩⟩
      refine ⟨_, rfl, p, _, _, _, rfl, rfl, SqL.of hp, at0, _, rfl, _, _, rfl, rfl, wide_div h0 h200 (by decide) (by decide), _, rfl, p, _, 0, 0, rfl, rfl, hp, ixN3 0 (by decide), ?_⟩
      refine ⟨_, rfl, k _ _ (Int.emod_nonneg _ (by omega)) (Int.emod_lt_of_pos _ h0) But.upd ⟨a / many, b, c, upd_same, Int.ediv_nonneg ha (by omega), hb, hb2, hc, by omega⟩ (fun q hq => ?_)⟩
      rw [upd_ne (fun z => by rw [z, hp] at hq; cases hq)]; exact hq
    · have e24 : ((10 : Int) ^ (24 : Int).toNat + 7) = 1000000000000000000000007 := by decide
      have e25 : ((10 : Int) ^ (25 : Int).toNat + 13) = 10000000000000000000000013 := by decide
      have p80 : (2 : Int) ^ 80 = 1208925819614629174706176 := by decide
      have n82 : (2 : Nat) ^ 82 = 4835703278458516698824704 := by decide
      have n85 : (2 : Nat) ^ 85 = 38685626227668133590597632 := by decide
      rw [p80] at hb2
      have w1 : CPowX (b + 2038074743 * (c + 1)) 3 := pow_ok (k := 82) (n := 3) (by rw [n82]; omega) (by decide)
      have w25 : CPowX 10 25 := pow_ok (k := 4) (n := 25) (by decide) (by decide)
      have w24 : CPowX 10 24 := pow_ok (k := 4) (n := 24) (by decide) (by decide)
      have hp2 : upd H p (.lst [.int a, .int b, .int (c + 1)]) p = some (.lst [.int a, .int b, .int (c + 1)]) := upd_same
      refine ⟨_, rfl, p, _, _, _, rfl, rfl, SqL.of hp, at2, _, _, rfl, rfl, _, rfl, p, _, 2, 2, rfl, rfl, hp, ixN3 2 (by decide), ?_⟩
      refine ⟨_, rfl, p, _, _, _, rfl, rfl, SqL.of hp2, at1, _, rfl, p, _, _, _, rfl, rfl, SqL.of hp2, at2, _, _, rfl, rfl, .inl ⟨by decide, by decide⟩, _, _, rfl, rfl, .inl ⟨_, rfl, ?_⟩⟩
      have g25 : (0 : Int) < 10 ^ (25 : Int).toNat + 13 := by rw [e25]; decide
      have g24 : (0 : Int) < 10 ^ (24 : Int).toNat + 7 := by rw [e24]; decide
      refine ⟨_, 3, rfl, rfl, w1, 10, 25, rfl, rfl, w25, _, 13, rfl, rfl, _, _, rfl, rfl, g25, ?_⟩
      have x0 : 0 ≤ (b + 2038074743 * (c + 1)) ^ (3 : Int).toNat % (10 ^ (25 : Int).toNat + 13) := Int.emod_nonneg _ (by omega)
      have x1 : (b + 2038074743 * (c + 1)) ^ (3 : Int).toNat % (10 ^ (25 : Int).toNat + 13) < 10000000000000000000000013 := by rw [← e25]; exact Int.emod_lt_of_pos _ g25
      have w2 : CPowX ((b + 2038074743 * (c + 1)) ^ (3 : Int).toNat % (10 ^ (25 : Int).toNat + 13) + 982451653 * (c + 1)) 2 := pow_ok (k := 85) (n := 2) (by rw [n85]; omega) (by decide)
      refine ⟨_, rfl, _, rfl, p, _, _, _, rfl, rfl, SqL.of hp2, at2, _, _, rfl, rfl, .inl ⟨by decide, by decide⟩, _, _, rfl, rfl, .inl ⟨_, rfl, ?_⟩⟩
      refine ⟨_, 2, rfl, rfl, w2, 10, 24, rfl, rfl, w24, _, 7, rfl, rfl, _, _, rfl, rfl, g24, ?_⟩
      refine ⟨_, rfl, _, 1024, rfl, rfl, wide_div (b := 11) (by decide) (by decide) (by decide) (by decide), .inl ⟨_, rfl, _, rfl, _, _, rfl, rfl, h0, ?_⟩⟩
      refine k _ _ (Int.emod_nonneg _ (by omega)) (Int.emod_lt_of_pos _ h0) But.upd ⟨a, b, c + 1, hp2, ha, hb, by rw [p80]; exact hb2, by omega, by omega⟩ (fun q hq => ?_)
      rw [upd_ne (fun z => by rw [z, hp] at hq; cases hq)]; exact hq
theorem ok_purse {f : Addr} {fd : FuncData} (F : Fun K "_law_purse" "_law_purse" s_l_purse f fd) (T : T0 mg) : FnOk P w K mg base CX0 1 f fd p_l_purse (spSack K) := by
  refine F.ok sc_l_purse (fun vs H Q E h => ?_) (fun cdv A outer s H vs Q E hr h => ?_)
  · obtain ⟨a, ns, r, rfl, _⟩ := h
    rfl
  · obtain ⟨a, ns, r, rfl, hS, hl, hr63, k⟩ := h
    have nd := sc_l_purse.nd
    refine ⟨_, pss_cons (ps_set (i := 2) nd rfl (Or.inl rfl) (pe_ifExp (pt_cmpR op_lt (pv 1) (pe_callB call_len_seq (by rfl) T.len PySem.boot_len (pa_cons (pv 0) pa_nil)) (nomark _)) (pe_ix ix_list (pv 0) (pv 1) (fun _ _ => rfl)) pe_int))
      (pss_one (ps_ret (pe_lst (pa_cons (pe_callB (call_max2 rfl) (by rfl) T.max (by decide +kernel) (pa_cons pe_int (pa_cons (pe_op op_sub (pe_callB call_abs (by rfl) T.abs (by decide +kernel) (pa_cons (pv 2) pa_nil)) (pe_op op_powX pe_int pe_int)) pa_nil)))
        (pa_cons (pe_op op_mod (pe_callTy call_int1 (by rfl) T.int (by decide +kernel) (pa_cons (pe_op op_add (pe_op op_add (pe_op op_mul (pv 2) pe_int) (pe_op op_mul (pv 1) pe_int)) pe_int) pa_nil)) (pe_op op_add (pe_op op_powX pe_int pe_int) pe_int))
        (pa_cons pe_int pa_nil)))))), ?_⟩
    have w18 : CPowX 10 18 := pow_ok (k := 4) (n := 18) (by decide) (by decide)
    have w24 : CPowX 10 24 := pow_ok (k := 4) (n := 24) (by decide) (by decide)
    have e24 : ((10 : Int) ^ (24 : Int).toNat + 7) = 1000000000000000000000007 := by decide
    have g24 : (0 : Int) < 10 ^ (24 : Int).toNat + 7 := by rw [e24]; decide
    have p80 : (2 : Int) ^ 80 = 1208925819614629174706176 := by decide
    (refine ⟨_, rfl, _, rfl, a, _, rfl, .inl hS, _, _, rfl, rfl, _, rfl, ?_⟩)
    refine ite2 (fun q => ?_) (fun _ => ?_)
    · have q2 : r < ns.length := by
        have q1 := of_decide_eq_true q
        rw [iV_len] at q1
        omega
      refine ⟨_, rfl, _, rfl, a, _, _, _, rfl, rfl, hS, atI_nat (iV_at (List.getElem?_eq_getElem q2)), ?_⟩
      refine ⟨_, rfl, _, rfl, 10, 18, rfl, rfl, w18, _, _, rfl, rfl, _, _, rfl, ?_⟩
      refine ⟨_, rfl, _, 30011, rfl, rfl, .inr ⟨by decide, by decide⟩, _, rfl, _, 7368787, rfl, rfl, .inr ⟨by decide, by decide⟩, _, _, rfl, rfl, _, _, rfl, rfl, .inl ⟨_, rfl, ?_⟩⟩
      refine ⟨10, 24, rfl, rfl, w24, _, 7, rfl, rfl, _, _, rfl, rfl, g24, ?_⟩
      refine ⟨by show 3 ≤ sizeLine; decide, fun q hq => ?_⟩
      refine k q _ hq (Evl.Ex.new hq) ⟨_, _, _, upd_same, ?_, Int.emod_nonneg _ (by omega), Int.lt_trans (Int.emod_lt_of_pos _ g24) (by rw [e24, p80]; decide), Int.le_refl _, Int.le_refl _⟩
      split <;> omega
    · refine ⟨_, rfl, _, rfl, 10, 18, rfl, rfl, w18, _, _, rfl, rfl, _, _, rfl, ?_⟩
      refine ⟨_, rfl, _, 30011, rfl, rfl, .inr ⟨by decide, by decide⟩, _, rfl, _, 7368787, rfl, rfl, .inr ⟨by decide, by decide⟩, _, _, rfl, rfl, _, _, rfl, rfl, .inl ⟨_, rfl, ?_⟩⟩
      refine ⟨10, 24, rfl, rfl, w24, _, 7, rfl, rfl, _, _, rfl, rfl, g24, ?_⟩
      refine ⟨by show 3 ≤ sizeLine; decide, fun q hq => ?_⟩
      refine k q _ hq (Evl.Ex.new hq) ⟨_, _, _, upd_same, ?_, Int.emod_nonneg _ (by omega), Int.lt_trans (Int.emod_lt_of_pos _ g24) (by rw [e24, p80]; decide), Int.le_refl _, Int.le_refl _⟩
      split <;> omega
end
end V2


namespace V2
open PySem L2
open PySem.Spec PyProof.Rows
theorem CsAt.set {H H' : Hp} {l q : Addr} {ns : List Int} {z : Int} {j : Nat} (h : CsAt H l ns) (ql : q ≠ l) (hq : Li H q (cp z)) (he : ∀ c o, c ≠ l → H c = some o → H' c = some o) (hl : ∀ xs : List V, H l = some (.lst xs) → H' l = some (.lst (xs.set j (.ref q)))) : CsAt H' l (ns.set j z) := by
  obtain ⟨as, h1, h2, h3⟩ := h
  refine ⟨as.set j q, by rw [hl _ h1, List.map_set], by rw [List.length_set, List.length_set, h2], fun i a n ha hn => ?_⟩
  rw [List.getElem?_set] at ha hn
  split at ha
  · rename_i c
    rw [if_pos c] at hn
    split at ha
    · split at hn
      · cases ha
        cases hn
        exact he _ _ ql hq
      · cases hn
    · cases ha
  · rename_i c
    rw [if_neg c] at hn
    have := h3 i a n ha hn
    exact he _ _ (cs_ne h1 ha this) this
/-- the state of the other law: what stands in the tanks, by a number, and the widths -/
def LSt (H : Hp) (t lw : Addr) (A : List Int) (W : Int) : Prop := ∃ lt lf, H t = some (.tup [.ref lt, .ref lf, .ref lw]) ∧ CsAt H lt A ∧ Li H lf (cp W)
theorem LSt.ex {H H' : Hp} {t lw : Addr} {A : List Int} {W : Int} (h : LSt H t lw A W) (e : Evl.Ex H H') : LSt H' t lw A W := by
  obtain ⟨lt, lf, h1, h2, h3⟩ := h
  exact ⟨lt, lf, e _ _ h1, h2.ex e, e _ _ h3⟩
section
variable {base : Heap} {mg : Str → Option Value} {K : PySem.W.Frag} {w : World} {P : Program}
end
end V2


namespace V2
open PySem L2
open PySem.Spec PyProof.Rows
/-- a list of new objects, being built -/
def ObN {β : Type} (g : β → HO) (H : Hp) (D : Addr) (fs : List β) (i : Nat) : Prop := ∃ as : List Addr, H D = some (.lst (as.map V.ref)) ∧ as.length = i ∧ ∀ (j : Nat) (a : Addr) (f : β), as[j]? = some a → fs[j]? = some f → a ≠ D ∧ H a = some (g f)
theorem ObN.start {β : Type} {g : β → HO} {H : Hp} {D : Addr} {fs : List β} (h : H D = some (.lst [])) : ObN g H D fs 0 := ⟨[], h, rfl, fun j a n h => by cases h⟩
theorem ObN.more {β : Type} {g : β → HO} {H2 H3 : Hp} {D r : Addr} {fs : List β} {i : Nat} {n : β} (h : ObN g H2 D fs i) (e : Evl.Ex H2 H3) (hr : r ≠ D) (h3 : H3 r = some (g n)) (hn : fs[i]? = some n) (hi : i ≤ 100) :
    ∃ acc, H3 D = some (.lst acc) ∧ acc.length < sizeLine ∧ ObN g (upd H3 D (.lst (acc ++ [.ref r]))) D fs (i + 1) := by
  obtain ⟨as, h1, h2, h4⟩ := h
  refine ⟨_, e _ _ h1, ?_, as ++ [r], ?_, ?_, fun j a m ha hm => ?_⟩
  · rw [List.length_map, h2]
    exact Nat.lt_of_le_of_lt hi (by decide)
  · rw [upd_same, List.map_append]
    rfl
  · rw [List.length_append, h2]
    rfl
  · rcases get_app ha with ⟨h5, _⟩ | ⟨h5, rfl⟩
    · obtain ⟨n1, n2⟩ := h4 j a m h5 hm
      exact ⟨n1, Eq.trans (upd_ne n1) (e _ _ n2)⟩
    · rw [h5, h2, hn] at hm
      cases hm
      exact ⟨hr, Eq.trans (upd_ne hr) h3⟩
theorem ObN.ne {β : Type} {g : β → HO} {H : Hp} {D r : Addr} {fs : List β} {i : Nat} (h : ObN g H D fs i) (hr : H r = none) : r ≠ D := fun z => by
  obtain ⟨as, q, _⟩ := h
  rw [z, q] at hr
  cases hr
def stW (t : Tk) : List Int := match t.1 with
  | none => [0, 1]
  | some z => [z]
def StWs (H : Hp) (l : Addr) (ts : List Tk) : Prop := ∃ as : List Addr, H l = some (.lst (as.map V.ref)) ∧ as.length = ts.length ∧ ∀ (j : Nat) (a : Addr) (t : Tk), as[j]? = some a → ts[j]? = some t → H a = some (.lst (iV (stW t)))
theorem StWs.ex {H H' : Hp} {l : Addr} {ts : List Tk} (h : StWs H l ts) (e : Evl.Ex H H') : StWs H' l ts := by
  obtain ⟨as, h1, h2, h3⟩ := h
  exact ⟨as, e _ _ h1, h2, fun i a t x y => e _ _ (h3 i a t x y)⟩
theorem EndsAt.uniq {ts : List Tk} {ds : List Deed} {u b : Int} {n m : Nat} {e f : V} (h : EndsAt ts ds u b n e) (k : EndsAt ts ds u b m f) : n = m ∧ e = f := by
  have one : ∀ {n m : Nat} {e f : V}, EndsAt ts ds u b n e → EndsAt ts ds u b m f → ¬ n < m := fun {n m e f} h k hn => by
    have hm := k.le
    rcases h.at_ with ⟨h1, _⟩ | ⟨d, h1, h2, _⟩
    · omega
    · rw [k.no n d hn h1] at h2
      cases h2
  have e1 : n = m := by
    have := one h k
    have := one k h
    omega
  subst e1
  refine ⟨rfl, ?_⟩
  rcases h.at_ with ⟨h1, h2⟩ | ⟨d, h1, h2, h3⟩
  · rcases k.at_ with ⟨k1, k2⟩ | ⟨d', k1, k2, k3⟩
    · rw [h2, k2]
    · have := (List.getElem?_eq_some_iff.mp k1).1
      omega
  · rcases k.at_ with ⟨k1, k2⟩ | ⟨d', k1, k2, k3⟩
    · have := (List.getElem?_eq_some_iff.mp h1).1
      omega
    · rw [h3, k3]
section
variable {base : Heap} {mg : Str → Option Value} {K : PySem.W.Frag} {w : World} {P : Program}
end
end V2


namespace V2
open PySem L2
open PySem.Spec PyProof.Rows
def OwD (H : Hp) (D : Addr) (m : Nat) (H' : Hp) (a : Addr) : Deed → Prop
  | .op ks => ∃ l zs, H l = none ∧ l ≠ D ∧ H' a = some (.tup [.str "open", .ref l]) ∧ H' l = some (.lst (iV zs)) ∧ zs.length ≤ ks.length + m ∧ (m = 0 → zs = ks)
  | d => DAt H' a d
def NoL (H H' : Hp) : Prop := ∀ c o, (∀ xs, o ≠ .lst xs) → H c = some o → H' c = some o
theorem DAt.noL {H H' : Hp} {a : Addr} {d : Deed} (h : DAt H a d) (e : NoL H H') (n : ∀ ks, d ≠ .op ks) : DAt H' a d := by
  cases d with
  | op ks => exact absurd rfl (n ks)
  | po k x => exact e _ _ (fun xs q => by cases q) h
  | sc k p q =>
    obtain ⟨f, h1, h2⟩ := h
    exact ⟨f, e _ _ (fun xs q => by cases q) h1, e _ _ (fun xs q => by cases q) h2⟩
  | mv k m p q =>
    obtain ⟨f, h1, h2⟩ := h
    exact ⟨f, e _ _ (fun xs q => by cases q) h1, e _ _ (fun xs q => by cases q) h2⟩
  | un k m => exact e _ _ (fun xs q => by cases q) h
theorem OwD.keep {H H' H'' : Hp} {D a : Addr} {m m' : Nat} {d : Deed} (h : OwD H D m H' a d) (e : NoL H' H'') (hm : m' = 0 → m = 0)
    (hl : ∀ l zs, l ≠ D → H l = none → H' l = some (.lst (iV zs)) → ∃ zs', H'' l = some (.lst (iV zs')) ∧ zs'.length + m ≤ zs.length + m' ∧ (m' = 0 → zs' = zs)) : OwD H D m' H'' a d := by
  cases d with
  | op ks =>
    obtain ⟨l, zs, h1, h2, h3, h4, h5, h6⟩ := h
    obtain ⟨zs', k1, k2, k3⟩ := hl l zs h2 h1 h4
    exact ⟨l, zs', h1, h2, e _ _ (fun xs q => by cases q) h3, k1, by omega, fun q => (k3 q).trans (h6 (hm q))⟩
  | po k x => exact DAt.noL (d := .po k x) h e (fun ks q => by cases q)
  | sc k p q => exact DAt.noL (d := .sc k p q) h e (fun ks q => by cases q)
  | mv k m p q => exact DAt.noL (d := .mv k m p q) h e (fun ks q => by cases q)
  | un k m => exact DAt.noL (d := .un k m) h e (fun ks q => by cases q)
theorem OwD.ex {H H' H'' : Hp} {D a : Addr} {m : Nat} {d : Deed} (h : OwD H D m H' a d) (e : Evl.Ex H' H'') : OwD H D m H'' a d :=
  h.keep (fun c o _ q => e _ _ q) id fun l zs _ _ q => ⟨zs, e _ _ q, Nat.le_refl _, fun _ => rfl⟩
section
variable {base : Heap} {mg : Str → Option Value} {K : PySem.W.Frag} {w : World} {P : Program} {C fI fT fS pT pS : Addr}
end
end V2


namespace V2
open PySem L2
open PySem.Spec PyProof.Rows
def Sts (H G : Hp) (l : Addr) (ts : List Tk) (es : List Deed) (u b : Int) (e : V) : Prop := ∃ qs : List Addr, H l = some (.lst (qs.map V.ref)) ∧ qs.length = es.length + 1 ∧ ∀ (j : Nat) (q : Addr), qs[j]? = some q → StAt G q (es.take j) (wAt ts es u b j).1 (wAt ts es u b j).2 (if j = es.length then e else .non)
theorem Sts.mv {H G H' G' : Hp} {l : Addr} {ts : List Tk} {es : List Deed} {u b : Int} {e : V} (h : Sts H G l ts es u b e) (k : ∀ o, H l = some o → H' l = some o) (x : Evl.Ex G G') : Sts H' G' l ts es u b e := by
  obtain ⟨qs, h1, h2, h3⟩ := h
  exact ⟨qs, k _ h1, h2, fun j q z => (h3 j q z).ex x⟩
theorem Sts.last {H G : Hp} {l : Addr} {ts : List Tk} {es : List Deed} {u b : Int} {e : V} (h : Sts H G l ts es u b e) : ∃ (ys : List V) (q : Addr), H l = some (.lst (ys ++ [.ref q])) ∧ ys.length = es.length ∧ StAt G q es (wEnd ts es u b).1 (wEnd ts es u b).2 e := by
  obtain ⟨qs, h1, h2, h3⟩ := h
  obtain ⟨ys, q, rfl⟩ : ∃ a c, qs = a ++ [c] := last_split (by omega)
  rw [List.length_append] at h2
  have h2 : ys.length = es.length := Nat.succ.inj h2
  have z := h3 es.length q (by rw [← h2, List.getElem?_append_right (Nat.le_refl _), Nat.sub_self]; rfl)
  rw [if_pos rfl, List.take_length] at z
  exact ⟨ys.map V.ref, q, by rw [h1, List.map_append]; rfl, by rw [List.length_map]; exact h2, z⟩
theorem Sts.push {H G H' G' : Hp} {l q : Addr} {ts : List Tk} {es : List Deed} {d : Deed} {u b : Int} {v : V} {xs : List V} (h : Sts H G l ts es u b .non) (hx : H l = some (.lst xs)) (x : Evl.Ex G G') (hl : H' l = some (.lst (xs ++ [.ref q])))
    (hq : StAt G' q (es ++ [d]) (wEnd ts (es ++ [d]) u b).1 (wEnd ts (es ++ [d]) u b).2 v) : Sts H' G' l ts (es ++ [d]) u b v := by
  obtain ⟨qs, h1, h2, h3⟩ := h
  rw [hx] at h1
  injection h1 with h1
  injection h1 with h1
  subst h1
  have ln : (es ++ [d]).length = es.length + 1 := by rw [List.length_append]; rfl
  refine ⟨qs ++ [q], by rw [hl, List.map_append]; rfl, by rw [List.length_append, h2, ln]; rfl, fun j p z => ?_⟩
  rcases get_app z with ⟨h4, h5⟩ | ⟨h4, rfl⟩
  · have hj : j ≤ es.length := by omega
    have y := (h3 j p h4).ex x
    have e1 : (if j = es.length then V.non else V.non) = V.non := by split <;> rfl
    rw [e1] at y
    rw [if_neg (by omega), wAt_pre hj, List.take_append_of_le_length hj]
    exact y
  · have hj : j = (es ++ [d]).length := by omega
    rw [if_pos hj, hj, List.take_length]
    exact hq
theorem Sts.one {H G : Hp} {l q : Addr} {ts : List Tk} {u b : Int} (hl : H l = some (.lst [.ref q])) (hq : StAt G q [] (ts.map (·.2)) 1 .non) : Sts H G l ts [] u b .non := by
  refine ⟨[q], hl, rfl, fun j p z => ?_⟩
  match j, z with
  | 0, z =>
    cases z
    exact hq
  | j + 1, z => cases z
end V2


namespace V2
open PySem L2
open PySem.Spec PyProof.Rows
/-- a bench and its states, the list of states at l -/
abbrev BLr (B sk l : Addr) (H : Hp) (x ls lt : Addr) (ts : List Tk) (es : List Deed) (u b : Int) (e : V) : Prop := BnAt B sk (woL [l] H) x ls lt ts es (hist ts es u b) (wEnd ts es u b).1 (ts.map (wid u b)) (wEnd ts es u b).2 u b e
/-- what ended is told by the last step -/
def eV (ts : List Tk) (es : List Deed) (u b : Int) : V := match es.getLast? with
  | none => .non
  | some d => if endB (ts.map (wid u b)) (wAt ts es u b (es.length - 1)).1 d = true then .int ((es.length - 1 : Nat) : Int) else .non
/-- no step but the last one ends -/
def Led (ts : List Tk) (es : List Deed) (u b : Int) : Prop := ∀ (j : Nat) (d : Deed), j + 1 < es.length → es[j]? = some d → endB (ts.map (wid u b)) (wAt ts es u b j).1 d = false
structure Bd (B sk l : Addr) (H : Hp) (x ls lt : Addr) (ts : List Tk) (es : List Deed) (u b : Int) : Prop where
  bn : BLr B sk l H x ls lt ts es u b (eV ts es u b)
  st : Sts H (woL [sk, x, ls, lt, l] H) l ts es u b (eV ts es u b)
  led : Led ts es u b
  ns : l ≠ sk
theorem Bd.ex {B sk l : Addr} {H H' : Hp} {x ls lt : Addr} {ts : List Tk} {es : List Deed} {u b : Int} (h : Bd B sk l H x ls lt ts es u b) (e : Evl.Ex H H') : Bd B sk l H' x ls lt ts es u b :=
  ⟨h.bn.go (woL_go e), h.st.mv (e _) (woL_go e), h.led, h.ns⟩
theorem Bd.coin {B sk l : Addr} {H H' : Hp} {x ls lt : Addr} {ts : List Tk} {es : List Deed} {u b : Int} (h : Bd B sk l H x ls lt ts es u b) (k : But sk H H') : Bd B sk l H' x ls lt ts es u b :=
  ⟨h.bn.sep fun p o z => woL_at (woL_ne z) (woL_at (woL_ne (woL_ex _ _ z)) (k _ _ (fun y => woL_ne z (List.mem_singleton.mpr y)) (woL_ex _ _ (woL_ex _ _ z)))), h.st.mv (k _ · h.ns) ((ButL.of_but k List.mem_cons_self).wo fun _ h => h), h.led, h.ns⟩
theorem Bd.ln {B sk l : Addr} {H : Hp} {x ls lt : Addr} {ts : List Tk} {es : List Deed} {u b : Int} (h : Bd B sk l H x ls lt ts es u b) : l ∉ [x, ls, lt] ∧ (∃ dx fs, H x = some (.ins B dx fs) ∧ fs = fs) ∧ sk ∉ [x, ls, lt, l] := by
  obtain ⟨⟨dx, lq, g, lw, tw, as, bs, hx, hls, _, hlt, _, _⟩, ⟨n1, n2, n3, n4⟩, _, _⟩ := h.bn
  have hm2 : l ∈ [l] := List.mem_singleton.mpr rfl
  refine ⟨fun hm => ?_, ⟨_, _, woL_ex _ _ hx, rfl⟩, ?_⟩
  · simp only [List.mem_cons, List.not_mem_nil, or_false] at hm
    rcases hm with h | h | h
    · rw [← h] at hx
      exact woL_ne hx hm2
    · rw [← h] at hls
      exact woL_ne hls hm2
    · rw [← h] at hlt
      exact woL_ne hlt hm2
  · simp only [List.mem_cons, List.not_mem_nil, or_false, not_or]
    exact ⟨n4.symm, n2.symm, n3.symm, h.ns.symm⟩
end V2


namespace V2
open PySem L2
open PySem.Spec PyProof.Rows
/-- deeds so far, in a list that grows -/
def DsI (H : Hp) (sk ld : Addr) (m : Int) (ds : List Deed) (H' : Hp) : Prop := But sk H H' ∧ DsAt (wo sk H') ld ds ∧ (∀ d ∈ ds, okD m d) ∧ ∀ k a, Deed.po k a ∈ ds → a ≤ 1000
theorem DsI.more {H H1 H2 : Hp} {sk ld t : Addr} {m : Int} {ds : List Deed} {d : Deed} {n i : Nat} (h : DsI H sk ld m ds H1) (lH : H ld = none) (s : Sk H1 sk n) (b : But sk H1 H2) (hd : DAt (Nw H1 H2) t d) (ok : okD m d) (hp : ∀ k a, d = .po k a → a ≤ 1000) (hl : ds.length = i) (hi : i ≤ 100) :
    ∃ acc, H2 ld = some (.lst acc) ∧ acc.length < sizeLine ∧ DsI H sk ld m (ds ++ [d]) (upd H2 ld (.lst (acc ++ [.ref t]))) := by
  obtain ⟨h1, h2, h3, h4⟩ := h
  have hD7 := h2.ex b.wo
  obtain ⟨acc, q1, q2⟩ := ds_list hD7
  have q1 := wo_ex _ _ q1
  have q3 := ds_more hD7 h3 (hd.ex (nw_wo s)) ok (wo_upd (x := .lst (acc ++ [.ref t]))) (wo_app q1)
  refine ⟨acc, q1, ?_, ?_, q3, ?_, ?_⟩
  · rw [q2, hl]
    exact Nat.lt_of_le_of_lt hi (by decide)
  · exact fun c o nc e => Eq.trans (upd_ne (ne_of_none' e lH)) ((h1.trans b) c o nc e)
  · intro d' h'
    rcases List.mem_append.mp h' with h | h
    · exact h3 _ h
    · rw [List.mem_singleton.mp h]
      exact ok
  · intro k' a' h'
    rcases List.mem_append.mp h' with h | h
    · exact h4 _ _ h
    · exact hp k' a' (List.mem_singleton.mp h).symm
section
variable {base : Heap} {mg : Str → Option Value} {K : PySem.W.Frag} {w : World} {P : Program}
end
end V2


namespace V2
open PySem L2
open PySem.Spec PyProof.Rows
/-- a test that reads only: both answers -/
def Rd (t : TT) (σ : L2.St) (H : Hp) : Prop := ∀ R : Bool → Hp → Prop, R true H → R false H → t σ H R
theorem Rd.and {t u : TT} {σ : L2.St} {H : Hp} (ht : Rd t σ H) (hu : Rd u σ H) : Rd (tAnd t u) σ H := fun R h1 h2 => ht _ (if_t rfl (hu R h1 h2)) (if_f (by decide) h2)
theorem Rd.or {t u : TT} {σ : L2.St} {H : Hp} (ht : Rd t σ H) (hu : Rd u σ H) : Rd (tOr t u) σ H := fun R h1 h2 => ht _ (if_t rfl h1) (if_f (by decide) (hu R h1 h2))
/-- what is drawn so far -/
structure PI (H : Hp) (sk ld lv ll : Addr) (ts : List Tk) (m : Int) (ds : List Deed) (H' : Hp) : Prop where
  but : But sk H H'
  dsk : ld ≠ sk
  lsk : ll ≠ sk
  dH : H ld = none
  dv : ld ≠ lv
  dl : ld ≠ ll
  li : ∃ a b : Int, Li H' ll [a, b]
  lH : H ll = none
  da : DsAt (wo ll (wo sk H')) ld ds
  ta : TksAt (wo ll (wo sk H')) lv ts
  ok : ∀ d ∈ ds, okD m d
  po : ∀ k a, Deed.po k a ∈ ds → a ≤ 1000
theorem PI.go {H H1 H2 : Hp} {sk ld lv ll : Addr} {ts : List Tk} {m : Int} {ds : List Deed} (h : PI H sk ld lv ll ts m ds H1) (b : But sk H1 H2) : PI H sk ld lv ll ts m ds H2 := by
  obtain ⟨x, y, hl⟩ := h.li
  exact ⟨h.but.trans b, h.dsk, h.lsk, h.dH, h.dv, h.dl, ⟨x, y, b _ _ h.lsk hl⟩, h.lH, h.da.ex (ex_wo b.wo), h.ta.ex (ex_wo b.wo), h.ok, h.po⟩
theorem PI.more {H H1 H2 : Hp} {sk ld lv ll t : Addr} {ts : List Tk} {m : Int} {ds : List Deed} {d : Deed} (h : PI H sk ld lv ll ts m ds H1) (b : But sk H1 H2) (hd : DAt (wo ll (wo sk H2)) t d) (ok : okD m d) (hp : ∀ k a, d = .po k a → a ≤ 1000) (hl : ds.length ≤ 100) :
    ∃ acc, H2 ld = some (.lst acc) ∧ acc.length < sizeLine ∧ PI H sk ld lv ll ts m (ds ++ [d]) (upd H2 ld (.lst (acc ++ [.ref t]))) ∧ acc.length = ds.length ∧ DAt (upd H2 ld (.lst (acc ++ [.ref t]))) t d := by
  have h2 := h.go b
  obtain ⟨acc, q1, q2⟩ := ds_list h2.da
  have q1 := wo_ex _ _ (wo_ex _ _ q1)
  have q3 := ds_more h2.da h2.ok hd ok (wo_upd2 (x := .lst (acc ++ [.ref t]))) (wo_app2 q1)
  obtain ⟨x, y, hli⟩ := h2.li
  refine ⟨acc, q1, ?_, ⟨?_, h2.dsk, h2.lsk, h2.dH, h2.dv, h2.dl, ⟨x, y, Eq.trans (upd_ne (Ne.symm h2.dl)) hli⟩, h2.lH, q3, ?_, ?_, ?_⟩, q2, dat_keep' hd ok h2.da (fun c o nc q => Eq.trans (upd_ne nc) (wo_ex _ _ (wo_ex _ _ q)))⟩
  · rw [q2]
    exact Nat.lt_of_le_of_lt hl (by decide)
  · exact fun c o nc e => Eq.trans (upd_ne (ne_of_none' e h2.dH)) (h2.but c o nc e)
  · exact tks_keep h2.ta (wo_at h2.dl (wo_at h2.dsk q1)) (Ne.symm h2.dv) (wo_upd2 (x := .lst (acc ++ [.ref t])))
  · intro d' h'
    rcases List.mem_append.mp h' with h | h
    · exact h2.ok _ h
    · rw [List.mem_singleton.mp h]
      exact ok
  · intro k' a' h'
    rcases List.mem_append.mp h' with h | h
    · exact h2.po _ _ h
    · exact hp k' a' (List.mem_singleton.mp h).symm
theorem wo_wo_upd {q p : Addr} {H : Hp} {x : HO} : Evl.Ex (wo q (wo p H)) (wo q (wo p (upd H q x))) := fun b o h => wo_at (wo_ne h) (wo_at (wo_ne (wo_ex _ _ h)) (Eq.trans (upd_ne (wo_ne h)) (wo_ex _ _ (wo_ex _ _ h))))
theorem PI.set {H H1 : Hp} {sk ld lv ll : Addr} {ts : List Tk} {m : Int} {ds : List Deed} {a b : Int} (h : PI H sk ld lv ll ts m ds H1) : PI H sk ld lv ll ts m ds (upd H1 ll (.lst (iV [a, b]))) :=
  ⟨fun c o nc e => Eq.trans (upd_ne (ne_of_none' e h.lH)) (h.but c o nc e), h.dsk, h.lsk, h.dH, h.dv, h.dl, ⟨a, b, upd_same⟩, h.lH, h.da.ex wo_wo_upd, h.ta.ex wo_wo_upd, h.ok, h.po⟩
theorem PI.new {H H1 : Hp} {sk ld lv ll l2 : Addr} {ts : List Tk} {m : Int} {ds : List Deed} {a b : Int} {n : Nat} (h : PI H sk ld lv ll ts m ds H1) (s : Sk H1 sk n) (hl : H1 l2 = none) : PI H sk ld lv l2 ts m ds (upd H1 l2 (.lst (iV [a, b]))) := by
  have e := Evl.Ex.new (o := .lst (iV [a, b])) hl
  have ex : Evl.Ex (wo ll (wo sk H1)) (wo l2 (wo sk (upd H1 l2 (.lst (iV [a, b]))))) := fun c o q => by
    have q1 := wo_ex _ _ q
    exact wo_at (ne_of_none' (wo_ex _ _ q1) hl) (wo_at (wo_ne q1) (e _ _ (wo_ex _ _ q1)))
  obtain ⟨as, w, _⟩ := h.da
  exact ⟨h.but.trans (But.of_ex e), h.dsk, sk_ne s hl, h.dH, h.dv, ne_of_none' (wo_ex _ _ (wo_ex _ _ w)) hl, ⟨a, b, upd_same⟩, but_none h.but s hl, h.da.ex ex, h.ta.ex ex, h.ok, h.po⟩
section
variable {base : Heap} {mg : Str → Option Value} {K : PySem.W.Frag} {w : World} {P : Program}
end
end V2


namespace V2
open PySem L2
open PySem.Spec PyProof.Rows
/-- isinstance(e, D), e the error that is handled, of the known class C -/
def tI1O (C : Addr) (a : Addr) (cls : Value) (d : Option Addr) (n : Nat) (b : Bool) : TE := fun σ H Q => ∃ (dd : Addr) (fs : List (Str × V)), σ[n]? = some (some (.ref a)) ∧ cls = .ref C ∧ d = some dd ∧ H dd = some (.xd fs) ∧ Q (.bl b) H
section
variable {X : Cx} {C D fI a : Addr} {oe : Obj} {cls : Value} {d : Option Addr} {pn : List (Addr × Obj)} {n : Nat} {x y : Str} {p1 p2 p3 pos : Pos} {b : Bool}
theorem pe_i1O {K : PySem.W.Frag} {mg : Str → Option Value} (hK : X.K = K) (hmg : X.mg = mg) (T : EC K C fI) (G : EG K fI) (mI : mg "isinstance" = none) (mD : mg y = some (.ref D)) (kv : PySem.W.kitOne K (.ref C) (.ref D) = some b) (hz : Zc cls d oe) (hf : ∃ vs, oe.data = .fields vs) (he : PE (X.suite a ((a, oe) :: pn)) (.Name x p1) (tVar n))
    (hg : Gl (X.suite a ((a, oe) :: pn)) "isinstance" := by rfl) (hg2 : Gl (X.suite a ((a, oe) :: pn)) y := by rfl) (hdb : (y == ("__debug__" : Str)) = false := by decide) :
    PE (X.suite a ((a, oe) :: pn)) (.Call (.Name "isinstance" p2) [.Name x p1, .Name y p3] [] pos) (tI1O C a cls d n b) := by
  subst hK hmg
  refine ⟨fun pins s σ H Q I h => ?_⟩
  obtain ⟨dd, fs, h3, e1, e2, hx, q⟩ := h
  have hc : (a, oe).2.cls = .ref C := hz.1.trans e1
  have z := pe_callB (X := X.suite a ((a, oe) :: pn)) (p := p2) (pos := pos) (call_isP (p := (a, oe)) (C := C) G List.mem_cons_self hc hf) hg mI (by decide +kernel) (pa_cons he (pa_cons (pe_glob (pos := p3) (v := .ref D) hg2 mD rfl hdb) pa_nil))
  exact z.run pins s σ H Q I ⟨_, h3, dd, fs, .ref D, .ref D, b, rfl, hz.2.trans e2, hx, T, fun u h => h, kv, q⟩
end
section
variable {base : Heap} {mg : Str → Option Value} {K : PySem.W.Frag} {w : World} {P : Program} {C fI fT fS pT pS fW fX CF CT CR gI : Addr}
end
end V2


namespace V2
open PySem L2
open PySem.Spec PyProof.Rows
/-- isinstance(e, (C1, ..)), e a handled error of the class C -/
def rIsPT (K : PySem.W.Frag) (a : Addr) (d : Option Addr) (C fI : Addr) : List V → Hp → VK → Prop := fun xs H Q => ∃ (dd : Addr) (fs : List (Str × V)) (tp : Addr) (cs : List V) (us : List Value) (b : Bool), xs = [.ref a, .ref tp] ∧ d = some dd ∧ H dd = some (.xd fs) ∧ H tp = some (.tup cs) ∧ Paired ClsV cs us ∧ PySem.W.kitAny K (.ref C) us = some b ∧ Q (.bl b) H
theorem call_isPT {X : Cx} {p : Addr × Obj} {d : Option Addr} {C fI : Addr} (T : EC X.K C fI) (G : EG X.K fI) (hp : p ∈ X.pn) (hc : p.2.cls = .ref C) (hd : p.2.dict = d) (hf : ∃ vs, p.2.data = .fields vs) : CallR X (.builtin "isinstance") (rIsPT X.K p.1 d C fI) := by
  intro pins s σ H xs us Q I r h
  obtain ⟨dd, fs, tp, cs, ws, b, rfl, rfl, hx, hT, hcv, e, q⟩ := h
  cases r with
  | cons rx rr =>
    cases rr with
    | cons rt rr =>
      cases rr
      cases rx
      cases rt
      obtain ⟨od, J⟩ := inst_pin I.hok (I.pin p (List.mem_append_left _ hp)).1 hc hf hd hx
      obtain ⟨_, its, rv, o, h1, h2, n, h3⟩ := (show ObjOk X.prog X.w H s.heap tp (.tup cs) from I.hok tp _ hT)
      have e3 := ClsV.all hcv rv
      subst e3
      obtain ⟨oc, dd', dt, sl⟩ := o
      simp only at h2 h3
      subst h2 h3
      exact PySem.W.kia_tup (PySem.W.kitx_exc T.hcl T.xf.ga T.xf.gg T.xf.exC T.ha G.hn G.ht T.hm) I.kIn J h1 e (fun z => nomatch z) fun tk => ⟨.bl b, H, I.kept (t' := tk) fun _ _ z => z, rfl, q⟩
def tITO (K : PySem.W.Frag) (C fI : Addr) (a : Addr) (cls : Value) (d : Option Addr) (n : Nat) (tt : TE) : TE := fun σ H Q => cls = .ref C ∧ tCB (rIsPT K a d C fI) (tCons (tVar n) (tCons tt tNil)) σ H Q
theorem pe_iTO {X : Cx} {C fI a : Addr} {oe : Obj} {cls : Value} {d : Option Addr} {pn : List (Addr × Obj)} {n x1 : Nat} {x : Str} {p1 p2 p3 pos : Pos} {es : List Expr} {tt : TE} {K : PySem.W.Frag} {mg : Str → Option Value} (hK : X.K = K) (hmg : X.mg = mg) (T : EC K C fI) (G : EG K fI) (mI : mg "isinstance" = none) (hz : Zc cls d oe) (hf : ∃ vs, oe.data = .fields vs) (he : PE (X.suite a ((a, oe) :: pn)) (.Name x p1) (tVar n))
    (ht : PE (X.suite a ((a, oe) :: pn)) (.Tuple es x1 p3) tt) (hg : Gl (X.suite a ((a, oe) :: pn)) "isinstance" := by rfl) :
    PE (X.suite a ((a, oe) :: pn)) (.Call (.Name "isinstance" p2) [.Name x p1, .Tuple es x1 p3] [] pos) (tITO K C fI a cls d n tt) := by
  subst hK hmg
  refine ⟨fun pins s σ H Q I h => ?_⟩
  have hc : (a, oe).2.cls = .ref C := hz.1.trans h.1
  have z := pe_callB (X := X.suite a ((a, oe) :: pn)) (p := p2) (pos := pos) (call_isPT (p := (a, oe)) (C := C) T G List.mem_cons_self hc hz.2 hf) hg mI (by decide +kernel) (pa_cons he (pa_cons ht pa_nil))
  exact z.run pins s σ H Q I h.2
end V2


namespace V2
open PySem L2
open PySem.Spec PyProof.Rows
/-- f(k = v, ..), by keyword alone, what it lets out by the slots -/
def tCallKS (m : Nat) (sp : Sp) (gV : List V → List V → List V) (E : L2.St → XK) (tk : TA) : TE := fun τ G Q => tk τ G fun zs G2 => zs.length = m ∧ sp (gV [] zs) G2 Q (E τ)
section
variable {X : Cx} {CX : CXT} {k : Nat} {f : Addr} {fd : FuncData} {ps ks : List Str} {sp : Sp} {E : L2.St → XK} {y : Str} {p pp : Pos} {kws : List Keyword} {tk : TA} {g : List Value → List Value → List Value} {gV : List V → List V → List V}
theorem pe_callKS (F : FnOk X.prog X.w X.K X.mg X.base CX k f fd ps sp) (hr : Room k X.A) (hg : Gl X y) (hm : X.mg y = some (.ref f)) (hk : PySem.W.keepIn X.K (.ref f) = true) (hb : KBn X.K fd ps 0 ks g gV) (hx : ∀ τ, PassesAt CX X τ (E τ)) (hkw : PK X kws tk)
    (hall : (backToKw p (keywordEach kws X.env)).all (·.1.isSome) = true := by rfl) (hks : (backToKw p (keywordEach kws X.env)).filterMap (·.1) = ks := by rfl) (hdb : (y == ("__debug__" : Str)) = false := by decide)
    (hpl : ((backTo p (starEach [] X.env)).any (·.1) || (backToKw p (keywordEach kws X.env)).any (·.1.isNone)) = false := by rfl) :
    PE X (.Call (.Name y pp) [] kws p) (tCallKS ks.length sp gV E tk) := by
  constructor
  intro pins s τ G Q I h
  refine wpAny_Call_Name_kw (ld_glob I hg hm ?_ hdb)
  refine PySem.W.callWith_KW0 (h₀ := X.base) I.ok.mod.kin hk hall ?_ hpl
  refine thn (hkw.run p pins s τ G _ I h) fun ws s1 got => ?_
  obtain ⟨zs, G1, I1, rz, l2, z⟩ := got
  refine ⟨I1.kIn, ?_⟩
  rw [hks]
  have r2 := hb.rel (vs := []) (us := []) .nil rz
  refine wpAny_call (codeAny_mono (F.run X.A X.stack s1 G1 ⟨[], ks.zip ws⟩ (g [] ws) _ Q (E τ) hr I1.env0 (hb.to s1 [] ws I1.kIn rfl (rz.length.symm.trans l2)) r2 z) fun w s' hw => ?_)
  match w, hw with
  | .error e, hw => exact hx τ pins _ _ e s' I1 hw
  | .ok (.ret u), hw => exact I1.after hw
  | .ok .next, hw => exact hw.elim
  | .ok .brk, hw => exact hw.elim
  | .ok .cont, hw => exact hw.elim
theorem pe_callK1S {nm : Str} {e : Expr} {te : TE} {kpos : Pos} (F : FnOk X.prog X.w X.K X.mg X.base CX k f fd ps sp) (hr : Room k X.A) (hg : Gl X y) (hm : X.mg y = some (.ref f)) (hk : PySem.W.keepIn X.K (.ref f) = true) (hb : KBn X.K fd ps 0 [nm] g gV) (hx : ∀ τ, PassesAt CX X τ (E τ)) (he : PE X e te)
    (hdb : (y == ("__debug__" : Str)) = false := by decide) : PE X (.Call (.Name y pp) [] [⟨some nm, e, kpos⟩] p) (tCallKS 1 sp gV E (tCons te tNil)) := pe_callKS F hr hg hm hk hb hx (pk_cons he pk_nil) rfl rfl hdb rfl
end
section
variable {base : Heap} {mg : Str → Option Value} {K : PySem.W.Frag} {w : World} {P : Program} {CT CU CP fI : Addr}
end
end V2


namespace V2
open PySem L2
open PySem.Spec PyProof.Rows
def spCauS : Sp := fun vs H Q _ => ∃ (x : Str) (way : Int), vs = [.str x, .int way] ∧ x.length ≤ 3900 ∧ (ScX x → Evl.RetL [.str x] H Q) ∧ (¬ ScX x → Evl.RetL [] H Q)
theorem no_scX {x : Str} (h : ¬ ScX x) {ts : List Tk} {ss : List Sg} (hr : ScT x ts ss) : scB ts ss = false := by
  cases c : scB ts ss with
  | false => rfl
  | true => exact absurd ⟨ts, ss, hr, c⟩ h
section
variable {base : Heap} {mg : Str → Option Value} {K : PySem.W.Frag} {w : World} {P : Program} {C CA CU CI CS CT CF fI : Addr}
theorem ok_l_caught_script {f fR : Addr} {fd fdR : FuncData} (F : Fun K "_law_caught_script" "_law_caught_script" s_l_caught_script f fd) (FR : FnOk P w K mg base (L2.CX P w) 7 fR fdR p_read_script (spRdScX C CU)) (mR : mg "read_script" = some (.ref fR)) (kR : PySem.W.keepIn K (.ref fR) = true) (bR : Binds K fdR p_read_script [])
    (kwR : KBn K fdR p_read_script 0 ["text"] (fun us ws => us ++ ws) (fun us ws => us ++ ws)) (cS : Cal P w K mg base 7 "show_script" p_show_script (spShScQ C)) (T : EC K CU fI) (G : EG K fI) (mA : mg "TankError" = some (.ref CA)) (mF : mg "InvalidFraction" = some (.ref CF)) (mSt : mg "InvalidStep" = some (.ref CS)) (mIt : mg "InvalidTank" = some (.ref CI)) (mT : mg "UnknownTank" = some (.ref CT)) (mU : mg "Unreadable" = some (.ref CU)) (mI : mg "isinstance" = none)
    (hUA : PySem.W.exmOne K (.ref CU) (.ref CA) = some true) (kA : PySem.W.kitAny K (.ref CU) [.ref CF, .ref CS, .ref CI, .ref CT] = some false) (kU : PySem.W.kitOne K (.ref CU) (.ref CU) = some true) : FnOk P w K mg base CX0 8 f fd p_l_caught_script spCauS := by
  refine F.ok sc_l_caught_script (fun vs H Q E h => ?_) (fun cdv A outer s H vs Q E hr h => ?_)
  · obtain ⟨x, way, rfl, _⟩ := h
    rfl
  · obtain ⟨x, way, rfl, lx, k, kx⟩ := h
    have nd := sc_l_caught_script.nd
    have four : 4 ≤ sizeLine := by show 4 ≤ sizeLine; decide
    refine ⟨_, pss_cons (ps_set (i := 2) nd rfl (Or.inl rfl) (pe_lst pa_nil))
      (pss_cons (ps_try_as (i := 4) (tb := fun W => tSeq (tAsg (tIf (tTest (tOp rEq (tVar 1) (tC (.int 0)))) (tCallS (spRdScX C CU) (WE W) (tCons (tVar 0) tNil)) (tCallKS 1 (spRdScX C CU) (fun us ws => us ++ ws) (WE W) (tCons (tVar 0) tNil))) (gName 3)) (tAsg (tLst (tCons (tCall (spShScQ C) [] E0 (tCons (tVar 3) tNil)) tNil)) (gName 2)))
          (ts := fun a cls d => tSeq (tAsg (tITO K CU fI a cls d 4 (tTup (tCons (tC (.ref CF)) (tCons (tC (.ref CS)) (tCons (tC (.ref CI)) (tCons (tC (.ref CT)) tNil)))))) (gName 5)) (tSeq (tAsg (tOrV (tVar 5) (tNotV (tI1O CU a cls d 4 true))) (gName 5)) (tAsg (tIf (tOr (fun σ H Q => (tVar 5) σ H fun x H' => ∃ k, TruV K x H' k ∧ Q k H') (tTest (tOp rNe (tV1E CU a cls d 4) (tVar 0)))) (tLst (tCons (tC (.str "odd")) tNil)) (tLst tNil)) (gName 2)))) (c := .ref CA) (Wout := fun _ _ _ _ => False) rfl rfl nd rfl rfl ⟨rfl, by decide, Or.inl mA⟩ takes0
          (fun W pn xe tk _ => pss_cons (ps_set (i := 3) nd rfl (Or.inl rfl) (pe_ifExp (pt_cmpR op_eq (pv 1) pe_int (nomark _)) (by exact (pe_callS FR hr (by rfl) mR kR bR (fun σ => passAt tk σ) (pa_cons (pv 0) pa_nil))) (by exact (pe_callK1S FR hr (by rfl) mR kR kwR (fun σ => passAt tk σ) (pv 0)))))
            (pss_one (ps_set (i := 2) nd rfl (Or.inl rfl) (pe_lst (pa_cons (pe_c cS hr (pa_cons (pv 3) pa_nil)) pa_nil)))))
          (fun a oe cls d pn hz hf => pss_cons (ps_set (i := 5) nd rfl (Or.inl rfl) (pe_iTO rfl rfl T G mI hz hf (pv 4) (pe_tup (pa_cons (pe_glob (v := .ref CF) rfl mF rfl) (pa_cons (pe_glob (v := .ref CS) rfl mSt rfl) (pa_cons (pe_glob (v := .ref CI) rfl mIt rfl) (pa_cons (pe_glob (v := .ref CT) rfl mT rfl) pa_nil)))))))
            (pss_cons (ps_set (i := 5) nd rfl (Or.inl rfl) (pe_or (pv 5) (pe_one (pe_not (pe_i1O rfl rfl T G mI mU kU hz hf (pv 4))))))
            (pss_one (ps_set (i := 2) nd rfl (Or.inl rfl) (pe_ifExp (PW.pt (pw_or (pt_truth (pv 5) (by intro _; rfl)) (pw_or1 (pt_cmpR op_ne (pe_v1E rfl T hz hf (pv 4)) (pv 0) (nomark _))))) (pe_lst (pa_cons pe_str pa_nil)) (pe_lst pa_nil)))))))
      (pss_one (ps_ret (pv 2)))), ?_⟩
    refine ⟨Nat.zero_le _, fun l0 hl0 => ?_⟩
    have e0 := Evl.Ex.new (o := .lst []) hl0
    generalize upd H l0 (.lst []) = H1 at e0
    refine ⟨_, rfl, rfl, _, rfl, ?_⟩
    by_cases hw : way = 0
    · subst hw
      refine if_t rfl ⟨_, rfl, ?_⟩
      refine ⟨x, rfl, lx, fun ts ss hr hb y H2 e2 ha => ?_, fun hno H2 e2 e H3 he e3 hx => ?_⟩
      · refine ⟨_, rfl, y, x, ts, ss, rfl, ha, hr, hb, lx, fun H3 e3 => ⟨by show 1 ≤ sizeLine; decide, fun p hp => ⟨_, rfl, ?_⟩⟩⟩
        have e4 := (e0.trans e2).trans e3
        exact k ⟨ts, ss, hr, hb⟩ p _ (Evl.fresh_back e4 hp) (e4.trans (Evl.Ex.new hp)) upd_same
      · refine ⟨true, hUA, fun _ a ha => ?_, fun z => nomatch z⟩
        refine ⟨rfl, _, rfl, four, fun tp htp => ?_⟩
        have e4 := Evl.Ex.new (o := .tup [.ref CF, .ref CS, .ref CI, .ref CT]) htp
        have hx4 := e4 _ _ hx
        refine ⟨e, _, tp, _, _, false, rfl, rfl, hx4, upd_same, .cons (.own CF) (.cons (.own CS) (.cons (.own CI) (.cons (.own CT) .nil))), kA, ?_⟩
        refine ⟨_, rfl, false, rfl, if_f rfl ⟨e, _, rfl, rfl, rfl, hx4, true, rfl, ?_⟩⟩
        refine ⟨_, rfl, false, rfl, if_f rfl ⟨e, _, .str x, rfl, rfl, rfl, hx4, rfl, _, rfl, rfl, _, rfl, if_f ?_ ⟨Nat.zero_le _, fun q hq => ⟨_, rfl, ?_⟩⟩⟩⟩
        · rw [decide_eq_true rfl]
          rfl
        · have e5 := ((e0.trans e2).trans e3).trans e4
          exact kx (fun h => by
            obtain ⟨ts, ss, hr, hb⟩ := h
            rw [hno ts ss hr] at hb
            cases hb) q _ (Evl.fresh_back e5 hq) (e5.trans (Evl.Ex.new hq)) upd_same
    · refine if_f (decide_eq_false fun h => hw (by injection h)) ⟨_, rfl, rfl, ?_⟩
      refine ⟨x, rfl, lx, fun ts ss hr hb y H2 e2 ha => ?_, fun hno H2 e2 e H3 he e3 hx => ?_⟩
      · refine ⟨_, rfl, y, x, ts, ss, rfl, ha, hr, hb, lx, fun H3 e3 => ⟨by show 1 ≤ sizeLine; decide, fun p hp => ⟨_, rfl, ?_⟩⟩⟩
        have e4 := (e0.trans e2).trans e3
        exact k ⟨ts, ss, hr, hb⟩ p _ (Evl.fresh_back e4 hp) (e4.trans (Evl.Ex.new hp)) upd_same
      · refine ⟨true, hUA, fun _ a ha => ?_, fun z => nomatch z⟩
        refine ⟨rfl, _, rfl, four, fun tp htp => ?_⟩
        have e4 := Evl.Ex.new (o := .tup [.ref CF, .ref CS, .ref CI, .ref CT]) htp
        have hx4 := e4 _ _ hx
        refine ⟨e, _, tp, _, _, false, rfl, rfl, hx4, upd_same, .cons (.own CF) (.cons (.own CS) (.cons (.own CI) (.cons (.own CT) .nil))), kA, ?_⟩
        refine ⟨_, rfl, false, rfl, if_f rfl ⟨e, _, rfl, rfl, rfl, hx4, true, rfl, ?_⟩⟩
        refine ⟨_, rfl, false, rfl, if_f rfl ⟨e, _, .str x, rfl, rfl, rfl, hx4, rfl, _, rfl, rfl, _, rfl, if_f ?_ ⟨Nat.zero_le _, fun q hq => ⟨_, rfl, ?_⟩⟩⟩⟩
        · rw [decide_eq_true rfl]
          rfl
        · have e5 := ((e0.trans e2).trans e3).trans e4
          exact kx (fun h => by
            obtain ⟨ts, ss, hr, hb⟩ := h
            rw [hno ts ss hr] at hb
            cases hb) q _ (Evl.fresh_back e5 hq) (e5.trans (Evl.Ex.new hq)) upd_same
end
end V2


namespace V2
open PySem L2
open PySem.Spec PyProof.Rows PySem.StrLaws
/-! ## how many commas there are -/
theorem cma_app (x y : Str) : cma (x ++ y) = cma x + cma y := by
  unfold cma
  rw [TL.tl_append, List.count_append]
theorem cma_le (x : Str) : cma x ≤ x.length := by
  unfold cma
  rw [TL.len_tl]
  exact List.count_le_length
theorem cut_tl (x : Str) (lo hi : Option Int) : ∃ a b, TL.tl (cutS x lo hi) = ((TL.tl x).drop a).take b := ⟨_, _, rfl⟩
theorem cma_cut (x : Str) (lo hi : Option Int) : cma (cutS x lo hi) ≤ cma x := by
  obtain ⟨a, b, h⟩ := cut_tl x lo hi
  unfold cma
  rw [h]
  exact ((List.take_sublist b _).trans (List.drop_sublist a _)).count_le 44
theorem joinL_count_le {y : List Nat} {s : Nat} (hy : y.count s = 0) : ∀ ps : List (List Nat), (TL.joinL y ps).count s = (ps.map (·.count s)).sum
  | [] => rfl
  | [p] => by simp [TL.joinL]
  | p :: q :: ps => by
    have ih := joinL_count_le hy (q :: ps)
    show (p ++ (y ++ TL.joinL y (q :: ps))).count s = _
    rw [List.count_append, List.count_append, ih, hy]
    simp
theorem cma_join {y : Str} (hy : cma y = 0) (ps : List Str) : cma (Txt.join y ps) = (ps.map cma).sum := by
  unfold cma
  rw [TL.join_eq, TL.tl_join, joinL_count_le hy, List.map_map]
  rfl
theorem cma_pieces {x y : Str} (hy : cma y = 0) : ((Txt.split x y).map cma).sum = cma x := by
  rw [← cma_join hy, split_join]
/-- two items exchanged: no sum changes -/
theorem sumf_set {α : Type} (f : α → Nat) : ∀ (l : List α) (i : Nat) (a : α) (h : i < l.length), ((l.set i a).map f).sum + f l[i] = (l.map f).sum + f a
  | [], i, a, h => absurd h (by simp)
  | b :: r, 0, a, h => by simp; omega
  | b :: r, i + 1, a, h => by
    have := sumf_set f r i a (by simpa using h)
    simp only [List.set_cons_succ, List.map_cons, List.sum_cons, List.getElem_cons_succ]
    omega
theorem sumf_swap {α : Type} (f : α → Nat) (l : List α) (i j : Nat) (hi : i < l.length) (hj : j < l.length) : (((l.set i l[j]).set j l[i]).map f).sum = (l.map f).sum := by
  have h1 := sumf_set f l i l[j] hi
  have hj' : j < (l.set i l[j]).length := by rw [List.length_set]; exact hj
  have h2 := sumf_set f (l.set i l[j]) j l[i] hj'
  by_cases e : i = j
  · subst e
    rw [List.getElem_set_self] at h2
    omega
  · rw [List.getElem_set_ne e] at h2
    omega
/-! ## z * n -/
theorem foldl_arr : ∀ (l : List (Array Nat)) (a : Array Nat), (l.foldl (· ++ ·) a).toList = a.toList ++ (l.map Array.toList).flatten
  | [], a => by simp
  | b :: r, a => by
    rw [List.foldl_cons, foldl_arr r]
    simp
theorem mul_tl {z : Str} {n : Int} (h1 : 1 ≤ n) : TL.tl (Txt.mul z n) = (List.replicate n.toNat (TL.tl z)).flatten := by
  unfold Txt.mul
  rw [if_neg (by omega)]
  split
  · rename_i h
    rw [Bool.or_eq_true] at h
    rcases h with h | h
    · have : n = 1 := by simpa using h
      subst this
      simp
    · have h0 : z.length = 0 := by simpa using h
      have : TL.tl z = [] := List.eq_nil_of_length_eq_zero (by rw [← TL.len_tl]; exact h0)
      rw [this]
      simp
  · show ((List.replicate n.toNat z.cps).foldl (· ++ ·) #[]).toList = _
    rw [foldl_arr, List.map_replicate]
    rfl
theorem mul_len {z : Str} {n : Int} (h1 : 1 ≤ n) : (Txt.mul z n).length = n.toNat * z.length := by
  rw [TL.len_tl, mul_tl h1, List.length_flatten, List.map_replicate, List.sum_replicate_nat, ← TL.len_tl]
theorem mul_cma {z : Str} {n : Int} (h1 : 1 ≤ n) : cma (Txt.mul z n) = n.toNat * cma z := by
  unfold cma
  rw [mul_tl h1, List.count_flatten, List.map_replicate, List.sum_replicate_nat]
section
variable {X : Cx}
def rMulS : R2 := fun x y H Q => ∃ (z : Str) (n : Int), x = .str z ∧ y = .int n ∧ 1 ≤ n ∧ n ≤ 1000 ∧ z.length ≤ 1000 ∧ Q (.str (Txt.mul z n)) H
theorem op_mulS : OpR X (binaryOp .Mult) rMulS := by
  intro pins s σ H x y v u Q I rx ry h
  obtain ⟨z, n, rfl, rfl, h1, h2, h3, q⟩ := h
  obtain ⟨t, rfl⟩ := rx
  obtain ⟨t', rfl⟩ := ry
  refine SB.mul ⟨?_, fun _ _ => ?_, fun _ _ => ?_⟩ fun t2 k => ⟨.str _, H, I.tok k, ⟨_, rfl⟩, q⟩
  · rw [Bool.or_eq_false_iff]
    exact ⟨decide_eq_false (by omega), decide_eq_false (by omega)⟩
  · have : (1000 : Int) ≤ (2 ^ 63 - 1) / n := by
      rw [Int.le_ediv_iff_mul_le (by omega)]
      have : 1000 * n ≤ 1000 * 1000 := by omega
      omega
    omega
  · have : z.length * n.toNat ≤ 1000 * 1000 := Nat.mul_le_mul h3 (by omega)
    unfold Builtin.Str.tooLong
    refine decide_eq_false ?_
    have : (1000 * 1000 : Nat) ≤ sizeLine := by decide
    omega
end
/-! ## replace, [::-1] -/
theorem replL_count {y z : List Nat} {s : Nat} (hy : y ≠ []) (hz : z.count s = 0) : ∀ (n : Nat) (l : List Nat), l.length ≤ n → (replL y z l).count s ≤ l.count s
  | _, [], _ => by rw [replL_nil]; exact Nat.le_refl _
  | 0, c :: r, h => absurd h (by simp)
  | n + 1, c :: r, h => by
    by_cases hm : (c :: r).take y.length = y
    · rw [replL_hit hy hm, List.count_append, hz, Nat.zero_add]
      have hl : ((c :: r).drop y.length).length ≤ n := by
        have : 1 ≤ y.length := List.length_pos_iff.mpr hy
        rw [List.length_drop]
        simp only [List.length_cons] at h ⊢
        omega
      exact Nat.le_trans (replL_count hy hz n _ hl) ((List.drop_sublist _ _).count_le s)
    · rw [replL_miss hm]
      have ih := replL_count hy hz n r (by simpa using h)
      simp only [List.count_cons]
      omega
theorem cma_replace {x y z : Str} (hy : 1 ≤ y.length) (hz : cma z = 0) : cma (Txt.replace x y z) ≤ cma x := by
  unfold cma
  show ((Txt.replace x y z).cps.toList).count 44 ≤ _
  rw [replace_list hy]
  refine replL_count (fun h => ?_) hz _ _ (Nat.le_refl _)
  have : y.length = 0 := by rw [TL.len_tl]; show y.cps.toList.length = 0; rw [h]; rfl
  omega
/-- z[::-1], its length and its commas told -/
def tRevC (te : TE) : TE := fun σ H Q => te σ H fun x H1 => ∃ z : Str, x = .str z ∧ z.length ≤ sizeLine ∧ ∀ y : Str, y.length ≤ z.length → cma y ≤ cma z → Q (.str y) H1
theorem fm_congr {α β : Type} {f g : α → Option β} : ∀ {l : List α}, (∀ x ∈ l, f x = g x) → l.filterMap f = l.filterMap g
  | [], _ => rfl
  | a :: r, h => by
    rw [List.filterMap_cons, List.filterMap_cons, h a List.mem_cons_self, fm_congr fun x hx => h x (List.mem_cons_of_mem _ hx)]
theorem rev_list : ∀ l : List Nat, ((List.range l.length).map fun k => l.length - 1 - k).filterMap (l[·]?) = l.reverse := fun l => by
  refine List.ext_getElem? fun i => ?_
  rw [List.filterMap_map]
  have hs : ∀ k ∈ List.range l.length, ((l[·]?) ∘ fun k => l.length - 1 - k) k = some (l.getD (l.length - 1 - k) 0) := fun k hk => by
    have hk := List.mem_range.mp hk
    show l[l.length - 1 - k]? = _
    rw [List.getD_eq_getElem?_getD, List.getElem?_eq_getElem (by omega)]
    rfl
  have e : (List.range l.length).filterMap ((l[·]?) ∘ fun k => l.length - 1 - k) = (List.range l.length).map fun k => l.getD (l.length - 1 - k) 0 := by
    rw [← List.filterMap_eq_map]
    exact fm_congr fun k hk => hs k hk
  rw [e]
  by_cases hi : i < l.length
  · rw [List.getElem?_map, List.getElem?_range hi, List.getElem?_reverse hi]
    show some (l.getD (l.length - 1 - i) 0) = _
    rw [List.getD_eq_getElem?_getD, List.getElem?_eq_getElem (by omega)]
    rfl
  · rw [List.getElem?_eq_none (by rw [List.length_map, List.length_range]; omega), List.getElem?_eq_none (by rw [List.length_reverse]; omega)]
theorem rev_map {z : Str} : ((List.range z.length).map fun k => z.length - 1 - k).filterMap (z.cps[·]?) = z.cps.toList.reverse := by
  have l : z.length = z.cps.toList.length := by rw [Array.length_toList]; rfl
  rw [l, ← rev_list]
  exact fm_congr fun k _ => (Array.getElem?_toList ..).symm
section
variable {X : Cx}
theorem pe_revC {e : Expr} {te : TE} {k : Nat} {q1 q2 q3 pos : Pos} (he : PE X e te) : PE X (.Subscript e (.Slice none none (some (.UnaryOp .USub (.Constant (.int 1) k q1) q2)) q3) pos) (tRevC te) := by
  constructor
  intro pins s σ H Q I h
  refine Subscript_ (thn (he.run pins s σ H _ I h) fun v t1 ⟨x, H1, I1, r1, z, ex, lz, q⟩ => ?_)
  subst ex
  obtain ⟨tz, rfl⟩ := r1
  have last : PO X (some (.UnaryOp .USub (.Constant (.int 1) k q1) q2)) (tPart (tUn (rU fun i => .int (-i)) (tC (.int 1)))) := po_some (pe_un un_neg pe_int)
  refine wpAny_Slice (thn (po_none.run pins t1 σ H1 (fun o G => o = none ∧ G = H1) I1 ⟨rfl, rfl⟩) ?_)
  rintro v1 t2 ⟨o1, G1, J1, p1, rfl, rfl⟩
  refine thn (po_none.run pins t2 σ _ (fun o G => o = none ∧ G = G1) J1 ⟨rfl, rfl⟩) ?_
  rintro v2 t3 ⟨o2, G2, J2, p2, rfl, rfl⟩
  refine thn (last.run pins t3 σ _ (fun o G => o = some (-1) ∧ G = G2) J2 ⟨1, rfl, -1, rfl, rfl, rfl⟩) ?_
  rintro v3 t4 ⟨o3, G3, J3, p3, rfl, rfl⟩
  obtain ⟨a1, rfl, e1⟩ := IsPart.raw p1
  obtain ⟨a2, rfl, e2⟩ := IsPart.raw p2
  obtain ⟨a3, rfl, e3⟩ := IsPart.raw p3
  have J4 : Inv X pins σ G3 { t4 with heap := t4.heap.push { cls := .type "slice", data := .fields #[partValue a1, partValue a2, partValue a3] } } := J3.kept (t' := t4.toks) fun b ob w => Heap.get?_push_of_some _ w
  show wpAny (model X.prog X.w) X.A (subscriptTail e (.Slice none none (some (.UnaryOp .USub (.Constant (.int 1) k q1) q2)) q3) (.str z tz) (.ref t4.heap.objs.size)) (EP X pins σ Q) X.xe { t4 with heap := t4.heap.push { cls := .type "slice", data := .fields #[partValue a1, partValue a2, partValue a3] } }
  refine tail_any (ops := [.str z tz, .ref t4.heap.objs.size]) (typeIs_str _ _ _) (F.slot_str_getitem.lookup) ?_ (by with_unfolding_all rfl)
  refine wpAny_getItem_str_slice (l := a1) (u := a2) (st := a3) (Heap.IsSliceOf.new _ _ _ _) (by rw [e3]; rfl) ?_
  have lp : (slicePicked z a1 a2 a3).length = z.length := by
    unfold slicePicked
    rw [e1, e2, e3]
    show (Builtin.Str.strSliceIndices none none (-1) z.length).length = z.length
    rw [PyProof.Rows.picked_rev, List.length_map, List.length_range]
  have ll : (⟨((slicePicked z a1 a2 a3).filterMap (z.cps[·]?)).toArray⟩ : Str).length ≤ z.length := by
    show ((slicePicked z a1 a2 a3).filterMap (z.cps[·]?)).toArray.size ≤ z.length
    rw [List.size_toArray]
    exact Nat.le_trans (List.length_filterMap_le _ _) (Nat.le_of_eq lp)
  have lc : cma (⟨((slicePicked z a1 a2 a3).filterMap (z.cps[·]?)).toArray⟩ : Str) ≤ cma z := by
    unfold cma
    show (((slicePicked z a1 a2 a3).filterMap (z.cps[·]?)).toArray.toList).count 44 ≤ z.cps.toList.count 44
    rw [List.toList_toArray]
    unfold slicePicked
    rw [e1, e2, e3]
    show (((Builtin.Str.strSliceIndices none none (-1) z.length)).filterMap (z.cps[·]?)).count 44 ≤ _
    rw [PyProof.Rows.picked_rev, rev_map]
    exact Nat.le_of_eq (List.count_reverse ..)
  unfold sliceMade
  rw [if_neg (by rw [e3]; simp)]
  exact ⟨Nat.le_trans ll lz, .str _, G3, J4.tok _, ⟨_, rfl⟩, q _ ll lc⟩
end
end V2


namespace V2
open PySem L2
open PySem.Spec PyProof.Rows
structure TS1 (X : Cx) (st : Stmt) (t : TS) : Prop where
  run : PST X st t
structure TSs (X : Cx) (ss : List Stmt) (t : TS) : Prop where
  run : PSsT X ss t
structure TE1 (X : Cx) (e : Expr) (t : TE) : Prop where
  run : PET X e t
structure TEs (X : Cx) (es : List Expr) (t : TA) : Prop where
  run : PAT X es t
section
variable {X : Cx}
theorem ts_of {st : Stmt} {t : TS} (h : PS X st t) : TS1 X st t := ⟨L2.PST.of h⟩
theorem te_of {e : Expr} {t : TE} (h : PE X e t) : TE1 X e t := ⟨CwR.PET.of h⟩
theorem ts_cons {st : Stmt} {ss : List Stmt} {t u : TS} (h1 : TS1 X st t) (h2 : TSs X ss u) : TSs X (st :: ss) (tSeq t u) := ⟨L2.psst_cons h1.run h2.run⟩
theorem ts_ret {e : Expr} {te : TE} {pos : Pos} (h : TE1 X e te) : TSs X [.Return (some e) pos] (tSeq (tRet te) tNext) := ⟨CwR.psst_one (CwR.pst_ret h.run)⟩
theorem tes_nil : TEs X [] tNil := ⟨L2.pat_nil⟩
theorem tes_cons {e : Expr} {es : List Expr} {te : TE} {ta : TA} (h1 : TE1 X e te) (h2 : TEs X es ta) (hs : starEach (e :: es) X.env = (false, eval e X.env) :: starEach es X.env := by rfl) : TEs X (e :: es) (tCons te ta) := ⟨L2.pat_cons h1.run h2.run hs⟩
theorem te_lst {es : List Expr} {ta : TA} {pos : Pos} (h : TEs X es ta) : TE1 X (.List es pos) (tLst ta) := ⟨L2.pet_lst h.run⟩
theorem te_op {op : Operator} {r : R2} {e f : Expr} {te tf : TE} {pos : Pos} (ho : OpR X (binaryOp op) r) (ha : TE1 X e te) (hb : TE1 X f tf) : TE1 X (.BinOp e op f pos) (tOp r te tf) := ⟨CwR.pet_op ho ha.run hb.run⟩
theorem te_replC {o : Expr} {to : TE} {y z : Str} {j k : Nat} {c0 c1 apos pos : Pos} (ho : PE X o to) (hyz : (y == z) = false := by decide)
    (hst : starEach [.Constant (.str y) j c0, .Constant (.str z) k c1] X.env = [(false, eval (.Constant (.str y) j c0) X.env), (false, eval (.Constant (.str z) k c1) X.env)] := by rfl)
    (hbase : attributeBase o "replace" X.env (eval o X.env) = eval o X.env := by rfl) (hline : (apos.endLine == pos.line) = true := by rfl) :
    TE1 X (.Call (.Attribute o "replace" apos) [.Constant (.str y) j c0, .Constant (.str z) k c1] [] pos) (CwR.tReplC to y z) := ⟨CwR.pet_replC ho hyz hst hbase hline⟩
theorem ts_set {i : Nat} {x : Str} {e : Expr} {te : TE} {pos pos' : Pos} (hN : X.N.Nodup) (hi : X.N[i]? = some x) (hx : Loc X.env.scope x) (he : TE1 X e te) (hs : swapsWith e (some (.Name x pos')) pos.line X.env = pure false := by rfl)
    (hf : X.fn x = true ∨ X.env.scope.names.lookup x = some .local := by first | exact .inl rfl | exact .inr rfl) : TS1 X (.Assign [.Name x pos'] e pos) (tAsg te (gName i)) := by
  refine ⟨fun pins s σ H D h0 I h => ?_⟩
  refine wpAny_Assign_Name (thn (he.run pins s σ H _ h0 I h) ?_) hs
  rintro v t ⟨y, G, J, rv, q⟩
  exact store_ok J hN hi hx rv (fun t2 J2 => ⟨_, G, J2, q⟩) hf
end
theorem ok_tok {P : Program} {w : World} {K : PySem.W.Frag} {mg : Str → Option Value} {base : Heap} (CX : CXT) {x qual : Str} {st : Stmt} {f : Addr} {fd : FuncData} {N ps : List Str} {k : Nat} {sp : Sp} (F : Fun K x qual st f fd) (S : FnScope N ps (defScope st)) (hnc : ∀ y ∈ (defScope st).names, y.2 ≠ .cell) (hps : 1 ≤ ps.length) (len : ∀ vs H Q E, sp vs H Q E → vs.length = ps.length)
    (hb : ∀ (cdv : Value) (A : Around) (outer : List Env) (s : Shared) (H : Hp) (vs : List V) (Q : VK) (E : XK), Room k (A.deeper (envOfC qual (defScope st) s.heap.objs.size f cdv)) → sp vs H Q E →
      ∃ t, TSs (cxOf CX P w K mg base N qual (defScope st) f cdv A outer s H E) (defBody st) t ∧ t { nx := fun _ H' => Q .non H', rt := Q } (L2.start N vs) H) : FnOk P w K mg base CX (k + 1) f fd ps sp := by
  obtain ⟨oc, od, kV, doc, pm, an, cdv, ct, osl, rfl, lk, hcd⟩ := F.ex
  exact fn_ofT lk hcd S hnc hps len fun A outer s H vs Q E hr h => let ⟨t, ht, q⟩ := hb cdv A outer s H vs Q E hr h; ⟨t, ht.run, q⟩
def sB : V → Bool
  | .str z => decide (z.length ≤ 50000)
  | _ => false
/-- the sack stands, the menu too -/
def Mn (p : Addr) (n : Nat) (H0 H : Hp) (l : Addr) (xs : List V) : Prop := But p H0 H ∧ Sk H p n ∧ H l = some (.lst xs) ∧ xs ≠ [] ∧ xs.all sB = true
theorem Mn.ne {p l : Addr} {n : Nat} {H0 H : Hp} {xs : List V} (m : Mn p n H0 H l xs) : l ≠ p := fun e => by
  obtain ⟨_, ⟨a, b, c, hp, _⟩, hl, h0, hs⟩ := m
  rw [e, hp] at hl
  cases hl
  cases hs
theorem Mn.ex {p l : Addr} {n : Nat} {H0 H H1 : Hp} {xs : List V} (m : Mn p n H0 H l xs) (e : Evl.Ex H H1) : Mn p n H0 H1 l xs :=
  ⟨m.1.trans (But.of_ex e), let ⟨a, b, c, hp, r⟩ := m.2.1; ⟨a, b, c, e _ _ hp, r⟩, e _ _ m.2.2.1, m.2.2.2⟩
theorem Mn.coin {p l : Addr} {n k : Nat} {H0 H H1 : Hp} {xs : List V} (m : Mn p n H0 H l xs) (b : But p H H1) (s : Sk H1 p k) : Mn p k H0 H1 l xs :=
  ⟨m.1.trans b, s, b _ _ m.ne m.2.2.1, m.2.2.2⟩
end V2


namespace V2
open PySem L2
open PySem.Spec PyProof.Rows
/-! ## a menu of texts, their lengths and commas told -/
def rAddS : R2 := fun x y H Q => ∃ i j, x = .str i ∧ y = .str j ∧ i.length + j.length ≤ sizeLine ∧ Q (.str (i ++ j)) H
def tB (L C : Nat) : V → Bool
  | .str z => decide (z.length ≤ L) && decide (cma z ≤ C)
  | _ => false
theorem tB_str {L C : Nat} {z : Str} (h : z.length ≤ L) (h2 : cma z ≤ C) : tB L C (.str z) = true := by
  show (decide (z.length ≤ L) && decide (cma z ≤ C)) = true
  rw [decide_eq_true h, decide_eq_true h2]; rfl
theorem tB_get {L C : Nat} {v : V} (h : tB L C v = true) : ∃ z : Str, v = .str z ∧ z.length ≤ L ∧ cma z ≤ C := by
  cases v <;> first | (cases h; done) | skip
  rename_i z
  have h : (decide (z.length ≤ L) && decide (cma z ≤ C)) = true := h
  rw [Bool.and_eq_true] at h
  exact ⟨z, rfl, of_decide_eq_true h.1, of_decide_eq_true h.2⟩
theorem tB_mono {L C L2 C2 : Nat} (hL : L ≤ L2) (hC : C ≤ C2) {xs : List V} (h : xs.all (tB L C) = true) : xs.all (tB L2 C2) = true :=
  List.all_eq_true.mpr fun v hv => by
    obtain ⟨z, rfl, h1, h2⟩ := tB_get (List.all_eq_true.mp h v hv)
    exact tB_str (Nat.le_trans h1 hL) (Nat.le_trans h2 hC)
/-- the sack stands, the menu too -/
def Mp (L C : Nat) (p : Addr) (n : Nat) (H0 H : Hp) (l : Addr) (xs : List V) : Prop := But p H0 H ∧ Sk H p n ∧ H l = some (.lst xs) ∧ xs ≠ [] ∧ xs.all (tB L C) = true
theorem Mp.ne {L C : Nat} {p l : Addr} {n : Nat} {H0 H : Hp} {xs : List V} (m : Mp L C p n H0 H l xs) : l ≠ p := fun e => by
  obtain ⟨_, ⟨a, b, c, hp, _⟩, hl, h0, hs⟩ := m
  rw [e, hp] at hl
  cases hl
  cases hs
theorem Mp.ex {L C : Nat} {p l : Addr} {n : Nat} {H0 H H1 : Hp} {xs : List V} (m : Mp L C p n H0 H l xs) (e : Evl.Ex H H1) : Mp L C p n H0 H1 l xs :=
  ⟨m.1.trans (But.of_ex e), let ⟨a, b, c, hp, r⟩ := m.2.1; ⟨a, b, c, e _ _ hp, r⟩, e _ _ m.2.2.1, m.2.2.2⟩
theorem Mp.coin {L C : Nat} {p l : Addr} {n k : Nat} {H0 H H1 : Hp} {xs : List V} (m : Mp L C p n H0 H l xs) (b : But p H H1) (s : Sk H1 p k) : Mp L C p k H0 H1 l xs :=
  ⟨m.1.trans b, s, b _ _ m.ne m.2.2.1, m.2.2.2⟩
theorem Mp.mono {L C L2 C2 : Nat} {p l : Addr} {n : Nat} {H0 H : Hp} {xs : List V} (m : Mp L C p n H0 H l xs) (hL : L ≤ L2) (hC : C ≤ C2) : Mp L2 C2 p n H0 H l xs := ⟨m.1, m.2.1, m.2.2.1, m.2.2.2.1, tB_mono hL hC m.2.2.2.2⟩
theorem mp_step {L C : Nat} {p l : Addr} {n c : Nat} {H0 H : Hp} {xs ys : List V} {R : VK} (m : Mp L C p n H0 H l xs) (hy : ys.all (tB L C) = true) (hl : xs.length = c) (sz : c + ys.length ≤ 1000) (k : ∀ q H' zs, Evl.Ex H H' → zs.length = c + ys.length → Mp L C p n H0 H' q zs → R (.ref q) H') :
    ys.length ≤ sizeLine ∧ ∀ b, H b = none → rCat (.ref l) (.ref b) (upd H b (.lst ys)) R := by
  refine ⟨Nat.le_trans (show ys.length ≤ 1000 by omega) (by decide), fun b hb => ?_⟩
  have e1 := Evl.Ex.new (o := .lst ys) hb
  have m1 := m.ex e1
  refine ⟨l, b, xs, ys, rfl, rfl, m1.2.2.1, upd_same, Nat.le_trans (show xs.length + ys.length ≤ 1000 by omega) (by decide), fun q hq => k q _ (xs ++ ys) (e1.trans (Evl.Ex.new hq)) (by rw [List.length_append, hl]) ?_⟩
  have e2 := Evl.Ex.new (o := .lst (xs ++ ys)) hq
  have m2 := m1.ex e2
  refine ⟨m2.1, m2.2.1, upd_same, fun h => m.2.2.2.1 (List.append_eq_nil_iff.mp h).1, ?_⟩
  rw [List.all_append, m.2.2.2.2, hy]; rfl
theorem mp_pick {L C : Nat} {K : PySem.W.Frag} {p l : Addr} {n : Nat} {H0 H : Hp} {xs : List V} {R : VK} (m : Mp L C p n H0 H l xs) (sz : xs.length ≤ 1000) (hn : n ≤ 99999) (k : ∀ (z : Str) H', But p H0 H' → Sk H' p (n + 1) → z.length ≤ L → cma z ≤ C → R (.str z) H') :
    ∃ (p' : Addr) (ys : List V), [V.ref l] = [.ref p'] ∧ (SqL K H p' ys ∨ SqT K H p' ys) ∧ spCoin [.ref p, .int ys.length] H (fun r H1 => rIxL K (.ref l) r H1 R) E0 := by
  have pos : 0 < xs.length := List.length_pos_iff.mpr m.2.2.2.1
  have big : (1000 : Nat) < 2 ^ 200 := by decide
  refine ⟨l, xs, rfl, .inl (SqL.of m.2.2.1), p, xs.length, n, rfl, m.2.1, by omega, by omega, by omega, fun r H1 r0 r1 b1 s1 _ => ?_⟩
  have M1 := m.coin b1 s1
  obtain ⟨v, hv⟩ : ∃ v, xs[r.toNat]? = some v := ⟨_, List.getElem?_eq_getElem (by omega)⟩
  obtain ⟨z, rfl, hz, hc⟩ := tB_get (List.all_eq_true.mp m.2.2.2.2 v (List.mem_of_getElem? hv))
  have at1 : atI xs r = some (.str z) := by
    have e : r = ((r.toNat : Nat) : Int) := (Int.toNat_of_nonneg r0).symm
    rw [e]
    exact atI_nat hv
  exact ⟨l, xs, r, _, rfl, rfl, SqL.of M1.2.2.1, at1, k z H1 M1.1 s1 hz hc⟩
/-- [head + one for one in menu] -/
theorem lc_add {K : PySem.W.Frag} {a D : Addr} {xs : List V} {z : Str} {j : Nat} {σ : L2.St} {H1 : Hp} {Qd : Hp → Prop} (hxs : xs.all (tB 100 10) = true) (lx : xs.length ≤ 500) (lz : z.length ≤ 100) (cz : cma z ≤ 10) (hD : H1 D = none) (ha : H1 a = some (.lst xs))
    (hw : ∀ x : V, wipe ((wipe σ [j]).set j (some x)) [j] = wipe σ [j]) (hj : ∀ x : V, ((wipe σ [j]).set j (some x))[j]? = some (some x))
    (hd : ∀ ys H', ys.length = xs.length → ys.all (tB 200 20) = true → Evl.Ex H1 H' → H' D = some (.lst ys) → Qd H') :
    ∃ W : Nat → Nat → Hp → Prop, (∃ m, W 0 m (upd H1 D (.lst []))) ∧ ∀ i m H, W i m H →
      ((Itl K a).stop i H ∧ Qd H) ∨ ((Itl K a).go i H ∧ ∃ Nx : Hp → Prop, (∀ H', Nx H' → ∃ m', m' < m ∧ W (i + 1) m' H') ∧ ∀ x H', (Itl K a).yld i H x H' → gName j x (wipe σ [j]) H' fun σ2 H2 => wipe σ2 [j] = wipe σ [j] ∧ tYes σ2 H2 fun b H3 =>
        if b = true then (tOp rAddS (tC (.str z)) (tVar j)) σ2 H3 fun y H4 => ∃ acc, H4 D = some (.lst acc) ∧ acc.length < sizeLine ∧ Nx (upd H4 D (.lst (acc ++ [y]))) else Nx H3) := by
  refine lc_list (xs := xs) (fun i H' => Evl.Ex H1 H' ∧ ∃ ys, H' D = some (.lst ys) ∧ ys.length = (xs.take i).length ∧ ys.all (tB 200 20) = true) ⟨Evl.Ex.new hD, [], upd_same, rfl, rfl⟩ (fun i H' _ q => SqL.of (q.1 _ _ ha)) ?_ ?_
  · rintro i v H' hi ⟨e1, ys, h1, hl, hy⟩
    obtain ⟨u, rfl, lu, cu⟩ := tB_get (List.all_eq_true.mp hxs v (List.mem_of_getElem? hi))
    refine ⟨hw _, _, hj _, z, u, rfl, rfl, Nat.le_trans (show z.length + u.length ≤ 200 by omega) (by decide), ys, h1, ?_, Evl.Ex.mut e1 hD, ys ++ [.str (z ++ u)], upd_same, ?_, ?_⟩
    · rw [hl, List.length_take]
      exact Nat.lt_of_le_of_lt (show min i xs.length ≤ 500 by omega) (by decide)
    · rw [List.take_add_one, hi, List.length_append, hl, List.length_append]; rfl
    · rw [List.all_append, hy, List.all_cons, tB_str (by rw [len_app]; omega) (by rw [cma_app]; omega)]; rfl
  · rintro H' ⟨e1, ys, h1, hl, hy⟩
    rw [List.take_length] at hl
    exact hd ys H' hl hy e1 h1
def spOddS : Sp := fun vs H Q _ => ∃ (p : Addr) (x : Str) (m : Nat), vs = [.ref p, .str x] ∧ x.length ≤ 61000 ∧ cma x ≤ 1300 ∧ Sk H p m ∧ m ≤ 90000 ∧ ∀ (z : Str) (H' : Hp), But p H H' → Sk H' p (m + 2) → z.length ≤ 200000 → cma z ≤ 3990 → Q (.str z) H'
section
variable {base : Heap} {mg : Str → Option Value} {K : PySem.W.Frag} {w : World} {P : Program}
theorem ok_l_odd_script {f : Addr} {fd : FuncData} (F : Fun K "_law_odd_script" "_law_odd_script" s_l_odd_script f fd) (mL : mg "len" = none) (cC : Cal P w K mg base 1 "_law_coin" p_l_coin spCoin) : FnOk P w K mg base CX0 2 f fd p_l_odd_script spOddS := by
  refine ok_tok CX0 F sc_l_odd_script (by decide +kernel) (by decide) (fun vs H Q E h => ?_) (fun cdv A outer s H vs Q E hr h => ?_)
  · obtain ⟨p, x, m, rfl, _⟩ := h
    rfl
  · obtain ⟨p, x, m, rfl, lx, cx, hS, hm, k⟩ := h
    have nd := sc_l_odd_script.nd
    have r1 : Room 1 _ := hr.mono (by decide)
    refine ⟨_, (ts_cons (ts_of (ps_set (i := 2) nd rfl (Or.inl rfl) (pe_lst (pa_cons pe_str (pa_cons pe_str (pa_cons pe_str (pa_cons pe_str (pa_cons pe_str (pa_cons pe_str (pa_cons pe_str pa_nil))))))))))
      (ts_cons (ts_of (ps_set (i := 2) nd rfl (Or.inl rfl) (pe_op op_cat (pv 2) (pe_lst (pa_cons pe_str (pa_cons pe_str (pa_cons pe_str (pa_cons pe_str (pa_cons pe_str pa_nil)))))))))
      (ts_cons (ts_of (ps_set (i := 2) nd rfl (Or.inl rfl) (pe_op op_cat (pv 2) (pe_lst (pa_cons pe_str (pa_cons pe_str (pa_cons pe_str (pa_cons pe_str (pa_cons pe_str (pa_cons pe_str (pa_cons pe_str (pa_cons pe_str pa_nil))))))))))))
      (ts_cons (ts_of (ps_set (i := 2) nd rfl (Or.inl rfl) (pe_op op_cat (pv 2) (pe_lst (pa_cons pe_str (pa_cons pe_str (pa_cons pe_str pa_nil)))))))
      (ts_cons (ts_of (ps_set (i := 2) nd rfl (Or.inl rfl) (pe_op op_cat (pv 2) (pe_lst (pa_cons pe_str (pa_cons pe_str (pa_cons pe_str (pa_cons pe_str (pa_cons pe_str pa_nil)))))))))
      (ts_cons (ts_of (ps_set (i := 2) nd rfl (Or.inl rfl) (pe_op op_cat (pv 2) (pe_lst (pa_cons pe_str (pa_cons pe_str pa_nil))))))
      (ts_cons (ts_of (ps_set (i := 3) nd rfl (Or.inl rfl) (pv 2)))
      (ts_cons (ts_of (ps_set (i := 2) nd rfl (Or.inl rfl) (pe_lst (pa_cons pe_str (pa_cons pe_str (pa_cons pe_str (pa_cons pe_str (pa_cons pe_str (pa_cons pe_str pa_nil)))))))))
      (ts_cons (ts_of (ps_set (i := 2) nd rfl (Or.inl rfl) (pe_op op_cat (pv 2) (pe_lst (pa_cons pe_str (pa_cons pe_str (pa_cons pe_str (pa_cons pe_str (pa_cons pe_str pa_nil)))))))))
      (ts_cons (ts_of (ps_set (i := 2) nd rfl (Or.inl rfl) (pe_op op_cat (pv 2) (pe_lst (pa_cons pe_str (pa_cons pe_str (pa_cons pe_str (pa_cons pe_str (pa_cons pe_str (pa_cons pe_str pa_nil))))))))))
      (ts_cons (ts_of (ps_set (i := 2) nd rfl (Or.inl rfl) (pe_op op_cat (pv 2) (pe_lst (pa_cons pe_str (pa_cons pe_str (pa_cons pe_str (pa_cons pe_str pa_nil))))))))
      (ts_cons (ts_of (ps_set (i := 2) nd rfl (Or.inl rfl) (pe_op op_cat (pv 2) (pe_lst (pa_cons pe_str (pa_cons pe_str (pa_cons pe_str (pa_cons pe_str (pa_cons pe_str pa_nil)))))))))
      (ts_cons (ts_of (ps_set (i := 2) nd rfl (Or.inl rfl) (pe_op op_cat (pv 2) (pe_lst (pa_cons pe_str (pa_cons pe_str (pa_cons pe_str (pa_cons pe_str pa_nil))))))))
      (ts_cons (ts_of (ps_set (i := 2) nd rfl (Or.inl rfl) (pe_op op_cat (pv 2) (pe_lst (pa_cons pe_str (pa_cons pe_str (pa_cons pe_str (pa_cons pe_str (pa_cons pe_str pa_nil)))))))))
      (ts_cons (ts_of (ps_set (i := 2) nd rfl (Or.inl rfl) (pe_op op_cat (pv 2) (pe_lst (pa_cons pe_str (pa_cons pe_str (pa_cons pe_str (pa_cons pe_str (pa_cons pe_str pa_nil)))))))))
      (ts_cons (ts_of (ps_set (i := 2) nd rfl (Or.inl rfl) (pe_op op_cat (pv 2) (pe_lst (pa_cons pe_str (pa_cons pe_str (pa_cons pe_str (pa_cons pe_str (pa_cons pe_str pa_nil)))))))))
      (ts_cons (ts_of (ps_set (i := 2) nd rfl (Or.inl rfl) (pe_op op_cat (pv 2) (pe_lst (pa_cons pe_str (pa_cons pe_str (pa_cons pe_str pa_nil)))))))
      (ts_cons (ts_of (ps_set (i := 2) nd rfl (Or.inl rfl) (pe_op op_cat (pv 2) (pe_lst (pa_cons pe_str (pa_cons pe_str (pa_cons pe_str pa_nil)))))))
      (ts_cons (ts_of (ps_set (i := 2) nd rfl (Or.inl rfl) (pe_op op_cat (pv 2) (pe_lst (pa_cons pe_str (pa_cons pe_str pa_nil))))))
      (ts_cons (ts_of (ps_set (i := 2) nd rfl (Or.inl rfl) (pe_op op_cat (pv 2) (pe_lst (pa_cons pe_str (pa_cons pe_str (pa_cons pe_str pa_nil)))))))
      (ts_cons (ts_of (ps_set (i := 2) nd rfl (Or.inl rfl) (pe_op op_cat (pv 2) (pe_lst (pa_cons pe_str (pa_cons pe_str (pa_cons pe_str (pa_cons pe_str pa_nil))))))))
      (ts_cons (ts_of (ps_set (i := 2) nd rfl (Or.inl rfl) (pe_op op_cat (pv 3) (pe_lc (own := [("one", 5)]) (g := gName 5) (tt := tYes) (te := tOp rAddS (tC (.str "4 in 2, 6 in w, 0 in 1; ")) (tVar 5)) rfl nd (pi_list (pv 2)) (blkOk_by (N := n_l_odd_script) (sc := defScope s_l_odd_script) (by decide +kernel)) (fun _ _ _ _ _ => pg_name (i := 5) nd rfl (Or.inl rfl)) (fun _ _ _ _ _ => pts_nil) (fun _ _ _ _ _ => pe_op op_add_str pe_str (pv 5))))))
      (ts_cons (ts_of (ps_set (i := 2) nd rfl (Or.inl rfl) (pe_op op_cat (pv 2) (pe_lst (pa_cons pe_str (pa_cons pe_str (pa_cons pe_str pa_nil)))))))
      (ts_cons (ts_of (ps_set (i := 2) nd rfl (Or.inl rfl) (pe_op op_cat (pv 2) (pe_lst (pa_cons pe_str pa_nil)))))
      (ts_cons (ts_of (ps_set (i := 4) nd rfl (Or.inl rfl) (pe_op op_add pe_int (pe_c cC r1 (pa_cons (pv 0) (pa_cons pe_int pa_nil))))))
      (ts_cons (ts_of (ps_set (i := 2) nd rfl (Or.inl rfl) (pe_op op_cat (pv 2) (pe_lst (pa_cons (pe_op op_add_str pe_str (pe_op op_mulS pe_str (pv 4))) (pa_cons (pe_op op_add_str pe_str (pe_op op_mulS pe_str (pv 4))) pa_nil))))))
      (ts_cons (ts_of (ps_set (i := 2) nd rfl (Or.inl rfl) (pe_op op_cat (pv 2) (pe_lst (pa_cons (pe_op op_add_str (pe_op op_add_str pe_str (pe_op op_mulS pe_str (pv 4))) pe_str) pa_nil)))))
      (ts_cons (ts_set (i := 2) nd rfl (Or.inl rfl) (te_op op_cat (te_of (pv 2)) (te_lst (tes_cons (te_of (pe_op op_add_str (pv 1) pe_str)) (tes_cons (te_of (pe_op op_add_str (pv 1) pe_str)) (tes_cons (te_replC (pv 1)) tes_nil))))))
      (ts_cons (ts_set (i := 2) nd rfl (Or.inl rfl) (te_op op_cat (te_of (pv 2)) (te_lst (tes_cons (te_replC (pv 1)) (tes_cons (te_replC (pv 1)) (tes_cons (te_of (pe_revC (pv 1))) tes_nil))))))
      (ts_ret (te_of (pe_ix ix_list (pv 2) (pe_c cC r1 (pa_cons (pv 0) (pa_cons (pe_callB call_len_seq (by rfl) mL PySem.boot_len (pa_cons (pv 2) pa_nil)) pa_nil))) (fun _ _ => rfl))))))))))))))))))))))))))))))))), ?_⟩
    have sz : ∀ n, n ≤ 1000 → n ≤ sizeLine := fun n h => Nat.le_trans h (by decide)
    refine ⟨sz 7 (by decide), fun l0 hl0 => ?_⟩
    have M0 : Mp 100 10 p m H (upd H l0 (.lst [.str "", .str " ", .str "3 in w", .str "3 in 2", .str "3 in w, 2 in w", .str "3 in w, 2 in 1", .str "3 in w,2 in 1"])) l0 [.str "", .str " ", .str "3 in w", .str "3 in 2", .str "3 in w, 2 in w", .str "3 in w, 2 in 1", .str "3 in w,2 in 1"] := by
      have e := Evl.Ex.new (o := .lst [.str "", .str " ", .str "3 in w", .str "3 in 2", .str "3 in w, 2 in w", .str "3 in w, 2 in 1", .str "3 in w,2 in 1"]) hl0
      obtain ⟨a, b, c, hp, r⟩ := id hS
      exact ⟨But.of_ex e, ⟨a, b, c, e _ _ hp, r⟩, upd_same, by simp, by decide +kernel⟩
    have n0 : ([.str "", .str " ", .str "3 in w", .str "3 in 2", .str "3 in w, 2 in w", .str "3 in w, 2 in 1", .str "3 in w,2 in 1"] : List V).length = 7 := rfl
    show gName 2 (.ref l0) [some (.ref p), some (.str x), none, none, none, none] _ _
    refine ⟨_, rfl, mp_step M0 (by decide +kernel) n0 (by decide) fun l1 H1 z1 e1 n1 M1 => ?_⟩
    have n1 : z1.length = 12 := n1
    show gName 2 (.ref l1) [some (.ref p), some (.str x), some (.ref l0), none, none, none] _ _
    refine ⟨_, rfl, mp_step M1 (by decide +kernel) n1 (by decide) fun l2 H2 z2 e2 n2 M2 => ?_⟩
    have n2 : z2.length = 20 := n2
    show gName 2 (.ref l2) [some (.ref p), some (.str x), some (.ref l1), none, none, none] _ _
    refine ⟨_, rfl, mp_step M2 (by decide +kernel) n2 (by decide) fun l3 H3 z3 e3 n3 M3 => ?_⟩
    have n3 : z3.length = 23 := n3
    show gName 2 (.ref l3) [some (.ref p), some (.str x), some (.ref l2), none, none, none] _ _
    refine ⟨_, rfl, mp_step M3 (by decide +kernel) n3 (by decide) fun l4 H4 z4 e4 n4 M4 => ?_⟩
    have n4 : z4.length = 28 := n4
    show gName 2 (.ref l4) [some (.ref p), some (.str x), some (.ref l3), none, none, none] _ _
    refine ⟨_, rfl, mp_step M4 (by decide +kernel) n4 (by decide) fun l5 H5 z5 e5 n5 M5 => ?_⟩
    have n5 : z5.length = 30 := n5
    refine ⟨_, rfl, ?_⟩
    refine ⟨sz 6 (by decide), fun l6 hl6 => ?_⟩
    have e6 := Evl.Ex.new (o := .lst [.str "open 0,1", .str "open 1,0", .str "open 0,1,2", .str "open 0, 1", .str "open 0,1,3", .str "open 0,0"]) hl6
    have M6 : Mp 100 10 p m H (upd H5 l6 (.lst [.str "open 0,1", .str "open 1,0", .str "open 0,1,2", .str "open 0, 1", .str "open 0,1,3", .str "open 0,0"])) l6 [.str "open 0,1", .str "open 1,0", .str "open 0,1,2", .str "open 0, 1", .str "open 0,1,3", .str "open 0,0"] := by
      obtain ⟨a, b, c, hp, r⟩ := id M5.2.1
      exact ⟨M5.1.trans (But.of_ex e6), ⟨a, b, c, e6 _ _ hp, r⟩, upd_same, by simp, by decide +kernel⟩
    have N6 := M5.ex e6
    have n6 : ([.str "open 0,1", .str "open 1,0", .str "open 0,1,2", .str "open 0, 1", .str "open 0,1,3", .str "open 0,0"] : List V).length = 6 := rfl
    show gName 2 (.ref l6) [some (.ref p), some (.str x), some (.ref l5), some (.ref l5), none, none] _ _
    refine ⟨_, rfl, mp_step M6 (by decide +kernel) n6 (by decide) fun l7 H7 z7 e7 n7 M7 => ?_⟩
    have n7 : z7.length = 11 := n7
    have N7 := N6.ex e7
    show gName 2 (.ref l7) [some (.ref p), some (.str x), some (.ref l6), some (.ref l5), none, none] _ _
    refine ⟨_, rfl, mp_step M7 (by decide +kernel) n7 (by decide) fun l8 H8 z8 e8 n8 M8 => ?_⟩
    have n8 : z8.length = 17 := n8
    have N8 := N7.ex e8
    show gName 2 (.ref l8) [some (.ref p), some (.str x), some (.ref l7), some (.ref l5), none, none] _ _
    refine ⟨_, rfl, mp_step M8 (by decide +kernel) n8 (by decide) fun l9 H9 z9 e9 n9 M9 => ?_⟩
    have n9 : z9.length = 21 := n9
    have N9 := N8.ex e9
    show gName 2 (.ref l9) [some (.ref p), some (.str x), some (.ref l8), some (.ref l5), none, none] _ _
    refine ⟨_, rfl, mp_step M9 (by decide +kernel) n9 (by decide) fun l10 H10 z10 e10 n10 M10 => ?_⟩
    have n10 : z10.length = 26 := n10
    have N10 := N9.ex e10
    show gName 2 (.ref l10) [some (.ref p), some (.str x), some (.ref l9), some (.ref l5), none, none] _ _
    refine ⟨_, rfl, mp_step M10 (by decide +kernel) n10 (by decide) fun l11 H11 z11 e11 n11 M11 => ?_⟩
    have n11 : z11.length = 30 := n11
    have N11 := N10.ex e11
    show gName 2 (.ref l11) [some (.ref p), some (.str x), some (.ref l10), some (.ref l5), none, none] _ _
    refine ⟨_, rfl, mp_step M11 (by decide +kernel) n11 (by decide) fun l12 H12 z12 e12 n12 M12 => ?_⟩
    have n12 : z12.length = 35 := n12
    have N12 := N11.ex e12
    show gName 2 (.ref l12) [some (.ref p), some (.str x), some (.ref l11), some (.ref l5), none, none] _ _
    refine ⟨_, rfl, mp_step M12 (by decide +kernel) n12 (by decide) fun l13 H13 z13 e13 n13 M13 => ?_⟩
    have n13 : z13.length = 40 := n13
    have N13 := N12.ex e13
    show gName 2 (.ref l13) [some (.ref p), some (.str x), some (.ref l12), some (.ref l5), none, none] _ _
    refine ⟨_, rfl, mp_step M13 (by decide +kernel) n13 (by decide) fun l14 H14 z14 e14 n14 M14 => ?_⟩
    have n14 : z14.length = 45 := n14
    have N14 := N13.ex e14
    show gName 2 (.ref l14) [some (.ref p), some (.str x), some (.ref l13), some (.ref l5), none, none] _ _
    refine ⟨_, rfl, mp_step M14 (by decide +kernel) n14 (by decide) fun l15 H15 z15 e15 n15 M15 => ?_⟩
    have n15 : z15.length = 48 := n15
    have N15 := N14.ex e15
    show gName 2 (.ref l15) [some (.ref p), some (.str x), some (.ref l14), some (.ref l5), none, none] _ _
    refine ⟨_, rfl, mp_step M15 (by decide +kernel) n15 (by decide) fun l16 H16 z16 e16 n16 M16 => ?_⟩
    have n16 : z16.length = 51 := n16
    have N16 := N15.ex e16
    show gName 2 (.ref l16) [some (.ref p), some (.str x), some (.ref l15), some (.ref l5), none, none] _ _
    refine ⟨_, rfl, mp_step M16 (by decide +kernel) n16 (by decide) fun l17 H17 z17 e17 n17 M17 => ?_⟩
    have n17 : z17.length = 53 := n17
    have N17 := N16.ex e17
    show gName 2 (.ref l17) [some (.ref p), some (.str x), some (.ref l16), some (.ref l5), none, none] _ _
    refine ⟨_, rfl, mp_step M17 (by decide +kernel) n17 (by decide) fun l18 H18 z18 e18 n18 M18 => ?_⟩
    have n18 : z18.length = 56 := n18
    have N18 := N17.ex e18
    show gName 2 (.ref l18) [some (.ref p), some (.str x), some (.ref l17), some (.ref l5), none, none] _ _
    refine ⟨_, rfl, mp_step M18 (by decide +kernel) n18 (by decide) fun l19 H19 z19 e19 n19 M19 => ?_⟩
    have n19 : z19.length = 60 := n19
    have N19 := N18.ex e19
    show gName 2 (.ref l19) [some (.ref p), some (.str x), some (.ref l18), some (.ref l5), none, none] _ _
    refine ⟨_, rfl, _, rfl, l19, rfl, ⟨_, SqL.of M19.2.2.1⟩, fun D hD => lc_add M19.2.2.2.2 (by omega) (by decide) (by decide +kernel) hD M19.2.2.1 (fun _ => rfl) (fun _ => rfl) (fun ys Hc ly hy ec gc => ?_)⟩
    have ly : ys.length = 60 := ly.trans n19
    have N := (N19.ex ec).mono (L2 := 200000) (C2 := 3990) (by decide) (by decide)
    have hy := tB_mono (L2 := 200000) (C2 := 3990) (by decide) (by decide) hy
    refine ⟨l5, D, z5, ys, rfl, rfl, N.2.2.1, gc, Nat.le_trans (show z5.length + ys.length ≤ 1000 by omega) (by decide), fun q hq => ?_⟩
    have eq := Evl.Ex.new (o := .lst (z5 ++ ys)) hq
    have M : Mp 200000 3990 p m H (upd Hc q (.lst (z5 ++ ys))) q (z5 ++ ys) := ⟨(N.ex eq).1, (N.ex eq).2.1, upd_same, fun h => N.2.2.2.1 (List.append_eq_nil_iff.mp h).1, by rw [List.all_append, N.2.2.2.2, hy]; rfl⟩
    have nn : (z5 ++ ys).length = 90 := by rw [List.length_append, n5, ly]
    generalize z5 ++ ys = zq at M nn ⊢
    generalize upd Hc q (.lst zq) = Hq at M ⊢
    show gName 2 (.ref q) [some (.ref p), some (.str x), some (.ref l19), some (.ref l5), none, none] _ _
    refine ⟨_, rfl, mp_step M (by decide +kernel) nn (by decide) fun q1 G1 y1 f1 a1 M1q => ?_⟩
    have a1 : y1.length = 93 := a1
    show gName 2 (.ref q1) [some (.ref p), some (.str x), some (.ref q), some (.ref l5), none, none] _ _
    refine ⟨_, rfl, mp_step M1q (by decide +kernel) a1 (by decide) fun q2 G2 y2 f2 a2 M2q => ?_⟩
    have a2 : y2.length = 94 := a2
    show gName 2 (.ref q2) [some (.ref p), some (.str x), some (.ref q1), some (.ref l5), none, none] _ _
    refine ⟨_, rfl, p, 200, m, rfl, M2q.2.1, by omega, by decide, by decide, fun r G3 r0 r1 b3 s3 _ => ⟨1, r, rfl, rfl, ?_⟩⟩
    have M3q := M2q.coin b3 s3
    have r200 : (1 + r).toNat ≤ 200 := by omega
    have szz : ∀ {n : Nat}, n ≤ 200000 → n ≤ sizeLine := fun {n} h => Nat.le_trans h (by decide)
    have el : ∀ (u z : Str), u.length ≤ 20 → z.length ≤ 20 → cma u ≤ 5 → cma z ≤ 1 → (u ++ Txt.mul z (1 + r)).length ≤ 5000 ∧ u.length + (Txt.mul z (1 + r)).length ≤ sizeLine ∧ cma (u ++ Txt.mul z (1 + r)) ≤ 1000 := fun u z hu hz cu cz => by
      have l1 := mul_len (z := z) (n := 1 + r) (by omega)
      have c1 := mul_cma (z := z) (n := 1 + r) (by omega)
      have m1 : (1 + r).toNat * z.length ≤ 200 * 20 := Nat.mul_le_mul r200 hz
      have m2 : (1 + r).toNat * cma z ≤ 200 * 1 := Nat.mul_le_mul r200 cz
      rw [len_app, cma_app]
      exact ⟨by omega, szz (by omega), by omega⟩
    show gName 4 (.int (1 + r)) [some (.ref p), some (.str x), some (.ref q2), some (.ref l5), none, none] _ _
    obtain ⟨w1, w2, w3⟩ := el "3 in w" "; pour 0 1" (by decide) (by decide) (by decide +kernel) (by decide +kernel)
    obtain ⟨v1, v2, v3⟩ := el "3 in w" ", 1 in 2" (by decide) (by decide) (by decide +kernel) (by decide +kernel)
    refine ⟨_, rfl, _, rfl, _, _, rfl, rfl, by omega, by omega, by decide, _, _, rfl, rfl, w2, _, rfl, _, _, rfl, rfl, by omega, by omega, by decide, _, _, rfl, rfl, v2, mp_step M3q ?_ a2 (by simp) fun q4 G4 y4 f4 a4 M4q => ?_⟩
    · rw [List.all_cons, List.all_cons, tB_str (by omega) (by omega), tB_str (by omega) (by omega)]; rfl
    have a4 : y4.length = 96 := a4
    show gName 2 (.ref q4) [some (.ref p), some (.str x), some (.ref q2), some (.ref l5), some (.int (1 + r)), none] _ _
    obtain ⟨u1, u2, u3⟩ := el "3 in w, 1 in 1" "; unless 0 1" (by decide) (by decide) (by decide +kernel) (by decide +kernel)
    have k59 : (";" : Str).length = 1 := rfl
    have k59c : cma (";" : Str) = 0 := by decide +kernel
    refine ⟨_, rfl, _, rfl, _, _, rfl, rfl, by omega, by omega, by decide, _, _, rfl, rfl, u2, _, _, rfl, rfl, szz (by rw [k59]; omega), mp_step M4q ?_ a4 (by simp) fun q5 G5 y5 f5 a5 M5q => ?_⟩
    · rw [List.all_cons, tB_str (by rw [len_app, k59]; omega) (by rw [cma_app, k59c]; omega)]; rfl
    have a5 : y5.length = 97 := a5
    show gName 2 (.ref q5) [some (.ref p), some (.str x), some (.ref q4), some (.ref l5), some (.int (1 + r)), none] _ _
    have k1 : ("; pour 0 1" : Str).length = 10 := rfl
    have k1c : cma ("; pour 0 1" : Str) = 0 := by decide +kernel
    have k2 : ("; " : Str).length = 2 := rfl
    have k2c : cma ("; " : Str) = 0 := by decide +kernel
    have g1 := TK.replace_len x "; " ";"
    have g2 := TK.replace_len x " in " " "
    have g3 := TK.replace_len x "w" "1"
    have h1 := cma_replace (x := x) (y := "; ") (z := ";") (by decide) (by decide +kernel)
    have h2 := cma_replace (x := x) (y := " in ") (z := " ") (by decide) (by decide +kernel)
    have h3 := cma_replace (x := x) (y := "w") (z := "1") (by decide) (by decide +kernel)
    have z1 : (" " : Str).length = 1 := rfl
    have z2 : ("1" : Str).length = 1 := rfl
    rw [k59] at g1
    rw [z1] at g2
    rw [z2] at g3
    refine ⟨_, rfl, _, rfl, x, _, rfl, rfl, szz (by rw [k1]; omega), ?_⟩
    refine ⟨_, rfl, x, _, rfl, rfl, szz (by rw [k2]; omega), ?_⟩
    refine ⟨_, rfl, x, rfl, ?_, ?_⟩
    · show x.length + (x.length + 1) * 1 ≤ 16777216
      omega
    refine mp_step M5q ?_ a5 (by simp) fun q6 G6 y6 f6 a6 M6q => ?_
    · rw [List.all_cons, List.all_cons, List.all_cons, tB_str (by rw [len_app, k1]; omega) (by rw [cma_app, k1c]; omega), tB_str (by rw [len_app, k2]; omega) (by rw [cma_app, k2c]; omega), tB_str (by omega) (by omega)]; rfl
    have a6 : y6.length = 100 := a6
    show gName 2 (.ref q6) [some (.ref p), some (.str x), some (.ref q5), some (.ref l5), some (.int (1 + r)), none] _ _
    refine ⟨_, rfl, _, rfl, x, rfl, ?_, ?_⟩
    · show x.length + (x.length + 1) * 1 ≤ 16777216
      omega
    refine ⟨_, rfl, x, rfl, ?_, ?_⟩
    · show x.length + (x.length + 1) * 1 ≤ 16777216
      omega
    refine ⟨_, rfl, x, rfl, szz (by omega), fun y hy hc => ?_⟩
    refine mp_step M6q ?_ a6 (by simp) fun q7 G7 y7 f7 a7 M7q => ?_
    · rw [List.all_cons, List.all_cons, List.all_cons, tB_str (by omega) (by omega), tB_str (by omega) (by omega), tB_str (by omega) (by omega)]; rfl
    have a7 : y7.length = 103 := a7
    show gName 2 (.ref q7) [some (.ref p), some (.str x), some (.ref q6), some (.ref l5), some (.int (1 + r)), none] _ _
    exact ⟨_, rfl, _, rfl, _, rfl, mp_pick M7q (by omega) (by omega) fun z H' b s hz hc' => k z H' b s hz hc'⟩
end
end V2


namespace V2
open PySem L2
open PySem.Spec PyProof.Rows
def spMarS : Sp := fun vs H Q _ => ∃ (p : Addr) (x : Str) (m : Nat), vs = [.ref p, .str x] ∧ x.length ≤ 60010 ∧ cma x ≤ 1290 ∧ Sk H p m ∧ m ≤ 80000 ∧ ∀ (z : Str) (H' : Hp), But p H H' → Sk H' p (m + 6) → z.length ≤ 200000 → cma z ≤ 3990 → Q (.str z) H'
theorem joinL_len24 (y : List Nat) : ∀ ps : List (List Nat), (TL.joinL y ps).length ≤ (ps.map List.length).sum + ps.length * y.length
  | [] => Nat.zero_le _
  | [p] => by
    show p.length ≤ _
    simp only [List.map_cons, List.map_nil, List.sum_cons, List.sum_nil, List.length_cons, List.length_nil]
    omega
  | p :: q :: ps => by
    have ih := joinL_len24 y (q :: ps)
    show (p ++ (y ++ TL.joinL y (q :: ps))).length ≤ _
    rw [List.length_append, List.length_append]
    simp only [List.map_cons, List.sum_cons, List.length_cons] at ih ⊢
    have e : (ps.length + 1 + 1) * y.length = (ps.length + 1) * y.length + y.length := by rw [Nat.succ_mul]
    omega
theorem join_len24 (y : Str) (ps : List Str) : (Txt.join y ps).length ≤ (ps.map (·.length)).sum + ps.length * y.length := by
  rw [TL.join_eq, TL.len_tl, TL.tl_join]
  have := joinL_len24 (TL.tl y) (ps.map TL.tl)
  rw [List.length_map, List.map_map] at this
  have e : (ps.map (List.length ∘ TL.tl)) = ps.map (·.length) := List.map_congr_left fun p _ => (TL.len_tl p).symm
  rw [e, ← TL.len_tl] at this
  exact this
theorem set_strs {zs : List Str} {i : Nat} {z : Str} : (zs.map V.str).set i (.str z) = (zs.set i z).map V.str := by rw [List.map_set]
section
variable {base : Heap} {mg : Str → Option Value} {K : PySem.W.Frag} {w : World} {P : Program}
theorem ok_l_marred_script {f : Addr} {fd : FuncData} (F : Fun K "_law_marred_script" "_law_marred_script" s_l_marred_script f fd) (mL : mg "len" = none) (cC : Cal P w K mg base 1 "_law_coin" p_l_coin spCoin) (cO : Cal P w K mg base 2 "_law_odd_script" p_l_odd_script spOddS) : FnOk P w K mg base CX0 3 f fd p_l_marred_script spMarS := by
  refine F.ok sc_l_marred_script (fun vs H Q E h => ?_) (fun cdv A outer s H vs Q E hr h => ?_)
  · obtain ⟨p, x, m, rfl, _⟩ := h
    rfl
  · obtain ⟨p, x, m, rfl, lx, cx, hS, hm, k⟩ := h
    have nd := sc_l_marred_script.nd
    have r1 : Room 1 _ := hr.mono (by decide)
    have r2 : Room 2 _ := hr.mono (by decide)
    have big : (100000 : Nat) < 2 ^ 200 := by decide
    have sz : ∀ {n : Nat}, n ≤ 300000 → n ≤ sizeLine := fun {n} h => Nat.le_trans h (by decide)
    refine ⟨_, pss_cons (ps_par (i := 2) (j := 3) rfl nd rfl rfl (by decide) rfl rfl (pa_cons (pe_c cC r1 (pa_cons (pv 0) (pa_cons (pe_op op_add (pe_callB call_len_str (by rfl) mL PySem.boot_len (pa_cons (pv 1) pa_nil)) pe_int) pa_nil))) (pa_cons (pe_c cC r1 (pa_cons (pv 0) (pa_cons pe_int pa_nil))) pa_nil)) (by rfl))
      (pss_cons (ps_set (i := 4) nd rfl (Or.inl rfl) pe_str)
      (pss_cons (ps_set (i := 5) nd rfl (Or.inl rfl) (pe_ix ix_list (pe_lst (pa_cons pe_str (pa_cons (pv 4) pa_nil))) (pe_c cC r1 (pa_cons (pv 0) (pa_cons pe_int pa_nil))) (fun _ _ => rfl)))
      (pss_cons (ps_set (i := 6) nd rfl (Or.inl rfl) (pe_ix ix_str (pv 5) (pe_c cC r1 (pa_cons (pv 0) (pa_cons (pe_callB call_len_str (by rfl) mL PySem.boot_len (pa_cons (pv 5) pa_nil)) pa_nil))) (fun _ _ => rfl)))
      (Evl.pss_cut (ps_if (pt_cmpR op_eq (pv 3) pe_int (nomark _)) (pss_one (ps_ret (pe_op op_add_str (pe_op op_add_str (pe_slice sl_str (pv 1) po_none (po_some (pv 2))) (pv 6)) (pe_slice sl_str (pv 1) (po_some (pv 2)) po_none)))) pss_nil)
      (pss_cons (ps_if (pt_cmpR op_eq (pv 3) pe_int (nomark _)) (pss_one (ps_ret (pe_op op_add_str (pe_slice sl_str (pv 1) po_none (po_some (pv 2))) (pe_slice sl_str (pv 1) (po_some (pe_op op_add (pv 2) pe_int)) po_none)))) pss_nil)
      (pss_cons (ps_if (pt_cmpR op_eq (pv 3) pe_int (nomark _)) (pss_one (ps_ret (pe_op op_add_str (pe_op op_add_str (pe_slice sl_str (pv 1) po_none (po_some (pv 2))) (pv 6)) (pe_slice sl_str (pv 1) (po_some (pe_op op_add (pv 2) pe_int)) po_none)))) pss_nil)
      (pss_cons (ps_if (pt_cmpR op_eq (pv 3) pe_int (nomark _)) (pss_one (ps_ret (pe_c cO r2 (pa_cons (pv 0) (pa_cons (pv 1) pa_nil))))) pss_nil)
      (pss_cons (ps_if (pt_cmpR op_in_seq (pv 3) (pe_tup (pa_cons pe_int (pa_cons pe_int pa_nil))) (by rfl)) (pss_cons (ps_set (i := 7) nd rfl (Or.inl rfl) (pe_ix ix_list (pe_lst (pa_cons pe_str (pa_cons pe_str pa_nil))) (pe_op op_sub (pv 3) pe_int) (fun _ _ => rfl)))
      (pss_cons (ps_set (i := 8) nd rfl (Or.inl rfl) (pe_split (pv 1) (pv 7)))
      (pss_cons (ps_par (i := 9) (j := 10) rfl nd rfl rfl (by decide) rfl rfl (pa_cons (pe_c cC r1 (pa_cons (pv 0) (pa_cons (pe_callB call_len_seq (by rfl) mL PySem.boot_len (pa_cons (pv 8) pa_nil)) pa_nil))) (pa_cons (pe_c cC r1 (pa_cons (pv 0) (pa_cons (pe_callB call_len_seq (by rfl) mL PySem.boot_len (pa_cons (pv 8) pa_nil)) pa_nil))) pa_nil)) (by rfl))
      (pss_cons (ps_set (i := 11) nd rfl (Or.inl rfl) (pe_ix ix_list (pv 8) (pv 9) (fun _ _ => rfl)))
      (pss_cons (ps_asg (pe_ix ix_list (pv 8) (pv 10) (fun _ _ => rfl)) (pg_sub (pv 8) (pv 9) set_list))
      (pss_cons (ps_asg (pv 11) (pg_sub (pv 8) (pv 10) set_list))
      (pss_one (ps_ret (pe_join (pv 7) (pv 8)))))))))) pss_nil)
      (pss_one (ps_ret (pv 1))))))))))), ?_⟩
    have szx : x.length ≤ sizeLine := sz (by omega)
    refine ⟨_, rfl, _, rfl, x, rfl, szx, _, _, rfl, rfl, p, _, m, rfl, hS, by omega, by omega, by omega, fun spot H1 a0 a1 b1 s1 _ => ⟨_, rfl, p, 8, m + 1, rfl, s1, by omega, by decide, by decide, fun way H2 w0 w1 b2 s2 _ => ⟨_, _, rfl, ?_⟩⟩⟩
    have B2 := b1.trans b2
    have lw : ("ABCDEFGHIJKLMNOPQRSTUVWXYZ0123456789abcdefghijklmnopqrstuvwxyz !#$&'()*+,-./:;<=>?\x40[]^_`{|}~\"\\" : Str).length ≤ 200 ∧ 0 < ("ABCDEFGHIJKLMNOPQRSTUVWXYZ0123456789abcdefghijklmnopqrstuvwxyz !#$&'()*+,-./:;<=>?\x40[]^_`{|}~\"\\" : Str).length := by decide +kernel
    refine ⟨_, rfl, by show 2 ≤ _; decide, fun l hl => ⟨_, rfl, p, 2, m + 2, rfl, ?_, by omega, by decide, by decide, fun r H3 c0 c1 b3 s3 _ => ?_⟩⟩
    · obtain ⟨a, b, c, hp, q⟩ := s2
      exact ⟨a, b, c, Evl.Ex.new hl _ _ hp, q⟩
    have B3 := (B2.trans (But.of_ex (Evl.Ex.new hl))).trans b3
    have lp : l ≠ p := fun e => by
      obtain ⟨a, b, c, hp, q⟩ := s2
      rw [e, hp] at hl; cases hl
    have gl := b3 l _ lp upd_same
    have pick : ∃ sg : Str, atI [V.str "3 in w; 0,1/pour", V.str "ABCDEFGHIJKLMNOPQRSTUVWXYZ0123456789abcdefghijklmnopqrstuvwxyz !#$&'()*+,-./:;<=>?\x40[]^_`{|}~\"\\"] r = some (.str sg) ∧ sg.length ≤ 200 ∧ 0 < sg.length := by
      have : r = 0 ∨ r = 1 := by omega
      rcases this with rfl | rfl
      · exact ⟨_, rfl, by decide +kernel, by decide +kernel⟩
      · exact ⟨_, rfl, lw⟩
    obtain ⟨sg, at1, sl, s0⟩ := pick
    refine ⟨l, _, r, _, rfl, rfl, SqL.of gl, at1, ?_⟩
    refine ⟨_, rfl, _, rfl, _, rfl, sg, rfl, sz (by omega), p, _, m + 3, rfl, s3, by omega, by omega, by omega, fun r' H4 d0 d1 b4 s4 _ => ?_⟩
    have lsg : sg.cps.toList.length = sg.length := by rw [Array.length_toList]; rfl
    obtain ⟨c, hc⟩ : ∃ c, sg.cps.toList[r'.toNat]? = some c := ⟨_, List.getElem?_eq_getElem (by omega)⟩
    have at2 : atI sg.cps.toList r' = some c := by
      have e : r' = ((r'.toNat : Nat) : Int) := (Int.toNat_of_nonneg d0).symm
      rw [e]
      exact atI_nat hc
    refine ⟨sg, r', c, rfl, rfl, sz (by omega), at2, ?_⟩
    have B4 := B3.trans b4
    have ct : ∀ lo hi, (cutS x lo hi).length ≤ 60010 := fun lo hi => Nat.le_trans (cutS_length x lo hi) lx
    have cc : ∀ lo hi, cma (cutS x lo hi) ≤ 1290 := fun lo hi => Nat.le_trans (cma_cut x lo hi) cx
    have S6 := s4.le (show m + 3 + 1 ≤ m + 6 by omega)
    have c1 : (⟨#[c]⟩ : Str).length = 1 := rfl
    have fin3 : ∀ (u v w : Str), u.length ≤ 60010 → v.length ≤ 1 → w.length ≤ 60010 → cma u ≤ 1290 → cma w ≤ 1290 → u.length + v.length ≤ sizeLine ∧ (u ++ v).length + w.length ≤ sizeLine ∧ (u ++ v ++ w).length ≤ 200000 ∧ cma (u ++ v ++ w) ≤ 3990 := fun u v w h1 h2 h3 h4 h5 => by
      have := cma_le v
      simp only [len_app, cma_app]
      exact ⟨sz (by omega), sz (by omega), by omega, by omega⟩
    refine ⟨fun σ H' => H' = H4 ∧ way ≠ 0 ∧ ∃ wd : Str, σ = [some (.ref p), some (.str x), some (.int spot), some (.int way), some (.str wd), some (.str sg), some (.str ⟨#[c]⟩), none, none, none, none, none], ?_, ?_⟩
    · refine ⟨_, rfl, rfl, _, rfl, ?_⟩
      by_cases h : way = 0
      · subst h
        obtain ⟨z1, z2, z3, z4⟩ := fin3 (cutS x none (some spot)) ⟨#[c]⟩ (cutS x (some spot) none) (ct _ _) (Nat.le_of_eq c1) (ct _ _) (cc _ _) (cc _ _)
        exact if_t rfl ⟨_, rfl, _, rfl, spot, rfl, x, rfl, szx, _, rfl, _, _, rfl, rfl, z1, _, rfl, _, rfl, spot, rfl, x, rfl, szx, _, _, rfl, rfl, z2, k _ H4 B4 S6 z3 z4⟩
      · exact if_f (decide_eq_false fun e => h (by injection e)) ⟨rfl, h, _, rfl⟩
    rintro σ H' ⟨rfl, h0, wd, rfl⟩
    refine ⟨_, rfl, rfl, _, rfl, ?_⟩
    by_cases h1 : way = 1
    · subst h1
      have z : ∀ (u v : Str), u.length ≤ 60010 → v.length ≤ 60010 → cma u ≤ 1290 → cma v ≤ 1290 → u.length + v.length ≤ sizeLine ∧ (u ++ v).length ≤ 200000 ∧ cma (u ++ v) ≤ 3990 := fun u v h1 h2 h3 h4 => by
        rw [len_app, cma_app]
        exact ⟨sz (by omega), by omega, by omega⟩
      obtain ⟨z1, z2, z3⟩ := z (cutS x none (some spot)) (cutS x (some (spot + 1)) none) (ct _ _) (ct _ _) (cc _ _) (cc _ _)
      exact if_t rfl ⟨_, rfl, _, rfl, spot, rfl, x, rfl, szx, _, rfl, _, rfl, spot, 1, rfl, rfl, spot + 1, rfl, x, rfl, szx, _, _, rfl, rfl, z1, k _ H' B4 S6 z2 z3⟩
    refine if_f (decide_eq_false fun e => h1 (by injection e)) ⟨_, rfl, rfl, _, rfl, ?_⟩
    by_cases h2 : way = 2
    · subst h2
      obtain ⟨z1, z2, z3, z4⟩ := fin3 (cutS x none (some spot)) ⟨#[c]⟩ (cutS x (some (spot + 1)) none) (ct _ _) (Nat.le_of_eq c1) (ct _ _) (cc _ _) (cc _ _)
      exact if_t rfl ⟨_, rfl, _, rfl, spot, rfl, x, rfl, szx, _, rfl, _, _, rfl, rfl, z1, _, rfl, _, rfl, spot, 1, rfl, rfl, spot + 1, rfl, x, rfl, szx, _, _, rfl, rfl, z2, k _ H' B4 S6 z3 z4⟩
    refine if_f (decide_eq_false fun e => h2 (by injection e)) ⟨_, rfl, rfl, _, rfl, ?_⟩
    by_cases h3 : way = 3
    · subst h3
      exact if_t rfl ⟨_, rfl, _, rfl, p, x, m + 4, rfl, by omega, by omega, s4, by omega, fun z H5 b5 s5 hz hc => k z H5 (B4.trans b5) s5 hz hc⟩
    refine if_f (decide_eq_false fun e => h3 (by injection e)) ?_
    refine ⟨_, rfl, by show 2 ≤ _; decide, fun t ht => ⟨t, _, rfl, .inr (SqT.of upd_same), rfl, rfl, _, rfl, ?_⟩⟩
    have e5 := Evl.Ex.new (o := .tup [.int 4, .int 5]) ht
    generalize upd H' t (.tup [.int 4, .int 5]) = H5 at e5 ⊢
    by_cases h45 : way = 4 ∨ way = 5
    · have pick : ∃ bt : Str, atI [V.str " ", V.str "; "] (way - 4) = some (.str bt) ∧ 1 ≤ bt.length ∧ bt.length ≤ 2 ∧ cma bt = 0 ∧ Txt.split "" bt ≠ [] := by
        rcases h45 with rfl | rfl
        · exact ⟨_, rfl, by decide, by decide, by decide +kernel, by decide +kernel⟩
        · exact ⟨_, rfl, by decide, by decide, by decide +kernel, by decide +kernel⟩
      obtain ⟨bt, atb, lb1, lb2, cb, hbt⟩ := pick
      refine if_t (by rcases h45 with rfl | rfl <;> rfl) ?_
      refine ⟨by show 2 ≤ _; decide, fun l2 hl2 => ⟨_, rfl, _, _, rfl, rfl, l2, _, way - 4, _, rfl, rfl, SqL.of upd_same, atb, ?_⟩⟩
      have e6 := e5.trans (Evl.Ex.new (o := .lst [.str " ", .str "; "]) hl2)
      generalize upd H5 l2 (.lst [.str " ", .str "; "]) = H6 at e6 ⊢
      refine ⟨_, rfl, ⟨_, rfl⟩, _, rfl, x, bt, rfl, rfl, beq_eq_false_iff_ne.mpr (by omega), sz (by omega), fun L hL => ?_⟩
      have n0 : 0 < (Txt.split x bt).length := List.length_pos_iff.mpr (split_ne x hbt)
      have n1 : (Txt.split x bt).length ≤ x.length + 1 := split_cnt (by omega)
      have sl : ((Txt.split x bt).map (·.length)).sum ≤ x.length := split_sum x bt
      have sc : ((Txt.split x bt).map cma).sum = cma x := cma_pieces cb
      generalize Txt.split x bt = bs at n0 n1 sl sc ⊢
      have e7 := e6.trans (Evl.Ex.new (o := .lst (bs.map V.str)) hL)
      have gL : (upd H6 L (.lst (bs.map V.str))) L = some (.lst (bs.map V.str)) := upd_same
      have Lp : L ≠ p := fun e => by
        obtain ⟨a, b, c, hp, q⟩ := S6
        rw [e, e6 _ _ hp] at hL; cases hL
      generalize upd H6 L (.lst (bs.map V.str)) = H7 at e7 gL ⊢
      have s7 : Sk H7 p (m + 4) := by
        obtain ⟨a, b, c, hp, q⟩ := s4
        exact ⟨a, b, c, e7 _ _ hp, q⟩
      have ln : (bs.map V.str).length = bs.length := List.length_map ..
      refine ⟨_, rfl, _, rfl, L, _, rfl, .inl (SqL.of gL), p, _, m + 4, rfl, s7, by omega, by rw [ln]; omega, by rw [ln]; omega, fun ra H8 f0 f1 b8 s8 _ => ?_⟩
      have g8 := b8 _ _ Lp gL
      refine ⟨_, rfl, _, rfl, L, _, rfl, .inl (SqL.of g8), p, _, m + 5, rfl, s8, by omega, by rw [ln]; omega, by rw [ln]; omega, fun rb H9 k0 k1 b9 s9 _ => ⟨_, _, rfl, ?_⟩⟩
      have g9 := b9 _ _ Lp g8
      rw [ln] at f1 k1
      obtain ⟨ja, rfl⟩ : ∃ ja : Nat, ra = (ja : Int) := ⟨ra.toNat, (Int.toNat_of_nonneg f0).symm⟩
      obtain ⟨jb, rfl⟩ : ∃ jb : Nat, rb = (jb : Int) := ⟨rb.toNat, (Int.toNat_of_nonneg k0).symm⟩
      have ia : ja < bs.length := by omega
      have ib : jb < bs.length := by omega
      have atS : ∀ (zs : List Str) (j : Nat) (h : j < zs.length), atI (zs.map V.str) (j : Int) = some (.str zs[j]) := fun zs j h => atI_nat (by rw [List.getElem?_map, List.getElem?_eq_getElem h]; rfl)
      have ixS : ∀ (zs : List Str) (j : Nat) (h : j < zs.length), ixN (zs.map V.str).length (j : Int) = some j := fun zs j h => by
        unfold ixN
        rw [if_pos (by omega), List.length_map]
        simp [h]
      refine ⟨_, rfl, _, rfl, L, _, _, _, rfl, rfl, SqL.of g9, atS bs ja ia, ?_⟩
      refine ⟨_, rfl, _, rfl, L, _, _, _, rfl, rfl, SqL.of g9, atS bs jb ib, ?_⟩
      refine ⟨_, rfl, _, rfl, L, _, _, ja, rfl, rfl, g9, ixS bs ja ia, ?_⟩
      rw [set_strs]
      refine ⟨_, rfl, _, rfl, _, rfl, L, _, _, jb, rfl, rfl, upd_same, ixS _ jb (by rw [List.length_set]; exact ib), ?_⟩
      rw [set_strs]
      have lz : ((bs.set ja bs[jb]).set jb bs[ja]).length = bs.length := by rw [List.length_set, List.length_set]
      have s1' := sumf_swap (·.length) bs ja jb ia ib
      have s2' := sumf_swap cma bs ja jb ia ib
      generalize (bs.set ja bs[jb]).set jb bs[ja] = ys at lz s1' s2' ⊢
      have hj := join_len24 bt ys
      have hl2 : ys.length * bt.length ≤ 60011 * 2 := Nat.mul_le_mul (by omega) lb2
      have hb : (Txt.join bt ys).length ≤ 200000 := by omega
      have hcj : cma (Txt.join bt ys) ≤ 3990 := by rw [cma_join cb]; omega
      refine ⟨_, rfl, ⟨_, rfl⟩, _, rfl, bt, L, ys, rfl, rfl, .inl (SqL.of upd_same), ?_, k _ _ ?_ ?_ hb hcj⟩
      · omega
      · have hn : H L = none := by
          cases q : H L with
          | none => rfl
          | some o => rw [e6 _ _ (B4 _ _ Lp q)] at hL; cases hL
        intro c o hc ho
        have cL : c ≠ L := fun e => by rw [e, hn] at ho; cases ho
        rw [upd_ne cL, upd_ne cL]
        exact b9 _ _ hc (b8 _ _ hc (e7 _ _ (B4 _ _ hc ho)))
      · obtain ⟨a, b, c, hp, q⟩ := s9
        exact ⟨a, b, c, by rw [upd_ne (Ne.symm Lp), upd_ne (Ne.symm Lp)]; exact hp, q⟩
    · refine if_f (by show inV (.int way) [.int 4, .int 5] = false; have n4 : way ≠ 4 := fun e => h45 (.inl e); have n5 : way ≠ 5 := fun e => h45 (.inr e); simp [inV, eqV, Ne.symm n4, Ne.symm n5]) ⟨_, rfl, k x H5 (B4.trans (But.of_ex e5)) ?_ (by omega) (by omega)⟩
      obtain ⟨a, b, c, hp, q⟩ := S6
      exact ⟨a, b, c, e5 _ _ hp, q⟩
end
end V2


namespace V2
open PySem L2
open PySem.Spec PyProof.Rows
theorem dsm_of {n : Int} {d : Deed} (h : okD n d) (n20 : n ≤ 20) (hp : ∀ k a, d = .po k a → a ≤ 1000) (hq : ∀ p q, partD d = some (p, q) → q ≤ 1001) : DSm d := by
  intro t ht
  cases d with
  | op ks =>
    simp only [dTh, List.mem_cons, List.not_mem_nil, or_false] at ht
    rcases ht with rfl | rfl
    · show ("open" : Str).length ≤ 10
      decide
    · exact ⟨h.2.1, fun k hk => by have := h.2.2.2 k hk; unfold Sm; omega⟩
  | po k a =>
    simp only [dTh, List.mem_cons, List.not_mem_nil, or_false] at ht
    obtain ⟨⟨h1, h2⟩, h3⟩ := h
    have h4 := hp k a rfl
    rcases ht with rfl | rfl | rfl
    · show ("pour" : Str).length ≤ 10
      decide
    · show Sm k
      unfold Sm; omega
    · show Sm a
      unfold Sm; omega
  | sc k p q =>
    simp only [dTh, List.mem_cons, List.not_mem_nil, or_false] at ht
    obtain ⟨⟨h1, h2⟩, h3, h4, h5⟩ := h
    have h6 := hq p q rfl
    rcases ht with rfl | rfl | rfl
    · show ("scoop" : Str).length ≤ 10
      decide
    · show Sm k
      unfold Sm; omega
    · show Sm p ∧ Sm q
      unfold Sm; omega
  | mv k m p q =>
    simp only [dTh, List.mem_cons, List.not_mem_nil, or_false] at ht
    obtain ⟨⟨h1, h2⟩, ⟨h1', h2'⟩, _, h3, h4, h5⟩ := h
    have h6 := hq p q rfl
    rcases ht with rfl | rfl | rfl | rfl
    · show ("move" : Str).length ≤ 10
      decide
    · show Sm k
      unfold Sm; omega
    · show Sm m
      unfold Sm; omega
    · show Sm p ∧ Sm q
      unfold Sm; omega
  | un k m =>
    simp only [dTh, List.mem_cons, List.not_mem_nil, or_false] at ht
    obtain ⟨⟨h1, h2⟩, ⟨h1', h2'⟩, _⟩ := h
    rcases ht with rfl | rfl | rfl
    · show ("unless" : Str).length ≤ 10
      decide
    · show Sm k
      unfold Sm; omega
    · show Sm m
      unfold Sm; omega
theorem shw_sm {ts : List Tk} {ds : List Deed} (h : ShW ts ds) (q : PqB ds) : (∀ t ∈ ts, TkSm t) ∧ ∀ d ∈ ds, DSm d := by
  refine ⟨fun t ht => ?_, fun d hd => ?_⟩
  · have h1 := h.ok.1.2.1 t ht
    have h2 := h.w1000 t ht
    refine ⟨fun z hz => ?_, ?_⟩
    · have := h1.1 z hz
      have := h2.1 z hz
      unfold Sm; omega
    · have := h1.2
      have := h2.2
      unfold Sm; omega
  · have l20 := h.ok.1.1
    exact dsm_of (h.ok.2.2 d hd) (by omega) (fun k a e => h.p1000 k a (e ▸ hd)) (q d hd)
section
variable {base : Heap} {mg : Str → Option Value} {K : PySem.W.Frag} {w : World} {P : Program} {C fI fT fS pT_ pS fU pU fN fQ fW : Addr}
end
end V2




namespace V2
open PySem L2
open PySem.Spec PyProof.Rows
/-- a != b, two lists of the same texts -/
def rNeS (K : PySem.W.Frag) : R2 := fun x y H Q => ∃ (a b : Addr) (zs : List Str), x = .ref a ∧ y = .ref b ∧ SqL K H a (zs.map V.str) ∧ SqL K H b (zs.map V.str) ∧ Q (.bl false) H
theorem vals_str : ∀ {zs : List Str} {us : List Value} {j : Nat} {v : Value}, Vals (zs.map V.str) us → us[j]? = some v → ∃ z t, zs[j]? = some z ∧ v = .str z t
  | [], _, j, v, .nil, h => by cases h
  | z :: zs, _, 0, v, .cons r t, h => by
    obtain ⟨k, rfl⟩ := r
    cases h
    exact ⟨z, k, rfl, rfl⟩
  | z :: zs, _, j + 1, v, .cons r t, h => vals_str (j := j) t h
theorem op_neS {X : Cx} (hu : X.A.units + 64 < cLine) : OpR X (compareOp .NotEq) (rNeS X.K) := by
  intro pins s σ H x y v u Q I rx ry h
  obtain ⟨a, b, zs, rfl, rfl, ha, hb, q⟩ := h
  cases (show v = Value.ref a from rx)
  cases (show u = Value.ref b from ry)
  obtain ⟨us, r1, p1, _⟩ := I.list ha
  obtain ⟨ws, r2, p2, _⟩ := I.list hb
  have l1 : us.length = zs.length := by rw [← r1.length, List.length_map]
  have l2 : ws.length = zs.length := by rw [← r2.length, List.length_map]
  have z := SeqAt.RcNeAt.lists (A := X.A) (e := fun _ => true) p1.isList p2.isList (by rw [List.size_toArray, List.size_toArray, l1, l2]) (by omega) (fun j h1 h2 => by
    rw [List.size_toArray] at h1 h2
    obtain ⟨z1, t1, e1, f1⟩ := vals_str r1 (List.getElem?_eq_getElem h1)
    obtain ⟨z2, t2, e2, f2⟩ := vals_str r2 (List.getElem?_eq_getElem h2)
    rw [e1] at e2
    cases e2
    show SeqAt.EqAt X.A.in1 s us[j] ws[j] true
    rw [f1, f2]
    have := (SeqRoads2.EqGives.str z1 z1 t1 t2).at X.A.in1 s
    rw [beq_self_eq_true] at this
    exact this)
  have e0 : (!(List.range us.toArray.size).all fun _ => true) = false := by simp
  rw [e0] at z
  exact z _ _ _ _ ⟨.bl false, H, I, rfl, q⟩
def spRi54 : Sp := fun vs H Q _ => ∃ (p : Addr) (m : Nat), vs = [.ref p] ∧ Sk H p m ∧ m ≤ 60000 ∧ ∀ H', But p H H' → Sk H' p (m + 3100) → Q (.bl true) H'
/-- commas of a script's text -/
theorem cma_nT (n : Int) : cma (nT n) = 0 := List.count_eq_zero.mpr (nT44 n)
theorem cma_lst (ks : List Int) : cma (Txt.join "," (ks.map nT)) ≤ ks.length := by
  have h : ∀ ps : List (List Nat), (∀ p ∈ ps, p.count 44 = 0) → (TL.joinL (TL.tl ",") ps).count 44 ≤ ps.length := fun ps => by
    have t1 : (TL.tl (("," : Str))).count 44 = 1 := by decide +kernel
    induction ps with
    | nil => intro _; exact Nat.zero_le _
    | cons p r ih =>
      intro hp
      cases r with
      | nil => show p.count 44 ≤ 1; rw [hp p (by simp)]; exact Nat.zero_le _
      | cons q r =>
        show (p ++ (TL.tl "," ++ TL.joinL (TL.tl ",") (q :: r))).count 44 ≤ _
        rw [List.count_append, List.count_append, t1, hp p (by simp)]
        have := ih fun z hz => hp z (List.mem_cons_of_mem _ hz)
        simp only [List.length_cons] at this ⊢
        omega
  unfold cma
  rw [TL.join_eq, TL.tl_join]
  refine Nat.le_trans (h _ fun p hp => ?_) (by rw [List.length_map, List.length_map]; exact Nat.le_refl _)
  obtain ⟨q, hq, rfl⟩ := List.mem_map.mp hp
  obtain ⟨n, _, rfl⟩ := List.mem_map.mp hq
  exact cma_nT n
theorem cma_th {t : Thg} (h : OkTh t) : cma (thT t) ≤ 20 := by
  cases t with
  | str x =>
    have : x.length ≤ 10 := h
    exact Nat.le_trans (cma_le x) (by omega)
  | lst ks => exact Nat.le_trans (cma_lst ks) h.1
  | fr p q =>
    show cma (Txt.join "/" ([nT p, nT q])) ≤ 20
    rw [cma_join (by decide +kernel)]
    simp [cma_nT]
  | int n => show cma (nT n) ≤ 20; rw [cma_nT]; exact Nat.zero_le _
theorem sumc_le {B : Nat} : ∀ {ps : List Str}, (∀ p ∈ ps, cma p ≤ B) → (ps.map cma).sum ≤ ps.length * B
  | [], _ => Nat.zero_le _
  | p :: ps, h => by
    have h1 := sumc_le (ps := ps) fun q hq => h q (List.mem_cons_of_mem _ hq)
    have h2 := h p List.mem_cons_self
    simp only [List.map_cons, List.sum_cons, List.length_cons]
    rw [Nat.succ_mul]
    omega
/-- a step has one list at most -/
theorem cma_dT {d : Deed} (h : DSm d) : cma (dT d) ≤ 20 := by
  show cma (Txt.join " " ((dTh d).map thT)) ≤ 20
  rw [cma_join (by decide +kernel)]
  cases d with
  | op ks =>
    have := cma_th (h (.lst ks) (by simp [dTh]))
    simp only [dTh, List.map_cons, List.map_nil, List.sum_cons, List.sum_nil]
    have e : cma (thT (.str "open")) = 0 := by decide +kernel
    omega
  | po k a =>
    simp only [dTh, List.map_cons, List.map_nil, List.sum_cons, List.sum_nil]
    have e : cma (thT (.str "pour")) = 0 := by decide +kernel
    have e1 : cma (thT (.int k)) = 0 := cma_nT k
    have e2 : cma (thT (.int a)) = 0 := cma_nT a
    omega
  | sc k p q =>
    simp only [dTh, List.map_cons, List.map_nil, List.sum_cons, List.sum_nil]
    have e : cma (thT (.str "scoop")) = 0 := by decide +kernel
    have e1 : cma (thT (.int k)) = 0 := cma_nT k
    have e2 : cma (thT (.fr p q)) = 0 := by
      show cma (Txt.join "/" ([nT p, nT q])) = 0
      rw [cma_join (by decide +kernel)]
      simp [cma_nT]
    omega
  | mv k m p q =>
    simp only [dTh, List.map_cons, List.map_nil, List.sum_cons, List.sum_nil]
    have e : cma (thT (.str "move")) = 0 := by decide +kernel
    have e1 : cma (thT (.int k)) = 0 := cma_nT k
    have e3 : cma (thT (.int m)) = 0 := cma_nT m
    have e2 : cma (thT (.fr p q)) = 0 := by
      show cma (Txt.join "/" ([nT p, nT q])) = 0
      rw [cma_join (by decide +kernel)]
      simp [cma_nT]
    omega
  | un k m =>
    simp only [dTh, List.map_cons, List.map_nil, List.sum_cons, List.sum_nil]
    have e : cma (thT (.str "unless")) = 0 := by decide +kernel
    have e1 : cma (thT (.int k)) = 0 := cma_nT k
    have e2 : cma (thT (.int m)) = 0 := cma_nT m
    omega
theorem cma_tk (t : Tk) : cma (tkT t) = 0 := by
  rw [tkT_join, cma_join (by decide +kernel)]
  have e : cma ("in" : Str) = 0 := by decide +kernel
  have e2 : cma (wT t.1) = 0 := by
    cases t.1 with
    | none => decide +kernel
    | some z => exact cma_nT z
  simp [cma_nT, e, e2]
theorem cma_tks (ts : List Tk) : cma (tksT ts) ≤ ts.length := by
  have h : ∀ ps : List (List Nat), (∀ p ∈ ps, p.count 44 = 0) → (TL.joinL (TL.tl ", ") ps).count 44 ≤ ps.length := fun ps => by
    have t1 : (TL.tl ((", " : Str))).count 44 = 1 := by decide +kernel
    induction ps with
    | nil => intro _; exact Nat.zero_le _
    | cons p r ih =>
      intro hp
      cases r with
      | nil => show p.count 44 ≤ 1; rw [hp p (by simp)]; exact Nat.zero_le _
      | cons q r =>
        show (p ++ (TL.tl ", " ++ TL.joinL (TL.tl ", ") (q :: r))).count 44 ≤ _
        rw [List.count_append, List.count_append, t1, hp p (by simp)]
        have := ih fun z hz => hp z (List.mem_cons_of_mem _ hz)
        simp only [List.length_cons] at this ⊢
        omega
  unfold cma tksT
  rw [TL.join_eq, TL.tl_join]
  refine Nat.le_trans (h _ fun p hp => ?_) (by rw [List.length_map, List.length_map]; exact Nat.le_refl _)
  obtain ⟨q, hq, rfl⟩ := List.mem_map.mp hp
  obtain ⟨t, _, rfl⟩ := List.mem_map.mp hq
  exact cma_tk t
theorem cma_sc {ts : List Tk} {ds : List Deed} (l20 : ts.length ≤ 20) (hd : ∀ d ∈ ds, DSm d) (h60 : ds.length ≤ 60) : cma (scT ts ds) ≤ 1290 := by
  show cma (Txt.join "; " (tksT ts :: ds.map dT)) ≤ 1290
  rw [cma_join (by decide +kernel)]
  have h1 := cma_tks ts
  have h2 := sumc_le (B := 20) (ps := ds.map dT) (fun p hp => by
    obtain ⟨d, hdm, rfl⟩ := List.mem_map.mp hp
    exact cma_dT (hd d hdm))
  rw [List.length_map] at h2
  simp only [List.map_cons, List.sum_cons]
  omega
section
variable {base : Heap} {mg : Str → Option Value} {K : PySem.W.Frag} {w : World} {P : Program}
theorem ok_l_right54 {f : Addr} {fd : FuncData} (F : Fun K "_law_right" "_law_right" s_l_right f fd) (mL : mg "len" = none) (mR : mg "range" = none) (cC : Cal P w K mg base 1 "_law_coin" p_l_coin spCoin) (cG : Cal P w K mg base 5 "_law_great_plan" p_l_great_plan spShape4) (cP : Cal P w K mg base 5 "_law_drawn_plan" p_l_drawn_plan spShape4) (cT : Cal P w K mg base 2 "_law_script_text" p_l_script_text spScT)
    (cM : Cal P w K mg base 3 "_law_marred_script" p_l_marred_script spMarS) (cI : Cal P w K mg base 4 "_law_is_script" p_l_is_script spScL) (cA : Cal P w K mg base 8 "_law_caught_script" p_l_caught_script spCauS) : FnOk P w K mg base CX0 9 f fd p_l_right spRi54 := by
  refine F.ok sc_l_right (fun vs H Q E h => ?_) (fun cdv A outer s H vs Q E hr h => ?_)
  · obtain ⟨p, m, rfl, _⟩ := h
    rfl
  · obtain ⟨sk, m, rfl, hS, hm, k⟩ := h
    have nd := sc_l_right.nd
    have r1 : Room 1 _ := hr.mono (by decide)
    have r2 : Room 2 _ := hr.mono (by decide)
    have r3 : Room 3 _ := hr.mono (by decide)
    have r4 : Room 4 _ := hr.mono (by decide)
    have r5 : Room 5 _ := hr.mono (by decide)
    refine ⟨_, pss_cons (ps_set (i := 1) nd rfl (Or.inl rfl) (pe_ifExp (pt_cmpR op_eq (pe_c cC r1 (pa_cons (pv 0) (pa_cons pe_int pa_nil))) pe_int (nomark _)) (pe_c cG r5 (pa_cons (pv 0) pa_nil)) (pe_c cP r5 (pa_cons (pv 0) pa_nil))))
      (pss_cons (ps_set (i := 2) nd rfl (Or.inl rfl) (pe_c cT r2 (pa_cons (pv 1) pa_nil)))
      (pss_cons (ps_for PassesOwn.never rfl (pi_range1 (by rfl) mR (pa_cons pe_int pa_nil)) (pg_name (i := 3) nd rfl (Or.inl rfl))
        (pss_cons (ps_set (i := 4) nd rfl (Or.inl rfl) (pe_c cM r3 (pa_cons (pv 0) (pa_cons (pv 2) pa_nil))))
        (pss_cons (ps_set (i := 5) nd rfl (Or.inl rfl) (pe_ifExp (pt_val (pe_c cI r4 (pa_cons (pv 4) pa_nil))) (pe_lst (pa_cons (pv 4) pa_nil)) (pe_lst pa_nil)))
        (pss_one (ps_if (PW.pt (pw_and (pt_cmpR op_le (pe_callB call_len_str (by rfl) mL PySem.boot_len (pa_cons (pv 4) pa_nil)) pe_int (nomark _)) (pw_and1 (pt_cmpR (op_neS hr.units) (pe_c cA hr (pa_cons (pv 4) (pa_cons (pe_c cC r1 (pa_cons (pv 0) (pa_cons pe_int pa_nil))) pa_nil))) (pv 5) (nomark _))))) (pss_one (ps_ret pe_bl)) pss_nil)))))
      (pss_one (ps_ret pe_bl)))), ?_⟩
    refine ⟨_, rfl, sk, 4, m, rfl, hS, by omega, by decide, by decide, fun c0 H1 c00 c01 b1 s1 z1 => ⟨rfl, _, rfl, ?_⟩⟩
    have both : ∀ {R : VK}, (∀ (t : Addr) (ts : List Tk) (ds : List Deed) (H' : Hp), But sk H1 H' → Sk H' sk (m + 1 + 3000) → ShAt (wo sk H') t ts ds → ShW ts ds → PqB ds → R (.ref t) H') → (if decide (V.int c0 = V.int 0) = true then tCall spShape4 [] E0 (tCons (tVar 0) tNil) [some (.ref sk), none, none, none, none, none] H1 R else tCall spShape4 [] E0 (tCons (tVar 0) tNil) [some (.ref sk), none, none, none, none, none] H1 R) := fun {R} h => by
      split
      · exact ⟨_, rfl, sk, m + 1, rfl, s1, by omega, h⟩
      · exact ⟨_, rfl, sk, m + 1, rfl, s1, by omega, h⟩
    refine both fun t ts ds H2 b2 s2 hSh hW hQ => ?_
    clear both
    obtain ⟨tsm, dsm⟩ := shw_sm hW hQ
    have ok := hW.ok
    have l20 := ok.1.1
    have l60 := ok.2.1
    obtain ⟨lv, ld, ht, hT, hD⟩ := id hSh
    have b02 := b1.trans b2
    refine ⟨_, rfl, t, lv, ld, ts, ds, rfl, wo_ex _ _ ht, (hT.ex wo_ex).dq, (hD.ex wo_ex).dq, by omega, by omega, tsm, dsm, fun H3 e3 => ?_⟩
    have lenW : (scT ts ds).length ≤ 60000 := scT_len tsm l20 dsm l60
    have cmW := cma_sc l20 dsm l60
    generalize scT ts ds = W at lenW cmW ⊢
    have b3 := b02.trans (But.of_ex (p := sk) e3)
    have s3 := s2.ex e3
    refine ⟨8, rfl, by decide, by decide, for_range (n := 8) (fun i σ H' => (∃ v3 v4 v5, σ = [some (.ref sk), some (.ref t), some (.str W), v3, v4, v5]) ∧ But sk H H' ∧ Sk H' sk (m + 3001 + 7 * i)) ⟨⟨_, _, _, rfl⟩, b3, s3.le (by omega)⟩ ?_ ?_⟩
    · rintro i σ H4 hi ⟨⟨v3, v4, v5, rfl⟩, b4, s4⟩
      refine ⟨_, rfl, _, rfl, sk, W, _, rfl, by omega, cmW, s4, by omega, fun z H5 b5 s5 hz hc => ?_⟩
      by_cases hsc : ScX z
      · refine ⟨_, rfl, z, rfl, hz, hc, fun b hb H6 e6 => ⟨_, rfl, ?_⟩⟩
        obtain rfl : b = true := hb.mpr hsc
        refine if_t rfl ⟨_, rfl, by show 1 ≤ sizeLine; decide, fun l hl => ?_⟩
        have e7 := Evl.Ex.new (o := .lst [.str z]) hl
        have gl := upd_same (H := H6) (a := l) (o := .lst [.str z])
        have s7 : Sk (upd H6 l (.lst [.str z])) sk (m + 3001 + 7 * i + 6) := (s5.ex e6).ex e7
        have b7 := (b4.trans b5).trans (But.of_ex (p := sk) (e6.trans e7))
        have nl : l ≠ sk := fun e => by
          obtain ⟨a, b, c, hp, _⟩ := s5.ex e6
          rw [e, hp] at hl
          cases hl
        generalize upd H6 l (.lst [.str z]) = H7 at e7 gl s7 b7
        refine ⟨_, rfl, z, rfl, Nat.le_trans hz (by decide), _, _, rfl, rfl, _, rfl, ?_⟩
        by_cases hl3 : (z.length : Int) ≤ 3000
        · refine if_t (decide_eq_true hl3) ⟨_, rfl, _, rfl, sk, 2, _, rfl, s7, by omega, by decide, by decide, fun r H8 r0 r1' b8 s8 _ => ?_⟩
          refine ⟨z, r, rfl, by omega, fun _ p H9 hp e9 g9 => ?_, fun h => absurd hsc h⟩
          refine ⟨_, rfl, p, l, [z], rfl, rfl, SqL.of g9, SqL.of (e9 _ _ (b8 _ _ nl gl)), _, rfl, if_f rfl ⟨⟨_, _, _, rfl⟩, (b7.trans b8).trans (But.of_ex e9), (s8.ex e9).le (by omega)⟩⟩
        · exact if_f (decide_eq_false hl3) (if_f rfl ⟨⟨_, _, _, rfl⟩, b7, s7.le (by omega)⟩)
      · refine ⟨_, rfl, z, rfl, hz, hc, fun b hb H6 e6 => ⟨_, rfl, ?_⟩⟩
        obtain rfl : b = false := by
          cases b with
          | false => rfl
          | true => exact absurd (hb.mp rfl) hsc
        refine if_f rfl ⟨Nat.zero_le _, fun l hl => ?_⟩
        have e7 := Evl.Ex.new (o := .lst []) hl
        have gl := upd_same (H := H6) (a := l) (o := .lst [])
        have s7 : Sk (upd H6 l (.lst [])) sk (m + 3001 + 7 * i + 6) := (s5.ex e6).ex e7
        have b7 := (b4.trans b5).trans (But.of_ex (p := sk) (e6.trans e7))
        have nl : l ≠ sk := fun e => by
          obtain ⟨a, b, c, hp, _⟩ := s5.ex e6
          rw [e, hp] at hl
          cases hl
        generalize upd H6 l (.lst []) = H7 at e7 gl s7 b7
        refine ⟨_, rfl, z, rfl, Nat.le_trans hz (by decide), _, _, rfl, rfl, _, rfl, ?_⟩
        by_cases hl3 : (z.length : Int) ≤ 3000
        · refine if_t (decide_eq_true hl3) ⟨_, rfl, _, rfl, sk, 2, _, rfl, s7, by omega, by decide, by decide, fun r H8 r0 r1' b8 s8 _ => ?_⟩
          refine ⟨z, r, rfl, by omega, fun h => absurd h hsc, fun _ p H9 hp e9 g9 => ?_⟩
          refine ⟨_, rfl, p, l, [], rfl, rfl, SqL.of g9, SqL.of (e9 _ _ (b8 _ _ nl gl)), _, rfl, if_f rfl ⟨⟨_, _, _, rfl⟩, (b7.trans b8).trans (But.of_ex e9), (s8.ex e9).le (by omega)⟩⟩
        · exact if_f (decide_eq_false hl3) (if_f rfl ⟨⟨_, _, _, rfl⟩, b7, s7.le (by omega)⟩)
    · rintro σ H4 ⟨⟨v3, v4, v5, rfl⟩, b4, s4⟩
      exact k H4 b4 (s4.le (by omega))
end
end V2






namespace V2
open PySem L2
open PySem.Spec PyProof.Rows
theorem th_none {x : Str} (h : thN x = none) : x ∉ (["open", "pour", "scoop", "move", "unless"] : List Str) := fun hm => by
  simp only [List.mem_cons, List.not_mem_nil, or_false] at hm
  rcases hm with rfl | rfl | rfl | rfl | rfl <;> exact absurd h (by decide)
section
variable {base : Heap} {mg : Str → Option Value} {K : PySem.W.Frag} {w : World} {P : Program}
theorem ok_law54 {f : Addr} {fd : FuncData} (F : Fun K "law" "law" s_law f fd) (T : T6 mg) (cP : Cal P w K mg base 1 "_law_purse" p_l_purse (spSack K)) (cR : Cal P w K mg base 9 "_law_right" p_l_right spRi54) : FnOk P w K mg base CX0 10 f fd p_law (spLaw K) := by
  refine F.ok sc_law (fun vs H Q E h => ?_) (fun cdv A outer s H vs Q E hr h => ?_)
  · obtain ⟨a, ns, rfl, _⟩ := h
    rfl
  · obtain ⟨a, ns, rfl, hS, hl, k⟩ := h
    have nd := sc_law.nd
    have r1 : Room 1 _ := hr.mono (by decide)
    refine ⟨_, pss_cons (ps_for PassesOwn.never rfl (pi_range1 (by rfl) T.rng (pa_cons (pe_callB (call_max2 rfl) (by rfl) T.max (by decide +kernel) (pa_cons pe_int (pa_cons (pe_callB (call_min2 rfl) (by rfl) T.min (by decide +kernel) (pa_cons pe_int (pa_cons (pe_callB call_len_seq (by rfl) T.len PySem.boot_len (pa_cons (pv 0) pa_nil)) pa_nil))) pa_nil))) pa_nil)) (pg_name (i := 1) nd rfl (Or.inl rfl)) (pss_cons (ps_set (i := 2) nd rfl (Or.inl rfl) (pe_c cP r1 (pa_cons (pv 0) (pa_cons (pv 1) pa_nil))))
      (pss_one (ps_for PassesOwn.never rfl (pi_range1 (by rfl) T.rng (pa_cons pe_int pa_nil)) (pg_name (i := 3) nd rfl (Or.inl rfl)) (pss_one (ps_if (pt_not (pt_val (pe_c cR hr (pa_cons (pv 2) pa_nil)))) (pss_one (ps_ret pe_bl)) pss_nil))))))
      (pss_one (ps_ret pe_bl)), ?_⟩
    refine ⟨_, rfl, a, _, rfl, .inl hS, _, _, rfl, _, _, rfl, _, rfl, ?_, ?_, ?_⟩
    · split <;> split <;> omega
    · split <;> split <;> omega
    have hb : (if (if ((iV ns).length : Int) < 6 then ((iV ns).length : Int) else 6) > 1 then (if ((iV ns).length : Int) < 6 then ((iV ns).length : Int) else 6) else 1 : Int) ≤ 6 := by split <;> split <;> omega
    generalize (if (if ((iV ns).length : Int) < 6 then ((iV ns).length : Int) else 6) > 1 then (if ((iV ns).length : Int) < 6 then ((iV ns).length : Int) else 6) else 1 : Int) = n at hb
    refine for_range (n := n.toNat) (fun i σ H' => ∃ v1 v2 v3, σ = [some (.ref a), v1, v2, v3] ∧ SqL K H' a (iV ns)) ⟨none, none, none, rfl, hS⟩ ?_ ?_
    · rintro i σ H1 hi ⟨v1, v2, v3, rfl, hS1⟩
      refine ⟨_, rfl, _, rfl, a, ns, i, ?_, hS1, hl, by omega, fun q H2 hq e2 h2 => ?_⟩
      · rw [Int.zero_add]
        rfl
      refine ⟨2, rfl, by decide, by decide, for_range (n := 2) (fun j σ H' => (∃ v1 v3, σ = [some (.ref a), v1, some (.ref q), v3]) ∧ But q H2 H' ∧ Sk H' q (3100 * j)) ⟨⟨_, _, rfl⟩, But.refl _ _, h2⟩ ?_ ?_⟩
      · rintro j σ H3 hj ⟨⟨v1, v3, rfl⟩, b3, s3⟩
        rw [Int.zero_add]
        exact ⟨_, rfl, q, _, rfl, s3, by omega, fun H4 b4 s4 => ⟨true, rfl, if_f rfl ⟨⟨_, _, rfl⟩, b3.trans b4, s4.le (by omega)⟩⟩⟩
      · rintro σ H3 ⟨⟨v1, v3, rfl⟩, b3, s3⟩
        exact ⟨_, _, _, rfl, sq_ex_but hS1 hq e2 b3⟩
    · rintro σ H1 ⟨v1, v2, v3, rfl, hS1⟩
      exact k H1
end
theorem whole {P : Program} {w : World} {K : PySem.W.Frag} {h : Heap} {mg : Str → Option Value} {fa : Addr} (X : K.In h) (G : h.Ns mainGlobals mg) (hfa : mg ("law" : Str) = some (.ref fa)) (c : lk.seen K = lk.due w) :
    ∃ fd : FuncData, (∀ (s : Shared) (v : Value), BindsTo s fd ⟨[v], []⟩ [("script", v)]) ∧ ∀ base : Heap, K.In base → base.Ns mainGlobals mg → FnG P w K mg base 10 fa fd p_law (spLaw K) := by
  have z_len : mg "len" = none := (He.free_ok X G (Lk.fact c 82 (f := bFree "len") rfl))
  have z_max : mg "max" = none := (He.free_ok X G (Lk.fact c 84 (f := bFree "max") rfl))
  have z_min : mg "min" = none := (He.free_ok X G (Lk.fact c 85 (f := bFree "min") rfl))
  have z_abs : mg "abs" = none := (He.free_ok X G (Lk.fact c 77 (f := bFree "abs") rfl))
  have z_int : mg "int" = none := (He.free_ok X G (Lk.fact c 80 (f := bFree "int") rfl))
  have z_range : mg "range" = none := (He.free_ok X G (Lk.fact c 86 (f := bFree "range") rfl))
  have z_list : mg "list" = none := (He.free_ok X G (Lk.fact c 83 (f := bFree "list") rfl))
  have z_isinstance : mg "isinstance" = none := (He.free_ok X G (Lk.fact c 81 (f := bFree "isinstance") rfl))
  have z_bool : mg "bool" = none := (He.free_ok X G (Lk.fact c 79 (f := bFree "bool") rfl))
  have z_tuple : mg "tuple" = none := (He.free_ok X G (Lk.fact c 90 (f := bFree "tuple") rfl))
  have z_all : mg "all" = none := (He.free_ok X G (Lk.fact c 78 (f := bFree "all") rfl))
  have z_str : mg "str" = none := (He.free_ok X G (Lk.fact c 89 (f := bFree "str") rfl))
  have z_sorted : mg "sorted" = none := (He.free_ok X G (Lk.fact c 88 (f := bFree "sorted") rfl))
  have z_set : mg "set" = none := (He.free_ok X G (Lk.fact c 87 (f := bFree "set") rfl))
  have z_gcd : mg "gcd" = some (.builtin "math.gcd") := (blt_ok X G (Lk.fact c 91 (f := bBlt "gcd" "math.gcd") rfl))
  have t0 : T0 mg := ⟨z_len, z_max, z_abs, z_int⟩
  have t3 : T3 mg := ⟨z_isinstance, z_int, z_bool, z_list, z_tuple, z_len, z_all, z_gcd⟩
  have t5 : T5 mg := ⟨z_isinstance, z_list, z_tuple⟩
  obtain ⟨es, nT, D⟩ := Lk.tab c 0 rfl
  obtain ⟨t_0, d_0⟩ := dint_ok (Lk.fact c 72 (f := bInt "THINGS" "open" 2) rfl)
  obtain ⟨t_1, d_1⟩ := dint_ok (Lk.fact c 73 (f := bInt "THINGS" "pour" 3) rfl)
  obtain ⟨t_2, d_2⟩ := dint_ok (Lk.fact c 74 (f := bInt "THINGS" "scoop" 3) rfl)
  obtain ⟨t_3, d_3⟩ := dint_ok (Lk.fact c 75 (f := bInt "THINGS" "move" 4) rfl)
  obtain ⟨t_4, d_4⟩ := dint_ok (Lk.fact c 76 (f := bInt "THINGS" "unless" 3) rfl)
  have th : Th K w mg (He.ga K "THINGS") es nT t_0 t_1 t_2 t_3 t_4 := ⟨(He.glo_ok X G (Lk.fact c 71 (f := bGlo "THINGS") rfl)), D, d_0, d_1, d_2, d_3, d_4⟩
  have tn : ThA K (He.ga K "THINGS") := ⟨fun x hx => keys_ok (Lk.fact c 96 (f := bKeys "THINGS" ["open", "pour", "scoop", "move", "unless"]) rfl) x (th_none hx)⟩
  have L_order_of_fractions : Lay K mg "order_of_fractions" s_order_of_fractions p_order_of_fractions := lay_of X G c 0 0 rfl rfl (fun _ _ _ _ _ _ us hl => match us, hl with | [_, _], _ => rfl)
  have L_sign_of : Lay K mg "sign_of" s_sign_of p_sign_of := lay_of X G c 1 1 rfl rfl (fun _ _ _ _ _ _ us hl => match us, hl with | [_], _ => rfl)
  have L_copied : Lay K mg "copied" s_copied p_copied := lay_of X G c 2 2 rfl rfl (fun _ _ _ _ _ _ us hl => match us, hl with | [_], _ => rfl)
  have L_is_integer : Lay K mg "is_integer" s_is_integer p_is_integer := lay_of X G c 3 3 rfl rfl (fun _ _ _ _ _ _ us hl => match us, hl with | [_], _ => rfl)
  have L_is_fraction : Lay K mg "is_fraction" s_is_fraction p_is_fraction := lay_of X G c 4 4 rfl rfl (fun _ _ _ _ _ _ us hl => match us, hl with | [_], _ => rfl)
  have L_is_amount : Lay K mg "is_amount" s_is_amount p_is_amount := lay_of X G c 5 5 rfl rfl (fun _ _ _ _ _ _ us hl => match us, hl with | [_], _ => rfl)
  have L_is_tank : Lay K mg "is_tank" s_is_tank p_is_tank := lay_of X G c 6 6 rfl rfl (fun _ _ _ _ _ _ us hl => match us, hl with | [_], _ => rfl)
  have L_check_tanks : Lay K mg "check_tanks" s_check_tanks p_check_tanks := lay_of X G c 7 7 rfl rfl (fun _ _ _ _ _ _ us hl => match us, hl with | [_], _ => rfl)
  have L_is_ascending : Lay K mg "is_ascending" s_is_ascending p_is_ascending := lay_of X G c 8 8 rfl rfl (fun _ _ _ _ _ _ us hl => match us, hl with | [_], _ => rfl)
  have L_is_step : Lay K mg "is_step" s_is_step p_is_step := lay_of X G c 9 9 rfl rfl (fun _ _ _ _ _ _ us hl => match us, hl with | [_], _ => rfl)
  have L_tanks_of : Lay K mg "tanks_of" s_tanks_of p_tanks_of := lay_of X G c 10 10 rfl rfl (fun _ _ _ _ _ _ us hl => match us, hl with | [_], _ => rfl)
  have L_check_numbers : Lay K mg "check_numbers" s_check_numbers p_check_numbers := lay_of X G c 11 11 rfl rfl (fun _ _ _ _ _ _ us hl => match us, hl with | [_, _], _ => rfl)
  have L_check_part : Lay K mg "check_part" s_check_part p_check_part := lay_of X G c 12 12 rfl rfl (fun _ _ _ _ _ _ us hl => match us, hl with | [_], _ => rfl)
  have L_check_step : Lay K mg "check_step" s_check_step p_check_step := lay_of X G c 13 13 rfl rfl (fun _ _ _ _ _ _ us hl => match us, hl with | [_, _], _ => rfl)
  have L_read_script : Lay K mg "read_script" s_read_script p_read_script := lay_of X G c 14 14 rfl rfl (fun _ _ _ _ _ _ us hl => match us, hl with | [_], _ => rfl)
  have L_read_tank : Lay K mg "read_tank" s_read_tank p_read_tank := lay_of X G c 15 15 rfl rfl (fun _ _ _ _ _ _ us hl => match us, hl with | [_], _ => rfl)
  have L_read_step : Lay K mg "read_step" s_read_step p_read_step := lay_of X G c 16 16 rfl rfl (fun _ _ _ _ _ _ us hl => match us, hl with | [_], _ => rfl)
  have L_read_thing : Lay K mg "read_thing" s_read_thing p_read_thing := lay_of X G c 17 17 rfl rfl (fun _ _ _ _ _ _ us hl => match us, hl with | [_], _ => rfl)
  have L_read_integer : Lay K mg "read_integer" s_read_integer p_read_integer := lay_of X G c 18 18 rfl rfl (fun _ _ _ _ _ _ us hl => match us, hl with | [_], _ => rfl)
  have L_show_script : Lay K mg "show_script" s_show_script p_show_script := lay_of X G c 19 19 rfl rfl (fun _ _ _ _ _ _ us hl => match us, hl with | [_], _ => rfl)
  have L_show_tank : Lay K mg "show_tank" s_show_tank p_show_tank := lay_of X G c 20 20 rfl rfl (fun _ _ _ _ _ _ us hl => match us, hl with | [_], _ => rfl)
  have L_show_thing : Lay K mg "show_thing" s_show_thing p_show_thing := lay_of X G c 21 21 rfl rfl (fun _ _ _ _ _ _ us hl => match us, hl with | [_], _ => rfl)
  have L_show_integer : Lay K mg "show_integer" s_show_integer p_show_integer := lay_of X G c 22 22 rfl rfl (fun _ _ _ _ _ _ us hl => match us, hl with | [_], _ => rfl)
  have L_l_purse : Lay K mg "_law_purse" s_l_purse p_l_purse := lay_of X G c 23 23 rfl rfl (fun _ _ _ _ _ _ us hl => match us, hl with | [_, _], _ => rfl)
  have L_l_coin : Lay K mg "_law_coin" s_l_coin p_l_coin := lay_of X G c 24 24 rfl rfl (fun _ _ _ _ _ _ us hl => match us, hl with | [_, _], _ => rfl)
  have L_l_shared : Lay K mg "_law_shared" s_l_shared p_l_shared := lay_of X G c 25 25 rfl rfl (fun _ _ _ _ _ _ us hl => match us, hl with | [_, _], _ => rfl)
  have L_l_ratio : Lay K mg "_law_ratio" s_l_ratio p_l_ratio := lay_of X G c 26 26 rfl rfl (fun _ _ _ _ _ _ us hl => match us, hl with | [_, _], _ => rfl)
  have L_l_drawn_part : Lay K mg "_law_drawn_part" s_l_drawn_part p_l_drawn_part := lay_of X G c 27 27 rfl rfl (fun _ _ _ _ _ _ us hl => match us, hl with | [_, _], _ => rfl)
  have L_l_drawn_tanks : Lay K mg "_law_drawn_tanks" s_l_drawn_tanks p_l_drawn_tanks := lay_of X G c 28 28 rfl rfl (fun _ _ _ _ _ _ us hl => match us, hl with | [_, _, _], _ => rfl)
  have L_l_pair : Lay K mg "_law_pair" s_l_pair p_l_pair := lay_of X G c 29 29 rfl rfl (fun _ _ _ _ _ _ us hl => match us, hl with | [_, _], _ => rfl)
  have L_l_drawn_step : Lay K mg "_law_drawn_step" s_l_drawn_step p_l_drawn_step := lay_of X G c 30 30 rfl rfl (fun _ _ _ _ _ _ us hl => match us, hl with | [_, _, _, _], _ => rfl)
  have L_l_drawn_plan : Lay K mg "_law_drawn_plan" s_l_drawn_plan p_l_drawn_plan := lay_of X G c 31 31 rfl rfl (fun _ _ _ _ _ _ us hl => match us, hl with | [_], _ => rfl)
  have L_l_great_plan : Lay K mg "_law_great_plan" s_l_great_plan p_l_great_plan := lay_of X G c 32 32 rfl rfl (fun _ _ _ _ _ _ us hl => match us, hl with | [_], _ => rfl)
  have L_l_step_text : Lay K mg "_law_step_text" s_l_step_text p_l_step_text := lay_of X G c 33 33 rfl rfl (fun _ _ _ _ _ _ us hl => match us, hl with | [_], _ => rfl)
  have L_l_script_text : Lay K mg "_law_script_text" s_l_script_text p_l_script_text := lay_of X G c 34 34 rfl rfl (fun _ _ _ _ _ _ us hl => match us, hl with | [_], _ => rfl)
  have L_l_number_of : Lay K mg "_law_number_of" s_l_number_of p_l_number_of := lay_of X G c 35 35 rfl rfl (fun _ _ _ _ _ _ us hl => match us, hl with | [_], _ => rfl)
  have L_l_is_part : Lay K mg "_law_is_part" s_l_is_part p_l_is_part := lay_of X G c 36 36 rfl rfl (fun _ _ _ _ _ _ us hl => match us, hl with | [_], _ => rfl)
  have L_l_is_list : Lay K mg "_law_is_list" s_l_is_list p_l_is_list := lay_of X G c 37 37 rfl rfl (fun _ _ _ _ _ _ us hl => match us, hl with | [_, _], _ => rfl)
  have L_l_is_step : Lay K mg "_law_is_step" s_l_is_step p_l_is_step := lay_of X G c 38 38 rfl rfl (fun _ _ _ _ _ _ us hl => match us, hl with | [_, _], _ => rfl)
  have L_l_is_script : Lay K mg "_law_is_script" s_l_is_script p_l_is_script := lay_of X G c 39 39 rfl rfl (fun _ _ _ _ _ _ us hl => match us, hl with | [_], _ => rfl)
  have L_l_caught_script : Lay K mg "_law_caught_script" s_l_caught_script p_l_caught_script := lay_of X G c 40 40 rfl rfl (fun _ _ _ _ _ _ us hl => match us, hl with | [_, _], _ => rfl)
  have L_l_odd_script : Lay K mg "_law_odd_script" s_l_odd_script p_l_odd_script := lay_of X G c 41 41 rfl rfl (fun _ _ _ _ _ _ us hl => match us, hl with | [_, _], _ => rfl)
  have L_l_marred_script : Lay K mg "_law_marred_script" s_l_marred_script p_l_marred_script := lay_of X G c 42 42 rfl rfl (fun _ _ _ _ _ _ us hl => match us, hl with | [_, _], _ => rfl)
  have L_l_right : Lay K mg "_law_right" s_l_right p_l_right := lay_of X G c 43 43 rfl rfl (fun _ _ _ _ _ _ us hl => match us, hl with | [_], _ => rfl)
  obtain ⟨fd_TE_init, F_TE_init, b_TE_init⟩ : LayM K "__init__" "TankError.__init__" s_TE_init _ p_TE_init := laym_of c 45 rfl (fun _ _ _ _ _ _ us hl => match us, hl with | [_, _], _ => rfl)
  obtain ⟨fd_Sc_init, F_Sc_init, b_Sc_init⟩ : LayM K "__init__" "Script.__init__" s_Sc_init _ p_Sc_init := laym_of c 46 rfl (fun _ _ _ _ _ _ us hl => match us, hl with | [_, _, _], _ => rfl)
  obtain ⟨fd_Sc_tanks, F_Sc_tanks, b_Sc_tanks⟩ : LayM K "tanks" "Script.tanks" s_Sc_tanks _ p_Sc_tanks := laym_of c 47 rfl (fun _ _ _ _ _ _ us hl => match us, hl with | [_], _ => rfl)
  obtain ⟨fd_Sc_steps, F_Sc_steps, b_Sc_steps⟩ : LayM K "steps" "Script.steps" s_Sc_steps _ p_Sc_steps := laym_of c 48 rfl (fun _ _ _ _ _ _ us hl => match us, hl with | [_], _ => rfl)
  have cs : ScC K (He.ga K "Script") _ _ _ _ _ := ⟨(He.cls_ok (Lk.fact c 65 (f := bCls "Script") rfl)), (He.noat_ok (Lk.fact c 70 (f := bNo "Script" "_tanks") rfl)), (He.noat_ok (Lk.fact c 69 (f := bNo "Script" "_steps") rfl)), (He.mkr_ok (Lk.fact c 66 (f := bMk "Script") rfl)), (prop_ok (Lk.fact c 67 (f := bProp "Script" "tanks") rfl)), (prop_ok (Lk.fact c 68 (f := bProp "Script" "steps") rfl))⟩
  have hgS : mg "Script" = some (.ref (He.ga K "Script")) := (He.glo_ok X G (Lk.fact c 64 (f := bGlo "Script") rfl))
  obtain ⟨fdw, Fw⟩ := Lk.df c 44 rfl
  have efa := hfa.symm.trans (He.glo_ok X G (Lk.fact c 44 (f := bGlo "law") rfl))
  cases efa
  have main : ∀ base : Heap, K.In base → base.Ns mainGlobals mg → FnG P w K mg base 10 (He.ga K "law") fdw p_law (spLaw K) := fun base _ _ => by
    have ec_Unreadable : EC K (He.ga K "Unreadable") (eI K) := err_ok (Lk.fact c 61 (f := bErr "Unreadable") rfl)
    have gl_Unreadable : mg "Unreadable" = some (.ref (He.ga K "Unreadable")) := (He.glo_ok X G (Lk.fact c 60 (f := bGlo "Unreadable") rfl))
    have ec_TankError : EC K (He.ga K "TankError") (eI K) := err_ok (Lk.fact c 47 (f := bErr "TankError") rfl)
    have gl_TankError : mg "TankError" = some (.ref (He.ga K "TankError")) := (He.glo_ok X G (Lk.fact c 46 (f := bGlo "TankError") rfl))
    have ec_InvalidFraction : EC K (He.ga K "InvalidFraction") (eI K) := err_ok (Lk.fact c 58 (f := bErr "InvalidFraction") rfl)
    have gl_InvalidFraction : mg "InvalidFraction" = some (.ref (He.ga K "InvalidFraction")) := (He.glo_ok X G (Lk.fact c 57 (f := bGlo "InvalidFraction") rfl))
    have ec_InvalidStep : EC K (He.ga K "InvalidStep") (eI K) := err_ok (Lk.fact c 52 (f := bErr "InvalidStep") rfl)
    have gl_InvalidStep : mg "InvalidStep" = some (.ref (He.ga K "InvalidStep")) := (He.glo_ok X G (Lk.fact c 51 (f := bGlo "InvalidStep") rfl))
    have ec_InvalidTank : EC K (He.ga K "InvalidTank") (eI K) := err_ok (Lk.fact c 49 (f := bErr "InvalidTank") rfl)
    have gl_InvalidTank : mg "InvalidTank" = some (.ref (He.ga K "InvalidTank")) := (He.glo_ok X G (Lk.fact c 48 (f := bGlo "InvalidTank") rfl))
    have ec_UnknownTank : EC K (He.ga K "UnknownTank") (eI K) := err_ok (Lk.fact c 55 (f := bErr "UnknownTank") rfl)
    have gl_UnknownTank : mg "UnknownTank" = some (.ref (He.ga K "UnknownTank")) := (He.glo_ok X G (Lk.fact c 54 (f := bGlo "UnknownTank") rfl))
    have eg : EG K (eI K) := eg_ok (Lk.fact c 45 (f := bEG) rfl)
    have ut_Unreadable : PySem.W.exmOne K (.ref (He.ga K "Unreadable")) (.ref (He.ga K "TankError")) = some true := PySem.W.exm_ref ec_TankError.xf.exC ec_TankError.xf.hdC ec_TankError.ox.tyC (sub_ok (Lk.fact c 62 (f := bSub "Unreadable" "TankError" true) rfl))
    have ut_InvalidFraction : PySem.W.exmOne K (.ref (He.ga K "InvalidFraction")) (.ref (He.ga K "TankError")) = some true := PySem.W.exm_ref ec_TankError.xf.exC ec_TankError.xf.hdC ec_TankError.ox.tyC (sub_ok (Lk.fact c 59 (f := bSub "InvalidFraction" "TankError" true) rfl))
    have ut_InvalidStep : PySem.W.exmOne K (.ref (He.ga K "InvalidStep")) (.ref (He.ga K "TankError")) = some true := PySem.W.exm_ref ec_TankError.xf.exC ec_TankError.xf.hdC ec_TankError.ox.tyC (sub_ok (Lk.fact c 53 (f := bSub "InvalidStep" "TankError" true) rfl))
    have ut_InvalidTank : PySem.W.exmOne K (.ref (He.ga K "InvalidTank")) (.ref (He.ga K "TankError")) = some true := PySem.W.exm_ref ec_TankError.xf.exC ec_TankError.xf.hdC ec_TankError.ox.tyC (sub_ok (Lk.fact c 50 (f := bSub "InvalidTank" "TankError" true) rfl))
    have ut_UnknownTank : PySem.W.exmOne K (.ref (He.ga K "UnknownTank")) (.ref (He.ga K "TankError")) = some true := PySem.W.exm_ref ec_TankError.xf.exC ec_TankError.xf.hdC ec_TankError.ox.tyC (sub_ok (Lk.fact c 56 (f := bSub "UnknownTank" "TankError" true) rfl))
    have k_InvalidFraction : PySem.W.kitOne K (.ref (He.ga K "Unreadable")) (.ref (He.ga K "InvalidFraction")) = some false := kit_ok (Lk.fact c 92 (f := bKit "Unreadable" "InvalidFraction" false) rfl)
    have k_InvalidStep : PySem.W.kitOne K (.ref (He.ga K "Unreadable")) (.ref (He.ga K "InvalidStep")) = some false := kit_ok (Lk.fact c 93 (f := bKit "Unreadable" "InvalidStep" false) rfl)
    have k_InvalidTank : PySem.W.kitOne K (.ref (He.ga K "Unreadable")) (.ref (He.ga K "InvalidTank")) = some false := kit_ok (Lk.fact c 94 (f := bKit "Unreadable" "InvalidTank" false) rfl)
    have k_UnknownTank : PySem.W.kitOne K (.ref (He.ga K "Unreadable")) (.ref (He.ga K "UnknownTank")) = some false := kit_ok (Lk.fact c 95 (f := bKit "Unreadable" "UnknownTank" false) rfl)
    have kU : PySem.W.kitOne K (.ref (He.ga K "Unreadable")) (.ref (He.ga K "Unreadable")) = some true := kit_ok (Lk.fact c 63 (f := bKit "Unreadable" "Unreadable" true) rfl)
    have kA : PySem.W.kitAny K (.ref (He.ga K "Unreadable")) [.ref (He.ga K "InvalidFraction"), .ref (He.ga K "InvalidStep"), .ref (He.ga K "InvalidTank"), .ref (He.ga K "UnknownTank")] = some false := by simp only [PySem.W.kitAny, k_InvalidFraction, k_InvalidStep, k_InvalidTank, k_UnknownTank]
    have ti := ok_TE_init (P := P) (w := w) (mg := mg) (base := base) F_TE_init
    have tH := ok_TE_initH (P := P) (w := w) (mg := mg) (base := base) F_TE_init
    have isint : Cal P w K mg base 1 "is_integer" p_is_integer spInt := L_is_integer.cal fun f fd F => ok_is_integer F t3
    have isintG : Cal P w K mg base 1 "is_integer" p_is_integer spIntG := L_is_integer.cal fun f fd F => ok_is_integerG F t3
    have amtB : Cal P w K mg base 2 "is_amount" p_is_amount spAmtB := L_is_amount.cal fun f fd F => ok_is_amountB F isint
    have amtG : Cal P w K mg base 2 "is_amount" p_is_amount spAmtG := L_is_amount.cal fun f fd F => ok_is_amountG F isintG
    have tankB : Cal P w K mg base 3 "is_tank" p_is_tank spTankB := L_is_tank.cal fun f fd F => ok_is_tankB F t3 isint amtB
    have ct0 : Cal P w K mg base 1 "copied" p_copied (spCt 0) := L_copied.cal fun f fd F => ok_ct0 F t5
    have ct1 : Cal P w K mg base 2 "copied" p_copied (spCt 1) := L_copied.cal fun f fd F => ok_ctS F t5 ct0
    have cq0 : Cal P w K mg base 1 "copied" p_copied (spCq 0) := L_copied.cal fun f fd F => ok_cq0 F t5
    have cq1 : Cal P w K mg base 2 "copied" p_copied (spCq 1) := L_copied.cal fun f fd F => ok_cqS F t5 cq0
    have cq2 : Cal P w K mg base 3 "copied" p_copied (spCq 2) := L_copied.cal fun f fd F => ok_cqS F t5 cq1
    have cq3 : Cal P w K mg base 4 "copied" p_copied (spCq 3) := L_copied.cal fun f fd F => ok_cqS F t5 cq2
    have ascG : Cal P w K mg base 2 "is_ascending" p_is_ascending spAscG := L_is_ascending.cal fun f fd F => ok_is_ascendingG F t3 z_range isint
    have stepG : Cal P w K mg base 3 "is_step" p_is_step spStepG := L_is_step.cal fun f fd F => ok_is_stepG F t3 z_str th tn ascG amtG
    have tofG : Cal P w K mg base 1 "tanks_of" p_tanks_of spTofG := L_tanks_of.cal fun f fd F => ok_tanks_ofG F
    have frG : Cal P w K mg base 2 "is_fraction" p_is_fraction spFrG := L_is_fraction.cal fun f fd F => ok_is_fractionG F t3 isint
    have sgn_ : Cal P w K mg base 1 "sign_of" p_sign_of spSgn := L_sign_of.cal fun f fd F => ok_sign_of F
    have ord_ : Cal P w K mg base 2 "order_of_fractions" p_order_of_fractions spOrd := L_order_of_fractions.cal fun f fd F => ok_order F sgn_
    have numsN : CalN P w K mg base 3 "check_numbers" p_check_numbers (spNumsN (He.ga K "UnknownTank")) := by
      obtain ⟨f, fd, F, m, kp, b⟩ := L_check_numbers
      exact ⟨f, fd, ok_check_numbersN F amtG cq1 ec_UnknownTank eg gl_UnknownTank ti b_TE_init, m, kp, b⟩
    have partN : CalN P w K mg base 3 "check_part" p_check_part (spPartN (He.ga K "InvalidFraction")) := by
      obtain ⟨f, fd, F, m, kp, b⟩ := L_check_part
      exact ⟨f, fd, ok_check_partN F frG ord_ cq1 ec_InvalidFraction eg gl_InvalidFraction ti b_TE_init, m, kp, b⟩
    have stepN : CalN P w K mg base 4 "check_step" p_check_step (spStepN (He.ga K "InvalidStep") (He.ga K "UnknownTank") (He.ga K "InvalidFraction")) := by
      obtain ⟨f, fd, F, m, kp, b⟩ := L_check_step
      exact ⟨f, fd, ok_check_stepN F stepG tofG numsN partN cq2 ec_InvalidStep eg gl_InvalidStep ti b_TE_init, m, kp, b⟩
    have tanksN : CalN P w K mg base 4 "check_tanks" p_check_tanks (spTksN (He.ga K "InvalidTank")) := by
      obtain ⟨f, fd, F, m, kp, b⟩ := L_check_tanks
      exact ⟨f, fd, ok_check_tanksN F z_len tankB ct1 ec_InvalidTank eg gl_InvalidTank ti b_TE_init, m, kp, b⟩
    have siN := ok_Sc_initN (P := P) (w := w) (mg := mg) (base := base) F_Sc_init z_len cs cq2 cq3 tanksN stepN
    have stQ := ok_Sc_tanksQ (P := P) (w := w) (mg := mg) (base := base) F_Sc_tanks cs cq2
    have ssQ := ok_Sc_stepsQ (P := P) (w := w) (mg := mg) (base := base) F_Sc_steps cs cq3
    have rdI : CalN P w K mg base 3 "read_integer" p_read_integer (spRdI (He.ga K "Unreadable")) := by
      obtain ⟨f, fd, F, m, kp, b⟩ := L_read_integer
      exact ⟨f, fd, ok_read_integerN F z_len z_all z_int ec_Unreadable eg gl_Unreadable ti b_TE_init, m, kp, b⟩
    have rdTh0 : CalN P w K mg base 4 "read_thing" p_read_thing (spRdG (He.ga K "Unreadable")) := by
      obtain ⟨f, fd, F, m, kp, b⟩ := L_read_thing
      exact ⟨f, fd, ok_read_thingN F z_tuple rdI, m, kp, b⟩
    have rdTh : CalN P w K mg base 4 "read_thing" p_read_thing (spRd ThR (He.ga K "Unreadable")) := caln_imp rdTh0 (fun _ _ _ _ h => rdG_of h)
    have rdSt : CalN P w K mg base 5 "read_step" p_read_step (spRd StR (He.ga K "Unreadable")) := by
      obtain ⟨f, fd, F, m, kp, b⟩ := L_read_step
      exact ⟨f, fd, ok_read_stepN F z_tuple rdTh, m, kp, b⟩
    have rdTk : CalN P w K mg base 4 "read_tank" p_read_tank (spRd TkR (He.ga K "Unreadable")) := by
      obtain ⟨f, fd, F, m, kp, b⟩ := L_read_tank
      exact ⟨f, fd, ok_read_tankN F z_len rdI ec_Unreadable eg gl_Unreadable ti b_TE_init, m, kp, b⟩
    obtain ⟨fR, fdR, FR, mR, kR, bR⟩ := L_read_script
    have okR := ok_read_scriptX FR gl_TankError hgS cs siN b_Sc_init rdTk rdSt ec_Unreadable eg gl_Unreadable tH b_TE_init ut_Unreadable ut_InvalidTank ut_InvalidStep ut_UnknownTank ut_InvalidFraction
    have kwR : KBn K fdR p_read_script 0 ["text"] (fun us ws => us ++ ws) (fun us ws => us ++ ws) := by
      obtain ⟨ow, oe, kw, dc, pn, am, cdv, cu, sl, rfl, lk, hcd⟩ := FR.ex
      exact ⟨fun s us ws X h1 h2 => match us, ws, h1, h2 with | [], [_], _, _ => .of_eq rfl, fun r1 r2 => r1.append r2⟩
    have shI : Cal P w K mg base 1 "show_integer" p_show_integer spShI := L_show_integer.cal fun f fd F => ok_show_integer F z_abs z_str
    have shT : Cal P w K mg base 2 "show_tank" p_show_tank spShT := L_show_tank.cal fun f fd F => ok_show_tank F shI
    have shTh : Cal P w K mg base 2 "show_thing" p_show_thing spShW := L_show_thing.cal fun f fd F => ok_show_thingW F z_isinstance z_str z_list z_tuple shI
    have shS : Cal P w K mg base 7 "show_script" p_show_script (spShScQ (He.ga K "Script")) := L_show_script.cal fun f fd F => ok_show_scriptQ F cs stQ b_Sc_tanks ssQ b_Sc_steps shT shTh
    have l_coin : Cal P w K mg base 1 "_law_coin" p_l_coin spCoin := L_l_coin.cal fun f fd F => ok_coinL F t0
    have l_purse : Cal P w K mg base 1 "_law_purse" p_l_purse (spSack K) := L_l_purse.cal fun f fd F => ok_purse F t0
    have l_shared : Cal P w K mg base 1 "_law_shared" p_l_shared spSh4 := L_l_shared.cal fun f fd F => ok_shared4 F t0 z_range
    have l_ratio : Cal P w K mg base 2 "_law_ratio" p_l_ratio spRa4 := L_l_ratio.cal fun f fd F => ok_ratio4 F t0 l_shared
    have l_part : Cal P w K mg base 3 "_law_drawn_part" p_l_drawn_part spPt4 := L_l_drawn_part.cal fun f fd F => ok_part4 F l_coin l_ratio
    have l_pair : Cal P w K mg base 2 "_law_pair" p_l_pair spTwo2 := L_l_pair.cal fun f fd F => ok_pair4 F t0 l_coin
    have l_tanks : Cal P w K mg base 2 "_law_drawn_tanks" p_l_drawn_tanks spVats := L_l_drawn_tanks.cal fun f fd F => ok_tanks4 F z_range l_coin
    have l_step : Cal P w K mg base 4 "_law_drawn_step" p_l_drawn_step spDeed4 := L_l_drawn_step.cal fun f fd F => ok_step4 F z_range z_len z_int z_sorted l_coin l_part l_pair
    have l_plan : Cal P w K mg base 5 "_law_drawn_plan" p_l_drawn_plan spShape4 := L_l_drawn_plan.cal fun f fd F => ok_plan4 F z_range z_len z_int l_coin l_tanks l_step
    have l_great : Cal P w K mg base 5 "_law_great_plan" p_l_great_plan spShape4 := L_l_great_plan.cal fun f fd F => ok_great4 F z_range l_coin l_tanks l_step
    have l_stT : Cal P w K mg base 1 "_law_step_text" p_l_step_text spStT := L_l_step_text.cal fun f fd F => ok_l_step_text F z_isinstance z_str z_list z_tuple
    have l_scT : Cal P w K mg base 2 "_law_script_text" p_l_script_text spScT := L_l_script_text.cal fun f fd F => ok_l_script_text F z_str l_stT
    have l_no : Cal P w K mg base 1 "_law_number_of" p_l_number_of spNo := L_l_number_of.cal fun f fd F => ok_l_number_of F z_len z_int z_str
    have l_pt : Cal P w K mg base 2 "_law_is_part" p_l_is_part spPtL := L_l_is_part.cal fun f fd F => ok_l_is_part F z_len z_min l_no l_shared
    have l_ls : Cal P w K mg base 2 "_law_is_list" p_l_is_list spLsL := L_l_is_list.cal fun f fd F => ok_l_is_list F z_len z_min z_sorted z_set l_no
    have l_ist : Cal P w K mg base 3 "_law_is_step" p_l_is_step spStL := L_l_is_step.cal fun f fd F => ok_l_is_step F z_len z_min z_max z_set z_int l_no l_pt l_ls
    have l_isc : Cal P w K mg base 4 "_law_is_script" p_l_is_script spScL := L_l_is_script.cal fun f fd F => ok_l_is_script F z_len l_no l_ist
    have l_cau : Cal P w K mg base 8 "_law_caught_script" p_l_caught_script spCauS := L_l_caught_script.cal fun f fd F => ok_l_caught_script F okR mR kR bR kwR shS ec_Unreadable eg gl_TankError gl_InvalidFraction gl_InvalidStep gl_InvalidTank gl_UnknownTank gl_Unreadable z_isinstance ut_Unreadable kA kU
    have l_odd : Cal P w K mg base 2 "_law_odd_script" p_l_odd_script spOddS := L_l_odd_script.cal fun f fd F => ok_l_odd_script F z_len l_coin
    have l_mar : Cal P w K mg base 3 "_law_marred_script" p_l_marred_script spMarS := L_l_marred_script.cal fun f fd F => ok_l_marred_script F z_len l_coin l_odd
    have l_right : Cal P w K mg base 9 "_law_right" p_l_right spRi54 := L_l_right.cal fun f fd F => ok_l_right54 F z_len z_range l_coin l_great l_plan l_scT l_mar l_isc l_cau
    exact FnOk.toG (ok_law54 Fw ⟨z_range, z_len, z_max, z_min⟩ l_purse l_right)
  obtain ⟨ow, oe, kw, dc, pn, am, cdv, cu, sl, rfl, lk, hcd⟩ := Fw.ex
  exact ⟨_, fun s v => .of_eq rfl, main⟩
end V2


open PySem PySem.W PySem.Calls PyProof.Rows in
set_option maxRecDepth 99000 in
set_option maxHeartbeats 0 in
theorem PySem.Challenge.cw_valvelevels_k54_scripts_that_are_none_holds : PySem.Challenge.rw_valvelevels_k54_scripts_that_are_none.Holds := by
  w_on
  o_law
  refine HandSHeadRun.head_imp (r := PySem.W.OpenLaw.row PySem.Challenge.rw_valvelevels_k54_scripts_that_are_none) (q := V2.vwK) (H := V2.lk.hook 900) (ob := fun s => V2.lk.off 900 (HandSHeadRun.getT s)) (M := 12000) (loose := V2.nms) (d := HandSHeadRun.topDef (PySem.W.OpenLaw.row PySem.Challenge.rw_valvelevels_k54_scripts_that_are_none).prog 64) (kwd := [])
    (fun s => V2.Lk.off_eq (HandSHeadRun.getT_eq s)) V2.runK (by kernel_rfl) (by kernel_rfl) (by kernel_rfl) (by rfl) (by first | assumption | decide +kernel) (by decide +kernel) ⟨rfl, rfl, rfl, rfl, rfl, by decide +kernel⟩ ?hw ?hc
  case hw => w_witness2
  case hc =>
    refine V2.walk_GE (l := PySem.Challenge.rw_valvelevels_k54_scripts_that_are_none) (n := 63) (k := 10) (x := "script") rfl (by decide) (by kernel_rfl) ⟨rfl, by decide, by decide⟩ ?F
    intro w mg fa h Y G hmg0
    obtain ⟨K, KX, c⟩ := Y
    have hmg : mg ("law" : PySem.Str) = some (.ref fa) := by
      have e : (HandSHeadRun.topDef (PySem.W.OpenLaw.row PySem.Challenge.rw_valvelevels_k54_scripts_that_are_none).prog 64).name = ("law" : PySem.Str) := by kernel_rfl
      rw [← e]
      exact hmg0
    obtain ⟨fd, hb, hF⟩ := V2.whole (P := (PySem.Challenge.rw_valvelevels_k54_scripts_that_are_none).prog) (w := w) KX G hmg c
    exact ⟨K, fd, V2.spLaw K, KX, hb, fun H a ns hl _ hS => ⟨a, ns, rfl, hS, hl, fun _ => rfl⟩, hF⟩


