import PyProof.Rows.All
import Wide.All
import OpenK.AllK
import Wide.FinOn
import HandS.ForMost
import HandS.ForExc
import HandS.Wide
import HandS.Gcd
import HandS.IsInst
import HandS.Defaults
import HandS.Flow
import HandS.EndBits
import HandS.Property
import HandS.Walk
import HandS.Style
import PySem.Challenge.RW_valvelevels_k53_texts_both_ways
import HandS.Evl
import HandS.Steps
import PyProof.ReprRoads
import HandS.Head0
import HandS.Head1
import HandS.Head2
import HandS.Head3
import HandS.HeadHook1
import HandS.HeadHook2
import HandS.More
import HandS.Star
import KE.KExcIs
import HandS.TryOnly
import HandS.ExcInit
import HandS.ExcField
import HandS.ExcOwn
import HandS.ExcIs
import HandS.OwnEq
import KE.KFmtOwn
import HandS.Iter
import HandS.Dict
import HandS.Deep
import HandS.MakeKwOnly
import HandS.Exc
import HandS.WordsExc
import HandS.HotCalls
import HandS.Lambda
import HandS.Text
import PyProof.ReprReads
import PyProof.Rows.Digits
import PyProof.StrReplace2
import KE.KUnpack
import PyProof.CollectIter
import KE.IntTextText
set_option Elab.async false
set_option linter.all false
set_option maxRecDepth 100000
set_option maxHeartbeats 20000000
set_option exponentiation.threshold 100000
namespace V2
open PySem L2
/-! the text by its places -/
def topS (i : Nat) : Stmt := PySem.Challenge.pw_valvelevels_k53_texts_both_ways.main.body.getD i (.Pass ⟨0, 0, 0, 0⟩)
/-- a def in a class's body -/
def inClass (st : Stmt) (i : Nat) : Stmt := match st with
  | .ClassDef _ _ _ body _ _ _ _ _ _ _ => body.getD i (.Pass ⟨0, 0, 0, 0⟩)
  | _ => .Pass ⟨0, 0, 0, 0⟩

abbrev s__wall : Stmt := topS 1
abbrev n__wall : List Str := ["k"]
abbrev p__wall : List Str := ["k"]
theorem sc__wall : FnScope n__wall p__wall (defScope s__wall) := ⟨rfl, rfl, rfl, by decide +kernel, rfl, by decide +kernel, by decide +kernel⟩
abbrev s_show_script : Stmt := topS 3
abbrev n_show_script : List Str := ["plan", "tanks", "tank", "step", "thing"]
abbrev p_show_script : List Str := ["plan"]
theorem sc_show_script : FnScope n_show_script p_show_script (defScope s_show_script) := ⟨rfl, rfl, rfl, by decide +kernel, rfl, by decide +kernel, by decide +kernel⟩
abbrev s_show_polynomial : Stmt := topS 4
abbrev n_show_polynomial : List Str := ["one", "number"]
abbrev p_show_polynomial : List Str := ["one"]
theorem sc_show_polynomial : FnScope n_show_polynomial p_show_polynomial (defScope s_show_polynomial) := ⟨rfl, rfl, rfl, by decide +kernel, rfl, by decide +kernel, by decide +kernel⟩
abbrev s_show_tank : Stmt := topS 5
abbrev n_show_tank : List Str := ["tank", "width", "amount"]
abbrev p_show_tank : List Str := ["tank"]
theorem sc_show_tank : FnScope n_show_tank p_show_tank (defScope s_show_tank) := ⟨rfl, rfl, rfl, by decide +kernel, rfl, by decide +kernel, by decide +kernel⟩
abbrev s_show_thing : Stmt := topS 6
abbrev n_show_thing : List Str := ["thing", "number"]
abbrev p_show_thing : List Str := ["thing"]
theorem sc_show_thing : FnScope n_show_thing p_show_thing (defScope s_show_thing) := ⟨rfl, rfl, rfl, by decide +kernel, rfl, by decide +kernel, by decide +kernel⟩
abbrev s_show_integer : Stmt := topS 7
abbrev n_show_integer : List Str := ["number", "left", "parts", "part"]
abbrev p_show_integer : List Str := ["number"]
theorem sc_show_integer : FnScope n_show_integer p_show_integer (defScope s_show_integer) := ⟨rfl, rfl, rfl, by decide +kernel, rfl, by decide +kernel, by decide +kernel⟩
abbrev s_order_of_fractions : Stmt := topS 9
abbrev n_order_of_fractions : List Str := ["one", "other"]
abbrev p_order_of_fractions : List Str := ["one", "other"]
theorem sc_order_of_fractions : FnScope n_order_of_fractions p_order_of_fractions (defScope s_order_of_fractions) := ⟨rfl, rfl, rfl, by decide +kernel, rfl, by decide +kernel, by decide +kernel⟩
abbrev s_sign_of : Stmt := topS 10
abbrev n_sign_of : List Str := ["number"]
abbrev p_sign_of : List Str := ["number"]
theorem sc_sign_of : FnScope n_sign_of p_sign_of (defScope s_sign_of) := ⟨rfl, rfl, rfl, by decide +kernel, rfl, by decide +kernel, by decide +kernel⟩
abbrev s_cut : Stmt := topS 11
abbrev n_cut : List Str := ["numbers", "many"]
abbrev p_cut : List Str := ["numbers"]
theorem sc_cut : FnScope n_cut p_cut (defScope s_cut) := ⟨rfl, rfl, rfl, by decide +kernel, rfl, by decide +kernel, by decide +kernel⟩
abbrev s_negated : Stmt := topS 12
abbrev n_negated : List Str := ["one", "number"]
abbrev p_negated : List Str := ["one"]
theorem sc_negated : FnScope n_negated p_negated (defScope s_negated) := ⟨rfl, rfl, rfl, by decide +kernel, rfl, by decide +kernel, by decide +kernel⟩
abbrev s_added : Stmt := topS 13
abbrev n_added : List Str := ["one", "other", "many", "mine", "yours", "k"]
abbrev p_added : List Str := ["one", "other"]
theorem sc_added : FnScope n_added p_added (defScope s_added) := ⟨rfl, rfl, rfl, by decide +kernel, rfl, by decide +kernel, by decide +kernel⟩
abbrev s_multiplied : Stmt := topS 14
abbrev n_multiplied : List Str := ["one", "other", "numbers", "k", "number", "j", "factor"]
abbrev p_multiplied : List Str := ["one", "other"]
theorem sc_multiplied : FnScope n_multiplied p_multiplied (defScope s_multiplied) := ⟨rfl, rfl, rfl, by decide +kernel, rfl, by decide +kernel, by decide +kernel⟩
abbrev s_scaled_value : Stmt := topS 15
abbrev n_scaled_value : List Str := ["one", "spot", "above", "below", "total", "power", "k", "number"]
abbrev p_scaled_value : List Str := ["one", "spot"]
theorem sc_scaled_value : FnScope n_scaled_value p_scaled_value (defScope s_scaled_value) := ⟨rfl, rfl, rfl, by decide +kernel, rfl, by decide +kernel, by decide +kernel⟩
abbrev s_sign_at_fraction : Stmt := topS 16
abbrev n_sign_at_fraction : List Str := ["one", "spot"]
abbrev p_sign_at_fraction : List Str := ["one", "spot"]
theorem sc_sign_at_fraction : FnScope n_sign_at_fraction p_sign_at_fraction (defScope s_sign_at_fraction) := ⟨rfl, rfl, rfl, by decide +kernel, rfl, by decide +kernel, by decide +kernel⟩
abbrev s_content : Stmt := topS 17
abbrev n_content : List Str := ["one", "factor", "number"]
abbrev p_content : List Str := ["one"]
theorem sc_content : FnScope n_content p_content (defScope s_content) := ⟨rfl, rfl, rfl, by decide +kernel, rfl, by decide +kernel, by decide +kernel⟩
abbrev s_primitive : Stmt := topS 18
abbrev n_primitive : List Str := ["one", "factor", "number"]
abbrev p_primitive : List Str := ["one"]
theorem sc_primitive : FnScope n_primitive p_primitive (defScope s_primitive) := ⟨rfl, rfl, rfl, by decide +kernel, rfl, by decide +kernel, by decide +kernel⟩
abbrev s_upright : Stmt := topS 19
abbrev n_upright : List Str := ["one", "told"]
abbrev p_upright : List Str := ["one"]
theorem sc_upright : FnScope n_upright p_upright (defScope s_upright) := ⟨rfl, rfl, rfl, by decide +kernel, rfl, by decide +kernel, by decide +kernel⟩
abbrev s_remainder : Stmt := topS 20
abbrev n_remainder : List Str := ["one", "other", "left", "lead", "factor", "grow", "take", "behind", "taken", "number", "k"]
abbrev p_remainder : List Str := ["one", "other"]
theorem sc_remainder : FnScope n_remainder p_remainder (defScope s_remainder) := ⟨rfl, rfl, rfl, by decide +kernel, rfl, by decide +kernel, by decide +kernel⟩
abbrev s_quotient : Stmt := topS 21
abbrev n_quotient : List Str := ["one", "other", "left", "many", "found", "at", "k", "number"]
abbrev p_quotient : List Str := ["one", "other"]
theorem sc_quotient : FnScope n_quotient p_quotient (defScope s_quotient) := ⟨rfl, rfl, rfl, by decide +kernel, rfl, by decide +kernel, by decide +kernel⟩
abbrev s_common_factor : Stmt := topS 22
abbrev n_common_factor : List Str := ["one", "other", "last", "this"]
abbrev p_common_factor : List Str := ["one", "other"]
theorem sc_common_factor : FnScope n_common_factor p_common_factor (defScope s_common_factor) := ⟨rfl, rfl, rfl, by decide +kernel, rfl, by decide +kernel, by decide +kernel⟩
abbrev s_TE_init : Stmt := inClass (topS 24) 0
abbrev n_TE_init : List Str := ["self", "value"]
abbrev p_TE_init : List Str := ["self", "value"]
theorem sc_TE_init : FnScope n_TE_init p_TE_init (defScope s_TE_init) := ⟨rfl, rfl, rfl, by decide +kernel, rfl, by decide +kernel, by decide +kernel⟩
abbrev s_copied : Stmt := topS 32
abbrev n_copied : List Str := ["thing", "part"]
abbrev p_copied : List Str := ["thing"]
theorem sc_copied : FnScope n_copied p_copied (defScope s_copied) := ⟨rfl, rfl, rfl, by decide +kernel, rfl, by decide +kernel, by decide +kernel⟩
abbrev s_is_integer : Stmt := topS 33
abbrev n_is_integer : List Str := ["thing"]
abbrev p_is_integer : List Str := ["thing"]
theorem sc_is_integer : FnScope n_is_integer p_is_integer (defScope s_is_integer) := ⟨rfl, rfl, rfl, by decide +kernel, rfl, by decide +kernel, by decide +kernel⟩
abbrev s_is_fraction : Stmt := topS 34
abbrev n_is_fraction : List Str := ["thing", "above", "below"]
abbrev p_is_fraction : List Str := ["thing"]
theorem sc_is_fraction : FnScope n_is_fraction p_is_fraction (defScope s_is_fraction) := ⟨rfl, rfl, rfl, by decide +kernel, rfl, by decide +kernel, by decide +kernel⟩
abbrev s_is_polynomial : Stmt := topS 35
abbrev n_is_polynomial : List Str := ["thing", "number"]
abbrev p_is_polynomial : List Str := ["thing"]
theorem sc_is_polynomial : FnScope n_is_polynomial p_is_polynomial (defScope s_is_polynomial) := ⟨rfl, rfl, rfl, by decide +kernel, rfl, by decide +kernel, by decide +kernel⟩
abbrev s_check_width : Stmt := topS 36
abbrev n_check_width : List Str := ["width"]
abbrev p_check_width : List Str := ["width"]
theorem sc_check_width : FnScope n_check_width p_check_width (defScope s_check_width) := ⟨rfl, rfl, rfl, by decide +kernel, rfl, by decide +kernel, by decide +kernel⟩
abbrev s_is_amount : Stmt := topS 39
abbrev n_is_amount : List Str := ["thing"]
abbrev p_is_amount : List Str := ["thing"]
theorem sc_is_amount : FnScope n_is_amount p_is_amount (defScope s_is_amount) := ⟨rfl, rfl, rfl, by decide +kernel, rfl, by decide +kernel, by decide +kernel⟩
abbrev s_is_tank : Stmt := topS 40
abbrev n_is_tank : List Str := ["thing", "width", "amount"]
abbrev p_is_tank : List Str := ["thing"]
theorem sc_is_tank : FnScope n_is_tank p_is_tank (defScope s_is_tank) := ⟨rfl, rfl, rfl, by decide +kernel, rfl, by decide +kernel, by decide +kernel⟩
abbrev s_check_tanks : Stmt := topS 41
abbrev n_check_tanks : List Str := ["tanks", "tank"]
abbrev p_check_tanks : List Str := ["tanks"]
theorem sc_check_tanks : FnScope n_check_tanks p_check_tanks (defScope s_check_tanks) := ⟨rfl, rfl, rfl, by decide +kernel, rfl, by decide +kernel, by decide +kernel⟩
abbrev s_is_ascending : Stmt := topS 42
abbrev n_is_ascending : List Str := ["told", "number", "k"]
abbrev p_is_ascending : List Str := ["told"]
theorem sc_is_ascending : FnScope n_is_ascending p_is_ascending (defScope s_is_ascending) := ⟨rfl, rfl, rfl, by decide +kernel, rfl, by decide +kernel, by decide +kernel⟩
abbrev s_is_step : Stmt := topS 43
abbrev n_is_step : List Str := ["thing", "word"]
abbrev p_is_step : List Str := ["thing"]
theorem sc_is_step : FnScope n_is_step p_is_step (defScope s_is_step) := ⟨rfl, rfl, rfl, by decide +kernel, rfl, by decide +kernel, by decide +kernel⟩
abbrev s_tanks_of : Stmt := topS 44
abbrev n_tanks_of : List Str := ["step"]
abbrev p_tanks_of : List Str := ["step"]
theorem sc_tanks_of : FnScope n_tanks_of p_tanks_of (defScope s_tanks_of) := ⟨rfl, rfl, rfl, by decide +kernel, rfl, by decide +kernel, by decide +kernel⟩
abbrev s_check_numbers : Stmt := topS 45
abbrev n_check_numbers : List Str := ["numbers", "many", "number"]
abbrev p_check_numbers : List Str := ["numbers", "many"]
theorem sc_check_numbers : FnScope n_check_numbers p_check_numbers (defScope s_check_numbers) := ⟨rfl, rfl, rfl, by decide +kernel, rfl, by decide +kernel, by decide +kernel⟩
abbrev s_check_part : Stmt := topS 46
abbrev n_check_part : List Str := ["part"]
abbrev p_check_part : List Str := ["part"]
theorem sc_check_part : FnScope n_check_part p_check_part (defScope s_check_part) := ⟨rfl, rfl, rfl, by decide +kernel, rfl, by decide +kernel, by decide +kernel⟩
abbrev s_check_step : Stmt := topS 47
abbrev n_check_step : List Str := ["step", "many"]
abbrev p_check_step : List Str := ["step", "many"]
theorem sc_check_step : FnScope n_check_step p_check_step (defScope s_check_step) := ⟨rfl, rfl, rfl, by decide +kernel, rfl, by decide +kernel, by decide +kernel⟩
abbrev s_check_index : Stmt := topS 48
abbrev n_check_index : List Str := ["index", "many"]
abbrev p_check_index : List Str := ["index", "many"]
theorem sc_check_index : FnScope n_check_index p_check_index (defScope s_check_index) := ⟨rfl, rfl, rfl, by decide +kernel, rfl, by decide +kernel, by decide +kernel⟩
abbrev s_Sc_init : Stmt := inClass (topS 50) 0
abbrev n_Sc_init : List Str := ["self", "tanks", "steps", "step"]
abbrev p_Sc_init : List Str := ["self", "tanks", "steps"]
theorem sc_Sc_init : FnScope n_Sc_init p_Sc_init (defScope s_Sc_init) := ⟨rfl, rfl, rfl, by decide +kernel, rfl, by decide +kernel, by decide +kernel⟩
abbrev s_Sc_tanks : Stmt := inClass (topS 50) 1
abbrev n_Sc_tanks : List Str := ["self"]
abbrev p_Sc_tanks : List Str := ["self"]
theorem sc_Sc_tanks : FnScope n_Sc_tanks p_Sc_tanks (defScope s_Sc_tanks) := ⟨rfl, rfl, rfl, by decide +kernel, rfl, by decide +kernel, by decide +kernel⟩
abbrev s_Sc_steps : Stmt := inClass (topS 50) 2
abbrev n_Sc_steps : List Str := ["self"]
abbrev p_Sc_steps : List Str := ["self"]
theorem sc_Sc_steps : FnScope n_Sc_steps p_Sc_steps (defScope s_Sc_steps) := ⟨rfl, rfl, rfl, by decide +kernel, rfl, by decide +kernel, by decide +kernel⟩
abbrev s_Sc_unknown : Stmt := inClass (topS 50) 3
abbrev n_Sc_unknown : List Str := ["self", "width", "_"]
abbrev p_Sc_unknown : List Str := ["self"]
theorem sc_Sc_unknown : FnScope n_Sc_unknown p_Sc_unknown (defScope s_Sc_unknown) := ⟨rfl, rfl, rfl, by decide +kernel, rfl, by decide +kernel, by decide +kernel⟩
abbrev s_Sc_getitem : Stmt := inClass (topS 50) 4
abbrev n_Sc_getitem : List Str := ["self", "at"]
abbrev p_Sc_getitem : List Str := ["self", "at"]
theorem sc_Sc_getitem : FnScope n_Sc_getitem p_Sc_getitem (defScope s_Sc_getitem) := ⟨rfl, rfl, rfl, by decide +kernel, rfl, by decide +kernel, by decide +kernel⟩
abbrev s_Sc_iter : Stmt := inClass (topS 50) 5
abbrev n_Sc_iter : List Str := ["self"]
abbrev p_Sc_iter : List Str := ["self"]
theorem sc_Sc_iter : FnScope n_Sc_iter p_Sc_iter (defScope s_Sc_iter) := ⟨rfl, rfl, rfl, by decide +kernel, rfl, by decide +kernel, by decide +kernel⟩
abbrev s_Sc_without : Stmt := inClass (topS 50) 6
abbrev n_Sc_without : List Str := ["self", "index"]
abbrev p_Sc_without : List Str := ["self", "index"]
theorem sc_Sc_without : FnScope n_Sc_without p_Sc_without (defScope s_Sc_without) := ⟨rfl, rfl, rfl, by decide +kernel, rfl, by decide +kernel, by decide +kernel⟩
abbrev s_Sc_exchanged : Stmt := inClass (topS 50) 7
abbrev n_Sc_exchanged : List Str := ["self", "index"]
abbrev p_Sc_exchanged : List Str := ["self", "index"]
theorem sc_Sc_exchanged : FnScope n_Sc_exchanged p_Sc_exchanged (defScope s_Sc_exchanged) := ⟨rfl, rfl, rfl, by decide +kernel, rfl, by decide +kernel, by decide +kernel⟩
abbrev s_Sc_len : Stmt := inClass (topS 50) 8
abbrev n_Sc_len : List Str := ["self"]
abbrev p_Sc_len : List Str := ["self"]
theorem sc_Sc_len : FnScope n_Sc_len p_Sc_len (defScope s_Sc_len) := ⟨rfl, rfl, rfl, by decide +kernel, rfl, by decide +kernel, by decide +kernel⟩
abbrev s_Sc_eq : Stmt := inClass (topS 50) 9
abbrev n_Sc_eq : List Str := ["self", "other"]
abbrev p_Sc_eq : List Str := ["self", "other"]
theorem sc_Sc_eq : FnScope n_Sc_eq p_Sc_eq (defScope s_Sc_eq) := ⟨rfl, rfl, rfl, by decide +kernel, rfl, by decide +kernel, by decide +kernel⟩
abbrev s_read_script : Stmt := topS 52
abbrev n_read_script : List Str := ["text", "first", "others", "tanks", "part"]
abbrev p_read_script : List Str := ["text"]
theorem sc_read_script : FnScope n_read_script p_read_script (defScope s_read_script) := ⟨rfl, rfl, rfl, by decide +kernel, rfl, by decide +kernel, by decide +kernel⟩
abbrev s_read_polynomial : Stmt := topS 53
abbrev n_read_polynomial : List Str := ["text", "one", "part"]
abbrev p_read_polynomial : List Str := ["text"]
theorem sc_read_polynomial : FnScope n_read_polynomial p_read_polynomial (defScope s_read_polynomial) := ⟨rfl, rfl, rfl, by decide +kernel, rfl, by decide +kernel, by decide +kernel⟩
abbrev s_read_tank : Stmt := topS 54
abbrev n_read_tank : List Str := ["text", "parts", "width"]
abbrev p_read_tank : List Str := ["text"]
theorem sc_read_tank : FnScope n_read_tank p_read_tank (defScope s_read_tank) := ⟨rfl, rfl, rfl, by decide +kernel, rfl, by decide +kernel, by decide +kernel⟩
abbrev s_read_step : Stmt := topS 55
abbrev n_read_step : List Str := ["text", "word", "things", "part"]
abbrev p_read_step : List Str := ["text"]
theorem sc_read_step : FnScope n_read_step p_read_step (defScope s_read_step) := ⟨rfl, rfl, rfl, by decide +kernel, rfl, by decide +kernel, by decide +kernel⟩
abbrev s_read_thing : Stmt := topS 56
abbrev n_read_thing : List Str := ["text", "part"]
abbrev p_read_thing : List Str := ["text"]
theorem sc_read_thing : FnScope n_read_thing p_read_thing (defScope s_read_thing) := ⟨rfl, rfl, rfl, by decide +kernel, rfl, by decide +kernel, by decide +kernel⟩
abbrev s_read_integer : Stmt := topS 57
abbrev n_read_integer : List Str := ["text", "digits", "sign"]
abbrev p_read_integer : List Str := ["text"]
theorem sc_read_integer : FnScope n_read_integer p_read_integer (defScope s_read_integer) := ⟨rfl, rfl, rfl, by decide +kernel, rfl, by decide +kernel, by decide +kernel⟩
abbrev s_reduced : Stmt := topS 59
abbrev n_reduced : List Str := ["top", "bottom", "factor", "above", "below", "number", "part"]
abbrev p_reduced : List Str := ["top", "bottom"]
theorem sc_reduced : FnScope n_reduced p_reduced (defScope s_reduced) := ⟨rfl, rfl, rfl, by decide +kernel, rfl, by decide +kernel, by decide +kernel⟩
abbrev s_told_widths : Stmt := topS 61
abbrev n_told_widths : List Str := ["tanks", "spot", "above", "below", "width", "_"]
abbrev p_told_widths : List Str := ["tanks", "spot"]
theorem sc_told_widths : FnScope n_told_widths p_told_widths (defScope s_told_widths) := ⟨rfl, rfl, rfl, by decide +kernel, rfl, by decide +kernel, by decide +kernel⟩
abbrev s_first_water : Stmt := topS 62
abbrev n_first_water : List Str := ["tanks", "_", "amount"]
abbrev p_first_water : List Str := ["tanks"]
theorem sc_first_water : FnScope n_first_water p_first_water (defScope s_first_water) := ⟨rfl, rfl, rfl, by decide +kernel, rfl, by decide +kernel, by decide +kernel⟩
abbrev s_sum_of : Stmt := topS 63
abbrev n_sum_of : List Str := ["told", "total", "one"]
abbrev p_sum_of : List Str := ["told"]
theorem sc_sum_of : FnScope n_sum_of p_sum_of (defScope s_sum_of) := ⟨rfl, rfl, rfl, by decide +kernel, rfl, by decide +kernel, by decide +kernel⟩
abbrev s_together : Stmt := topS 64
abbrev n_together : List Str := ["tanks", "amounts", "widths", "k"]
abbrev p_together : List Str := ["tanks", "amounts", "widths"]
theorem sc_together : FnScope n_together p_together (defScope s_together) := ⟨rfl, rfl, rfl, by decide +kernel, rfl, by decide +kernel, by decide +kernel⟩
abbrev s_after : Stmt := topS 65
abbrev n_after : List Str := ["step", "water", "widths", "word"]
abbrev p_after : List Str := ["step", "water", "widths"]
theorem sc_after : FnScope n_after p_after (defScope s_after) := ⟨rfl, rfl, rfl, by decide +kernel, rfl, by decide +kernel, by decide +kernel⟩
abbrev s_opened : Stmt := topS 66
abbrev n_opened : List Str := ["tanks", "water", "widths", "amounts", "whole", "total", "width", "found", "k", "one"]
abbrev p_opened : List Str := ["tanks", "water", "widths"]
theorem sc_opened : FnScope n_opened p_opened (defScope s_opened) := ⟨rfl, rfl, rfl, by decide +kernel, rfl, by decide +kernel, by decide +kernel⟩
abbrev s_poured : Stmt := topS 67
abbrev n_poured : List Str := ["tank", "amount", "water", "amounts", "whole", "poured_in", "k", "one"]
abbrev p_poured : List Str := ["tank", "amount", "water"]
theorem sc_poured : FnScope n_poured p_poured (defScope s_poured) := ⟨rfl, rfl, rfl, by decide +kernel, rfl, by decide +kernel, by decide +kernel⟩
abbrev s_taken : Stmt := topS 68
abbrev n_taken : List Str := ["tank", "other", "part", "water", "amounts", "whole", "above", "below", "found", "one"]
abbrev p_taken : List Str := ["tank", "other", "part", "water"]
theorem sc_taken : FnScope n_taken p_taken (defScope s_taken) := ⟨rfl, rfl, rfl, by decide +kernel, rfl, by decide +kernel, by decide +kernel⟩
abbrev s_lead : Stmt := topS 69
abbrev n_lead : List Str := ["amount", "width", "other", "other_width", "whole", "told"]
abbrev p_lead : List Str := ["amount", "width", "other", "other_width", "whole"]
theorem sc_lead : FnScope n_lead p_lead (defScope s_lead) := ⟨rfl, rfl, rfl, by decide +kernel, rfl, by decide +kernel, by decide +kernel⟩
abbrev s_ahead : Stmt := topS 70
abbrev n_ahead : List Str := ["step", "water", "widths", "amounts", "whole", "_", "one", "other"]
abbrev p_ahead : List Str := ["step", "water", "widths"]
theorem sc_ahead : FnScope n_ahead p_ahead (defScope s_ahead) := ⟨rfl, rfl, rfl, by decide +kernel, rfl, by decide +kernel, by decide +kernel⟩
abbrev s_levels : Stmt := topS 71
abbrev n_levels : List Str := ["water", "widths", "scale", "amounts", "whole", "k", "one"]
abbrev p_levels : List Str := ["water", "widths", "scale"]
theorem sc_levels : FnScope n_levels p_levels (defScope s_levels) := ⟨rfl, rfl, rfl, by decide +kernel, rfl, by decide +kernel, by decide +kernel⟩
abbrev s_number_of : Stmt := topS 72
abbrev n_number_of : List Str := ["form", "top", "bottom"]
abbrev p_number_of : List Str := ["form"]
theorem sc_number_of : FnScope n_number_of p_number_of (defScope s_number_of) := ⟨rfl, rfl, rfl, by decide +kernel, rfl, by decide +kernel, by decide +kernel⟩
abbrev s_is_ended : Stmt := topS 73
abbrev n_is_ended : List Str := ["step", "water", "widths"]
abbrev p_is_ended : List Str := ["step", "water", "widths"]
theorem sc_is_ended : FnScope n_is_ended p_is_ended (defScope s_is_ended) := ⟨rfl, rfl, rfl, by decide +kernel, rfl, by decide +kernel, by decide +kernel⟩
abbrev s_told_levels : Stmt := topS 74
abbrev n_told_levels : List Str := ["water", "widths", "spot", "form"]
abbrev p_told_levels : List Str := ["water", "widths", "spot"]
theorem sc_told_levels : FnScope n_told_levels p_told_levels (defScope s_told_levels) := ⟨rfl, rfl, rfl, by decide +kernel, rfl, by decide +kernel, by decide +kernel⟩
abbrev s_run_of : Stmt := topS 75
abbrev n_run_of : List Str := ["tanks", "steps", "spot", "widths", "water", "index", "step"]
abbrev p_run_of : List Str := ["tanks", "steps", "spot"]
theorem sc_run_of : FnScope n_run_of p_run_of (defScope s_run_of) := ⟨rfl, rfl, rfl, by decide +kernel, rfl, by decide +kernel, by decide +kernel⟩
abbrev s_run : Stmt := topS 77
abbrev n_run : List Str := ["plan", "width"]
abbrev p_run : List Str := ["plan", "width"]
theorem sc_run : FnScope n_run p_run (defScope s_run) := ⟨rfl, rfl, rfl, by decide +kernel, rfl, by decide +kernel, by decide +kernel⟩
abbrev s_l_purse : Stmt := topS 79
abbrev n_l_purse : List Str := ["script", "place", "cell"]
abbrev p_l_purse : List Str := ["script", "place"]
theorem sc_l_purse : FnScope n_l_purse p_l_purse (defScope s_l_purse) := ⟨rfl, rfl, rfl, by decide +kernel, rfl, by decide +kernel, by decide +kernel⟩
abbrev s_l_coin : Stmt := topS 80
abbrev n_l_coin : List Str := ["purse", "many", "drawn", "stirred"]
abbrev p_l_coin : List Str := ["purse", "many"]
theorem sc_l_coin : FnScope n_l_coin p_l_coin (defScope s_l_coin) := ⟨rfl, rfl, rfl, by decide +kernel, rfl, by decide +kernel, by decide +kernel⟩
abbrev s_l_shared : Stmt := topS 81
abbrev n_l_shared : List Str := ["one", "other", "turn"]
abbrev p_l_shared : List Str := ["one", "other"]
theorem sc_l_shared : FnScope n_l_shared p_l_shared (defScope s_l_shared) := ⟨rfl, rfl, rfl, by decide +kernel, rfl, by decide +kernel, by decide +kernel⟩
abbrev s_l_ratio : Stmt := topS 82
abbrev n_l_ratio : List Str := ["above_now", "below", "share"]
abbrev p_l_ratio : List Str := ["above_now", "below"]
theorem sc_l_ratio : FnScope n_l_ratio p_l_ratio (defScope s_l_ratio) := ⟨rfl, rfl, rfl, by decide +kernel, rfl, by decide +kernel, by decide +kernel⟩
abbrev s_l_drawn_part : Stmt := topS 83
abbrev n_l_drawn_part : List Str := ["purse", "most", "below"]
abbrev p_l_drawn_part : List Str := ["purse", "most"]
theorem sc_l_drawn_part : FnScope n_l_drawn_part p_l_drawn_part (defScope s_l_drawn_part) := ⟨rfl, rfl, rfl, by decide +kernel, rfl, by decide +kernel, by decide +kernel⟩
abbrev s_l_drawn_tanks : Stmt := topS 84
abbrev n_l_drawn_tanks : List Str := ["purse", "many", "most", "rank", "found", "at", "amount", "width_here"]
abbrev p_l_drawn_tanks : List Str := ["purse", "many", "most"]
theorem sc_l_drawn_tanks : FnScope n_l_drawn_tanks p_l_drawn_tanks (defScope s_l_drawn_tanks) := ⟨rfl, rfl, rfl, by decide +kernel, rfl, by decide +kernel, by decide +kernel⟩
abbrev s_l_pair : Stmt := topS 85
abbrev n_l_pair : List Str := ["purse", "many", "one"]
abbrev p_l_pair : List Str := ["purse", "many"]
theorem sc_l_pair : FnScope n_l_pair p_l_pair (defScope s_l_pair) := ⟨rfl, rfl, rfl, by decide +kernel, rfl, by decide +kernel, by decide +kernel⟩
abbrev s_l_drawn_step : Stmt := topS 86
abbrev n_l_drawn_step : List Str := ["purse", "many", "most", "words", "word", "one", "other", "some", "at"]
abbrev p_l_drawn_step : List Str := ["purse", "many", "most", "words"]
theorem sc_l_drawn_step : FnScope n_l_drawn_step p_l_drawn_step (defScope s_l_drawn_step) := ⟨rfl, rfl, rfl, by decide +kernel, rfl, by decide +kernel, by decide +kernel⟩
abbrev s_l_drawn_plan : Stmt := topS 87
abbrev n_l_drawn_plan : List Str := ["purse", "most", "tanks_here", "steps_here", "opens", "stops", "turn", "words", "step", "word"]
abbrev p_l_drawn_plan : List Str := ["purse"]
theorem sc_l_drawn_plan : FnScope n_l_drawn_plan p_l_drawn_plan (defScope s_l_drawn_plan) := ⟨rfl, rfl, rfl, by decide +kernel, rfl, by decide +kernel, by decide +kernel⟩
abbrev s_l_great_plan : Stmt := topS 88
abbrev n_l_great_plan : List Str := ["purse", "many", "words", "steps_here", "turn"]
abbrev p_l_great_plan : List Str := ["purse"]
theorem sc_l_great_plan : FnScope n_l_great_plan p_l_great_plan (defScope s_l_great_plan) := ⟨rfl, rfl, rfl, by decide +kernel, rfl, by decide +kernel, by decide +kernel⟩
abbrev s_l_copied : Stmt := topS 89
abbrev n_l_copied : List Str := ["thing", "one"]
abbrev p_l_copied : List Str := ["thing"]
theorem sc_l_copied : FnScope n_l_copied p_l_copied (defScope s_l_copied) := ⟨rfl, rfl, rfl, by decide +kernel, rfl, by decide +kernel, by decide +kernel⟩
abbrev s_l_made : Stmt := topS 90
abbrev n_l_made : List Str := ["shape"]
abbrev p_l_made : List Str := ["shape"]
theorem sc_l_made : FnScope n_l_made p_l_made (defScope s_l_made) := ⟨rfl, rfl, rfl, by decide +kernel, rfl, by decide +kernel, by decide +kernel⟩
abbrev s_l_step_text : Stmt := topS 91
abbrev n_l_step_text : List Str := ["step", "found", "thing", "tank_here"]
abbrev p_l_step_text : List Str := ["step"]
theorem sc_l_step_text : FnScope n_l_step_text p_l_step_text (defScope s_l_step_text) := ⟨rfl, rfl, rfl, by decide +kernel, rfl, by decide +kernel, by decide +kernel⟩
abbrev s_l_script_text : Stmt := topS 92
abbrev n_l_script_text : List Str := ["shape", "tanks_here", "width_here", "amount", "told", "rows", "step"]
abbrev p_l_script_text : List Str := ["shape"]
theorem sc_l_script_text : FnScope n_l_script_text p_l_script_text (defScope s_l_script_text) := ⟨rfl, rfl, rfl, by decide +kernel, rfl, by decide +kernel, by decide +kernel⟩
abbrev s_l_drawn_width : Stmt := topS 93
abbrev n_l_drawn_width : List Str := ["purse", "below"]
abbrev p_l_drawn_width : List Str := ["purse"]
theorem sc_l_drawn_width : FnScope n_l_drawn_width p_l_drawn_width (defScope s_l_drawn_width) := ⟨rfl, rfl, rfl, by decide +kernel, rfl, by decide +kernel, by decide +kernel⟩
abbrev s_l_polynomials_right : Stmt := topS 94
abbrev n_l_polynomials_right : List Str := ["purse", "top", "numbers_here", "wording", "turn", "piece"]
abbrev p_l_polynomials_right : List Str := ["purse"]
theorem sc_l_polynomials_right : FnScope n_l_polynomials_right p_l_polynomials_right (defScope s_l_polynomials_right) := ⟨rfl, rfl, rfl, by decide +kernel, rfl, by decide +kernel, by decide +kernel⟩
abbrev s_l_right : Stmt := topS 95
abbrev n_l_right : List Str := ["purse", "shape", "made", "wording", "back", "index", "lesser", "turn", "width_here"]
abbrev p_l_right : List Str := ["purse"]
theorem sc_l_right : FnScope n_l_right p_l_right (defScope s_l_right) := ⟨rfl, rfl, rfl, by decide +kernel, rfl, by decide +kernel, by decide +kernel⟩
abbrev s_law : Stmt := topS 96
abbrev n_law : List Str := ["script", "spot", "purse", "turn"]
abbrev p_law : List Str := ["script"]
theorem sc_law : FnScope n_law p_law (defScope s_law) := ⟨rfl, rfl, rfl, by decide +kernel, rfl, by decide +kernel, by decide +kernel⟩
end V2


namespace V2
open PySem L2
open PySem.Spec PyProof.Rows
def CPowX (i j : Int) : Prop := 0 ≤ j ∧ (Builtin.Int.intBits i : Int) * j ≤ 2 ^ 27
theorem op_powX {X : Cx} : OpR X (binaryOp .Pow) (rI CPowX fun i j => .int (i ^ j.toNat)) :=
  opI fun _ _ _ _ _ _ _ hc q => pow_int hc.1 hc.2 q
theorem pow_ok {i : Int} {k n : Nat} (hi : i.natAbs < 2 ^ k) (h : k * n ≤ 134217728) : CPowX i (n : Int) := by
  (refine ⟨Int.natCast_nonneg _, ?_⟩)
  have h1 := intBits_le hi
  have h2 : Builtin.Int.intBits i * n ≤ k * n := Nat.mul_le_mul_right n h1
  have h3 : ((Builtin.Int.intBits i * n : Nat) : Int) ≤ 134217728 := by omega
  have e : (2 : Int) ^ 27 = 134217728 := (by decide)
  rw [e, ← Int.natCast_mul]
  exact h3
/-- all but the list at p is as it was (and there may be new things) -/
def But (p : Addr) (H H' : Hp) : Prop := ∀ b o, b ≠ p → H b = some o → H' b = some o
theorem But.refl (p : Addr) (H : Hp) : But p H H := fun _ _ _ h => h
theorem But.trans {p : Addr} {H H1 H2 : Hp} (a : But p H H1) (b : But p H1 H2) : But p H H2 := fun c o n h => b c o n (a c o n h)
theorem But.of_ex {p : Addr} {H H' : Hp} (e : Evl.Ex H H') : But p H H' := fun b o _ h => e b o h
theorem But.upd {p : Addr} {H : Hp} {o : HO} : But p H (upd H p o) := fun b u n h => by
  rw [upd_ne n]; exact h
/-- the law's sack at p: three ints, at most m draws so far -/
def Sk (H : Hp) (p : Addr) (m : Nat) : Prop := ∃ a b c : Int, H p = some (.lst [.int a, .int b, .int c]) ∧ 0 ≤ a ∧ 0 ≤ b ∧ b < 2 ^ 80 ∧ 0 ≤ c ∧ c ≤ m
theorem Sk.le {H : Hp} {p : Addr} {m n : Nat} (h : Sk H p m) (l : m ≤ n) : Sk H p n := by
  obtain ⟨a, b, c, h1, h2, h3, h4, h5, h6⟩ := h
  exact ⟨a, b, c, h1, h2, h3, h4, h5, by omega⟩
theorem Sk.ex {H H' : Hp} {p : Addr} {m : Nat} (h : Sk H p m) (e : Evl.Ex H H') : Sk H' p m := by
  obtain ⟨a, b, c, h1, h2⟩ := h
  exact ⟨a, b, c, e _ _ h1, h2⟩
/-- a draw: any number below many, the sack goes on -/
def spCoin : Sp := fun vs H Q _ => ∃ (p : Addr) (many : Int) (m : Nat), vs = [.ref p, .int many] ∧ Sk H p m ∧ m ≤ 100000 ∧ 0 < many ∧ many.natAbs < 2 ^ 200 ∧
  ∀ (r : Int) (H' : Hp), 0 ≤ r → r < many → But p H H' → Sk H' p (m + 1) → (∀ q, H q = none → H' q = none) → Q (.int r) H'
structure T0 (mg : Str → Option Value) : Prop where
  len : mg "len" = none
  max : mg "max" = none
  abs : mg "abs" = none
  int : mg "int" = none
theorem at0 {a b c : V} : atI [a, b, c] 0 = some a := by rfl
theorem at1 {a b c : V} : atI [a, b, c] 1 = some b := by rfl
theorem at2 {a b c : V} : atI [a, b, c] 2 = some c := by rfl
theorem ixN3 (j : Nat) (h : j < 3) : ixN 3 (j : Int) = some j := Evl.ixN_nat h
section
variable {base : Heap} {mg : Str → Option Value} {K : PySem.W.Frag} {w : World} {P : Program}
end
end V2



namespace V2
/-- how many zeros a list begins with -/
def zer : List Int → Nat
  | [] => 0
  | x :: r => if x = 0 then zer r + 1 else 0
theorem zer_le : ∀ l : List Int, zer l ≤ l.length
  | [] => Nat.le_refl _
  | x :: r => by
    unfold zer
    split
    · have := zer_le r; simp only [List.length_cons]; omega
    · exact Nat.zero_le _
theorem zer_in : ∀ (l : List Int) (j : Nat), j < zer l → l[j]? = some 0
  | [], j, h => absurd h (Nat.not_lt_zero _)
  | x :: r, j, h => by
    unfold zer at h
    split at h
    · rename_i e
      cases j with
      | zero => simp [e]
      | succ j => simpa using zer_in r j (by omega)
    · exact absurd h (Nat.not_lt_zero _)
theorem zer_at : ∀ (l : List Int), zer l < l.length → ∃ x, l[zer l]? = some x ∧ x ≠ 0
  | [], h => absurd h (Nat.not_lt_zero _)
  | x :: r, h => by
    unfold zer at h ⊢
    split
    · rename_i e
      rw [if_pos e, List.length_cons] at h
      obtain ⟨y, h1, h2⟩ := zer_at r (by omega)
      exact ⟨y, by simpa using h1, h2⟩
    · rename_i e
      exact ⟨x, rfl, e⟩
/-- how many zeros stand at the end -/
def tz (ns : List Int) : Nat := zer ns.reverse
theorem tz_le (ns : List Int) : tz ns ≤ ns.length := by
  have := zer_le ns.reverse
  rwa [List.length_reverse] at this
theorem tz_in (ns : List Int) (j : Nat) (h : j < tz ns) : ns[ns.length - 1 - j]? = some 0 := by
  have h1 := zer_in ns.reverse j h
  have h2 := tz_le ns
  rwa [List.getElem?_reverse (by omega)] at h1
theorem tz_at (ns : List Int) (h : tz ns < ns.length) : ∃ x, ns[ns.length - 1 - tz ns]? = some x ∧ x ≠ 0 := by
  have h1 := zer_at ns.reverse (by rwa [List.length_reverse])
  obtain ⟨x, h2, h3⟩ := h1
  refine ⟨x, ?_, h3⟩
  change ns.reverse[tz ns]? = some x at h2
  rwa [List.getElem?_reverse h] at h2
/-- without the zeros at the end -/
def trm (ns : List Int) : List Int := ns.take (ns.length - tz ns)
/-- no 0 at the end -/
def Pol (ns : List Int) : Prop := ∀ x, ns[ns.length - 1]? = some x → x ≠ 0
theorem tz_pol {ns : List Int} (h : Pol ns) : tz ns = 0 := by
  cases e : tz ns with
  | zero => rfl
  | succ k =>
    exact absurd rfl (h 0 (by have := tz_in ns 0 (by omega); simpa using this))
theorem trm_pol {ns : List Int} (h : Pol ns) : trm ns = ns := by
  unfold trm
  rw [tz_pol h, Nat.sub_zero, List.take_length]
theorem pol_trm (ns : List Int) : Pol (trm ns) := by
  intro x h
  unfold trm at h
  have h2 := tz_le ns
  rw [List.length_take, Nat.min_eq_left (Nat.sub_le _ _)] at h
  by_cases h3 : tz ns < ns.length
  · obtain ⟨y, h4, h5⟩ := tz_at ns h3
    rw [List.getElem?_take, if_pos (by omega), show ns.length - tz ns - 1 = ns.length - 1 - tz ns by omega, h4] at h
    cases h; exact h5
  · rw [List.getElem?_take, if_neg (by omega)] at h
    cases h
theorem trm_len (ns : List Int) : (trm ns).length ≤ ns.length := by
  unfold trm; rw [List.length_take]; omega
theorem trm_mem {ns : List Int} {x : Int} (h : x ∈ trm ns) : x ∈ ns := List.mem_of_mem_take h
theorem mod_half {l r : Nat} (h0 : 0 < r) (h : r < l) : r * (l % r) * 2 ≤ l * r := by
  have h1 := Nat.mod_lt l h0
  have h2 : l % r + r ≤ l := by
    have := Nat.div_add_mod l r
    have h3 : 1 ≤ l / r := Nat.div_pos (Nat.le_of_lt h) h0
    have h4 : r * 1 ≤ r * (l / r) := Nat.mul_le_mul_left r h3
    omega
  have h5 : (l % r) * 2 ≤ l := by omega
  calc r * (l % r) * 2 = r * ((l % r) * 2) := by rw [Nat.mul_assoc]
    _ ≤ r * l := Nat.mul_le_mul_left r h5
    _ = l * r := Nat.mul_comm _ _
/-- behind i turns -/
def Euc (B x y i l r : Nat) : Prop := Nat.gcd l r = Nat.gcd x y ∧ l < 2 ^ B ∧ r < 2 ^ B ∧ (i = 0 ∨ (r < l ∧ l * r * 2 ^ (i - 1) < 2 ^ (2 * B)))
theorem euc_0 {B x y : Nat} (hx : x < 2 ^ B) (hy : y < 2 ^ B) : Euc B x y 0 x y := ⟨rfl, hx, hy, .inl rfl⟩
theorem euc_s {B x y i l r : Nat} (h : Euc B x y i l r) (h0 : 0 < r) : Euc B x y (i + 1) r (l % r) := by
  obtain ⟨hg, hl, hr, hi⟩ := h
  have hm := Nat.mod_lt l h0
  refine ⟨?_, hr, Nat.lt_trans hm hr, .inr ⟨hm, ?_⟩⟩
  · rw [← hg, Nat.gcd_comm r, ← Nat.gcd_rec, Nat.gcd_comm]
  · rw [Nat.add_sub_cancel]
    rcases hi with rfl | ⟨hlt, hb⟩
    · rw [Nat.pow_zero, Nat.mul_one, Nat.two_mul, Nat.pow_add]
      exact Nat.mul_lt_mul'' hr (Nat.lt_trans hm hr)
    · cases i with
      | zero =>
        rw [Nat.pow_zero, Nat.mul_one, Nat.two_mul, Nat.pow_add]
        exact Nat.mul_lt_mul'' hr (Nat.lt_trans hm hr)
      | succ i =>
        rw [Nat.add_sub_cancel] at hb
        refine Nat.lt_of_le_of_lt ?_ hb
        rw [Nat.pow_succ, Nat.mul_comm (2 ^ i) 2, ← Nat.mul_assoc]
        exact Nat.mul_le_mul_right _ (mod_half h0 hlt)
theorem euc_end {B x y i l r : Nat} (h : Euc B x y i l r) (hi : 2 * B + 1 ≤ i) : r = 0 := by
  obtain ⟨_, _, _, h | ⟨hlt, hb⟩⟩ := h
  · omega
  · rcases Nat.eq_zero_or_pos r with e | e
    · exact e
    · exfalso
      have h1 : 1 * 2 ^ (2 * B) ≤ l * r * 2 ^ (i - 1) := Nat.mul_le_mul (Nat.mul_pos (by omega) e) (Nat.pow_le_pow_right (by decide) (by omega))
      omega
theorem euc_val {B x y i l : Nat} (h : Euc B x y i l 0) : l = Nat.gcd x y := by
  rw [← h.1, Nat.gcd_zero_right]
def fr (u d : Int) : Int × Int := (u / (Int.gcd u d : Int), d / (Int.gcd u d : Int))
theorem gcd_pos {u d : Int} (h : 0 < d) : (0 : Int) < (Int.gcd u d : Int) := by
  have := Int.gcd_pos_of_ne_zero_right u (show d ≠ 0 by omega)
  omega
theorem fr_mul {u d : Int} (h : 0 < d) : u = (fr u d).1 * (Int.gcd u d : Int) ∧ d = (fr u d).2 * (Int.gcd u d : Int) :=
  ⟨(Int.ediv_mul_cancel (Int.gcd_dvd_left ..)).symm, (Int.ediv_mul_cancel (Int.gcd_dvd_right ..)).symm⟩
theorem fr_pos {u d : Int} (h : 0 < d) : 0 < (fr u d).2 := by
  have g := gcd_pos (u := u) h
  have e := (fr_mul (u := u) h).2
  rcases Int.lt_or_le 0 (fr u d).2 with h1 | h1
  · exact h1
  · exfalso
    have : (fr u d).2 * (Int.gcd u d : Int) ≤ 0 := Int.mul_nonpos_of_nonpos_of_nonneg h1 (by omega)
    omega
theorem fr_cop {u d : Int} (h : 0 < d) : Int.gcd (fr u d).1 (fr u d).2 = 1 := by
  have g := gcd_pos (u := u) h
  unfold fr
  exact Int.gcd_ediv_gcd_ediv_gcd (by omega)
/-- two fractions in lowest terms that are one number are one -/
theorem cop_eq {a b c d : Int} (hb : 0 < b) (hd : 0 < d) (h1 : Int.gcd a b = 1) (h2 : Int.gcd c d = 1) (e : a * d = c * b) : a = c ∧ b = d := by
  have hbd : b ∣ d := by
    have h3 : b ∣ a * d := ⟨c, by rw [e, Int.mul_comm]⟩
    have h4 := Int.dvd_gcd_mul_iff_dvd_mul.mpr h3
    rw [Int.gcd_comm, h1] at h4
    simpa using h4
  have hdb : d ∣ b := by
    have h3 : d ∣ c * b := ⟨a, by rw [← e, Int.mul_comm]⟩
    have h4 := Int.dvd_gcd_mul_iff_dvd_mul.mpr h3
    rw [Int.gcd_comm, h2] at h4
    simpa using h4
  have ebd : b = d := Int.dvd_antisymm (by omega) (by omega) hbd hdb
  subst ebd
  exact ⟨Int.eq_of_mul_eq_mul_right (by omega) e, rfl⟩
theorem fr_eq {a b c d : Int} (hb : 0 < b) (hd : 0 < d) (e : a * d = c * b) : fr a b = fr c d := by
  have g1 := gcd_pos (u := a) hb
  have g2 := gcd_pos (u := c) hd
  obtain ⟨a1, b1⟩ := fr_mul (u := a) hb
  obtain ⟨c1, d1⟩ := fr_mul (u := c) hd
  have k : (fr a b).1 * (fr c d).2 = (fr c d).1 * (fr a b).2 := by
    have z : ((fr a b).1 * (fr c d).2) * ((Int.gcd a b : Int) * (Int.gcd c d : Int)) = ((fr c d).1 * (fr a b).2) * ((Int.gcd a b : Int) * (Int.gcd c d : Int)) := by
      calc ((fr a b).1 * (fr c d).2) * ((Int.gcd a b : Int) * (Int.gcd c d : Int)) = ((fr a b).1 * (Int.gcd a b : Int)) * ((fr c d).2 * (Int.gcd c d : Int)) := by simp only [Int.mul_assoc, Int.mul_comm, Int.mul_left_comm]
        _ = a * d := by rw [← a1, ← d1]
        _ = c * b := e
        _ = ((fr c d).1 * (Int.gcd c d : Int)) * ((fr a b).2 * (Int.gcd a b : Int)) := by rw [← c1, ← b1]
        _ = _ := by simp only [Int.mul_assoc, Int.mul_comm, Int.mul_left_comm]
    exact Int.eq_of_mul_eq_mul_right (Int.ne_of_gt (Int.mul_pos g1 g2)) z
  obtain ⟨h1, h2⟩ := cop_eq (fr_pos hb) (fr_pos hd) (fr_cop hb) (fr_cop hd) k
  exact Prod.ext h1 h2
theorem fr_same {a b : Int} (hb : 0 < b) (h : Int.gcd a b = 1) : fr a b = (a, b) := by
  unfold fr
  rw [h]
  simp
theorem fr_abs1 {a b : Int} (hb : 0 < b) : (fr a b).1.natAbs ≤ a.natAbs := by
  obtain ⟨h1, _⟩ := fr_mul (u := a) hb
  have g := gcd_pos (u := a) hb
  generalize Int.gcd a b = n at h1 g
  have e : a.natAbs = (fr a b).1.natAbs * n := by
    have := congrArg Int.natAbs h1
    rw [Int.natAbs_mul, Int.natAbs_natCast] at this
    exact this
  rw [e]
  exact Nat.le_mul_of_pos_right _ (by omega)
theorem fr_abs2 {a b : Int} (hb : 0 < b) : (fr a b).2.natAbs ≤ b.natAbs := by
  obtain ⟨_, h1⟩ := fr_mul (u := a) hb
  have g := gcd_pos (u := a) hb
  generalize Int.gcd a b = n at h1 g
  have e : b.natAbs = (fr a b).2.natAbs * n := by
    have := congrArg Int.natAbs h1
    rw [Int.natAbs_mul, Int.natAbs_natCast] at this
    exact this
  rw [e]
  exact Nat.le_mul_of_pos_right _ (by omega)
end V2


namespace V2
open PySem L2
open PySem.Spec PyProof.Rows
def RetU (xs : List V) (H : Hp) (Q : VK) : Prop := ∀ p H2, H p = none → Evl.Ex H H2 → H2 p = some (.tup xs) → Q (.ref p) H2
def iV (ns : List Int) : List V := ns.map V.int
theorem iV_len (ns : List Int) : (iV ns).length = ns.length := List.length_map ..
theorem iV_at {ns : List Int} {j : Nat} {n : Int} (h : ns[j]? = some n) : (iV ns)[j]? = some (.int n) := by
  unfold iV; rw [List.getElem?_map, h]; rfl
theorem cut_to (xs : List V) {k : Nat} (h : k ≤ xs.length) : cutV xs none (some (k : Int)) = xs.take k := by
  unfold cutV HT.sIx
  have e1 : Int.toNat (k : Int) = k := Int.toNat_natCast k
  simp
  first
    | done
    | (split <;> simp_all <;> omega)
    | omega
/-- the script, the rank: a new sack -/
def spSack (K : PySem.W.Frag) : Sp := fun vs H Q _ => ∃ (a : Addr) (ns : List Int) (r : Nat), vs = [.ref a, .int (r : Int)] ∧ SqL K H a (iV ns) ∧ ns.length ≤ 63 ∧ r ≤ 63 ∧
  ∀ (q : Addr) (H' : Hp), H q = none → Evl.Ex H H' → Sk H' q 0 → Q (.ref q) H'
section
variable {base : Heap} {mg : Str → Option Value} {K : PySem.W.Frag} {w : World} {P : Program}
end
end V2


namespace V2
open PySem L2
open PySem.Spec PyProof.Rows
/-- a def that may be called by its name x -/
def Cal (P : Program) (w : World) (K : PySem.W.Frag) (mg : Str → Option Value) (base : Heap) (k : Nat) (x : Str) (ps : List Str) (sp : Sp) : Prop :=
  ∃ (f : Addr) (fd : FuncData), FnOk P w K mg base CX0 k f fd ps sp ∧ mg x = some (.ref f) ∧ PySem.W.keepIn K (.ref f) = true ∧ Binds K fd ps []
theorem pe_c {X : Cx} {k : Nat} {x : Str} {ps : List Str} {sp : Sp} {e : Expr} {es : List Expr} {t : TA} {p pos : Pos} (c : Cal X.prog X.w X.K X.mg X.base k x ps sp) (hr : Room k X.A) (ha : PA X (e :: es) t) (hg : Gl X x := by rfl)
    (he : starEach (e :: es) X.env = (false, eval e X.env) :: starEach es X.env := by rfl)
    (hpl : (backTo pos (starEach es X.env)).any (fun b => b.1) = false := by rfl) (hdb : (x == ("__debug__" : Str)) = false := by decide) :
    PE X (.Call (.Name x p) (e :: es) [] pos) (tCall sp [] E0 t) := by
  obtain ⟨f, fd, F, hm, hk, hb⟩ := c
  exact pe_call F hr hg hm hk hb .nil pass0 ha hdb he hpl
/-- a list of ints without the zeros at its end, new -/
def spTrim (K : PySem.W.Frag) : Sp := fun vs H Q _ => ∃ (a : Addr) (ns : List Int), vs = [.ref a] ∧ SqL K H a (iV ns) ∧ ns.length ≤ 1000 ∧ Evl.RetL (iV (trm ns)) H Q
section
variable {base : Heap} {mg : Str → Option Value} {K : PySem.W.Frag} {w : World} {P : Program}
end
end V2


namespace V2
def vec (N : Nat) (f : Nat → Int) : List Int := (List.range N).map f
theorem vec_len (N : Nat) (f : Nat → Int) : (vec N f).length = N := by unfold vec; simp
theorem vec_get {N : Nat} {f : Nat → Int} {i : Nat} (h : i < N) : (vec N f)[i]? = some (f i) := by
  unfold vec; simp [h]
theorem vec_ext {N : Nat} {f : Nat → Int} {l : List Int} (hl : l.length = N) (h : ∀ i, i < N → l[i]? = some (f i)) : l = vec N f := by
  apply List.ext_getElem?
  intro i
  by_cases hi : i < N
  · rw [h i hi, vec_get hi]
  · rw [List.getElem?_eq_none (by omega), List.getElem?_eq_none (by rw [vec_len]; omega)]
theorem vec_congr {N : Nat} {f g : Nat → Int} (h : ∀ i, i < N → f i = g i) : vec N f = vec N g :=
  vec_ext (vec_len N f) fun i hi => by rw [vec_get hi, h i hi]
theorem vec_set {N : Nat} {f g : Nat → Int} {p : Nat} {v : Int} (hv : g p = v) (h : ∀ i, i ≠ p → g i = f i) : (vec N f).set p v = vec N g := by
  refine vec_ext (by rw [List.length_set, vec_len]) fun i hi => ?_
  by_cases e : i = p
  · subst e
    rw [List.getElem?_set_self (by rw [vec_len]; exact hi), hv]
  · rw [List.getElem?_set_ne (fun z => e z.symm), vec_get hi, h i e]
theorem vec_zero (N : Nat) : vec N (fun _ => 0) = List.replicate N 0 := by
  symm
  refine vec_ext (by simp) fun i hi => by simp [hi]
theorem getD_at {l : List Int} {k : Nat} {x : Int} (h : l[k]? = some x) : l.getD k 0 = x := by
  rw [List.getD_eq_getElem?_getD, h]; rfl
theorem getD_out {l : List Int} {k : Nat} (h : l.length ≤ k) : l.getD k 0 = 0 := by
  rw [List.getD_eq_getElem?_getD, List.getElem?_eq_none h]; rfl
/-- the sum, zeros at the end and all -/
def padd (xs ys : List Int) : List Int := vec (max xs.length ys.length) fun k => xs.getD k 0 + ys.getD k 0
/-- the first k rows of a product, at place i -/
def cf (xs ys : List Int) : Nat → Nat → Int
  | 0, _ => 0
  | k + 1, i => cf xs ys k i + (if k ≤ i then xs.getD k 0 * ys.getD (i - k) 0 else 0)
/-- k rows, and j places of the next -/
def rw_ (xs ys : List Int) (k j i : Nat) : Int := cf xs ys k i + (if k ≤ i ∧ i < k + j then xs.getD k 0 * ys.getD (i - k) 0 else 0)
theorem rw_0 (xs ys : List Int) (k i : Nat) : rw_ xs ys k 0 i = cf xs ys k i := by
  unfold rw_; rw [if_neg (by omega), Int.add_zero]
theorem rw_end (xs ys : List Int) (k i : Nat) : rw_ xs ys k ys.length i = rw_ xs ys (k + 1) 0 i := by
  rw [rw_0]
  unfold rw_
  show _ = cf xs ys k i + (if k ≤ i then xs.getD k 0 * ys.getD (i - k) 0 else 0)
  by_cases h1 : k ≤ i
  · by_cases h2 : i < k + ys.length
    · rw [if_pos ⟨h1, h2⟩, if_pos h1]
    · rw [if_neg (by omega), if_pos h1, getD_out (l := ys) (k := i - k) (by omega), Int.mul_zero]
  · rw [if_neg (by omega), if_neg h1]
theorem rw_step {xs ys : List Int} {k j : Nat} : rw_ xs ys k (j + 1) (k + j) = rw_ xs ys k j (k + j) + xs.getD k 0 * ys.getD j 0 := by
  unfold rw_
  rw [if_pos (by omega), if_neg (by omega), Int.add_zero, show k + j - k = j by omega]
theorem rw_other {xs ys : List Int} {k j i : Nat} (h : i ≠ k + j) : rw_ xs ys k (j + 1) i = rw_ xs ys k j i := by
  unfold rw_
  by_cases h1 : k ≤ i ∧ i < k + j
  · rw [if_pos h1, if_pos (by omega)]
  · rw [if_neg h1, if_neg (by omega)]
/-- the product, at N places -/
def pmul (xs ys : List Int) : List Int := vec (xs.length + ys.length - 1) (cf xs ys xs.length)
theorem cf_nil_right (xs : List Int) : ∀ k i, cf xs [] k i = 0
  | 0, _ => rfl
  | k + 1, i => by
    show cf xs [] k i + _ = 0
    rw [cf_nil_right xs k i]
    simp
theorem tz_vec0 (N : Nat) : trm (vec N fun _ => 0) = [] := by
  have h : ∀ l : List Int, (∀ x ∈ l, x = 0) → zer l = l.length := by
    intro l
    induction l with
    | nil => intro _; rfl
    | cons x r ih =>
      intro h
      unfold zer
      rw [if_pos (h x List.mem_cons_self), ih fun y hy => h y (List.mem_cons_of_mem _ hy)]
      rfl
  unfold trm tz
  rw [h _ (fun x hx => by
    rw [List.mem_reverse, vec_zero] at hx
    exact List.eq_of_mem_replicate hx), List.length_reverse, Nat.sub_self, List.take_zero]
theorem pmul_nil (xs : List Int) : trm (pmul xs []) = [] := by
  unfold pmul
  rw [vec_congr (g := fun _ => 0) fun i _ => cf_nil_right xs _ i]
  exact tz_vec0 _
theorem nil_pmul (ys : List Int) : trm (pmul [] ys) = [] := tz_vec0 _
/-- beyond the last row nothing -/
theorem cf_high {xs ys : List Int} : ∀ (k i : Nat), k + ys.length ≤ i + 1 → k < xs.length → cf xs ys k i = 0
  | 0, _, _, _ => rfl
  | k + 1, i, h, hk => by
    show cf xs ys k i + _ = 0
    rw [cf_high k i (by omega) (by omega)]
    by_cases h1 : k ≤ i
    · rw [if_pos h1, getD_out (l := ys) (k := i - k) (by omega)]
      simp
    · rw [if_neg h1]; rfl
theorem pol_pmul {xs ys : List Int} (hx : Pol xs) (hy : Pol ys) (nx : xs ≠ []) (ny : ys ≠ []) : Pol (pmul xs ys) := by
  intro z h
  have lx : 0 < xs.length := List.length_pos_iff.mpr nx
  have ly : 0 < ys.length := List.length_pos_iff.mpr ny
  unfold pmul at h
  rw [vec_len, vec_get (by omega)] at h
  have h := Option.some.inj h
  obtain ⟨n, en⟩ : ∃ n, xs.length = n + 1 := ⟨xs.length - 1, by omega⟩
  rw [en] at h
  have h2 : cf xs ys n (n + 1 + ys.length - 1 - 1) + (if n ≤ n + 1 + ys.length - 1 - 1 then xs.getD n 0 * ys.getD (n + 1 + ys.length - 1 - 1 - n) 0 else 0) = z := h
  rw [cf_high n _ (by omega) (by omega), if_pos (by omega), show n + 1 + ys.length - 1 - 1 - n = ys.length - 1 by omega, Int.zero_add] at h2
  have ex : xs[n]? = some xs[n] := List.getElem?_eq_getElem (by omega)
  have ey : ys[ys.length - 1]? = some ys[ys.length - 1] := List.getElem?_eq_getElem (by omega)
  rw [getD_at ex, getD_at ey] at h2
  rw [← h2]
  exact Int.mul_ne_zero (hx _ (by simpa [show xs.length - 1 = n by omega] using ex)) (hy _ ey)
end V2


namespace V2
open PySem L2
open PySem.Spec PyProof.Rows
section
variable {base : Heap} {mg : Str → Option Value} {K : PySem.W.Frag} {w : World} {P : Program}
theorem if_t {c : Bool} {A B : Prop} (hc : c = true) (h : A) : if c = true then A else B := by
  rw [if_pos hc]; exact h
theorem if_f {c : Bool} {A B : Prop} (hc : c = false) (h : B) : if c = true then A else B := by
  rw [hc, if_neg Bool.false_ne_true]; exact h
theorem ok_cut {f : Addr} {fd : FuncData} (F : Fun K "cut" "cut" s_cut f fd) (mL : mg "len" = none) : FnOk P w K mg base CX0 1 f fd p_cut (spTrim K) := by
  refine F.ok sc_cut (fun vs H Q E h => ?_) (fun cdv A outer s H vs Q E hr h => ?_)
  · obtain ⟨a, ns, rfl, _⟩ := h
    rfl
  · obtain ⟨a, ns, rfl, hS, hl, k⟩ := h
    have nd := sc_cut.nd
    refine ⟨_, pss_cons (ps_set (i := 1) nd rfl (Or.inl rfl) (pe_callB call_len_seq (by rfl) mL PySem.boot_len (pa_cons (pv 0) pa_nil)))
      (pss_cons (ps_while PassesOwn.never (PW.pt (pw_and (pt_cmpR op_gt (pv 1) pe_int (nomark _)) (pw_and1 (pt_cmpR op_eq (pe_ix ix_list (pv 0) (pe_op op_sub (pv 1) pe_int) (fun _ _ => rfl)) pe_int (nomark _)))))
          (pss_one (ps_aug (i := 1) nd rfl (.inl rfl) pe_int ip_sub)))
      (pss_one (ps_ret (pe_slice sl_list (pv 0) po_none (po_some (pv 1)))))), ?_⟩
    have hz := tz_le ns
    refine ⟨_, rfl, a, _, rfl, .inl hS, ?_⟩
    refine ⟨fun m σ H' => H' = H ∧ ns.length - tz ns ≤ m ∧ m ≤ ns.length ∧ σ = [some (.ref a), some (.int (m : Int))], ⟨ns.length, rfl, by omega, Nat.le_refl _, by rw [← iV_len ns]; simp [L2.start]⟩, ?_⟩
    rintro m σ H' ⟨rfl, h1, h2, rfl⟩
    have fin : ns.length - tz ns = m → Q = Q := fun _ => rfl
    (refine ⟨_, rfl, _, _, rfl, rfl, _, rfl, ?_⟩)
    by_cases hm : 0 < m
    · refine if_t (decide_eq_true (by omega)) ?_
      obtain ⟨x, hx, q1, q2⟩ : ∃ x, ns[m - 1]? = some x ∧ (ns.length - tz ns < m → x = 0) ∧ (m = ns.length - tz ns → x ≠ 0) := by
        by_cases c : ns.length - tz ns < m
        · have := tz_in ns (ns.length - m) (by omega)
          rw [show ns.length - 1 - (ns.length - m) = m - 1 by omega] at this
          exact ⟨0, this, fun _ => rfl, fun z => by omega⟩
        · obtain ⟨x, h3, h4⟩ := tz_at ns (by omega)
          rw [show ns.length - 1 - tz ns = m - 1 by omega] at h3
          exact ⟨x, h3, fun z => absurd z c, fun _ => h4⟩
      have ei : ((m : Int) - 1) = ((m - 1 : Nat) : Int) := by omega
      refine ⟨_, rfl, _, rfl, _, _, rfl, rfl, a, _, _, .int x, rfl, rfl, hS, ?_, rfl, _, rfl, ?_⟩
      · show atI (iV ns) ((m : Int) - 1) = _
        rw [ei]
        exact atI_nat (iV_at hx)
      · by_cases e : x = 0
        · subst e
          refine if_t (decide_eq_true rfl) ?_
          have c : ns.length - tz ns < m := by
            rcases Nat.lt_or_ge (ns.length - tz ns) m with c | c
            · exact c
            · exact absurd rfl (q2 (by omega))
          refine ⟨fun σ H2 => H2 = H' ∧ σ = [some (.ref a), some (.int ((m - 1 : Nat) : Int))], fun σ H2 z => ⟨m - 1, by omega, z.1, by omega, by omega, z.2⟩, ?_⟩
          refine ⟨_, rfl, _, _, rfl, rfl, rfl, ?_⟩
          show [some (V.ref a), some (V.int ((m : Int) - 1))] = _
          rw [ei]
        · refine if_f (decide_eq_false fun z => e (by injection z)) ?_
          have c : m = ns.length - tz ns := by
            rcases Nat.lt_or_ge (ns.length - tz ns) m with c | c
            · exact absurd (q1 c) e
            · omega
          refine ⟨_, rfl, _, rfl, _, rfl, a, _, rfl, hS, fun p hp => k p _ hp (Evl.Ex.new hp) ?_⟩
          rw [upd_same, cut_to _ (by rw [iV_len]; omega), c]
          unfold trm iV
          rw [List.map_take]
    · refine if_f (decide_eq_false (by omega)) ?_
      have c : m = ns.length - tz ns := by omega
      refine ⟨_, rfl, _, rfl, _, rfl, a, _, rfl, hS, fun p hp => k p _ hp (Evl.Ex.new hp) ?_⟩
      rw [upd_same, cut_to _ (by rw [iV_len]; omega), c]
      unfold trm iV
      rw [List.map_take]
end
end V2


namespace V2
open PySem L2
open PySem.Spec PyProof.Rows
/-- a list of ints at a -/
def Li (H : Hp) (a : Addr) (ns : List Int) : Prop := H a = some (.lst (iV ns))
theorem Li.sq {K : PySem.W.Frag} {H : Hp} {a : Addr} {ns : List Int} (h : Li H a ns) : SqL K H a (iV ns) := SqL.of h
theorem iV_set (ns : List Int) (j : Nat) (v : Int) : (iV ns).set j (.int v) = iV (ns.set j v) := by
  unfold iV; rw [List.map_set]
theorem iV_get {ns : List Int} {i : Nat} {x : V} (h : (iV ns)[i]? = some x) : ∃ n, ns[i]? = some n ∧ x = .int n := by
  unfold iV at h
  rw [List.getElem?_map] at h
  cases e : ns[i]? with
  | none =>
    rw [e] at h
    cases h
  | some n => rw [e] at h; exact ⟨n, rfl, (Option.some.inj h).symm⟩
theorem rep_flat (k : Nat) (x : V) : (List.replicate k [x]).flatten = List.replicate k x := by simp
theorem iV_rep (k : Nat) : iV (List.replicate k 0) = List.replicate k (.int 0) := by unfold iV; simp
/-- a polynomial that may be handed over: at most 16 numbers below 2 ^ 64 -/
def Pn (ns : List Int) : Prop := Pol ns ∧ ns.length ≤ 16 ∧ ∀ x ∈ ns, -(2 ^ 64) < x ∧ x < 2 ^ 64
structure T2 (mg : Str → Option Value) : Prop where
  len : mg "len" = none
  max : mg "max" = none
  rng : mg "range" = none
  enu : mg "enumerate" = none
section
variable {base : Heap} {mg : Str → Option Value} {K : PySem.W.Frag} {w : World} {P : Program}
theorem tru_list {H : Hp} {a : Addr} {ns : List Int} (h : Li H a ns) : TruV K (.ref a) H (!(iV ns).isEmpty) := .inl ⟨_, SqL.of h, rfl⟩
end
end V2


namespace V2
open PySem L2
open PySem.Spec PyProof.Rows
theorem max_len (n m : Nat) : (if (m : Int) > (n : Int) then (m : Int) else (n : Int)) = ((max n m : Nat) : Int) := by
  split <;> omega
theorem gt_len (n m k : Nat) (h : k = max n m) : (if (m : Int) > (n : Int) then (m : Int) else (n : Int)) = (k : Int) := by
  rw [h]; exact max_len n m
/-- a list made longer by zeros -/
def pad (ns : List Int) (N : Nat) : List Int := ns ++ List.replicate (N - ns.length) 0
theorem pad_at {ns : List Int} {N i : Nat} (h : i < N) (hl : ns.length ≤ N) : (pad ns N)[i]? = some (ns.getD i 0) := by
  unfold pad
  by_cases h1 : i < ns.length
  · rw [List.getElem?_append_left h1, List.getD_eq_getElem?_getD, List.getElem?_eq_getElem h1]; rfl
  · rw [List.getElem?_append_right (by omega), getD_out (by omega), List.getElem?_replicate, if_pos (by omega)]
theorem iV_app (xs ys : List Int) : iV xs ++ iV ys = iV (xs ++ ys) := by unfold iV; rw [List.map_append]
theorem given_vec (n : Nat) (g : Nat → Int) : Evl.given n (fun _ => true) (fun i => .int (g i)) = iV (vec n g) := by
  unfold Evl.given iV vec
  rw [List.filter_eq_self.mpr (by simp), List.map_map]
  rfl
/-- xs + [0] * (n - len(xs)) -/
theorem el_pad {K : PySem.W.Frag} {σ : L2.St} {H : Hp} {i j : Nat} {a : Addr} {xs : List Int} {n : Nat} (hi : σ[i]? = some (some (.ref a))) (hj : σ[j]? = some (some (.int (n : Int)))) (ha : Li H a xs) (hl : xs.length ≤ n) (hn : n ≤ 100) :
    Evl.EvL (tOp rCat (tVar i) (tOp rRep (tLst (tCons (tC (.int 0)) tNil)) (tOp (rI0 fun i j => .int (i - j)) (tVar j) (tCB (Evl.rLenS K) (tCons (tVar i) tNil))))) σ H (iV (pad xs n)) := by
  intro H1 e1 Q k
  have ha1 : Li H1 a xs := e1 _ _ ha
  refine ⟨_, hi, (by show 1 ≤ sizeLine; decide), fun p hp => ?_⟩
  have e2 : Evl.Ex H1 (upd H1 p (.lst [.int 0])) := Evl.Ex.new hp
  refine ⟨_, hj, _, hi, a, _, rfl, .inl (SqL.of (e2 _ _ ha1)), _, _, rfl, rfl, p, _, _, rfl, rfl, upd_same, by rw [iV_len]; omega, by rw [iV_len]; omega, ?_, fun q hq => ?_⟩
  · rw [iV_len]
    show 1 * _ ≤ sizeLine
    exact Nat.le_trans (by omega) (show 100 ≤ sizeLine by decide)
  have e3 := e2.trans (Evl.Ex.new (o := .lst (List.replicate ((n : Int) - ((iV xs).length : Int)).toNat [V.int 0]).flatten) hq)
  refine ⟨a, q, _, _, rfl, rfl, e3 _ _ ha1, upd_same, ?_, fun r hr2 => ?_⟩
  · simp only [iV_len, rep_flat, List.length_replicate]
    exact Nat.le_trans (by omega) (show 100 ≤ sizeLine by decide)
  refine k r _ (Evl.fresh_back e3 hr2) (e3.trans (Evl.Ex.new hr2)) ?_
  rw [upd_same, rep_flat, iV_len, ← iV_rep, iV_app, show ((n : Int) - (xs.length : Int)).toNat = n - xs.length by omega]
  rfl
/-- [mine[k] + yours[k] for k in range(n)] -/
theorem el_sums {K : PySem.W.Frag} {σ : L2.St} {H : Hp} {im iy jn jk : Nat} {a b : Addr} {xs ys : List Int} {n : Nat} (hn : σ[jn]? = some (some (.int (n : Int)))) (ha : Li H a (pad xs n)) (hb : Li H b (pad ys n)) (hx : xs.length ≤ n) (hy : ys.length ≤ n) (h100 : n ≤ 100)
    (hw : ∀ x, wipe ((wipe σ [jk]).set jk (some x)) [jk] = wipe σ [jk]) (hm : ∀ x, ((wipe σ [jk]).set jk (some x))[im]? = some (some (.ref a))) (hyy : ∀ x, ((wipe σ [jk]).set jk (some x))[iy]? = some (some (.ref b))) (hk : ∀ x, ((wipe σ [jk]).set jk (some x))[jk]? = some (some x)) :
    Evl.EvL (tLc (iRng1 (tCons (tVar jn) tNil)) (gName jk) tYes (tOp (rI0 fun i j => .int (i + j)) (tOp (rIxL K) (tVar im) (tVar jk)) (tOp (rIxL K) (tVar iy) (tVar jk))) [jk]) σ H (iV (vec n fun k => xs.getD k 0 + ys.getD k 0)) := by
  have h := Evl.el_lcR1 (σ := σ) (H := H) (ta := tCons (tVar jn) tNil) (j := jk) (vs := [jk]) (t := tYes) (te := tOp (rI0 fun i j => .int (i + j)) (tOp (rIxL K) (tVar im) (tVar jk)) (tOp (rIxL K) (tVar iy) (tVar jk))) (n := (n : Int)) (fun _ => true) (fun k => .int (xs.getD k 0 + ys.getD k 0))
    (Evl.ea_cons (Evl.ev_var hn) Evl.ea_nil) ⟨by omega, by omega⟩ hw (fun i H1 _ _ => fun H2 e2 Q q => q H2 (Evl.Ex.refl _)) (fun i H1 e1 hi _ => ?_)
  · rw [Int.toNat_natCast, given_vec] at h
    exact h
  · have hi : i < n := by omega
    exact Evl.ev_op (Evl.ev_op (Evl.ev_var (hm _)) (Evl.ev_var (hk _)) (Evl.rv_ixL (SqL.of (e1 _ _ ha)) (atI_nat (iV_at (pad_at hi hx)))))
      (Evl.ev_op (Evl.ev_var (hyy _)) (Evl.ev_var (hk _)) (Evl.rv_ixL (SqL.of (e1 _ _ hb)) (atI_nat (iV_at (pad_at hi hy))))) Evl.rv_I0
section
variable {base : Heap} {mg : Str → Option Value} {K : PySem.W.Frag} {w : World} {P : Program}
end
end V2


namespace V2
def hT (p q : Int) : List Int → Int
  | [] => 0
  | a :: r => hT p q r * p + a * q ^ r.length
def hA (p q : Int) : List Int → Int
  | [] => 0
  | a :: r => a * q ^ (r.length + 1) + p * hA p q r
end V2


namespace V2
open PySem L2
open PySem.Spec PyProof.Rows
/-- a fraction's tuple at a -/
def Fr (H : Hp) (a : Addr) (p q : Int) : Prop := H a = some (.tup [.int p, .int q])
def Qn (p q : Int) : Prop := 0 < q ∧ Int.gcd p q = 1 ∧ p.natAbs < 2 ^ 50 ∧ q.natAbs < 2 ^ 50
section
variable {base : Heap} {mg : Str → Option Value} {K : PySem.W.Frag} {w : World} {P : Program}
end
end V2


namespace V2
open PySem L2
open PySem.Spec PyProof.Rows
theorem big {x : Int} {n m : Nat} (h : x.natAbs < 2 ^ n) (l : n ≤ m) : x.natAbs < 2 ^ m := Nat.lt_of_lt_of_le h (Nat.pow_le_pow_right (by decide) l)
section
variable {base : Heap} {mg : Str → Option Value} {K : PySem.W.Frag} {w : World} {P : Program}
end
end V2


namespace V2
open PySem L2
open PySem.Spec PyProof.Rows
structure T3 (mg : Str → Option Value) : Prop where
  isi : mg "isinstance" = none
  int : mg "int" = none
  bool : mg "bool" = none
  lst : mg "list" = none
  tup : mg "tuple" = none
  len : mg "len" = none
  all : mg "all" = none
  gcd : mg "gcd" = some (.builtin "math.gcd")
def spInt : Sp := fun vs H Q _ => ∃ n : Int, vs = [.int n] ∧ Evl.RetV (.bl true) H Q
def spPol : Sp := fun vs H Q _ => ∃ (a : Addr) (ns : List Int), vs = [.ref a] ∧ Li H a ns ∧ Pn ns ∧ Evl.RetV (.bl true) H Q
def spIsFr : Sp := fun vs H Q _ => ∃ (a : Addr) (p q : Int), vs = [.ref a] ∧ Fr H a p q ∧ Qn p q ∧ Evl.RetV (.bl true) H Q
theorem atI_end {ns : List Int} (h0 : ns ≠ []) : ∃ x, ns[ns.length - 1]? = some x ∧ atI (iV ns) (-1) = some (.int x) := by
  have e := List.dropLast_concat_getLast h0
  refine ⟨ns.getLast h0, ?_, ?_⟩
  · rw [← List.getLast?_eq_getElem?, List.getLast?_eq_some_getLast h0]
  · have e2 : iV ns = iV ns.dropLast ++ [.int (ns.getLast h0)] := by
      conv => lhs; rw [← e]
      unfold iV
      rw [List.map_append]
      rfl
    rw [e2]
    exact atI_last _ _
theorem rep_snoc (n : Nat) (x : V) : List.replicate n x ++ [x] = List.replicate (n + 1) x := by
  rw [List.replicate_succ']
section
variable {base : Heap} {mg : Str → Option Value} {K : PySem.W.Frag} {w : World} {P : Program}
theorem ok_is_integer {f : Addr} {fd : FuncData} (F : Fun K "is_integer" "is_integer" s_is_integer f fd) (T : T3 mg) : FnOk P w K mg base CX0 1 f fd p_is_integer spInt := by
  refine F.ok sc_is_integer (fun vs H Q E h => ?_) (fun cdv A outer s H vs Q E hr h => ?_)
  · obtain ⟨n, rfl, _⟩ := h
    rfl
  · obtain ⟨n, rfl, k⟩ := h
    refine ⟨_, pss_one (ps_ret (pe_and (pe_callB call_isi (by rfl) T.isi (by decide +kernel) (pa_cons (pv 0) (pa_cons (pe_bltn (v := .ty "int") (by rfl) T.int (by decide +kernel) rfl) pa_nil)))
      (pe_one (pe_not (pe_callB call_isi (by rfl) T.isi (by decide +kernel) (pa_cons (pv 0) (pa_cons (pe_bltn (v := .ty "bool") (by rfl) T.bool (by decide +kernel) rfl) pa_nil))))))), ?_⟩
    refine ⟨_, rfl, _, _, _, _, true, rfl, .ty "int", .base (.int n), kit_ty (by decide +kernel), true, rfl, if_t rfl ?_⟩
    refine ⟨_, rfl, _, _, _, _, false, rfl, .ty "bool", .base (.int n), kit_ty (by decide +kernel), false, rfl, ?_⟩
    exact k _ (Evl.Ex.refl _)
theorem ok_is_fraction {f : Addr} {fd : FuncData} (F : Fun K "is_fraction" "is_fraction" s_is_fraction f fd) (T : T3 mg) (cI : Cal P w K mg base 1 "is_integer" p_is_integer spInt) : FnOk P w K mg base CX0 2 f fd p_is_fraction spIsFr := by
  refine F.ok sc_is_fraction (fun vs H Q E h => ?_) (fun cdv A outer s H vs Q E hr h => ?_)
  · obtain ⟨a, p, q, rfl, _⟩ := h
    rfl
  · obtain ⟨a, p, q, rfl, ha, ⟨q0, qc, pb, qb⟩, k⟩ := h
    have nd := sc_is_fraction.nd
    refine ⟨_, pss_cons (ps_if (PW.pt (pw_or (pt_not (pt_val (pe_callB call_isi (by rfl) T.isi (by decide +kernel) (pa_cons (pv 0) (pa_cons (pe_bltn (v := .ty "tuple") (by rfl) T.tup (by decide +kernel) rfl) pa_nil)))))
        (pw_or1 (pt_cmpR op_ne (pe_callB call_len_seq (by rfl) T.len PySem.boot_len (pa_cons (pv 0) pa_nil)) pe_int (nomark _))))) (pss_one (ps_ret pe_bl)) pss_nil)
      (pss_cons (ps_asg (pv 0) (pg_tup rfl (pgs_cons (pg_name (i := 1) nd rfl (Or.inl rfl)) (pgs_cons (pg_name (i := 2) nd rfl (Or.inl rfl)) pgs_nil))))
      (pss_one (ps_ret (pe_and (pe_c cI hr (pa_cons (pv 1) pa_nil)) (pe_and (pe_c cI hr (pa_cons (pv 2) pa_nil)) (pe_and (pe_cmpR op_ge (pv 2) pe_int (nomark _)) (pe_one (pe_cmpR op_eq (pe_callBfun cr_gcd (by rfl) T.gcd (pa_cons (pv 1) (pa_cons (pv 2) pa_nil))) pe_int (nomark _))))))))), ?_⟩
    refine ⟨_, rfl, _, _, _, _, true, rfl, .ty "tuple", .base (.tup ha), kit_ty (by decide +kernel), true, rfl, if_f rfl ?_⟩
    refine ⟨_, rfl, a, _, rfl, .inr (SqT.of ha), rfl, false, rfl, if_f rfl ?_⟩
    refine ⟨_, rfl, a, _, rfl, SqT.of ha, rfl, _, _, rfl, _, _, rfl, rfl, ?_⟩
    refine ⟨_, rfl, p, rfl, fun H1 e1 => ⟨_, rfl, if_t rfl ⟨_, rfl, q, rfl, fun H2 e2 => ⟨_, rfl, if_t rfl ⟨_, rfl, _, _, rfl, rfl, _, rfl, if_t (decide_eq_true (by omega)) ?_⟩⟩⟩⟩⟩
    refine ⟨_, rfl, _, rfl, p, q, rfl, rfl, ?_⟩
    have e : decide (V.int ((Nat.gcd p.natAbs q.natAbs : Nat) : Int) = V.int 1) = true := decide_eq_true (by
      have : Nat.gcd p.natAbs q.natAbs = 1 := qc
      rw [this]; rfl)
    show Q (.bl (decide (V.int ((Nat.gcd p.natAbs q.natAbs : Nat) : Int) = V.int 1))) H2
    rw [e]
    exact k _ (e1.trans e2)
end
end V2


namespace V2
open PySem L2
open PySem.Spec PyProof.Rows
/-- keywords alone -/
def CalK (P : Program) (w : World) (K : PySem.W.Frag) (mg : Str → Option Value) (base : Heap) (k : Nat) (x : Str) (ps ks : List Str) (gV : List V → List V) (sp : Sp) : Prop :=
  ∃ (f : Addr) (fd : FuncData) (g : List Value → List Value → List Value), FnOk P w K mg base CX0 k f fd ps sp ∧ mg x = some (.ref f) ∧ PySem.W.keepIn K (.ref f) = true ∧ KBn K fd ps 0 ks g (fun _ zs => gV zs)
theorem pe_ck {X : Cx} {k : Nat} {x : Str} {ps ks : List Str} {gV : List V → List V} {sp : Sp} {kws : List Keyword} {t : TA} {p pos : Pos} (c : CalK X.prog X.w X.K X.mg X.base k x ps ks gV sp) (hr : Room k X.A) (hkw : PK X kws t) (hg : Gl X x := by rfl)
    (hall : (backToKw pos (keywordEach kws X.env)).all (fun b => b.1.isSome) = true := by rfl)
    (hks : (backToKw pos (keywordEach kws X.env)).filterMap (fun b => b.1) = ks := by rfl) (hdb : (x == ("__debug__" : Str)) = false := by decide)
    (hpl : ((backTo pos (starEach [] X.env)).any (fun b => b.1) || (backToKw pos (keywordEach kws X.env)).any (fun b => b.1.isNone)) = false := by rfl) :
    PE X (.Call (.Name x p) [] kws pos) (fun σ H Q => t σ H fun zs H1 => zs.length = ks.length ∧ sp (gV zs) H1 Q E0) := by
  obtain ⟨f, fd, g, F, hm, hk, hb⟩ := c
  constructor
  intro pins s σ H Q I h
  apply wpAny_Call_Name_kw
  apply ld_glob I hg hm _ hdb
  apply PySem.W.callWith_KW0 (h₀ := X.base) I.ok.mod.kin hk hall _ hpl
  apply thn (hkw.run pos pins s σ H _ I h)
  rintro ws s2 ⟨zs, H2, I2, rz, l2, q2⟩
  rw [hks]
  exact ⟨I2.kIn, run_fnN (us := []) (vs := []) F hr hb pass0 I2 .nil rz rfl l2 q2⟩
section
variable {base : Heap} {mg : Str → Option Value} {K : PySem.W.Frag} {w : World} {P : Program}
end
end V2


namespace V2
open PySem L2
open PySem.Spec PyProof.Rows
structure FnG (P : Program) (w : World) (K : PySem.W.Frag) (mg : Str → Option Value) (base : Heap) (k : Nat) (f : Addr) (fd : FuncData) (ps : List Str) (sp : Sp) : Prop where
  len : ∀ vs H Qv Ee, sp vs H Qv Ee → vs.length = ps.length
  run : ∀ (A : Around) (outer : List Env) (s : Shared) (H : Hp) (args : Args) (us : List Value) (vs : List V) (Q : VK) (E : XK), A.guards = some [] → Room k A → Env0 P w K mg base A outer s H → BindsTo s fd args (ps.zip us) → Vals vs us → sp vs H Q E →
    codeAny (model P w) A (.call (.ref f) args) (CR CX0 outer P w H s Q E) s
theorem FnOk.toG {P : Program} {w : World} {K : PySem.W.Frag} {mg : Str → Option Value} {base : Heap} {k : Nat} {f : Addr} {fd : FuncData} {ps : List Str} {sp : Sp} (F : FnOk P w K mg base CX0 k f fd ps sp) : FnG P w K mg base k f fd ps sp :=
  ⟨F.len, fun A outer s H args us vs Q E _ => F.run A outer s H args us vs Q E⟩
end V2


namespace V2
open PySem L2
open PySem.Spec PyProof.Rows
/-- it says True and leaves what it found -/
def Fine (s₁ : Shared) : Result → Shared → Prop := fun r s2 =>
  r = .ok (.ret (.bool true)) ∧ OldK s₁.heap s2.heap ∧ s2.os = s₁.os ∧ AllBare s2.gens
section
variable {P : Program} {w : World} {K : PySem.W.Frag} {mg mb : Str → Option Value} {k : Nat} {fa a : Addr} {fd : FuncData} {x : Str} {sp : Sp} {s₁ : Shared} {vs : List Value} {ns : List Int}
/-- from an abstract heap that tracks the script at most -/
theorem core_G (KX : K.In s₁.heap) (hns : s₁.heap.Ns mainGlobals mg) (hb : s₁.heap.Ns builtinsNs mb) (hbb : ∀ x : Str, x ≠ "__name__" → mb x = bootBuiltins x) (hlim : s₁.heap.NoLimit) (hg : s₁.gens = #[])
    (ha : s₁.heap.get? a = some { cls := .type "list", data := .seq vs.toArray }) (hr : Room k callerA)
    (F : ∀ base : Heap, K.In base → base.Ns mainGlobals mg → FnG P w K mg base k fa fd [x] sp) (hbind : ∀ (s : Shared) (u : Value), BindsTo s fd ⟨[u], []⟩ [(x, u)])
    (H : Hp) (hO : Only H) (hq : sp [.ref a] H (fun v _ => v = .bl true) fun _ _ _ => False) (hok : HOk P w H s₁.heap) (hA : ∀ b u, H b = some u → b = a) (hK : ∀ u, H a = some u → K.lookup a = none) :
    codeAny (model P w) callerA (.call (.ref fa) ⟨[.ref a], []⟩) (Fine s₁) s₁ := by
  have dictNo : ∀ {b : Addr} {o : Obj} {es : Array DictEntry} {ep : Nat}, s₁.heap.get? b = some o → o.data = .dict es ep → H b = none := by
    intro b o es ep e d
    cases q : H b with
    | none => rfl
    | some u =>
      obtain rfl := hA b u q
      rw [ha] at e
      cases e
      cases d
  have hideNs : ∀ {b : Addr} {m : Str → Option Value}, s₁.heap.Ns b m → (hidT s₁.heap H).Ns b m := by
    rintro b m ⟨o, es, ep, e, d, r⟩
    exact ⟨o, es, ep, hidT_get e (dictNo e d), d, r⟩
  have hKb : K.In (hidT s₁.heap H) := by
    intro b o e
    apply hidT_get (KX b o e)
    cases q : H b with
    | none => rfl
    | some u =>
      obtain rfl := hA b u q
      rw [hK u q] at e
      cases e
  have hM : Mod K mg (hidT s₁.heap H) := by
    obtain ⟨mc, h1, h2⟩ := hlim
    exact ⟨hKb, hideNs hns, ⟨mb, hideNs hb, hbb⟩, ⟨mc, hideNs h1, h2⟩⟩
  have none_ : ∀ b ∈ frs [], H b = none := by
    intro b hb
    cases (show b ∈ ([] : List Addr) from hb)
  have e0 : Env0 P w K mg (hidT s₁.heap H) callerA [] s₁ H := ⟨rfl, hM, fun b o e => of_hidT e, Nat.le_of_eq (hidT_size _ _), trivial, none_, hok, .of_eq hg⟩
  apply codeAny_mono ((F _ hKb (hideNs hns)).run callerA [] s₁ H ⟨[.ref a], []⟩ [.ref a] [.ref a] _ _ rfl hr e0 (hbind s₁ (.ref a)) (.cons rfl .nil) hq)
  intro r s' h
  cases r with
  | error e => exact h.elim
  | ok fl =>
    cases fl with
    | next => exact h.elim
    | brk => exact h.elim
    | cont => exact h.elim
    | ret u =>
      obtain ⟨v, H', os, bare, un, hok', r', rfl⟩ := h
      have eu : u = Value.bool true := r'
      subst eu
      refine ⟨rfl, OldK.of_keep ?_, os, bare⟩
      intro b o e
      cases q : H b with
      | none => exact un.keep b o e q (by intro z; cases (show b ∈ ([] : List Addr) from z)) (by intro z; cases z)
      | some u =>
        (rcases hO b with z | ⟨ob, xs, z⟩)
        · rw [q] at z; cases z
        · have e1 := (hok b _ z).1
          have e2 := (hok' b _ (un.frzs b ob _ z)).1
          rw [e] at e1
          cases e1
          exact e2
theorem law_G (KX : K.In s₁.heap) (hns : s₁.heap.Ns mainGlobals mg) (hb : s₁.heap.Ns builtinsNs mb) (hbb : ∀ x : Str, x ≠ "__name__" → mb x = bootBuiltins x) (hlim : s₁.heap.NoLimit) (hg : s₁.gens = #[])
    (ha : s₁.heap.get? a = some { cls := .type "list", data := .seq vs.toArray })
    (hi : IntsAre vs ns) (hl : ns.length ≤ sizeLine) (hr : Room k callerA)
    (F : ∀ base : Heap, K.In base → base.Ns mainGlobals mg → FnG P w K mg base k fa fd [x] sp) (hbind : ∀ (s : Shared) (u : Value), BindsTo s fd ⟨[u], []⟩ [(x, u)])
    (hsp : ∀ H : Hp, Only H → SqL K H a (ns.map V.int) → sp [.ref a] H (fun v _ => v = .bl true) fun _ _ _ => False) :
    codeAny (model P w) callerA (.call (.ref fa) ⟨[.ref a], []⟩) (Fine s₁) s₁ := by
  have rv := vals_ints hi
  have lenV := hi.length
  cases hk : K.lookup a with
  | some o =>
    have e := KX a o hk
    rw [ha] at e
    cases e
    have hS : SqL K (fun _ => none) a (ns.map V.int) := .inr ⟨_, vs.toArray, _, hk, rfl, rfl, rfl, by rw [List.size_toArray, lenV]; exact hl, by simpa using rv⟩
    have hO : Only (fun _ => none) := fun _ => .inl rfl
    exact core_G KX hns hb hbb hlim hg ha hr F hbind _ hO (hsp _ hO hS) (fun b u z => by cases (show (none : Option HO) = some u from z)) (fun b u z => by cases (show (none : Option HO) = some u from z)) fun u z => by cases (show (none : Option HO) = some u from z)
  | none =>
    let H : Hp := fun b => if b = a then some (.frz { cls := .type "list", data := .seq vs.toArray } (.lst (ns.map V.int))) else none
    have at_a : H a = some (.frz { cls := .type "list", data := .seq vs.toArray } (.lst (ns.map V.int))) := if_pos rfl
    have off : ∀ b u, H b = some u → b = a := by
      intro b u z
      by_cases e : b = a
      · exact e
      · rw [show H b = none from if_neg e] at z; cases z
    have hO : Only H := by
      intro b
      by_cases e : b = a
      · exact .inr ⟨_, _, by rw [e]; exact at_a⟩
      · exact .inl (if_neg e)
    have hok : HOk P w H s₁.heap := by
      intro b u z
      obtain rfl := off b u z
      rw [at_a] at z
      cases z
      (exact ⟨ha, by rw [List.length_map]; exact hl, vs, _, rv, ha⟩)
    exact core_G KX hns hb hbb hlim hg ha hr F hbind H hO (hsp H hO (.inl (.inr ⟨_, at_a⟩))) hok off fun _ _ => hk
end
end V2


namespace V2
open PySem L2
open PySem.Spec PyProof.Rows
/-- a def, by where it stands -/
structure DfX where
  adr : PySem.W.Frag → Addr
  nm : Str
  ql : Str
  st : Stmt
abbrev RwX : Type := Option (Str × Str × Arguments × FuncBody × Scope × Addr × List (Str × Addr) × Value × Addr)
def DfX.seen (K : PySem.W.Frag) (d : DfX) : RwX := match K.lookup (d.adr K) with
  | some ⟨_, _, .func g, _⟩ => some (g.name, g.qualname, g.params, g.body, g.scope, g.globals, g.closure, g.defaults, g.builtins)
  | _ => none
def DfX.due (d : DfX) : RwX := some (d.nm, d.ql, defArgs d.st, .stmts (defBody d.st), defScope d.st, mainGlobals, [], .none, builtinsNs)
def DfX.good (K : PySem.W.Frag) (d : DfX) : Bool := PySem.W.keepIn K (.ref (d.adr K)) && (match K.lookup (d.adr K) with
  | some ⟨_, _, .func g, _⟩ => PySem.W.codeIn K g.code d.ql
  | _ => false)
theorem DfX.fun_ {K : PySem.W.Frag} {d : DfX} (e : d.seen K = d.due) (c : d.good K = true) : ∃ fd, Fun K d.nm d.ql d.st (d.adr K) fd := by
  obtain ⟨kp, c⟩ := He.ba c
  unfold DfX.seen at e
  cases q : K.lookup (d.adr K) with
  | none =>
    rw [q] at c
    cases c
  | some o =>
    obtain ⟨oc, od, dt, sl⟩ := o
    rw [q] at c e
    cases dt with
    | func g =>
      obtain ⟨g1, g2, g3, g4, g5, g6, g7, g8, g9, g10, g11, g12, g13, g14, g15⟩ := g
      have e : (some (g1, g2, g3, g4, g5, g6, g7, g8, g15) : RwX) = some (d.nm, d.ql, defArgs d.st, .stmts (defBody d.st), defScope d.st, mainGlobals, [], .none, builtinsNs) := e
      simp only [Option.some.injEq, Prod.mk.injEq] at e
      obtain ⟨rfl, rfl, rfl, rfl, rfl, rfl, rfl, rfl, rfl⟩ := e
      exact ⟨_, fun_mk q c kp⟩
    | _ => cases c
/-- the words of a dict -/
abbrev TbX : Type := Option (List (Option Str × Int) × Bool)
def wordOf : Value → Option Str
  | .str x _ => some x
  | _ => none
def tabX (K : PySem.W.Frag) (a : Addr) : TbX := match K.lookup a with
  | some ⟨.type c, none, .dict es _, sl⟩ => some (es.toList.map fun e => (wordOf e.key, e.hash), decide (c = "dict") && (sl.size == 0 && !(a == sysModules)))
  | _ => none
def tabDue (w : World) (xs : List Str) : TbX := some (xs.map fun x => (some x, PyData.keyHash w.params x), true)
theorem lit_of (P : Params) : ∀ (es : List DictEntry) (xs : List Str), (es.map fun e => (wordOf e.key, e.hash)) = (xs.map fun x => (some x, PyData.keyHash P x)) → PySem.W.KeysLit P es
  | [], _, _ => trivial
  | e :: es, [], h => by cases h
  | e :: es, x :: xs, h => by
    simp only [List.map_cons, List.cons.injEq, Prod.mk.injEq] at h
    obtain ⟨⟨h1, h2⟩, h3⟩ := h
    refine ⟨?_, lit_of P es xs h3⟩
    obtain ⟨hh, hk, hv⟩ := e
    cases hk with
    | str y t =>
      cases h1
      exact ⟨_, _, rfl, h2⟩
    | _ => cases h1
theorem tab_ok {K : PySem.W.Frag} {w : World} {a : Addr} {xs : List Str} (e : tabX K a = tabDue w xs) : ∃ es n, KDict K w a es n := by
  unfold tabX at e
  cases q : K.lookup a with
  | none =>
    rw [q] at e
    cases e
  | some o =>
    obtain ⟨oc, od, dt, sl⟩ := o
    rw [q] at e
    cases oc with
    | type c =>
      cases od with
      | none =>
        cases dt with
        | dict es n =>
          have e : (some (es.toList.map fun e => (wordOf e.key, e.hash), decide (c = "dict") && (sl.size == 0 && !(a == sysModules))) : TbX) = some (xs.map fun x => (some x, PyData.keyHash w.params x), true) := e
          simp only [Option.some.injEq, Prod.mk.injEq] at e
          obtain ⟨e1, e2⟩ := e
          obtain ⟨c1, c2⟩ := He.ba e2
          obtain ⟨c3, c4⟩ := He.ba c2
          have hc := of_decide_eq_true c1
          have hs : sl = #[] := Array.eq_empty_of_size_eq_zero (by simpa using c3)
          subst hc
          subst hs
          exact ⟨es, n, q, lit_of _ _ _ e1, by simpa using c4⟩
        | _ => cases e
      | some d => cases dt <;> cases e
    | _ => cases od <;> cases dt <;> cases e
/-- the getter of a property -/
def gt (K : PySem.W.Frag) (C p : Str) : Addr := match PySem.W.recIn K (He.ma K (He.ga K C) p) "property" with
  | some (.ref g :: _) => g
  | _ => 0
def bCls (C : Str) (K : PySem.W.Frag) : Bool := (He.Fa.cls C).ok K
def bMk (C : Str) (K : PySem.W.Frag) : Bool := (He.Fa.mkr C).ok K
def bMeth (C m : Str) (K : PySem.W.Frag) : Bool := (He.Fa.meth C m).ok K
def bNo (C f : Str) (K : PySem.W.Frag) : Bool := (He.Fa.noat C f).ok K
def bGlo (x : Str) (K : PySem.W.Frag) : Bool := (He.Fa.glo x).ok K
def bFree (x : Str) (K : PySem.W.Frag) : Bool := (He.Fa.free x).ok K
def bProp (C f : Str) (K : PySem.W.Frag) : Bool := He.eqO (PySem.W.findIn K (.ref (He.ga K C)) f) (some (some (.ref (He.ma K (He.ga K C) f)))) && (He.eqO (PySem.W.specialIn K (.ref (He.ma K (He.ga K C) f)) "__get__") (some (some (.builtin "property.__get__"))) && (decide (PySem.W.takesIn K (.ref (He.ma K (He.ga K C) f)) = some true) && (match PySem.W.recIn K (He.ma K (He.ga K C) f) "property" with
  | some (.ref _ :: _) => true
  | _ => false)))
def bBlt (x : Str) (b : String) (K : PySem.W.Frag) : Bool := He.eqO (PySem.W.nsIn K mainGlobals x) (some (some (.builtin b)))
/-- an entry of a dict of a global name: a text, an int -/
def bInt (a x : Str) (i : Int) (K : PySem.W.Frag) : Bool := match PySem.W.nsIn K (He.ga K a) x with
  | some (some (.int j _)) => decide (j = i)
  | _ => false
theorem prop_ok {K : PySem.W.Frag} {C f : Str} (c : bProp C f K = true) : PropOf K (He.ga K C) f (He.ma K (He.ga K C) f) (gt K C f) := by
  obtain ⟨c1, c⟩ := He.ba c
  obtain ⟨c2, c⟩ := He.ba c
  obtain ⟨c3, c4⟩ := He.ba c
  refine ⟨He.eqO_ok c1, He.eqO_ok c2, of_decide_eq_true c3, ?_⟩
  unfold gt
  cases q : PySem.W.recIn K (He.ma K (He.ga K C) f) "property" with
  | none =>
    rw [q] at c4
    cases c4
  | some l =>
    rw [q] at c4
    cases l with
    | nil => cases c4
    | cons v r =>
      cases v with
      | ref g => exact ⟨r, rfl⟩
      | _ => cases c4
theorem blt_ok {K : PySem.W.Frag} {h : Heap} {mg : Str → Option Value} (X : K.In h) (G : h.Ns mainGlobals mg) {x : Str} {b : String} (c : bBlt x b K = true) : mg x = some (.builtin b) := PySem.W.mg_of X G (He.eqO_ok c)
theorem dint_ok {K : PySem.W.Frag} {a x : Str} {i : Int} (c : bInt a x i K = true) : ∃ t, PySem.W.nsIn K (He.ga K a) x = some (some (.int i t)) := by
  unfold bInt at c
  cases q : PySem.W.nsIn K (He.ga K a) x with
  | none =>
    rw [q] at c
    cases c
  | some o =>
    rw [q] at c
    cases o with
    | none => cases c
    | some v =>
      cases v with
      | int j t =>
        have e := of_decide_eq_true c
        subst e
        exact ⟨t, rfl⟩
      | _ => cases c
abbrev AlX : Type := Bool × Bool × List RwX × List TbX
structure Lk where
  fb : List (PySem.W.Frag → Bool)
  ds : List DfX
  tb : List (Str × List Str)
def Lk.seen (L : Lk) (K : PySem.W.Frag) : AlX := (L.fb.all fun f => f K, L.ds.all fun d => d.good K, L.ds.map (·.seen K), L.tb.map fun t => tabX K (He.ga K t.1))
def Lk.due (L : Lk) (w : World) : AlX := (true, true, L.ds.map (·.due), L.tb.map fun t => tabDue w t.2)
/-- a list of objects, its addresses read once -/
def frK {α : Type} : PySem.W.Frag → (PySem.W.Frag → α) → α
  | [], k => k []
  | (a, o) :: r, k => HandSHeadRun.frNat a fun a => frK r fun r => k ((a, o) :: r)
theorem frK_eq {α : Type} : ∀ (K : PySem.W.Frag) (k : PySem.W.Frag → α), frK K k = k K
  | [], k => rfl
  | (a, o) :: r, k => by
    show HandSHeadRun.frNat a (fun a => frK r fun r => k ((a, o) :: r)) = _
    rw [HandSHeadRun.frNat_eq, frK_eq r]
/-- the first n objects -/
def Lk.off (L : Lk) (n : Nat) (g : Addr → Option Obj) : AlX := frK (He.frG g (List.range n)) fun K => L.seen K
def Lk.hook (L : Lk) (n : Nat) : PySem.W.Hook where
  α := AlX
  obs := fun s => L.off n s.heap.get?
  val := L.due
  says := fun w h => ∃ K : PySem.W.Frag, K.In h ∧ L.seen K = L.due w
  of := fun _ _ e => ⟨_, He.frG_in, (frK_eq _ _).symm.trans e⟩
  keeps := fun _ _ _ ⟨K, hK, c⟩ k => ⟨K, PySem.W.Frag.In.keeps hK k, c⟩
theorem Lk.off_eq {L : Lk} {n : Nat} {g : Addr → Option Obj} {s : Shared} (h : ∀ a, g a = s.heap.get? a) : L.off n g = (L.hook n).obs s := by
  have e : g = s.heap.get? := funext h
  rw [e] <;> rfl
section
variable {L : Lk} {K : PySem.W.Frag} {w : World}
theorem Lk.fact (c : L.seen K = L.due w) (i : Nat) {f : PySem.W.Frag → Bool} (h : L.fb[i]? = some f := by rfl) : f K = true := List.all_eq_true.mp (congrArg (fun z : AlX => z.1) c) f (List.mem_of_getElem? h)
theorem Lk.df (c : L.seen K = L.due w) (i : Nat) {d : DfX} (h : L.ds[i]? = some d := by rfl) : ∃ fd, Fun K d.nm d.ql d.st (d.adr K) fd := by
  have c2 : (L.ds.all fun d => d.good K) = true := congrArg (fun z : AlX => z.2.1) c
  have e : L.ds.map (·.seen K) = L.ds.map (·.due) := congrArg (fun z : AlX => z.2.2.1) c
  have e2 : (L.ds.map (·.seen K))[i]? = (L.ds.map (·.due))[i]? := by rw [e]
  rw [List.getElem?_map, List.getElem?_map, h] at e2
  exact DfX.fun_ (Option.some.inj e2) (List.all_eq_true.mp c2 d (List.mem_of_getElem? h))
theorem Lk.tab (c : L.seen K = L.due w) (i : Nat) {t : Str × List Str} (h : L.tb[i]? = some t := by rfl) : ∃ es n, KDict K w (He.ga K t.1) es n := by
  have e : (L.tb.map fun t => tabX K (He.ga K t.1)) = L.tb.map fun t => tabDue w t.2 := congrArg (fun z : AlX => z.2.2.2) c
  have e2 : (L.tb.map fun t => tabX K (He.ga K t.1))[i]? = (L.tb.map fun t => tabDue w t.2)[i]? := by rw [e]
  rw [List.getElem?_map, List.getElem?_map, h] at e2
  exact tab_ok (Option.some.inj e2)
end
/-- the run of a program with imports at its head -/
noncomputable abbrev whK (M : Nat) (r : PySem.W.OpenRow) (w : World) : Option (Shared × PySem.W.SharedT) := HandSHeadRun.wholeF (fun p => HandSHeadRun.stepQ (HandSHeadRun.denQ HandSHeadRun.tabQ) p w) HandSHeadRun.fenceQ M r.prog
noncomputable def lk0 (r : PySem.W.OpenRow) (q : Program) (loose : List Str) (x : Shared × PySem.W.SharedT) := (HandSHeadRun.looksF r.prog x.1.heap x.2.abs, HandSHeadRun.seenQ q loose (importedModules r.prog.main.body) (fun s => PySem.W.xlAt q [] s && PySem.W.recOk r.toRowW.records s) x.2.abs)
def lk1 (L : Lk) (n : Nat) (x : Shared × PySem.W.SharedT) : Bool × List TbX := frK (He.frG (HandSHeadRun.getT x.2) (List.range n)) fun K => (L.fb.all fun f => f K, L.tb.map fun t => tabX K (He.ga K t.1))
def lk2 (L : Lk) (n : Nat) (x : Shared × PySem.W.SharedT) : Bool := frK (He.frG (HandSHeadRun.getT x.2) (List.range n)) fun K => L.ds.all fun d => d.good K
def lk3 (L : Lk) (n : Nat) (x : Shared × PySem.W.SharedT) : List RwX := frK (He.frG (HandSHeadRun.getT x.2) (List.range n)) fun K => L.ds.map (·.seen K)
theorem Lk.run_parts {L : Lk} {n M : Nat} {r : PySem.W.OpenRow} {q : Program} {loose : List Str} {w : World} (h0 : (whK M r w).map (lk0 r q loose) = some (true, PySem.W.openGood q loose))
    (h1 : (whK M r w).map (lk1 L n) = some (true, L.tb.map fun t => tabDue w t.2)) (h2 : (whK M r w).map (lk2 L n) = some true) (h3 : (whK M r w).map (lk3 L n) = some (L.ds.map (·.due))) :
    HandSHeadRun.RunEqI r q (L.hook n) (fun s => L.off n (HandSHeadRun.getT s)) M loose w := by
  unfold HandSHeadRun.RunEqI
  show (whK M r w).map _ = _
  cases e : whK M r w with
  | none =>
    rw [e] at h0
    cases h0
  | some x =>
    rw [e] at h0 h1 h2 h3
    have h0 := Option.some.inj h0
    have h1 := Option.some.inj h1
    have h2 := Option.some.inj h2
    have h3 := Option.some.inj h3
    unfold lk0 at h0
    unfold lk1 at h1
    unfold lk2 at h2
    unfold lk3 at h3
    rw [frK_eq] at h1 h2 h3
    obtain ⟨a1, a2⟩ := Prod.mk.inj h0
    obtain ⟨b1, b2⟩ := Prod.mk.inj h1
    refine congrArg some ?_
    refine Prod.ext a1 (Prod.ext a2 ?_)
    show L.off n (HandSHeadRun.getT x.2) = L.due w
    unfold Lk.off
    rw [frK_eq]
    exact Prod.ext b1 (Prod.ext h2 (Prod.ext h3 b2))
theorem walk_GE {l : PySem.W.OpenLaw} {n k : Nat} {q : Program} {loose : List Str} {XP : (Str → Option Value) → Heap → Prop} {YP : World → Heap → Prop} {d : DefRec} {x : Str}
    (hn : l.most = some n) (hn2 : n ≤ sizeLine) (hdf : d.params.defaults = []) (hr : Room k callerA)
    (F : ∀ (w : World) (mg : Str → Option Value) (fa : Addr) (h : Heap), YP w h → h.Ns mainGlobals mg → mg d.name = some (.ref fa) →
      ∃ (K : PySem.W.Frag) (fd : FuncData) (sp : Sp), K.In h ∧ (∀ (s : Shared) (u : Value), BindsTo s fd ⟨[u], []⟩ [(x, u)]) ∧
        (∀ (H : Hp) (a : Addr) (ns : List Int), ns.length ≤ n → Only H → SqL K H a (ns.map V.int) → sp [.ref a] H (fun v _ => v = .bl true) fun _ _ _ => False) ∧
        ∀ base : Heap, K.In base → base.Ns mainGlobals mg → FnG l.prog w K mg base k fa fd [x] sp) :
    PySem.W.WalkO q loose XP YP l.row.toRowW d [] (fun f us => PySem.call f us) := by
  apply Att.attach_call hn hdf
  intro w s₀ s₁ mg mb fa o pm cd doc a vs ns G Y ho hd hcd hmg hobj hints hlen hg
  obtain ⟨K, fd, sp, KX, hb, hsp, hF⟩ := F w mg fa _ Y G.T.g hmg
  exact law_G KX G.T.g G.T.b G.T.builtins G.T.nolimit hg hobj hints (Nat.le_trans hlen hn2) hr hF hb fun H hO hS => hsp H a ns hlen hO hS
end V2


namespace V2
open PySem L2
open PySem.Spec PyProof.Rows
/-- what the written part says of an own class of errors, whose __init__ is fI's -/
structure EC (K : PySem.W.Frag) (C fI : Addr) : Prop where
  ox : OexC K C
  noV : PySem.W.findIn K (.ref C) "value" = some none
  iC : PySem.W.findIn K (.ref C) "__init__" = some (some (.ref fI))
  xf : XfC K C
  hcl : (PySem.W.clsIn K C).isSome = true
  ha : PySem.W.findIn K (.ref C) "__class__" = some (some (.builtin "object.__class__"))
  hm : PySem.W.mroIn K C (.type "object") = some true
/-- what is said for all of them -/
structure EG (K : PySem.W.Frag) (fI : Addr) : Prop where
  tI : PySem.W.typeIn K (.ref fI) = some (.type "function")
  hn : PySem.W.specialIn K (.builtin "object.__class__") "__get__" = some (some (.builtin "getset_descriptor.__get__"))
  ht : PySem.W.takesIn K (.builtin "object.__class__") = some true
/-- an error of the class at C, made with v, stands at e with its dict at d -/
structure Er (H : Hp) (e C d : Addr) (v : V) : Prop where
  at_ : H e = some (exo e C (some d))
  dict : H d = some (exd d [("value", v)])
theorem Er.ex {H H' : Hp} {e C d : Addr} {v : V} (h : Er H e C d v) (x : Evl.Ex H H') : Er H' e C d v := ⟨x _ _ h.at_, x _ _ h.dict⟩
def spInit (K : PySem.W.Frag) : Sp := fun vs H Q _ => ∃ (a C : Addr) (y : V), vs = [.ref a, y] ∧ OexC K C ∧ PySem.W.findIn K (.ref C) "value" = some none ∧ H a = some (exo a C none) ∧
  ∀ dx, H dx = none → dx ≠ a → Q .non (upd (upd H dx (exd dx [("value", y)])) a (exo a C (some dx)))
section
variable {base : Heap} {mg : Str → Option Value} {K : PySem.W.Frag} {w : World} {P : Program}
theorem ok_TE_init {f : Addr} {fd : FuncData} (F : Fun K "__init__" "TankError.__init__" s_TE_init f fd) : FnOk P w K mg base CX0 1 f fd p_TE_init (spInit K) := by
  refine F.ok sc_TE_init (fun vs H Q E h => ?_) (fun cdv A outer s H vs Q E hr h => ?_)
  · obtain ⟨a, C, y, rfl, _⟩ := h
    rfl
  · obtain ⟨a, C, y, rfl, T, hno, ha, k⟩ := h
    have nd := sc_TE_init.nd
    refine ⟨_, pss_one (ps_ost (pv 0) (pv 1)), ?_⟩
    exact ⟨_, rfl, _, rfl, a, C, rfl, T, hno, .inl ⟨ha, fun dx hd hn => k dx hd hn⟩⟩
end
section
variable {X : Cx} {x : Str} {C fI : Addr} {k : Nat} {fd : FuncData} {e : Expr} {ta : TA} {p pos : Pos}
end
end V2


namespace V2
open PySem L2
open PySem.Spec PyProof.Rows
abbrev eI (K : PySem.W.Frag) : Addr := He.ma K (He.ga K "TankError") "__init__"
def bObj (K : PySem.W.Frag) (C : Addr) : Bool := match K.lookup C with
  | some ⟨.type "type", _, .cls cd, sl⟩ => (match cd.mro, sl.toList with
    | .ref C' :: bm, [_, _, _, _, some (.builtin n), _] => C' == C && n == "ValueError.__new__" && !cd.hasDel && cd.hasDict && PySem.HandSPX.refsVE bm
    | _, _ => false)
  | _ => false
theorem obj_ok {K : PySem.W.Frag} {C : Addr} (q : bObj K C = true) : ∃ nm qn N bs bm sn sub ab col dd k0 k1 k2 k3 k5, K.lookup C = some (excClassObj nm qn C N bs bm true sn sub ab col dd k0 k1 k2 k3 k5 "ValueError.__new__") ∧ PySem.HandSPX.refsVE bm = true := by
  unfold bObj at q
  split at q
  · rename_i dd cd sl ho
    split at q
    · rename_i C' bm k0 k1 k2 k3 n k5 hm hs
      simp only [Bool.and_eq_true, beq_iff_eq, Bool.not_eq_true'] at q
      obtain ⟨⟨⟨⟨rfl, rfl⟩, hdel⟩, hdi⟩, hbm⟩ := q
      obtain ⟨nm, bs, mro, ns, qn, hd, sn, sub, ab, col, del⟩ := cd
      dsimp only at hm hdel hdi
      subst hm hdel hdi
      have hsl : sl = #[k0, k1, k2, k3, some (.builtin "ValueError.__new__"), k5] := by
        obtain ⟨l⟩ := sl
        simp only at hs
        rw [hs]
      subst hsl
      exact ⟨nm, qn, ns, bs, bm, sn, sub, ab, col, dd, k0, k1, k2, k3, k5, ho, hbm⟩
    · cases q
  · cases q
def bErr (x : Str) (K : PySem.W.Frag) : Bool := bObj K (He.ga K x) && (He.eqO (PySem.W.findIn K (.ref (He.ga K x)) "__setattr__") (some (some (.builtin "object.__setattr__"))) && (decide (PySem.W.typeIn K (.ref (He.ga K x)) = some (.type "type")) && (PySem.W.keepIn K (.ref (He.ga K x)) &&
  (He.eqO (PySem.W.findIn K (.ref (He.ga K x)) "value") (some none) && (He.eqO (PySem.W.findIn K (.ref (He.ga K x)) "__init__") (some (some (.ref (eI K)))) && (xfB K (He.ga K x) && ((PySem.W.clsIn K (He.ga K x)).isSome &&
  (He.eqO (PySem.W.findIn K (.ref (He.ga K x)) "__class__") (some (some (.builtin "object.__class__"))) && decide (PySem.W.mroIn K (He.ga K x) (.type "object") = some true)))))))))
theorem err_ok {K : PySem.W.Frag} {x : Str} (c : bErr x K = true) : EC K (He.ga K x) (eI K) := by
  obtain ⟨c1, c⟩ := He.ba c
  obtain ⟨c2, c⟩ := He.ba c
  obtain ⟨c3, c⟩ := He.ba c
  obtain ⟨c4, c⟩ := He.ba c
  obtain ⟨c5, c⟩ := He.ba c
  obtain ⟨c6, c⟩ := He.ba c
  obtain ⟨c7, c⟩ := He.ba c
  obtain ⟨c8, c⟩ := He.ba c
  obtain ⟨c9, c10⟩ := He.ba c
  have xf := xfB_ok c7
  exact ⟨⟨obj_ok c1, He.eqO_ok c2, xf.exC, of_decide_eq_true c3, c4⟩, He.eqO_ok c5, He.eqO_ok c6, xf, c8, He.eqO_ok c9, of_decide_eq_true c10⟩
def bEG (K : PySem.W.Frag) : Bool := decide (PySem.W.typeIn K (.ref (eI K)) = some (.type "function")) && (He.eqO (PySem.W.specialIn K (.builtin "object.__class__") "__get__") (some (some (.builtin "getset_descriptor.__get__"))) && decide (PySem.W.takesIn K (.builtin "object.__class__") = some true))
theorem eg_ok {K : PySem.W.Frag} (c : bEG K = true) : EG K (eI K) := by
  obtain ⟨c1, c⟩ := He.ba c
  obtain ⟨c2, c3⟩ := He.ba c
  exact ⟨of_decide_eq_true c1, He.eqO_ok c2, of_decide_eq_true c3⟩
def bTy (x : Str) (K : PySem.W.Frag) : Bool := He.eqO (PySem.W.findIn K (.ref (He.ga K x)) "__class__") (some (some (.builtin "object.__class__"))) && decide (PySem.W.mroIn K (He.ga K x) (.type "object") = some true)
theorem ty_ok {K : PySem.W.Frag} {x : Str} {H : Hp} {a dx : Addr} {fs : List (Str × V)} (G : bEG K = true) (c : bTy x K = true) (cl : Cls K (He.ga K x)) (e : H a = some (.ins (He.ga K x) dx fs)) : TyX K H (.ref a) (.ref (He.ga K x)) := by
  obtain ⟨c1, c2⟩ := He.ba c
  have g := eg_ok G
  exact .base (.ins e cl (He.eqO_ok c1) g.hn g.ht (of_decide_eq_true c2))
end V2


namespace PySem.W
open PySem PySem.Calls PyProof.Rows Builtin
section
variable {prog : Program} {w : World} {A : Around} {E : Value → Shared → Prop} {s : Shared} {K : Frag} {x C L f : Addr} {h₀ : Heap} {m : Str → Option Value} {ox : Obj} {od : Option Obj} {b tb : Value}
def NeB (Q : Value → Shared → Prop) (v : Value) (s' : Shared) : Prop := ∃ r, v = .bool r ∧ Q (.bool (!r)) s'
theorem ne_bound {M : Model} {args : List Value} {Q : Option Value → Shared → Prop} (X : K.In s.heap) (I : InstAt s.heap x ox C od) (hs : findIn K (.ref C) "__ne__" = some (some (.builtin "object.__ne__")))
    (h : wpAny M A (call (.builtin "object.__ne__") (.ref x :: args)) (fun v => Q (some v)) E s) : wpAny M A (callSpecialIfBound? (.ref x) "__ne__" args) Q E s := by
  simp only [callSpecialIfBound?, bindSpecialIfBound?]
  refine wpAny_holding (wpAny_bind (wpAny_bind (wpAny_bind (I.type.here ((looks_findIn X hs).here ?_)))))
  simp only [PySem.F.cmp_object.ne.bind]
  refine wpAny_bind (wpAny_askSetting (wpAny_ite ?_))
  have fin : wpAny M A (call (.builtin "object.__ne__") ([.ref x] ++ args) >>= fun v => pure (some v)) Q E s := wpAny_bind (wpAny_mono h (fun v s' h' => wpAny_pure h') fun _ _ h' => h')
  split
  · exact wpAny_bind (wpAny_pure (wpAny_pure fin))
  · exact wpAny_tryCatch (wpAny_bind (wpAny_pure (wpAny_pure fin)))
theorem ne_call {Q : Value → Shared → Prop} (hu : A.in1.units < cLine) (X : K.In s.heap) (I : InstAt s.heap x ox C od) (hm : mroIn K C (.type "object") = some true) (he : findIn K (.ref C) "__eq__" = some (some (.ref f))) (hf : isFn K (.ref f) = true)
    (h : wpAny (model prog w) A.in1 (call (.ref f) [.ref x, b]) (NeB Q) E s) : wpAny (model prog w) A (call (.builtin "object.__ne__") [.ref x, b]) Q E s := by
  refine wpAny_call (codeAny_call_builtin PySem.F.cmp_object.ne.plain PySem.F.cmpEntry_ne (check_slot (i := "object.__ne__") (owner := "object") (n := "__ne__") PySem.F.cmpKind_ne PySem.F.cmpSplit_ne (I.type.andThen (looks_mroIn X hm)) (PySem.F.cmpArgs_ne _ _) ?_))
  unfold Builtin.«object.__ne__»
  refine wpAny_bind (m := slotArgs "__ne__" 1 _) (wpAny_pure ?_)
  refine wpAny_bind (m := cRoomFor _ _) (wpAny_cRoomFor hu ?_)
  refine wpAny_bind (m := callSpecialIfBound? (.ref x) (Str.ofString "__eq__") _) (ifBound_K X I he hf (wpAny_mono h (fun r s' hq => ?_) fun _ _ y => y))
  obtain ⟨r, rfl, hq⟩ := hq
  exact wpAny_bind (wpAny_truthy_bool (wpAny_pure hq))
theorem cmp_Kne {Q : Value → Shared → Prop} (hu : A.in1.units < cLine) (hu0 : A.units < cLine) (F : Fr h₀ L s.heap m) (X₀ : K.In h₀) (I : InstAt s.heap x ox C od) (hb : Looks (model prog w) s.heap (typeOf b) tb) (hn : notFirst K C tb = true)
    (hs : findIn K (.ref C) "__ne__" = some (some (.builtin "object.__ne__"))) (he : findIn K (.ref C) "__eq__" = some (some (.ref f))) (hf : isFn K (.ref f) = true) (hm : mroIn K C (.type "object") = some true)
    (h : wpAny (model prog w) A.in1 (call (.ref f) [.ref x, b]) (NeB Q) E s) : wpAny (model prog w) A (richCompare .NotEq (.ref x) b) Q E s := by
  have X := X₀.keeps F.keep
  have one : wpAny (model prog w) A (tryCompare (.ref x) "__ne__" b) (fun r s' => ∃ v, r = some v ∧ Q v s') E s := by
    unfold tryCompare
    refine wpAny_bind (ne_bound X I hs (ne_call hu X I hm he hf (wpAny_mono h (fun v s' hv => ?_) fun _ _ e => e)))
    obtain ⟨r, rfl, hq⟩ := hv
    exact ⟨r, rfl, wpAny_pure ⟨_, rfl, hq⟩⟩
  unfold richCompare
  simp only [oneThing_ref]
  refine wpAny_holding (wpAny_bind (wpAny_cRoomFor hu0 ?_))
  rw [cmpInfo_NotEq]
  dsimp only
  refine wpAny_bind (I.type.here (wpAny_bind (hb.here ?_)))
  split
  · rename_i q
    have e : subIn K tb (.ref C) = some false := by
      rcases Bool.or_eq_true_iff.mp hn with e | e
      · rw [beq_iff_eq.mp e] at q; simp at q
      · exact beq_iff_eq.mp e
    refine wpAny_bind ((looks_subIn X e).here ?_)
    simp only [Bool.false_eq_true, if_false]
    refine wpAny_bind (wpAny_mono one (fun r s' z => ?_) fun _ _ e => e)
    obtain ⟨v, rfl, hq⟩ := z
    exact wpAny_pure hq
  · refine wpAny_bind (wpAny_pure ?_)
    simp only [Bool.false_eq_true, if_false]
    refine wpAny_bind (wpAny_mono one (fun r s' z => ?_) fun _ _ e => e)
    obtain ⟨v, rfl, hq⟩ := z
    exact wpAny_pure hq
end
end PySem.W
namespace L2
open PySem PySem.Spec PyProof.Rows
/-- what an instance of C is compared with -/
inductive Yt (K : PySem.W.Frag) (C : Addr) (H : Hp) : V → Value → Prop
  | ins {b dy : Addr} {gs : List (Str × V)} : H b = some (.ins C dy gs) → Yt K C H (.ref b) (.ref C)
  | lst {b : Addr} {xs : List V} : H b = some (.lst xs) → Yt K C H (.ref b) (.type "list")
  | tup {b : Addr} {xs : List V} : H b = some (.tup xs) → Yt K C H (.ref b) (.type "tuple")
  | non : Yt K C H .non (.type "NoneType")
  | str (z : Str) : Yt K C H (.str z) (.type "str")
  | int (i : Int) : Yt K C H (.int i) (.type "int")
structure EqC (K : PySem.W.Frag) (C f : Addr) : Prop where
  at_ : PySem.W.findIn K (.ref C) "__eq__" = some (some (.ref f))
  fn : PySem.W.isFn K (.ref f) = true
  ne : PySem.W.findIn K (.ref C) "__ne__" = some (some (.builtin "object.__ne__"))
  mro : PySem.W.mroIn K C (.type "object") = some true
def rEqO (C : Addr) (sp : Sp) (K : PySem.W.Frag) (E : XK) : R2 := fun x y H Q => ∃ (a dx : Addr) (fs : List (Str × V)) (t : Value), x = .ref a ∧ H a = some (.ins C dx fs) ∧ Yt K C H y t ∧ sp [x, y] H (fun v H' => ∃ r, v = .bl r ∧ Q (.bl r) H') E
def rNeO (C : Addr) (sp : Sp) (K : PySem.W.Frag) (E : XK) : R2 := fun x y H Q => ∃ (a dx : Addr) (fs : List (Str × V)) (t : Value), x = .ref a ∧ H a = some (.ins C dx fs) ∧ Yt K C H y t ∧ sp [x, y] H (fun v H' => ∃ r, v = .bl r ∧ Q (.bl (!r)) H') E
section
variable {X : Cx} {n : Nat}
theorem yt_looks {K : PySem.W.Frag} {M : Model} {C : Addr} {pins : List (Addr × Obj)} {σ : St} {H : Hp} {s : Shared} {y : V} {u t : Value} (I : Inv X pins σ H s) (ry : RelV y u) (h : Yt K C H y t) : PySem.W.Looks M s.heap (typeOf u) t := by
  cases h with
  | ins e =>
    cases ry
    obtain ⟨mB, J, _⟩ := ins_get I.hok e
    obtain ⟨od, J, _⟩ := J.look
    exact J.type
  | lst e =>
    cases ry
    obtain ⟨z, its, k, r, e⟩ := I.hok _ _ e
    exact (PySem.W.Looks.ld e).andThen .now
  | tup e =>
    cases ry
    obtain ⟨its, r, e, z⟩ := I.tuple (SqT.of e)
    obtain ⟨⟨cls, dd, data, sl⟩, ho, hc, n, hd⟩ := e
    simp only at hc
    subst hc
    exact (PySem.W.Looks.ld ho).andThen .now
  | non =>
    cases ry
    exact PySem.W.Looks.of_pure (by kernel_rfl)
  | str z =>
    obtain ⟨t, rfl⟩ := ry
    exact PySem.W.Looks.of_pure (by kernel_rfl)
  | int i =>
    obtain ⟨t, rfl⟩ := ry
    exact PySem.W.Looks.of_pure (by kernel_rfl)
theorem sub_no {K : PySem.W.Frag} {C : Addr} {T : String} {U : Value} (h : fastBuiltinMro T = some [.type T, U]) (u : U = .type "object" := by rfl) : (PySem.W.subIn K (.type T) (.ref C) == some false) = true := by
  subst u
  have e : PySem.W.subIn K (.type T) (.ref C) = (fastBuiltinMro T).map (·.contains (.ref C)) := rfl
  rw [e, h]
  simp
theorem yt_first {K : PySem.W.Frag} {C : Addr} {H : Hp} {y : V} {t : Value} (h : Yt K C H y t) : PySem.W.notFirst K C t = true := by
  unfold PySem.W.notFirst
  cases h with
  | ins e => simp
  | lst e => exact Bool.or_eq_true_iff.mpr (.inr (sub_no (by kernel_rfl)))
  | tup e => exact Bool.or_eq_true_iff.mpr (.inr (sub_no (by kernel_rfl)))
  | non => exact Bool.or_eq_true_iff.mpr (.inr (sub_no (by kernel_rfl)))
  | str z => exact Bool.or_eq_true_iff.mpr (.inr (sub_no (by kernel_rfl)))
  | int i => exact Bool.or_eq_true_iff.mpr (.inr (sub_no (by kernel_rfl)))
/-- the call of the own __eq__, from a comparison -/
theorem own_call {CX : CXT} {f a : Addr} {fd : FuncData} {ps : List Str} {sp : Sp} {E : XK} {A : Around} (F : FnOk X.prog X.w X.K X.mg X.base CX n f fd ps sp) (hb : Binds X.K fd ps []) (hx : Passes CX X E) (hA : Sub X n A)
    {pins : List (Addr × Obj)} {σ : St} {H : Hp} {s : Shared} {y : V} {u : Value} {Q : VK} (I : Inv X pins σ H s) (ry : RelV y u) (hsp : sp [.ref a, y] H (fun v H' => ∃ r, v = .bl r ∧ Q (.bl r) H') E) :
    wpAny (model X.prog X.w) A (call (.ref f) [.ref a, u]) (fun v s' => ∃ r H', v = .bool r ∧ Inv X pins σ H' s' ∧ Q (.bl r) H') X.xe s := by
  have e0 : Env0 X.prog X.w X.K X.mg X.base A X.stack s H := by
    have e := I.env0
    exact ⟨by rw [hA.fr]; exact e.frames, e.mod, e.bs, e.bsz, e.funs, e.frf, e.hok, e.bare⟩
  have hl := F.len _ _ _ _ hsp
  have r2 : Vals [V.ref a, y] [Value.ref a, u] := .cons rfl (.cons ry .nil)
  refine wpAny_call (codeAny_mono (F.run A X.stack s H ⟨[.ref a, u], []⟩ [.ref a, u] [.ref a, y] _ E hA.room e0 (by
    have := hb s [.ref a, u] I.kIn (by simpa using hl)
    simpa using this) r2 hsp) fun r s' hq => ?_)
  cases r with
  | error e => exact hx pins σ H s e s' I hq
  | ok fl =>
    cases fl with
    | ret w =>
      obtain ⟨z, H', I', rz, r, ez, q⟩ := I.after hq
      subst ez
      cases rz
      exact ⟨r, H', rfl, I', q⟩
    | next => exact False.elim hq
    | brk => exact False.elim hq
    | cont => exact False.elim hq
theorem op_eqO {CX : CXT} {C f : Addr} {fd : FuncData} {ps : List Str} {sp : Sp} {E : XK} (F : FnOk X.prog X.w X.K X.mg X.base CX n f fd ps sp) (c : EqC X.K C f) (hb : Binds X.K fd ps []) (hx : Passes CX X E) (hr : Room n X.A) : OpR X (compareOp .Eq) (rEqO C sp X.K E) := by
  intro pins s σ H x y v u Q I rx ry hq
  obtain ⟨a, dx, fs, t, rfl, ha, ht, hsp⟩ := hq
  cases rx
  obtain ⟨mA, J, _⟩ := ins_get I.hok ha
  obtain ⟨od, J, _⟩ := J.look
  obtain ⟨m, hF⟩ := I.fr
  have sb : Sub X n X.A := ⟨hr, rfl⟩
  show wpAny (model X.prog X.w) X.A (richCompare .Eq _ u) _ X.xe s
  refine PySem.W.cmp_K (op := .Eq) sb.room.units0 hF I.ok.mod.kin J (yt_looks I ry ht) (yt_first ht) c.at_ c.fn ?_
  refine wpAny_mono (own_call F hb hx sb I ry hsp) (fun v s' z => ?_) fun _ _ e => e
  obtain ⟨r, H', rfl, I', q⟩ := z
  exact ⟨.bl r, H', I', rfl, q⟩
theorem op_neO {CX : CXT} {C f : Addr} {fd : FuncData} {ps : List Str} {sp : Sp} {E : XK} (F : FnOk X.prog X.w X.K X.mg X.base CX n f fd ps sp) (c : EqC X.K C f) (hb : Binds X.K fd ps []) (hx : Passes CX X E) (hr : Room (n + 1) X.A) : OpR X (compareOp .NotEq) (rNeO C sp X.K E) := by
  intro pins s σ H x y v u Q I rx ry hq
  obtain ⟨a, dx, fs, t, rfl, ha, ht, hsp⟩ := hq
  cases rx
  obtain ⟨mA, J, _⟩ := ins_get I.hok ha
  obtain ⟨od, J, _⟩ := J.look
  obtain ⟨m, hF⟩ := I.fr
  have sb : Sub X n X.A.in1 := Sub.in1 ⟨hr, rfl⟩
  show wpAny (model X.prog X.w) X.A (richCompare .NotEq _ u) _ X.xe s
  refine PySem.W.cmp_Kne sb.room.units0 hr.units0 hF I.ok.mod.kin J (yt_looks I ry ht) (yt_first ht) c.ne c.at_ c.fn c.mro ?_
  refine wpAny_mono (own_call (Q := fun v H' => ∃ r, v = .bl r ∧ Q (.bl (!r)) H') F hb hx sb I ry ?_) (fun v s' z => ?_) fun _ _ e => e
  · refine cast ?_ hsp
    congr 1
    funext v H'
    apply propext
    constructor
    · rintro ⟨r, rfl, q⟩
      exact ⟨r, rfl, r, rfl, q⟩
    · rintro ⟨r, rfl, r', e, q⟩
      cases e
      exact ⟨_, rfl, q⟩
  · obtain ⟨r, H', rfl, I', r', e, q⟩ := z
    cases e
    exact ⟨r, rfl, .bl (!r), H', I', rfl, q⟩
end
end L2
namespace L2
open PySem PySem.Spec PyProof.Rows
structure GiC (K : PySem.W.Frag) (C f : Addr) : Prop where
  at_ : PySem.W.findIn K (.ref C) "__getitem__" = some (some (.ref f))
  fn : PySem.W.isFn K (.ref f) = true
  fi : PySem.W.fnIn K f = true
section
variable {X : Cx} {n : Nat}
end
end L2


namespace V2
open PySem L2
open PySem.Spec PyProof.Rows
/-! ## own == and subscripts: what a kernel run looks at -/
def bNe (x : Str) (K : PySem.W.Frag) : Bool := He.eqO (PySem.W.findIn K (.ref (He.ga K x)) "__ne__") (some (some (.builtin "object.__ne__"))) && decide (PySem.W.mroIn K (He.ga K x) (.type "object") = some true)
def bFi (x m : Str) (K : PySem.W.Frag) : Bool := PySem.W.fnIn K (He.ma K (He.ga K x) m)
def bKT (T : String) (x : Str) (K : PySem.W.Frag) : Bool := decide (PySem.W.kitOne K (.type T) (.ref (He.ga K x)) = some false)
theorem kt_ok {K : PySem.W.Frag} {T : String} {x : Str} (c : bKT T x K = true) : PySem.W.kitOne K (.type T) (.ref (He.ga K x)) = some false := of_decide_eq_true c
theorem eqc_ok {K : PySem.W.Frag} {x : Str} (c : bNe x K = true) (m : bMeth x "__eq__" K = true) : EqC K (He.ga K x) (He.ma K (He.ga K x) "__eq__") := by
  obtain ⟨c1, c2⟩ := He.ba c
  have h := He.meth_ok m
  exact ⟨h.at_, h.fn, He.eqO_ok c1, of_decide_eq_true c2⟩
theorem gic_ok {K : PySem.W.Frag} {x : Str} (c : bFi x "__getitem__" K = true) (m : bMeth x "__getitem__" K = true) : GiC K (He.ga K x) (He.ma K (He.ga K x) "__getitem__") := by
  have h := He.meth_ok m
  exact ⟨h.at_, h.fn, c⟩
end V2


namespace V2
open PySem L2
open PySem.Spec PyProof.Rows
def nm0 : List Str := ["gcd", "_wall", "show_script", "show_polynomial", "show_tank", "show_thing", "show_integer", "order_of_fractions", "sign_of", "cut", "negated", "added", "multiplied", "scaled_value", "sign_at_fraction", "content", "primitive", "upright", "remainder", "quotient"]
def nm1 : List Str := ["common_factor", "TankError", "InvalidTank", "InvalidStep", "UnknownTank", "UnknownStep", "InvalidFraction", "Unreadable", "copied", "is_integer", "is_fraction", "is_polynomial", "check_width", "THINGS", "is_amount", "is_tank", "check_tanks", "is_ascending", "is_step", "tanks_of"]
def nm2 : List Str := ["check_numbers", "check_part", "check_step", "check_index", "Script", "read_script", "read_polynomial", "read_tank", "read_step", "read_thing", "read_integer", "reduced", "told_widths", "first_water", "sum_of", "together", "after", "opened", "poured", "taken"]
def nm3 : List Str := ["lead", "ahead", "levels", "number_of", "is_ended", "told_levels", "run_of", "run", "_law_purse", "_law_coin", "_law_shared", "_law_ratio", "_law_drawn_part", "_law_drawn_tanks", "_law_pair", "_law_drawn_step", "_law_drawn_plan", "_law_great_plan", "_law_copied", "_law_made"]
def nm4 : List Str := ["_law_step_text", "_law_script_text", "_law_drawn_width", "_law_polynomials_right", "_law_right"]
def nms : List Str := nm0 ++ nm1 ++ nm2 ++ nm3 ++ nm4
def dfs0 : List DfX := [⟨(fun K => He.ga K "show_script"), "show_script", "show_script", s_show_script⟩, ⟨(fun K => He.ga K "show_polynomial"), "show_polynomial", "show_polynomial", s_show_polynomial⟩, ⟨(fun K => He.ga K "show_tank"), "show_tank", "show_tank", s_show_tank⟩, ⟨(fun K => He.ga K "show_thing"), "show_thing", "show_thing", s_show_thing⟩, ⟨(fun K => He.ga K "show_integer"), "show_integer", "show_integer", s_show_integer⟩, ⟨(fun K => He.ga K "order_of_fractions"), "order_of_fractions", "order_of_fractions", s_order_of_fractions⟩, ⟨(fun K => He.ga K "sign_of"), "sign_of", "sign_of", s_sign_of⟩, ⟨(fun K => He.ga K "cut"), "cut", "cut", s_cut⟩, ⟨(fun K => He.ga K "negated"), "negated", "negated", s_negated⟩, ⟨(fun K => He.ga K "added"), "added", "added", s_added⟩, ⟨(fun K => He.ga K "multiplied"), "multiplied", "multiplied", s_multiplied⟩, ⟨(fun K => He.ga K "scaled_value"), "scaled_value", "scaled_value", s_scaled_value⟩, ⟨(fun K => He.ga K "sign_at_fraction"), "sign_at_fraction", "sign_at_fraction", s_sign_at_fraction⟩, ⟨(fun K => He.ga K "content"), "content", "content", s_content⟩, ⟨(fun K => He.ga K "primitive"), "primitive", "primitive", s_primitive⟩, ⟨(fun K => He.ga K "upright"), "upright", "upright", s_upright⟩, ⟨(fun K => He.ga K "remainder"), "remainder", "remainder", s_remainder⟩, ⟨(fun K => He.ga K "quotient"), "quotient", "quotient", s_quotient⟩, ⟨(fun K => He.ga K "common_factor"), "common_factor", "common_factor", s_common_factor⟩, ⟨(fun K => He.ga K "copied"), "copied", "copied", s_copied⟩]
def dfs1 : List DfX := [⟨(fun K => He.ga K "is_integer"), "is_integer", "is_integer", s_is_integer⟩, ⟨(fun K => He.ga K "is_fraction"), "is_fraction", "is_fraction", s_is_fraction⟩, ⟨(fun K => He.ga K "is_polynomial"), "is_polynomial", "is_polynomial", s_is_polynomial⟩, ⟨(fun K => He.ga K "check_width"), "check_width", "check_width", s_check_width⟩, ⟨(fun K => He.ga K "is_amount"), "is_amount", "is_amount", s_is_amount⟩, ⟨(fun K => He.ga K "is_tank"), "is_tank", "is_tank", s_is_tank⟩, ⟨(fun K => He.ga K "check_tanks"), "check_tanks", "check_tanks", s_check_tanks⟩, ⟨(fun K => He.ga K "is_ascending"), "is_ascending", "is_ascending", s_is_ascending⟩, ⟨(fun K => He.ga K "is_step"), "is_step", "is_step", s_is_step⟩, ⟨(fun K => He.ga K "tanks_of"), "tanks_of", "tanks_of", s_tanks_of⟩, ⟨(fun K => He.ga K "check_numbers"), "check_numbers", "check_numbers", s_check_numbers⟩, ⟨(fun K => He.ga K "check_part"), "check_part", "check_part", s_check_part⟩, ⟨(fun K => He.ga K "check_step"), "check_step", "check_step", s_check_step⟩, ⟨(fun K => He.ga K "check_index"), "check_index", "check_index", s_check_index⟩, ⟨(fun K => He.ga K "read_script"), "read_script", "read_script", s_read_script⟩, ⟨(fun K => He.ga K "read_polynomial"), "read_polynomial", "read_polynomial", s_read_polynomial⟩, ⟨(fun K => He.ga K "read_tank"), "read_tank", "read_tank", s_read_tank⟩, ⟨(fun K => He.ga K "read_step"), "read_step", "read_step", s_read_step⟩, ⟨(fun K => He.ga K "read_thing"), "read_thing", "read_thing", s_read_thing⟩, ⟨(fun K => He.ga K "read_integer"), "read_integer", "read_integer", s_read_integer⟩]
def dfs2 : List DfX := [⟨(fun K => He.ga K "reduced"), "reduced", "reduced", s_reduced⟩, ⟨(fun K => He.ga K "told_widths"), "told_widths", "told_widths", s_told_widths⟩, ⟨(fun K => He.ga K "first_water"), "first_water", "first_water", s_first_water⟩, ⟨(fun K => He.ga K "sum_of"), "sum_of", "sum_of", s_sum_of⟩, ⟨(fun K => He.ga K "together"), "together", "together", s_together⟩, ⟨(fun K => He.ga K "after"), "after", "after", s_after⟩, ⟨(fun K => He.ga K "opened"), "opened", "opened", s_opened⟩, ⟨(fun K => He.ga K "poured"), "poured", "poured", s_poured⟩, ⟨(fun K => He.ga K "taken"), "taken", "taken", s_taken⟩, ⟨(fun K => He.ga K "lead"), "lead", "lead", s_lead⟩, ⟨(fun K => He.ga K "ahead"), "ahead", "ahead", s_ahead⟩, ⟨(fun K => He.ga K "levels"), "levels", "levels", s_levels⟩, ⟨(fun K => He.ga K "number_of"), "number_of", "number_of", s_number_of⟩, ⟨(fun K => He.ga K "is_ended"), "is_ended", "is_ended", s_is_ended⟩, ⟨(fun K => He.ga K "told_levels"), "told_levels", "told_levels", s_told_levels⟩, ⟨(fun K => He.ga K "run_of"), "run_of", "run_of", s_run_of⟩, ⟨(fun K => He.ga K "run"), "run", "run", s_run⟩, ⟨(fun K => He.ga K "_law_purse"), "_law_purse", "_law_purse", s_l_purse⟩, ⟨(fun K => He.ga K "_law_coin"), "_law_coin", "_law_coin", s_l_coin⟩, ⟨(fun K => He.ga K "_law_shared"), "_law_shared", "_law_shared", s_l_shared⟩]
def dfs3 : List DfX := [⟨(fun K => He.ga K "_law_ratio"), "_law_ratio", "_law_ratio", s_l_ratio⟩, ⟨(fun K => He.ga K "_law_drawn_part"), "_law_drawn_part", "_law_drawn_part", s_l_drawn_part⟩, ⟨(fun K => He.ga K "_law_drawn_tanks"), "_law_drawn_tanks", "_law_drawn_tanks", s_l_drawn_tanks⟩, ⟨(fun K => He.ga K "_law_pair"), "_law_pair", "_law_pair", s_l_pair⟩, ⟨(fun K => He.ga K "_law_drawn_step"), "_law_drawn_step", "_law_drawn_step", s_l_drawn_step⟩, ⟨(fun K => He.ga K "_law_drawn_plan"), "_law_drawn_plan", "_law_drawn_plan", s_l_drawn_plan⟩, ⟨(fun K => He.ga K "_law_great_plan"), "_law_great_plan", "_law_great_plan", s_l_great_plan⟩, ⟨(fun K => He.ga K "_law_copied"), "_law_copied", "_law_copied", s_l_copied⟩, ⟨(fun K => He.ga K "_law_made"), "_law_made", "_law_made", s_l_made⟩, ⟨(fun K => He.ga K "_law_step_text"), "_law_step_text", "_law_step_text", s_l_step_text⟩, ⟨(fun K => He.ga K "_law_script_text"), "_law_script_text", "_law_script_text", s_l_script_text⟩, ⟨(fun K => He.ga K "_law_drawn_width"), "_law_drawn_width", "_law_drawn_width", s_l_drawn_width⟩, ⟨(fun K => He.ga K "_law_polynomials_right"), "_law_polynomials_right", "_law_polynomials_right", s_l_polynomials_right⟩, ⟨(fun K => He.ga K "_law_right"), "_law_right", "_law_right", s_l_right⟩, ⟨(fun K => He.ga K "law"), "law", "law", s_law⟩, ⟨(fun K => He.ma K (He.ga K "TankError") "__init__"), "__init__", "TankError.__init__", s_TE_init⟩, ⟨(fun K => He.ma K (He.ga K "Script") "__init__"), "__init__", "Script.__init__", s_Sc_init⟩, ⟨(fun K => gt K "Script" "tanks"), "tanks", "Script.tanks", s_Sc_tanks⟩, ⟨(fun K => gt K "Script" "steps"), "steps", "Script.steps", s_Sc_steps⟩, ⟨(fun K => gt K "Script" "unknown"), "unknown", "Script.unknown", s_Sc_unknown⟩]
def dfs4 : List DfX := [⟨(fun K => He.ma K (He.ga K "Script") "without"), "without", "Script.without", s_Sc_without⟩, ⟨(fun K => He.ma K (He.ga K "Script") "__len__"), "__len__", "Script.__len__", s_Sc_len⟩, ⟨(fun K => He.ma K (He.ga K "Script") "__eq__"), "__eq__", "Script.__eq__", s_Sc_eq⟩]
def fbs0 : List (PySem.W.Frag → Bool) := [bGlo "show_script", bGlo "show_polynomial", bGlo "show_tank", bGlo "show_thing", bGlo "show_integer", bGlo "order_of_fractions", bGlo "sign_of", bGlo "cut", bGlo "negated", bGlo "added", bGlo "multiplied", bGlo "scaled_value", bGlo "sign_at_fraction", bGlo "content", bGlo "primitive", bGlo "upright", bGlo "remainder", bGlo "quotient", bGlo "common_factor", bGlo "copied"]
def fbs1 : List (PySem.W.Frag → Bool) := [bGlo "is_integer", bGlo "is_fraction", bGlo "is_polynomial", bGlo "check_width", bGlo "is_amount", bGlo "is_tank", bGlo "check_tanks", bGlo "is_ascending", bGlo "is_step", bGlo "tanks_of", bGlo "check_numbers", bGlo "check_part", bGlo "check_step", bGlo "check_index", bGlo "read_script", bGlo "read_polynomial", bGlo "read_tank", bGlo "read_step", bGlo "read_thing", bGlo "read_integer"]
def fbs2 : List (PySem.W.Frag → Bool) := [bGlo "reduced", bGlo "told_widths", bGlo "first_water", bGlo "sum_of", bGlo "together", bGlo "after", bGlo "opened", bGlo "poured", bGlo "taken", bGlo "lead", bGlo "ahead", bGlo "levels", bGlo "number_of", bGlo "is_ended", bGlo "told_levels", bGlo "run_of", bGlo "run", bGlo "_law_purse", bGlo "_law_coin", bGlo "_law_shared"]
def fbs3 : List (PySem.W.Frag → Bool) := [bGlo "_law_ratio", bGlo "_law_drawn_part", bGlo "_law_drawn_tanks", bGlo "_law_pair", bGlo "_law_drawn_step", bGlo "_law_drawn_plan", bGlo "_law_great_plan", bGlo "_law_copied", bGlo "_law_made", bGlo "_law_step_text", bGlo "_law_script_text", bGlo "_law_drawn_width", bGlo "_law_polynomials_right", bGlo "_law_right", bGlo "law", bEG, bGlo "TankError", bGlo "Unreadable", bErr "Unreadable", bGlo "Script"]
def fbs4 : List (PySem.W.Frag → Bool) := [bCls "Script", bMk "Script", bProp "Script" "tanks", bProp "Script" "steps", bProp "Script" "unknown", bMeth "Script" "without", bMeth "Script" "__len__", bMeth "Script" "__eq__", bTy "Script", bNo "Script" "_steps", bNo "Script" "_tanks", bGlo "THINGS", bInt "THINGS" "open" 2, bInt "THINGS" "pour" 3, bInt "THINGS" "scoop" 3, bInt "THINGS" "move" 4, bInt "THINGS" "unless" 3, bFree "abs", bFree "all", bFree "bool"]
def fbs5 : List (PySem.W.Frag → Bool) := [bFree "enumerate", bFree "int", bFree "isinstance", bFree "len", bFree "list", bFree "max", bFree "min", bFree "range", bFree "sorted", bFree "str", bFree "tuple", bBlt "gcd" "math.gcd", bNe "Script"]
def lk : Lk := ⟨fbs0 ++ fbs1 ++ fbs2 ++ fbs3 ++ fbs4 ++ fbs5, dfs0 ++ dfs1 ++ dfs2 ++ dfs3 ++ dfs4, [("THINGS", ["open", "pour", "scoop", "move", "unless"])]⟩
abbrev rwK : PySem.W.OpenRow := PySem.W.OpenLaw.row PySem.Challenge.rw_valvelevels_k53_texts_both_ways
abbrev vwK : Program := PySem.W.view rwK.prog [0, 96]
theorem run0F (w : World) : (whK 12000 rwK (w.withFollow "special-get-raises" false)).map (lk0 rwK vwK nms) = some (true, PySem.W.openGood vwK nms) := by
  kernel_rfl
theorem run0T (w : World) : (whK 12000 rwK (w.withFollow "special-get-raises" true)).map (lk0 rwK vwK nms) = some (true, PySem.W.openGood vwK nms) := by
  kernel_rfl
theorem run1F (w : World) : (whK 12000 rwK (w.withFollow "special-get-raises" false)).map (lk1 lk 900) = some (true, lk.tb.map fun t => tabDue (w.withFollow "special-get-raises" false) t.2) := by
  kernel_rfl
theorem run1T (w : World) : (whK 12000 rwK (w.withFollow "special-get-raises" true)).map (lk1 lk 900) = some (true, lk.tb.map fun t => tabDue (w.withFollow "special-get-raises" true) t.2) := by
  kernel_rfl
theorem run2F (w : World) : (whK 12000 rwK (w.withFollow "special-get-raises" false)).map (lk2 lk 900) = some true := by
  kernel_rfl
theorem run2T (w : World) : (whK 12000 rwK (w.withFollow "special-get-raises" true)).map (lk2 lk 900) = some true := by
  kernel_rfl
theorem run3F (w : World) : (whK 12000 rwK (w.withFollow "special-get-raises" false)).map (lk3 lk 900) = some (lk.ds.map (·.due)) := by
  kernel_rfl
theorem run3T (w : World) : (whK 12000 rwK (w.withFollow "special-get-raises" true)).map (lk3 lk 900) = some (lk.ds.map (·.due)) := by
  kernel_rfl
theorem runK (w : World) : HandSHeadRun.RunEqI rwK vwK (lk.hook 900) (fun s => lk.off 900 (HandSHeadRun.getT s)) 12000 nms w :=
  PySem.W.byRow2 "special-get-raises" (P := fun w => HandSHeadRun.RunEqI rwK vwK (lk.hook 900) (fun s => lk.off 900 (HandSHeadRun.getT s)) 12000 nms w) (fun w => Lk.run_parts (run0F w) (run1F w) (run2F w) (run3F w)) (fun w => Lk.run_parts (run0T w) (run1T w) (run2T w) (run3T w)) w
end V2


namespace V2
def cont : List Int → Nat
  | [] => 0
  | x :: r => Nat.gcd x.natAbs (cont r)
def prim (ns : List Int) : List Int := ns.map fun x => x / (cont ns : Int)
theorem cont_dvd : ∀ {ns : List Int} {x : Int}, x ∈ ns → (cont ns : Int) ∣ x
  | y :: r, x, h => by
    rcases (List.mem_cons.mp h) with e | h
    · subst e
      exact Int.ofNat_dvd_left.mpr (Nat.gcd_dvd_left _ _)
    · exact Int.dvd_trans (Int.natCast_dvd_natCast.mpr (Nat.gcd_dvd_right _ _)) (cont_dvd h)
theorem cont_scale (a : Nat) : ∀ ns : List Int, cont (ns.map fun x => (a : Int) * x) = a * cont ns
  | [] => rfl
  | x :: r => by
    show Nat.gcd ((a : Int) * x).natAbs (cont (r.map fun x => (a : Int) * x)) = a * Nat.gcd x.natAbs (cont r)
    rw [cont_scale a r, Int.natAbs_mul, Int.natAbs_natCast, Nat.gcd_mul_left]
/-- the greatest common divisor, found from the left -/
theorem cont_fold : ∀ (ns : List Int) (g : Nat), ns.foldl (fun g x => Nat.gcd g x.natAbs) g = Nat.gcd g (cont ns)
  | [], g => by show g = Nat.gcd g 0; rw [Nat.gcd_zero_right]
  | x :: r, g => by
    show r.foldl (fun g x => Nat.gcd g x.natAbs) (Nat.gcd g x.natAbs) = Nat.gcd g (Nat.gcd x.natAbs (cont r))
    rw [cont_fold r, Nat.gcd_assoc]
theorem cont_zero : ∀ {ns : List Int}, cont ns = 0 → ∀ x ∈ ns, x = 0 := by
  intro ns h x hx
  have := cont_dvd hx
  rw [h] at this
  exact Int.zero_dvd.mp this
theorem prim_eq {xs ys : List Int} {a b : Nat} (ha : 0 < a) (hb : 0 < b) (h : (xs.map fun x => (a : Int) * x) = ys.map fun x => (b : Int) * x) : prim xs = prim ys := by
  have hc : a * cont xs = b * cont ys := by rw [← cont_scale, ← cont_scale, h]
  have hl : xs.length = ys.length := by
    have := (congrArg List.length h)
    rwa [List.length_map, List.length_map] at this
  refine List.ext_getElem (by unfold prim; rw [List.length_map, List.length_map, hl]) fun i h1 h2 => ?_
  unfold prim at h1 h2 ⊢
  rw [List.length_map] at h1 h2
  rw [List.getElem_map, List.getElem_map]
  have e : (a : Int) * xs[i] = (b : Int) * ys[i] := by
    have e1 : (xs.map fun x => (a : Int) * x)[i]'(by rw [List.length_map]; exact h1) = (ys.map fun x => (b : Int) * x)[i]'(by rw [List.length_map]; exact h2) := by
      simp only [h]
    rwa [List.getElem_map, List.getElem_map] at e1
  obtain ⟨p, hp⟩ := cont_dvd (List.getElem_mem h1)
  obtain ⟨q, hq⟩ := cont_dvd (List.getElem_mem h2)
  rcases Nat.eq_zero_or_pos (cont xs) with z | z
  · have z2 : cont ys = 0 := by
      rw [z, Nat.mul_zero] at hc
      rcases Nat.mul_eq_zero.mp hc.symm with c | c
      · omega
      · exact c
    rw [cont_zero z _ (List.getElem_mem h1), cont_zero z2 _ (List.getElem_mem h2), Int.zero_ediv, Int.zero_ediv]
  · have z2 : 0 < cont ys := by
      rcases Nat.eq_zero_or_pos (cont ys) with c | c
      · rw [c, Nat.mul_zero] at hc
        have := Nat.mul_pos ha z
        omega
      · exact c
    rw [hp, hq, Int.mul_ediv_cancel_left _ (by omega), Int.mul_ediv_cancel_left _ (by omega)]
    rw [hp, hq, ← Int.mul_assoc, ← Int.mul_assoc] at e
    have hcz : (a : Int) * (cont xs : Int) = (b : Int) * (cont ys : Int) := by
      rw [← Int.natCast_mul, ← Int.natCast_mul, hc]
    rw [hcz] at e
    exact Int.eq_of_mul_eq_mul_left (Int.ne_of_gt (Int.mul_pos (by omega) (by omega))) e
def cfF (f g : Nat → Int) : Nat → Nat → Int
  | 0, _ => 0
  | k + 1, i => cfF f g k i + (if k ≤ i then f k * g (i - k) else 0)
theorem cfF_lin (f g h : Nat → Int) (a b : Int) : ∀ k i, cfF f (fun j => a * g j + b * h j) k i = a * cfF f g k i + b * cfF f h k i
  | 0, _ => by show (0 : Int) = a * 0 + b * 0; rw [Int.mul_zero, Int.mul_zero, Int.add_zero]
  | k + 1, i => by
    show cfF f (fun j => a * g j + b * h j) k i + (if k ≤ i then f k * (a * g (i - k) + b * h (i - k)) else 0) = a * (cfF f g k i + (if k ≤ i then f k * g (i - k) else 0)) + b * (cfF f h k i + (if k ≤ i then f k * h (i - k) else 0))
    rw [cfF_lin f g h a b k i]
    split
    · simp only [Int.mul_add, Int.mul_left_comm (f k)]
      omega
    · simp only [Int.add_zero]
theorem cfF_zero (f g : Nat → Int) : ∀ k i, (∀ j, j < k → j ≤ i → f j * g (i - j) = 0) → cfF f g k i = 0
  | 0, _, _ => rfl
  | k + 1, i, h => by
    show cfF f g k i + (if k ≤ i then f k * g (i - k) else 0) = 0
    rw [cfF_zero f g k i fun j h1 h2 => h j (by omega) h2]
    split
    · rename_i c
      rw [h k (by omega) c]
      rfl
    · rfl
/-- one number alone, at place n -/
def dlt (n : Nat) : Nat → Int := fun i => if i = n then 1 else 0
theorem cfF_dlt (f : Nat → Int) (n : Nat) : ∀ k i, cfF f (dlt n) k i = if n ≤ i ∧ i - n < k then f (i - n) else 0
  | 0, i => by show (0 : Int) = _; rw [if_neg (by omega)]
  | k + 1, i => by
    show cfF f (dlt n) k i + (if k ≤ i then f k * dlt n (i - k) else 0) = _
    rw [cfF_dlt f n k i]
    unfold dlt
    by_cases h1 : n ≤ i ∧ i - n < k
    · rw [if_pos h1, if_pos (c := n ≤ i ∧ i - n < k + 1) (by omega)]
      by_cases h3 : k ≤ i
      · rw [if_pos h3, if_neg (by omega), Int.mul_zero, Int.add_zero]
      · rw [if_neg h3, Int.add_zero]
    · rw [if_neg h1, Int.zero_add]
      by_cases h2 : n ≤ i ∧ i - n = k
      · rw [if_pos (c := k ≤ i) (by omega), if_pos (c := i - k = n) (by omega), if_pos (c := n ≤ i ∧ i - n < k + 1) (by omega), Int.mul_one, h2.2]
      · rw [if_neg (c := n ≤ i ∧ i - n < k + 1) (by omega)]
        by_cases h3 : k ≤ i
        · rw [if_pos h3, if_neg (by omega), Int.mul_zero]
        · rw [if_neg h3]
/-- the top of a product -/
theorem cfF_top (f g : Nat → Int) (m n : Nat) (h : ∀ i, n < i → g i = 0) : cfF f g (m + 1) (n + m) = f m * g n := by
  show cfF f g m (n + m) + (if m ≤ n + m then f m * g (n + m - m) else 0) = _
  rw [cfF_zero f g m (n + m) fun j h1 h2 => by rw [h _ (by omega), Int.mul_zero], if_pos (by omega), Nat.add_sub_cancel, Int.zero_add]
theorem cfF_null {f g : Nat → Int} {m : Nat} (hf : f m ≠ 0) (hz : ∀ i, m ≤ i → cfF f g (m + 1) i = 0) : ∀ n, (∀ i, n ≤ i → g i = 0) → ∀ i, g i = 0
  | 0, h, i => h i (Nat.zero_le _)
  | n + 1, h, i => by
    refine cfF_null hf hz n (fun j hj => ?_) i
    rcases Nat.lt_or_ge n j with c | c
    · exact h j c
    · have e : j = n := by omega
      subst e
      have h1 := cfF_top f g m j fun i hi => h i hi
      rw [hz (j + m) (by omega)] at h1
      rcases Int.mul_eq_zero.mp h1.symm with z | z
      · exact absurd z hf
      · exact z
/-- L is what is left of P by B, up to a factor above 0 -/
def Rm (P B L : List Int) : Prop := Pol L ∧ L.length < B.length ∧ ∃ (g : Int) (q : Nat → Int) (N : Nat), 0 < g ∧ (∀ i, N ≤ i → q i = 0) ∧ ∀ i, g * P.getD i 0 = cfF (fun j => B.getD j 0) q B.length i + L.getD i 0
theorem getD_pol {L : List Int} (h : Pol L) {n : Nat} (hn : L.length = n + 1) : L.getD n 0 ≠ 0 := by
  have e : L[n]? = some L[n] := List.getElem?_eq_getElem (by omega)
  rw [getD_at e]
  refine h _ ?_
  have e2 : L.length - 1 = n := by omega
  rw [e2]
  exact e
theorem pol_len {L M : List Int} (hL : Pol L) (hM : Pol M) {a b : Int} (ha : 0 < a) (hb : 0 < b) (h : ∀ i, a * L.getD i 0 = b * M.getD i 0) : L.length ≤ M.length := by
  rcases Nat.lt_or_ge M.length L.length with c | c
  · exfalso
    obtain ⟨n, hn⟩ : ∃ n, L.length = n + 1 := ⟨L.length - 1, by omega⟩
    have h1 := h n
    rw [getD_out (l := M) (by omega), Int.mul_zero] at h1
    rcases Int.mul_eq_zero.mp h1 with z | z
    · omega
    · exact getD_pol hL hn z
  · exact c
theorem Rm.uniq {P B L M : List Int} (hB : Pol B) (h : Rm P B L) (k : Rm P B M) : prim L = prim M := by
  obtain ⟨l1, l2, g, q, N, g0, qz, qe⟩ := h
  obtain ⟨m1, m2, c, r, R, c0, rz, re⟩ := k
  obtain ⟨m, hm⟩ : ∃ m, B.length = m + 1 := ⟨B.length - 1, by omega⟩
  rw [hm] at qe re l2 m2
  have hw : ∀ i, cfF (fun j => B.getD j 0) (fun j => c * q j + (-g) * r j) (m + 1) i = g * M.getD i 0 - c * L.getD i 0 := by
    intro i
    rw [cfF_lin]
    have h1 := qe i
    have h2 := re i
    have h3 : c * (g * P.getD i 0) = g * (c * P.getD i 0) := Int.mul_left_comm _ _ _
    rw [h1, h2, Int.mul_add, Int.mul_add] at h3
    rw [Int.neg_mul]
    omega
  have hz : ∀ i, c * q i + (-g) * r i = 0 := by
    refine cfF_null (f := fun j => B.getD j 0) (g := fun j => c * q j + (-g) * r j) (m := m) (getD_pol hB hm) (fun i hi => ?_) (max N R) (fun i hi => ?_)
    · rw [hw i, getD_out (l := M) (by omega), getD_out (l := L) (by omega), Int.mul_zero, Int.mul_zero]
      rfl
    · show c * q i + (-g) * r i = 0
      rw [qz i (by omega), rz i (by omega), Int.mul_zero, Int.mul_zero]
      rfl
  have he : ∀ i, g * M.getD i 0 = c * L.getD i 0 := by
    intro i
    have := hw i
    rw [cfF_zero _ _ _ _ fun j _ _ => by rw [hz]; exact Int.mul_zero _] at this
    omega
  have hlen : L.length = M.length := Nat.le_antisymm (pol_len l1 m1 c0 g0 fun i => (he i).symm) (pol_len m1 l1 g0 c0 he)
  refine prim_eq (a := c.toNat) (b := g.toNat) (by omega) (by omega) ?_
  refine List.ext_getElem (by rw [List.length_map, List.length_map, hlen]) fun i h1 h2 => ?_
  rw [List.length_map] at h1 h2
  rw [List.getElem_map, List.getElem_map]
  have t := he i
  rw [getD_at (List.getElem?_eq_getElem h1), getD_at (List.getElem?_eq_getElem h2)] at t
  have ec : ((c.toNat : Nat) : Int) = c := Int.toNat_of_nonneg (by omega)
  have eg : ((g.toNat : Nat) : Int) = g := Int.toNat_of_nonneg (by omega)
  exact Eq.trans (congrArg (fun z => z * L[i]) ec) (Eq.trans t.symm (congrArg (fun z => z * M[i]) eg.symm))
theorem trm_getD (ns : List Int) (i : Nat) : (trm ns).getD i 0 = ns.getD i 0 := by
  unfold trm
  by_cases h : i < ns.length - tz ns
  · rw [List.getD_eq_getElem?_getD, List.getD_eq_getElem?_getD, List.getElem?_take, if_pos h]
  · rw [getD_out (by rw [List.length_take]; omega)]
    by_cases h2 : i < ns.length
    · have := tz_in ns (ns.length - 1 - i) (by omega)
      rw [show ns.length - 1 - (ns.length - 1 - i) = i by omega] at this
      rw [getD_at this]
    · rw [getD_out (by omega)]
end V2


namespace V2
def Rs (P B L : List Int) : Prop := ∃ (g : Int) (q : Nat → Int) (N : Nat), 0 < g ∧ (∀ i, N ≤ i → q i = 0) ∧ ∀ i, g * P.getD i 0 = cfF (fun j => B.getD j 0) q B.length i + L.getD i 0
theorem Rs.self (P B : List Int) : Rs P B P := ⟨1, fun _ => 0, 0, by decide, fun _ _ => rfl, fun i => by
  rw [cfF_zero _ _ _ _ fun _ _ _ => Int.mul_zero _, Int.one_mul, Int.zero_add]⟩
def tkn (B : List Int) (off : Nat) (t : Int) : List Int := List.replicate off 0 ++ B.map fun x => t * x
theorem tkn_getD (B : List Int) (off : Nat) (t : Int) (k : Nat) : (tkn B off t).getD k 0 = if off ≤ k then t * B.getD (k - off) 0 else 0 := by
  unfold tkn
  rw [(List.getD_eq_getElem?_getD)]
  by_cases h : off ≤ k
  · rw [if_pos h, List.getElem?_append_right (by rw [List.length_replicate]; exact h), List.length_replicate, List.getElem?_map, List.getD_eq_getElem?_getD]
    cases B[k - off]? with
    | none => show (0 : Int) = t * 0; rw [Int.mul_zero]
    | some x => rfl
  · rw [if_neg h, List.getElem?_append_left (by rw [List.length_replicate]; omega), List.getElem?_replicate, if_pos (by omega)]
    rfl
theorem tkn_len (B : List Int) (off : Nat) (t : Int) : (tkn B off t).length = off + B.length := by
  unfold tkn; rw [List.length_append, List.length_replicate, List.length_map]
/-- one step of the program -/
def stepL (B L : List Int) (g t : Int) : List Int := vec L.length fun k => g * L.getD k 0 - (tkn B (L.length - B.length) t).getD k 0
theorem vec_getD (N : Nat) (f : Nat → Int) (i : Nat) : (vec N f).getD i 0 = if i < N then f i else 0 := by
  by_cases h : i < N
  · rw [if_pos h, getD_at (vec_get h)]
  · rw [if_neg h, getD_out (by rw [vec_len]; omega)]
theorem trm_short {ns : List Int} {n : Nat} (hn : ns.length = n + 1) (h : ns.getD n 0 = 0) : (trm ns).length < ns.length := by
  rcases Nat.eq_zero_or_pos (tz ns) with z | z
  · exfalso
    obtain ⟨x, h1, h2⟩ := tz_at ns (by omega)
    rw [z, hn] at h1
    have h1 : ns[n]? = some x := h1
    rw [getD_at h1] at h
    exact h2 h
  · unfold trm
    rw [List.length_take]
    omega
theorem rs_step {P B L : List Int} (h0 : B ≠ []) (h : Rs P B L) (hl : B.length ≤ L.length) {g t : Int} (hg : 0 < g) (ht : g * L.getD (L.length - 1) 0 = t * B.getD (B.length - 1) 0) : Rs P B (trm (stepL B L g t)) ∧ (trm (stepL B L g t)).length < L.length := by
  have lb : 0 < B.length := List.length_pos_iff.mpr h0
  constructor
  · obtain ⟨c, q, N, c0, qz, qe⟩ := h
    refine ⟨g * c, fun j => g * q j + t * dlt (L.length - B.length) j, max N (L.length - B.length + 1), Int.mul_pos hg c0, fun i hi => ?_, fun i => ?_⟩
    · show g * q i + t * dlt (L.length - B.length) i = 0
      unfold dlt
      rw [qz i (by omega), if_neg (by omega), Int.mul_zero, Int.mul_zero]
      rfl
    · rw [Int.mul_assoc, qe i, cfF_lin, cfF_dlt, trm_getD, Int.mul_add]
      unfold stepL
      rw [vec_getD, tkn_getD]
      have hb : (if L.length - B.length ≤ i ∧ i - (L.length - B.length) < B.length then B.getD (i - (L.length - B.length)) 0 else 0) = if L.length - B.length ≤ i then B.getD (i - (L.length - B.length)) 0 else 0 := by
        by_cases h1 : L.length - B.length ≤ i
        · rw [if_pos h1]
          by_cases h2 : i - (L.length - B.length) < B.length
          · rw [if_pos ⟨h1, h2⟩]
          · rw [if_neg (by omega), getD_out (by omega)]
        · rw [if_neg h1, if_neg (by omega)]
      rw [hb]
      by_cases h3 : i < L.length
      · rw [if_pos h3]
        by_cases h1 : L.length - B.length ≤ i
        · rw [if_pos h1, if_pos h1]; omega
        · rw [if_neg h1, if_neg h1, Int.mul_zero]; omega
      · rw [if_neg h3, getD_out (l := L) (by omega), if_pos (by omega), getD_out (l := B) (by omega), Int.mul_zero, Int.mul_zero]
        omega
  · have := trm_short (ns := stepL B L g t) (n := L.length - 1) (by unfold stepL; rw [vec_len]; omega) (by
      unfold stepL
      rw [vec_getD, if_pos (by omega), tkn_getD, if_pos (by omega), ht, show L.length - 1 - (L.length - B.length) = B.length - 1 by omega]
      omega)
    unfold stepL at this ⊢
    rw [vec_len] at this
    exact this
/-- grow and take -/
theorem grow_take {t d : Int} (hd : d ≠ 0) : ∃ f : Int, ((Nat.gcd t.natAbs d.natAbs : Nat) : Int) = f ∧ 0 < f ∧ f.natAbs ≤ d.natAbs ∧ 0 < (if d < 0 then -d else d) / f ∧ ((if d < 0 then -d else d) / f).natAbs ≤ d.natAbs ∧ (t / f).natAbs ≤ t.natAbs ∧
    (if d < 0 then -d else d) / f * t = (if d < 0 then -(t / f) else t / f) * d := by
  refine ⟨_, rfl, ?_⟩
  have g0 : 0 < Nat.gcd t.natAbs d.natAbs := Nat.gcd_pos_of_pos_right _ (by omega)
  obtain ⟨p, hp⟩ : ((Nat.gcd t.natAbs d.natAbs : Nat) : Int) ∣ t := Int.ofNat_dvd_left.mpr (Nat.gcd_dvd_left _ _)
  obtain ⟨r, hr⟩ : ((Nat.gcd t.natAbs d.natAbs : Nat) : Int) ∣ d := Int.ofNat_dvd_left.mpr (Nat.gcd_dvd_right _ _)
  have gl : Nat.gcd t.natAbs d.natAbs ≤ d.natAbs := Nat.gcd_le_right _ (by omega)
  generalize Nat.gcd t.natAbs d.natAbs = f at *
  have f0 : (0 : Int) < (f : Int) := by omega
  have e1 : t / (f : Int) = p := by rw [hp, Int.mul_ediv_cancel_left _ (by omega)]
  have e2 : (if d < 0 then -d else d) / (f : Int) = if d < 0 then -r else r := by
    split
    · rw [hr, ← Int.mul_neg, Int.mul_ediv_cancel_left _ (by omega)]
    · rw [hr, Int.mul_ediv_cancel_left _ (by omega)]
  have ab : ∀ x : Int, x.natAbs ≤ ((f : Int) * x).natAbs := fun x => by
    rw [Int.natAbs_mul, Int.natAbs_natCast]
    exact Nat.le_mul_of_pos_left _ g0
  have r1 : d < 0 → r < 0 := fun c => by
    rcases Int.lt_or_le r 0 with z | z
    · exact z
    · have := Int.mul_nonneg (Int.le_of_lt f0) z
      omega
  have r2 : ¬ d < 0 → 0 < r := fun c => by
    rcases Int.lt_or_le 0 r with z | z
    · exact z
    · have := Int.mul_nonpos_of_nonneg_of_nonpos (Int.le_of_lt f0) z
      omega
  rw [e1, e2]
  refine ⟨f0, by omega, ?_, ?_, ?_, ?_⟩
  · split
    · have := r1 ‹_›; omega
    · exact r2 ‹_›
  · have := ab r
    rw [← hr] at this
    split <;> omega
  · have := ab p
    rw [← hp] at this
    exact this
  · split
    · conv => lhs; rw [hp]
      conv => rhs; rw [hr]
      rw [Int.neg_mul, Int.neg_mul, Int.mul_left_comm, Int.mul_left_comm p, Int.mul_comm r p]
    · conv => lhs; rw [hp]
      conv => rhs; rw [hr]
      rw [Int.mul_left_comm, Int.mul_left_comm p, Int.mul_comm r p]
end V2


namespace V2
open PySem L2
open PySem.Spec PyProof.Rows
theorem sk_some {H : Hp} {p : Addr} {m : Nat} (h : Sk H p m) : ∃ o, H p = some o := by
  obtain ⟨a, b, c, h1, _⟩ := h
  exact ⟨_, h1⟩
theorem sk_ne {H : Hp} {p q : Addr} {m : Nat} (h : Sk H p m) (hq : H q = none) : q ≠ p := by
  intro z
  obtain ⟨o, h2⟩ := sk_some h
  rw [← z, hq] at h2
  cases h2
/-- small polynomials as the law draws them -/
def Sp6 (ns : List Int) : Prop := Pol ns ∧ ns.length ≤ 8 ∧ ∀ x ∈ ns, -1000000 ≤ x ∧ x ≤ 1000000
theorem Sp6.pn {ns : List Int} (h : Sp6 ns) : Pn ns := by
  refine ⟨h.1, by have := h.2.1; omega, fun x hx => ?_⟩
  have e : (2 : Int) ^ 64 = 18446744073709551616 := by decide
  have := h.2.2 x hx
  rw [e]
  omega
theorem shaped_ints (ns : List Int) : SeqAt.shaped (.list (ns.map .int)) = true := by
  have h1 : ∀ l : List Int, PyData.canLayAll0 (l.map .int) = true := by
    intro l
    induction l with
    | nil => rfl
    | cons n r ih => simp [PyData.canLayAll0, PyData.canLay0, ih]
  have h2 : ∀ l : List Int, PyData.depthAll (l.map .int) ≤ 1 := by
    intro l
    induction l with
    | nil => simp [PyData.depthAll]
    | cons n r ih => simp [PyData.depthAll, PyData.depth]; omega
  unfold SeqAt.shaped
  have h3 := h2 ns
  simp [PyData.canLay0, PyData.depth, h1 ns]
  omega
section
variable {base : Heap} {mg : Str → Option Value} {K : PySem.W.Frag} {w : World} {P : Program}
end
end V2


namespace V2
open PySem L2
open PySem.Spec PyProof.Rows
def spCont (K : PySem.W.Frag) : Sp := fun vs H Q _ => ∃ (a : Addr) (ns : List Int), vs = [.ref a] ∧ Li H a ns ∧ Evl.RetV (.int (cont ns : Int)) H Q
def spPrim : Sp := fun vs H Q _ => ∃ (a : Addr) (ns : List Int), vs = [.ref a] ∧ Li H a ns ∧ ns.length ≤ 100 ∧ (∀ x ∈ ns, x.natAbs < 2 ^ 9000) ∧ Pol ns ∧ Evl.RetL (iV (prim ns)) H Q
theorem cont_pos {ns : List Int} (h : Pol ns) (h0 : ns ≠ []) : 0 < cont ns := by
  rcases Nat.eq_zero_or_pos (cont ns) with z | z
  · exfalso
    have l0 : 0 < ns.length := List.length_pos_iff.mpr h0
    obtain ⟨n, hn⟩ : ∃ n, ns.length = n + 1 := ⟨ns.length - 1, by omega⟩
    have hg := getD_pol h hn
    have e : ns[n]? = some ns[n] := List.getElem?_eq_getElem (by omega)
    rw [getD_at e] at hg
    exact hg (cont_zero z _ (List.getElem_mem (by omega)))
  · exact z
theorem cont_lt {ns : List Int} {B : Nat} (h : Pol ns) (hb : ∀ x ∈ ns, x.natAbs < 2 ^ B) : cont ns < 2 ^ B := by
  by_cases h0 : ns = []
  · subst h0
    exact Nat.pow_pos (by decide)
  · have l0 : 0 < ns.length := List.length_pos_iff.mpr h0
    obtain ⟨n, hn⟩ : ∃ n, ns.length = n + 1 := ⟨ns.length - 1, by omega⟩
    have hg := getD_pol h hn
    have e : ns[n]? = some ns[n] := List.getElem?_eq_getElem (by omega)
    rw [getD_at e] at hg
    have hm : ns[n] ∈ ns := List.getElem_mem (by omega)
    have := Int.natAbs_dvd_natAbs.mpr (cont_dvd hm)
    rw [Int.natAbs_natCast] at this
    exact Nat.lt_of_le_of_lt (Nat.le_of_dvd (by omega) this) (hb _ hm)
theorem prim_at {ns : List Int} {i : Nat} {n : Int} (h : ns[i]? = some n) : (prim ns)[i]? = some (n / (cont ns : Int)) := by
  unfold prim
  rw [List.getElem?_map, h]
  rfl
theorem prim_len (ns : List Int) : (prim ns).length = ns.length := by unfold prim; rw [List.length_map]
theorem take_next {ns : List Int} {i : Nat} {n : Int} (h : ns[i]? = some n) : iV (ns.take (i + 1)) = iV (ns.take i) ++ [.int n] := by
  rw [List.take_add_one, h]
  unfold iV
  rw [List.map_append]
  rfl
section
variable {base : Heap} {mg : Str → Option Value} {K : PySem.W.Frag} {w : World} {P : Program}
theorem ok_content {f : Addr} {fd : FuncData} (F : Fun K "content" "content" s_content f fd) (mG : mg "gcd" = some (.builtin "math.gcd")) : FnOk P w K mg base CX0 1 f fd p_content (spCont K) := by
  refine F.ok sc_content (fun vs H Q E h => ?_) (fun cdv A outer s H vs Q E hr h => ?_)
  · obtain ⟨a, ns, rfl, _⟩ := h
    rfl
  · obtain ⟨a, ns, rfl, hL, k⟩ := h
    have nd := sc_content.nd
    refine ⟨_, pss_cons (ps_set (i := 1) nd rfl (Or.inl rfl) pe_int)
      (pss_cons (ps_for PassesOwn.never rfl (pi_list (pv 0)) (pg_name (i := 2) nd rfl (Or.inl rfl))
        (pss_one (ps_set (i := 1) nd rfl (Or.inl rfl) (pe_callBfun cr_gcd (by rfl) mG (pa_cons (pv 1) (pa_cons (pv 2) pa_nil))))))
      (pss_one (ps_ret (pv 1))) ), ?_⟩
    refine ⟨_, rfl, a, rfl, ⟨_, SqL.of hL⟩, for_list (xs := iV ns) (fun i σ H' => H' = H ∧ ∃ v, σ = [some (.ref a), some (.int (((ns.take i).foldl (fun g x => Nat.gcd g x.natAbs) 0 : Nat) : Int)), v]) ⟨rfl, none, rfl⟩ (fun i σ H' _ q => by rw [q.1]; exact SqL.of hL) ?_ ?_⟩
    · rintro i x σ H' hi ⟨rfl, v, rfl⟩
      obtain ⟨n, hn, rfl⟩ := iV_get hi
      refine ⟨_, rfl, _, rfl, _, _, rfl, rfl, some (.int n), ?_⟩
      rw [List.take_add_one, hn, List.foldl_append]
      rfl
    · rintro σ H' ⟨rfl, v, rfl⟩
      rw [iV_len, List.take_length, cont_fold, Nat.gcd_zero_left]
      exact ⟨_, rfl, k _ (Evl.Ex.refl _)⟩
theorem ok_primitive {f : Addr} {fd : FuncData} (F : Fun K "primitive" "primitive" s_primitive f fd) (cC : Cal P w K mg base 1 "content" p_content (spCont K)) : FnOk P w K mg base CX0 2 f fd p_primitive spPrim := by
  refine F.ok sc_primitive (fun vs H Q E h => ?_) (fun cdv A outer s H vs Q E hr h => ?_)
  · obtain ⟨a, ns, rfl, _⟩ := h
    rfl
  · obtain ⟨a, ns, rfl, hL, hl, hb, hp, k⟩ := h
    have nd := sc_primitive.nd
    refine ⟨_, pss_cons (ps_set (i := 1) nd rfl (Or.inr rfl) (pe_c cC hr (pa_cons (pv 0) pa_nil)))
      (pss_one (ps_ret (pe_lc (own := [("number", 2)]) (g := gName 2) (tt := tYes) (te := tOp (rI CDivW fun i j => .int (i / j)) (tVar 2) (tVar 1)) rfl nd (pi_list (pv 0)) (blkOk_by (N := n_primitive) (sc := defScope s_primitive) (by decide +kernel)) (fun _ _ _ _ _ => pg_name (i := 2) nd rfl (Or.inl rfl)) (fun _ _ _ _ _ => pts_nil)
          (fun _ _ _ _ _ => pe_op op_fdivW (pv 2) (pv 1))))), ?_⟩
    refine ⟨_, rfl, a, ns, rfl, hL, fun H1 e1 => ?_⟩
    have hL1 : Li H1 a ns := e1 _ _ hL
    refine ⟨_, rfl, a, rfl, ⟨_, SqL.of hL1⟩, fun D hD => lc_list (xs := iV ns) (fun i H' => Evl.Ex H1 H' ∧ H' D = some (.lst (iV ((prim ns).take i)))) ⟨Evl.Ex.new hD, upd_same⟩ (fun i H' _ q => SqL.of (q.1 _ _ hL1)) ?_ ?_⟩
    · rintro i x H' hi ⟨e2, h2⟩
      obtain ⟨n, hn, rfl⟩ := iV_get hi
      have h0 : ns ≠ [] := fun z => by rw [z] at hn; cases hn
      have cp := cont_pos hp h0
      refine ⟨rfl, ?_⟩
      show tOp (rI CDivW fun i j => .int (i / j)) (tVar 2) (tVar 1) _ _ _
      refine ⟨_, rfl, _, rfl, _, _, rfl, rfl, wide_div (b := 9000) (by omega) (by rw [Int.natAbs_natCast]; exact cont_lt hp hb) (by decide) (by decide), _, h2, ?_, Evl.Ex.mut e2 hD, ?_⟩
      · rw [iV_len, List.length_take]
        exact Nat.lt_of_le_of_lt (show _ ≤ 100 by rw [prim_len]; omega) (by decide)
      · rw [upd_same, take_next (prim_at hn)]
    · rintro H' ⟨e2, h2⟩
      rw [iV_len, ← prim_len, List.take_length] at h2
      exact k D H' (Evl.fresh_back e1 hD) (e1.trans e2) h2
end
end V2


namespace V2
open PySem L2
open PySem.Spec PyProof.Rows
structure T7 (mg : Str → Option Value) : Prop where
  len : mg "len" = none
  abs : mg "abs" = none
  enu : mg "enumerate" = none
  gcd : mg "gcd" = some (.builtin "math.gcd")
theorem tkn_next {ys : List Int} {t n : Int} {i : Nat} (h : ys[i]? = some n) : iV ((ys.map fun x => t * x).take (i + 1)) = iV ((ys.map fun x => t * x).take i) ++ [.int (t * n)] :=
  take_next (by rw [List.getElem?_map, h]; rfl)
theorem vec_take {N : Nat} {f : Nat → Int} {i : Nat} (h : i < N) : iV ((vec N f).take (i + 1)) = iV ((vec N f).take i) ++ [.int (f i)] := take_next (vec_get h)
theorem Sp6.b20 {ns : List Int} (h : Sp6 ns) : ∀ x ∈ ns, x.natAbs < 2 ^ 20 := fun x hx => by
  have := h.2.2 x hx
  have e : (2 : Nat) ^ 20 = 1048576 := (by decide)
  rw [e]; omega
theorem more {ns : List Int} {A B : Nat} (h : ∀ x ∈ ns, x.natAbs < 2 ^ A) (hl : A ≤ B) : ∀ x ∈ ns, x.natAbs < 2 ^ B := fun x hx => big (h x hx) hl
section
variable {base : Heap} {mg : Str → Option Value} {K : PySem.W.Frag} {w : World} {P : Program}
end
end V2


namespace V2
def Bs (n : Nat) (ns : List Int) : Prop := ∀ x ∈ ns, x.natAbs < 2 ^ n
theorem Bs.le {n m : Nat} {ns : List Int} (h : Bs n ns) (l : n ≤ m) : Bs m ns := fun x hx => Nat.lt_of_lt_of_le (h x hx) (Nat.pow_le_pow_right (by decide) l)
theorem Bs.at_ {n : Nat} {ns : List Int} (h : Bs n ns) (i : Nat) : (ns.getD i 0).natAbs < 2 ^ n := by
  rw [List.getD_eq_getElem?_getD]
  cases e : ns[i]? with
  | none => exact Nat.pow_pos (by decide)
  | some x => exact h x (List.mem_of_getElem? e)
theorem bs_mul {i j : Int} {n m : Nat} (h1 : i.natAbs < 2 ^ n) (h2 : j.natAbs < 2 ^ m) : (i * j).natAbs < 2 ^ (n + m) := by
  rw [Int.natAbs_mul, Nat.pow_add]
  exact Nat.mul_lt_mul'' h1 h2
theorem vec_in {N : Nat} {f : Nat → Int} {x : Int} (h : x ∈ vec N f) : ∃ i, i < N ∧ x = f i := by
  unfold vec at h
  obtain ⟨i, hi, e⟩ := List.mem_map.mp h
  exact ⟨i, List.mem_range.mp hi, e.symm⟩
theorem bs_trm {n : Nat} {ns : List Int} (h : Bs n ns) : Bs n (trm ns) := fun x hx => h x (trm_mem hx)
theorem bs_step {B L : List Int} {g t : Int} {b c : Nat} (hL : Bs c L) (hg : g.natAbs < 2 ^ b) (ht : t.natAbs < 2 ^ c) (hB : Bs b B) : Bs (c + (b + 1)) (trm (stepL B L g t)) := by
  intro x hx
  obtain ⟨i, _, rfl⟩ := vec_in (trm_mem hx)
  have h2 := bs_mul hg (hL.at_ i)
  have h1 : ((tkn B (L.length - B.length) t).getD i 0).natAbs < 2 ^ (c + b) := by
    rw [tkn_getD]
    split
    · exact bs_mul ht (hB.at_ _)
    · exact Nat.pow_pos (by decide)
  have e : (2 : Nat) ^ (c + (b + 1)) = 2 ^ (c + b) + 2 ^ (c + b) := by
    rw [show c + (b + 1) = c + b + 1 from rfl, Nat.pow_succ]; omega
  rw [Nat.add_comm b c] at h2
  rw [e]
  omega
theorem last_at {ns : List Int} (h : ns ≠ []) : ∃ x, ns[ns.length - 1]? = some x ∧ x ∈ ns := by
  have l := List.length_pos_iff.mpr h
  exact ⟨ns[ns.length - 1]'(by omega), List.getElem?_eq_getElem (by omega), List.getElem_mem _⟩
theorem rem_loop {P B : List Int} {b : Nat} (hB : Pol B) (h0 : B ≠ []) (bb : Bs b B) : ∀ (n : Nat) (L : List Int) (c : Nat), L.length ≤ n → Pol L → Rs P B L → Bs c L → ∃ M, Rm P B M ∧ Bs (c + (L.length + 1 - B.length) * (b + 1)) M := by
  intro n
  have lb := List.length_pos_iff.mpr h0
  induction n with
  | zero =>
    intro L c hl hp hR hb
    exact ⟨L, ⟨hp, by omega, hR⟩, hb.le (by omega)⟩
  | succ n ih =>
    intro L c hl hp hR hb
    by_cases h : L.length < B.length
    · exact ⟨L, ⟨hp, h, hR⟩, hb.le (by omega)⟩
    · have L0 : L ≠ [] := fun z => by
        rw [z] at h
        exact h lb
      obtain ⟨tp, htp, htm⟩ := last_at L0
      obtain ⟨ld, hld, hlm⟩ := last_at h0
      have ld0 := hB ld hld
      obtain ⟨f, hf, f0, fb, g0, gb, tb, ge⟩ := grow_take (t := tp) (d := ld) ld0
      have ge' : (if ld < 0 then -ld else ld) / f * L.getD (L.length - 1) 0 = (if ld < 0 then -(tp / f) else tp / f) * B.getD (B.length - 1) 0 := by
        rw [getD_at htp, getD_at hld]
        exact ge
      obtain ⟨r1, r2⟩ := rs_step h0 hR (by omega) g0 ge'
      have hg : ((if ld < 0 then -ld else ld) / f).natAbs < 2 ^ b := Nat.lt_of_le_of_lt gb (bb ld hlm)
      have ht : (if ld < 0 then -(tp / f) else tp / f).natAbs < 2 ^ c := by
        have h1 := hb tp htm
        have h2 : (if ld < 0 then -(tp / f) else tp / f).natAbs = (tp / f).natAbs := by split <;> omega
        omega
      have hs := bs_step hb hg ht bb
      obtain ⟨M, hM, bM⟩ := ih _ (c + (b + 1)) (by omega) (pol_trm _) r1 hs
      refine ⟨M, hM, bM.le ?_⟩
      generalize (trm (stepL B L ((if ld < 0 then -ld else ld) / f) (if ld < 0 then -(tp / f) else tp / f))).length = k at r2
      have e1 : (k + 1 - B.length) + 1 ≤ L.length + 1 - B.length := by omega
      have e2 := Nat.mul_le_mul_right (b + 1) e1
      rw [Nat.succ_mul] at e2
      omega
theorem rem_ex {A B : List Int} {a b : Nat} (hA : Pol A) (hB : Pol B) (h0 : B ≠ []) (ba : Bs a A) (bb : Bs b B) : ∃ M, Rm A B M ∧ Bs (a + (A.length + 1 - B.length) * (b + 1)) M :=
  rem_loop hB h0 bb A.length A a (Nat.le_refl _) hA (Rs.self _ _) ba
open Classical in
/-- some rest, if there is one -/
noncomputable def remF (A B : List Int) : List Int := if h : ∃ L, Rm A B L then h.choose else []
theorem remF_rm {A B L : List Int} (h : Rm A B L) : Rm A B (remF A B) := by
  have hx : ∃ L, Rm A B L := ⟨L, h⟩
  unfold remF
  rw [dif_pos hx]
  exact hx.choose_spec
def negL (ns : List Int) : List Int := ns.map fun x => -x
/-- the next one of a row -/
noncomputable def nx (A B : List Int) : List Int := negL (prim (remF A B))
theorem nx_eq {A B L : List Int} (hB : Pol B) (h : Rm A B L) : nx A B = negL (prim L) := by
  unfold nx
  rw [(remF_rm h).uniq hB h]
theorem prim_length (ns : List Int) : (prim ns).length = ns.length := by unfold prim; rw [List.length_map]
theorem negL_length (ns : List Int) : (negL ns).length = ns.length := by unfold negL; rw [List.length_map]
theorem nx_len {A B : List Int} (h : B ≠ []) : (nx A B).length < B.length := by
  unfold nx
  rw [negL_length, prim_length]
  by_cases hx : ∃ L, Rm A B L
  · obtain ⟨L, hL⟩ := hx
    exact (remF_rm hL).2.1
  · unfold remF
    rw [dif_neg hx]
    exact List.length_pos_iff.mpr h
theorem bs_prim {L : List Int} {B : Nat} (h : Bs B L) : Bs B (prim L) := by
  intro y hy
  unfold prim at hy
  obtain ⟨x, hx, rfl⟩ := List.mem_map.mp hy
  obtain ⟨p, hp⟩ := cont_dvd hx
  rcases Nat.eq_zero_or_pos (cont L) with z | z
  · rw [z]
    show (x / 0).natAbs < 2 ^ B
    rw [Int.ediv_zero]
    exact Nat.pow_pos (by decide)
  · have e : x / (cont L : Int) = p := by
      conv => lhs; rw [hp]
      rw [Int.mul_ediv_cancel_left _ (by omega)]
    rw [e]
    have h1 := h x hx
    rw [hp, Int.natAbs_mul, Int.natAbs_natCast] at h1
    exact Nat.lt_of_le_of_lt (Nat.le_mul_of_pos_left _ z) h1
theorem bs_neg {L : List Int} {B : Nat} (h : Bs B L) : Bs B (negL L) := by
  intro y hy
  unfold negL at hy
  obtain ⟨x, hx, rfl⟩ := List.mem_map.mp hy
  rw [Int.natAbs_neg]
  exact h x hx
theorem pol_negL {L : List Int} (h : Pol L) : Pol (negL L) := by
  intro y hy
  unfold negL at hy
  rw [List.length_map, List.getElem?_map] at hy
  cases e : L[L.length - 1]? with
  | none => rw [e] at hy; cases hy
  | some x =>
    rw [e] at hy
    have := h x e
    have hy : -x = y := Option.some.inj hy
    omega
theorem pol_prim {L : List Int} (h : Pol L) : Pol (prim L) := by
  intro y hy
  unfold prim at hy
  rw [List.length_map, List.getElem?_map] at hy
  cases e : L[L.length - 1]? with
  | none => rw [e] at hy; cases hy
  | some x =>
    rw [e] at hy
    have hx := h x e
    have hy : x / (cont L : Int) = y := Option.some.inj hy
    have hm : x ∈ L := List.mem_of_getElem? e
    obtain ⟨p, hp⟩ := cont_dvd hm
    intro y0
    have c0 : (cont L : Int) ≠ 0 := fun z => by
      rw [z, Int.zero_mul] at hp
      exact hx hp
    have : x / (cont L : Int) = p := by
      conv => lhs; rw [hp]
      rw [Int.mul_ediv_cancel_left _ c0]
    rw [this, y0] at hy
    rw [hy, Int.mul_zero] at hp
    exact hx hp
theorem prim_one {x : Int} (h : x ≠ 0) : Bs 1 (prim [x]) := by
  intro y hy
  have e : prim [x] = [x / (x.natAbs : Int)] := by
    unfold prim cont cont
    rw [Nat.gcd_zero_right]
    rfl
  rw [e] at hy
  obtain rfl := List.mem_singleton.mp hy
  rcases Int.lt_or_gt_of_ne h with c | c
  · have e1 : (x.natAbs : Int) = -x := by omega
    rw [e1, Int.ediv_neg, Int.ediv_self h]
    decide
  · have e1 : (x.natAbs : Int) = x := by omega
    rw [e1, Int.ediv_self h]
    decide
def slopeL (p : List Int) : List Int := vec (p.length - 1) fun k => ((k + 1 : Nat) : Int) * p.getD (k + 1) 0
theorem slopeL_len (p : List Int) : (slopeL p).length = p.length - 1 := vec_len _ _
theorem slopeL_getD (p : List Int) (i : Nat) : (slopeL p).getD i 0 = ((i + 1 : Nat) : Int) * p.getD (i + 1) 0 := by
  unfold slopeL
  rw [vec_getD]
  split
  · rfl
  · rw [getD_out (l := p) (by omega), Int.mul_zero]
theorem pol_slope {p : List Int} (h : Pol p) : Pol (slopeL p) := by
  intro x hx
  rw [slopeL_len] at hx
  have hl : p.length - 1 - 1 < p.length - 1 := by
    have := (List.getElem?_eq_some_iff.mp hx).1
    rwa [slopeL_len] at this
  unfold slopeL at hx
  rw [vec_get hl] at hx
  have hx := Option.some.inj hx
  have e : p[p.length - 1]? = some (p[p.length - 1]'(by omega)) := List.getElem?_eq_getElem (by omega)
  rw [show p.length - 1 - 1 + 1 = p.length - 1 by omega, getD_at e] at hx
  rw [← hx]
  exact Int.mul_ne_zero (by omega) (h _ e)
/-- a polynomial that may be passed: at most eight numbers to 10 ** 6 -/
def P6 (p : List Int) : Prop := Pol p ∧ p.length ≤ 8 ∧ ∀ x ∈ p, -1000000 ≤ x ∧ x ≤ 1000000
theorem P6.at_ {p : List Int} (h : P6 p) (i : Nat) : -1000000 ≤ p.getD i 0 ∧ p.getD i 0 ≤ 1000000 := by
  rw [List.getD_eq_getElem?_getD]
  cases e : p[i]? with
  | none => exact ⟨by decide, by decide⟩
  | some x => exact h.2.2 x (List.mem_of_getElem? e)
theorem small_mul {k : Nat} {x : Int} (hk : k ≤ 7) (h : -1000000 ≤ x ∧ x ≤ 1000000) : (((k : Nat) : Int) * x).natAbs < 2 ^ 23 := by
  rw [Int.natAbs_mul, Int.natAbs_natCast]
  have : k * x.natAbs ≤ 7 * 1000000 := Nat.mul_le_mul hk (by omega)
  have e : (2 : Nat) ^ 23 = 8388608 := by decide
  omega
theorem P6.slope {p : List Int} (h : P6 p) : Bs 23 (slopeL p) := by
  intro x hx
  obtain ⟨i, hi, rfl⟩ := vec_in hx
  have := h.2.1
  exact small_mul (by omega) (h.at_ _)
theorem P6.b20 {p : List Int} (h : P6 p) : Bs 20 p := fun x hx => by
  have := h.2.2 x hx
  have e : (2 : Nat) ^ 20 = 1048576 := (by decide)
  rw [e]; omega
/-- a first step for the rest by the slope -/
def firstL (p : List Int) : List Int := vec (p.length - 1) fun k => (((p.length - 1 - k : Nat) : Int)) * p.getD k 0
theorem first_rs {p : List Int} (h2 : 2 ≤ p.length) : Rs p (slopeL p) (firstL p) := by
  refine ⟨((p.length - 1 : Nat) : Int), dlt 1, 2, by omega, fun i hi => by unfold dlt; rw [if_neg (by omega)], fun i => ?_⟩
  rw [cfF_dlt, slopeL_len]
  unfold firstL
  rw [vec_getD]
  by_cases h1 : 1 ≤ i ∧ i - 1 < p.length - 1
  · rw [if_pos h1, slopeL_getD, show i - 1 + 1 = i by omega]
    by_cases h3 : i < p.length - 1
    · rw [if_pos h3, ← Int.add_mul]
      congr 1
      omega
    · rw [if_neg h3, Int.add_zero]
      congr 2
      omega
  · rw [if_neg h1]
    by_cases h3 : i < p.length - 1
    · rw [if_pos h3, Int.zero_add]
      congr 2
      omega
    · rw [if_neg h3, getD_out (l := p) (by omega), Int.mul_zero]
      rfl
theorem rs_trm {P B L : List Int} (h : Rs P B L) : Rs P B (trm L) := by
  obtain ⟨g, q, N, h1, h2, h3⟩ := h
  exact ⟨g, q, N, h1, h2, fun i => by rw [trm_getD]; exact h3 i⟩
theorem rem_first {p : List Int} (h : P6 p) (h2 : 2 ≤ p.length) : ∃ M, Rm p (slopeL p) M ∧ Bs 47 M := by
  have s0 : slopeL p ≠ [] := fun z => by
    have := slopeL_len p
    rw [z, List.length_nil] at this
    omega
  have fb : Bs 23 (trm (firstL p)) := bs_trm (by
    intro x hx
    obtain ⟨i, hi, rfl⟩ := vec_in hx
    have := h.2.1
    exact small_mul (by omega) (h.at_ _))
  obtain ⟨M, hM, bM⟩ := rem_loop (pol_slope h.1) s0 h.slope _ _ 23 (Nat.le_refl _) (pol_trm _) (rs_trm (first_rs h2)) fb
  refine ⟨M, hM, bM.le ?_⟩
  have l1 := trm_len (firstL p)
  have l2 : (firstL p).length = p.length - 1 := vec_len _ _
  rw [slopeL_len]
  have : (trm (firstL p)).length + 1 - (p.length - 1) ≤ 1 := by omega
  have := Nat.mul_le_mul_right (23 + 1) this
  omega
noncomputable def rowF : Nat → List Int → List Int → List (List Int)
  | 0, _, _ => []
  | n + 1, A, B => if B = [] then [] else B :: rowF n B (nx A B)
theorem rowF_ext : ∀ (n m : Nat) (A B : List Int), B.length ≤ n → B.length ≤ m → rowF n A B = rowF m A B
  | 0, 0, _, _, _, _ => rfl
  | 0, m + 1, A, B, h, _ => by
    have : B = [] := List.eq_nil_of_length_eq_zero (by omega)
    subst this
    rfl
  | n + 1, 0, A, B, _, h => by
    have : B = [] := List.eq_nil_of_length_eq_zero (by omega)
    subst this
    rfl
  | n + 1, m + 1, A, B, h1, h2 => by
    unfold rowF
    by_cases e : B = []
    · rw [if_pos e, if_pos e]
    · rw [if_neg e, if_neg e]
      have := nx_len (A := A) e
      rw [rowF_ext n m B (nx A B) (by omega) (by omega)]
noncomputable def rowT (A B : List Int) : List (List Int) := rowF B.length A B
theorem rowT_nil (A : List Int) : rowT A [] = [] := rfl
theorem rowT_cons {A B : List Int} (h : B ≠ []) : rowT A B = B :: rowT B (nx A B) := by
  have l := List.length_pos_iff.mpr h
  unfold rowT
  obtain ⟨n, hn⟩ : ∃ n, B.length = n + 1 := ⟨B.length - 1, by omega⟩
  rw [hn]
  show (if B = [] then [] else B :: rowF n B (nx A B)) = _
  rw [if_neg h]
  have := nx_len (A := A) h
  rw [rowF_ext n _ B (nx A B) (by omega) (Nat.le_refl _)]
noncomputable def rowL (p : List Int) : List (List Int) := p :: rowT p (slopeL p)
/-- how many bits -/
def gam : Nat → Nat
  | 0 => 20
  | 1 => 23
  | 2 => 47
  | 3 => 119
  | 4 => 287
  | 5 => 695
  | 6 => 1679
  | _ => 4055
/-- two neighbours in a row -/
structure Nb (A B : List Int) : Prop where
  pa : Pol A
  pb : Pol B
  la : A.length ≤ 8
  lt : B.length < A.length
  ba : Bs (gam (8 - A.length)) A
  bb : Bs (gam (9 - A.length)) B
  b1 : B.length = 1 → Bs 23 B
  sm : Bs 1700 A
theorem gam_mono : ∀ i j : Nat, i ≤ j → gam i ≤ gam j := by
  have h1 : ∀ i, i < 9 → gam i ≤ 4055 := by decide
  have h2 : ∀ j, j < 8 → ∀ i, i ≤ j → gam i ≤ gam j := by decide
  intro i j h
  by_cases c : j < 8
  · exact h2 j c i h
  · have e : gam j = 4055 := by
      match j, c with
      | 0, c => exact absurd (by decide) c
      | 1, c => exact absurd (by decide) c
      | 2, c => exact absurd (by decide) c
      | 3, c => exact absurd (by decide) c
      | 4, c => exact absurd (by decide) c
      | 5, c => exact absurd (by decide) c
      | 6, c => exact absurd (by decide) c
      | n + 7, _ => rfl
    rw [e]
    by_cases c2 : i < 9
    · exact h1 i c2
    · have : gam i = 4055 := by
        match i, c2 with
        | n + 7, _ => rfl
        | 0, c => exact absurd (by decide) c
        | 1, c => exact absurd (by decide) c
        | 2, c => exact absurd (by decide) c
        | 3, c => exact absurd (by decide) c
        | 4, c => exact absurd (by decide) c
        | 5, c => exact absurd (by decide) c
        | 6, c => exact absurd (by decide) c
      omega
theorem gam_step : ∀ a, a < 8 → ∀ b, b < a → 2 ≤ b → gam (8 - a) + (a + 1 - b) * (gam (9 - a) + 1) ≤ gam (9 - b) := by decide
theorem gam_room : ∀ a, a < 9 → ∀ b, b < a → 2 ≤ b → gam (8 - a) + (a + 1 - b) * (2 * gam (9 - a) + 1) ≤ 8000 := by decide
theorem gam_room1 : ∀ a, a < 9 → 2 ≤ a → gam (8 - a) + a * 47 ≤ 8000 := by decide
theorem Nb.smb {A B : List Int} (h : Nb A B) : Bs 1700 B := by
  by_cases c : B.length = 1
  · exact (h.b1 c).le (by decide)
  · by_cases c2 : B.length = 0
    · have : B = [] := List.eq_nil_of_length_eq_zero c2
      subst this
      intro x hx
      cases hx
    · refine h.bb.le ?_
      have := h.lt
      have := gam_mono (9 - A.length) 6 (by omega)
      have : gam 6 = 1679 := rfl
      omega
/-- bits of both, and the room that a rest of them takes -/
theorem Nb.room {A B : List Int} (h : Nb A B) (h0 : B ≠ []) : ∃ bx by_ : Nat, Bs bx A ∧ Bs by_ B ∧ bx + (A.length + 1 - B.length) * (2 * by_ + 1) ≤ 8000 ∧ by_ ≤ 4055 := by
  have l := List.length_pos_iff.mpr h0
  have hl := h.lt
  have ha := h.la
  by_cases c : B.length = 1
  · refine ⟨_, 23, h.ba, h.b1 c, ?_, by decide⟩
    have := gam_room1 A.length (by omega) (by omega)
    rw [c]
    simp only [Nat.add_sub_cancel]
    omega
  · refine ⟨_, _, h.ba, h.bb, ?_, ?_⟩
    · exact gam_room A.length (by omega) B.length (by omega) (by omega)
    · exact gam_mono _ 7 (by omega)
theorem pol_one {L : List Int} (h : Pol L) (hl : L.length = 1) : ∃ x, L = [x] ∧ x ≠ 0 := by
  match L, hl with
  | [x], _ => exact ⟨x, rfl, h x rfl⟩
theorem nx_small {A B M : List Int} {m : Nat} (hB : Pol B) (hM : Rm A B M) (bM : Bs m M) : Pol (nx A B) ∧ Bs m (nx A B) ∧ ((nx A B).length = 1 → Bs 23 (nx A B)) := by
  rw [nx_eq hB hM]
  refine ⟨pol_negL (pol_prim hM.1), bs_neg (bs_prim bM), fun h => ?_⟩
  rw [negL_length, prim_length] at h
  obtain ⟨x, rfl, hx⟩ := pol_one hM.1 h
  exact (bs_neg (prim_one hx)).le (by decide)
theorem nb_first {p : List Int} (h : P6 p) (h0 : p ≠ []) : Nb p (slopeL p) where
  pa := h.1
  pb := pol_slope h.1
  la := h.2.1
  lt := by
    have := List.length_pos_iff.mpr h0
    rw [slopeL_len]
    omega
  ba := h.b20.le (gam_mono 0 _ (Nat.zero_le _))
  bb := h.slope.le (gam_mono 1 _ (by have := h.2.1; omega))
  b1 := fun _ => h.slope
  sm := h.b20.le (by decide)
theorem nb_second {p : List Int} (h : P6 p) (s0 : slopeL p ≠ []) : Nb (slopeL p) (nx p (slopeL p)) := by
  have l := List.length_pos_iff.mpr s0
  have sl := slopeL_len p
  obtain ⟨M, hM, bM⟩ := rem_first h (by omega)
  obtain ⟨n1, n2, n3⟩ := nx_small (pol_slope h.1) hM bM
  have h8 := h.2.1
  exact {
    pa := pol_slope h.1
    pb := n1
    la := by omega
    lt := nx_len s0
    ba := h.slope.le (gam_mono 1 _ (by omega))
    bb := n2.le (gam_mono 2 _ (by omega))
    b1 := n3
    sm := h.slope.le (by decide) }
theorem nb_next {A B : List Int} (h : Nb A B) (h7 : A.length ≤ 7) (h0 : B ≠ []) : Nb B (nx A B) := by
  have l := List.length_pos_iff.mpr h0
  have hl := h.lt
  obtain ⟨M, hM, bM⟩ := rem_ex h.pa h.pb h0 h.ba h.bb
  obtain ⟨n1, n2, n3⟩ := nx_small h.pb hM bM
  refine { pa := h.pb, pb := n1, la := by omega, lt := nx_len h0, ba := h.bb.le (gam_mono _ _ (by omega)), bb := ?_, b1 := n3, sm := h.smb }
  by_cases c : B.length = 1
  · have := nx_len (A := A) h0
    have : nx A B = [] := List.eq_nil_of_length_eq_zero (by omega)
    rw [this]
    intro x hx
    cases hx
  · exact n2.le (gam_step A.length (by omega) B.length (by omega) (by omega))
/-- where a row of p stands -/
structure Wr (p : List Int) (pre : List (List Int)) (A B : List Int) : Prop where
  nb : Nb A B
  hd : (A = p ∧ B = slopeL p) ∨ A.length ≤ 7
  all : pre ++ A :: rowT A B = rowL p
theorem Wr.start {p : List Int} (h : P6 p) (h0 : p ≠ []) : Wr p [] p (slopeL p) := ⟨nb_first h h0, .inl ⟨rfl, rfl⟩, rfl⟩
theorem Wr.next {p : List Int} {pre : List (List Int)} {A B : List Int} (hp : P6 p) (h : Wr p pre A B) (h0 : B ≠ []) : Wr p (pre ++ [A]) B (nx A B) := by
  obtain ⟨h1, h2, h3⟩ := h
  refine ⟨?_, .inr (by have := h1.la; have := h1.lt; omega), ?_⟩
  · rcases h2 with ⟨rfl, rfl⟩ | h2
    · exact nb_second hp h0
    · exact nb_next h1 h2 h0
  · rw [← h3, rowT_cons h0, List.append_assoc]
    rfl
theorem Wr.done {p : List Int} {pre : List (List Int)} {A : List Int} (h : Wr p pre A []) : pre ++ [A] = rowL p := by
  rw [← h.all, rowT_nil]
theorem Wr.one {p : List Int} {pre : List (List Int)} {A B : List Int} (h : Wr p pre A B) (h1 : B.length = 1) : pre ++ [A] ++ [B] = rowL p := by
  have h0 : B ≠ [] := fun z => by rw [z] at h1; cases h1
  have : nx A B = [] := List.eq_nil_of_length_eq_zero (by have := nx_len (A := A) h0; omega)
  rw [← h.all, rowT_cons h0, this, rowT_nil, List.append_assoc]
  rfl
end V2


namespace V2
open PySem L2
open PySem.Spec PyProof.Rows
/-- the rest of greater polynomials -/
def spRemW : Sp := fun vs H Q _ => ∃ (a b : Addr) (xs ys : List Int) (bx by_ : Nat), vs = [.ref a, .ref b] ∧ Li H a xs ∧ Li H b ys ∧ Pol xs ∧ Pol ys ∧ xs.length ≤ 8 ∧ ys.length ≤ 8 ∧ Bs bx xs ∧ Bs by_ ys ∧ ys ≠ [] ∧ bx + (xs.length + 1 - ys.length) * (by_ + 1) ≤ 8900 ∧ by_ ≤ 4455 ∧ ∀ L, Rm xs ys L → Evl.RetL (iV (prim L)) H Q
/-- ahead of each turn of the loop -/
def Wh5 (H : Hp) (a b : Addr) (ld : Int) (xs ys : List Int) (bx by_ : Nat) (m : Nat) (σ : L2.St) (H' : Hp) : Prop := ∃ (l : Addr) (L : List Int) (v4 v5 v6 v7 v8 : Option V) (j : Nat), σ = [some (.ref a), some (.ref b), some (.ref l), some (.int ld), v4, v5, v6, v7, v8, none, none] ∧
  Evl.Ex H H' ∧ Li H' l L ∧ Pol L ∧ L.length = m ∧ m ≤ 8 ∧ j ≤ xs.length + 1 - ys.length ∧ j + m ≤ xs.length ∧ Bs (bx + j * (by_ + 1)) L ∧ Rs xs ys L
section
variable {base : Heap} {mg : Str → Option Value} {K : PySem.W.Frag} {w : World} {P : Program}
theorem ok_remainder {f : Addr} {fd : FuncData} (F : Fun K "remainder" "remainder" s_remainder f fd) (T : T7 mg) (cC : Cal P w K mg base 1 "cut" p_cut (spTrim K)) (cP : Cal P w K mg base 2 "primitive" p_primitive spPrim) : FnOk P w K mg base CX0 3 f fd p_remainder spRemW := by
  refine F.ok sc_remainder (fun vs H Q E h => ?_) (fun cdv A outer s H vs Q E hr h => ?_)
  · obtain ⟨a, b, xs, ys, bx, b2, rfl, _⟩ := h
    rfl
  · obtain ⟨a, b, xs, ys, bx, by_, rfl, ha, hb, px, py, lx8, ly8, hbx, hby, y0, hroom, hby9, k⟩ := h
    have nd := sc_remainder.nd
    have r1 : Room 1 _ := hr.mono (by decide)
    refine ⟨_, pss_cons (ps_set (i := 2) nd rfl (Or.inl rfl) (pv 0))
      (pss_cons (ps_set (i := 3) nd rfl (Or.inl rfl) (pe_ix ix_list (pv 1) (pe_un un_neg pe_int) (fun _ _ => rfl)))
      (pss_cons (ps_while PassesOwn.never (pt_cmpR op_ge (pe_callB call_len_seq (by rfl) T.len PySem.boot_len (pa_cons (pv 2) pa_nil)) (pe_callB call_len_seq (by rfl) T.len PySem.boot_len (pa_cons (pv 1) pa_nil)) (nomark _))
        (pss_cons (ps_set (i := 4) nd rfl (Or.inl rfl) (pe_callBfun cr_gcd (by rfl) T.gcd (pa_cons (pe_ix ix_list (pv 2) (pe_un un_neg pe_int) (fun _ _ => rfl)) (pa_cons (pv 3) pa_nil))))
        (pss_cons (ps_asg (pe_tup (pa_cons (pe_op op_fdivW (pe_callB call_abs (by rfl) T.abs (by decide +kernel) (pa_cons (pv 3) pa_nil)) (pv 4)) (pa_cons (pe_op op_fdivW (pe_ix ix_list (pv 2) (pe_un un_neg pe_int) (fun _ _ => rfl)) (pv 4)) pa_nil)))
            (pg_tup rfl (pgs_cons (pg_name (i := 5) nd rfl (Or.inr rfl)) (pgs_cons (pg_name (i := 6) nd rfl (Or.inr rfl)) pgs_nil))))
        (Evl.pss_cut (ps_if (pt_cmpR op_lt (pv 3) pe_int (nomark _)) (pss_one (ps_set (i := 6) nd rfl (Or.inr rfl) (pe_un un_neg (pv 6)))) pss_nil)
        (pss_cons (ps_set (i := 7) nd rfl (Or.inl rfl) (pe_op op_sub (pe_callB call_len_seq (by rfl) T.len PySem.boot_len (pa_cons (pv 2) pa_nil)) (pe_callB call_len_seq (by rfl) T.len PySem.boot_len (pa_cons (pv 1) pa_nil))))
        (pss_cons (ps_set (i := 8) nd rfl (Or.inr rfl) (pe_op op_cat (pe_op op_rep (pe_lst (pa_cons pe_int pa_nil)) (pv 7))
            (pe_lc (own := [("number", 9)]) (g := gName 9) (tt := tYes) (te := tOp (rI CMulW fun i j => .int (i * j)) (tVar 6) (tVar 9)) rfl nd (pi_list (pv 1)) (blkOk_by (N := n_remainder) (sc := defScope s_remainder) (by decide +kernel)) (fun _ _ _ _ _ => pg_name (i := 9) nd rfl (Or.inl rfl)) (fun _ _ _ _ _ => pts_nil)
              (fun _ _ _ _ _ => pe_op op_mulW (pv 6) (pv 9)))))
        (pss_one (ps_set (i := 2) nd rfl (Or.inl rfl) (pe_c cC r1 (pa_cons
            (pe_lc (own := [("k", 10), ("number", 9)]) (g := gTup K 2 (gCons (gName 10) (gCons (gName 9) gNil))) (tt := tYes) (te := tOp (rI0 fun i j => .int (i - j)) (tOp (rI CMulW fun i j => .int (i * j)) (tVar 5) (tVar 9)) (tOp (rIxL K) (tVar 8) (tVar 10))) rfl nd (pi_enum (by rfl) T.enu (pa_cons (pv 2) pa_nil)) (blkOk_by (N := n_remainder) (sc := defScope s_remainder) (by decide +kernel)) (fun _ _ _ _ _ => pg_tup rfl (pgs_cons (pg_name (i := 10) nd rfl (Or.inl rfl)) (pgs_cons (pg_name (i := 9) nd rfl (Or.inl rfl)) pgs_nil))) (fun _ _ _ _ _ => pts_nil)
              (fun _ _ _ _ _ => pe_op op_sub (pe_op op_mulW (pv 5) (pv 9)) (pe_ix ix_list (pv 8) (pv 10) (fun _ _ => rfl)))) pa_nil)))))))))) 
      (pss_one (ps_ret (pe_c cP (hr.mono (by decide)) (pa_cons (pv 2) pa_nil)))))), ?_⟩
    have one : 1 ≤ sizeLine := by show 1 ≤ sizeLine; decide
    have two : 2 ≤ sizeLine := by show 2 ≤ sizeLine; decide
    obtain ⟨ld, hld, hld2⟩ := atI_end y0
    have ld0 := py ld hld
    have lb : 0 < ys.length := List.length_pos_iff.mpr y0
    have ldb : ld.natAbs < 2 ^ by_ := hby ld (List.mem_of_getElem? hld)
    have by0 : 0 < by_ := by
      rcases Nat.eq_zero_or_pos by_ with z | z
      · rw [z] at ldb
        have : (2 : Nat) ^ 0 = 1 := rfl
        omega
      · exact z
    have room1 : ∀ j, j ≤ xs.length + 1 - ys.length → bx + j * (by_ + 1) ≤ 8900 := fun j hj => by
      have h1 := Nat.mul_le_mul_right (by_ + 1) hj
      omega
    refine ⟨_, rfl, _, rfl, _, rfl, b, _, _, _, rfl, rfl, hb.sq, hld2, ?_⟩
    refine ⟨Wh5 H a b ld xs ys bx by_, ⟨xs.length, a, xs, none, none, none, none, none, 0, rfl, Evl.Ex.refl _, ha, px, rfl, lx8, by omega, by omega, hbx.le (by omega), Rs.self _ _⟩, ?_⟩
    rintro m σ H1 ⟨l, L, v4, v5, v6, v7, v8, j0, rfl, e1, hL, hp, hm, hm8, hj1, hj2, hbd, hR⟩
    subst hm
    have rj := room1 j0 hj1
    refine ⟨_, rfl, l, _, rfl, .inl hL.sq, _, rfl, b, _, rfl, .inl (SqL.of (e1 _ _ hb)), _, _, rfl, rfl, _, rfl, ?_⟩
    by_cases c : ys.length ≤ L.length
    · refine if_t (decide_eq_true (by rw [iV_len, iV_len]; omega)) ?_
      have L0 : L ≠ [] := fun z => by
        rw [z, List.length_nil] at c
        omega
      obtain ⟨tp, htp, htp2⟩ := atI_end L0
      obtain ⟨f, hf, f0, fb, g0, gb, tb, ge⟩ := grow_take (t := tp) (d := ld) ld0
      subst hf
      refine ⟨fun σ H' => ∃ m', m' < L.length ∧ Wh5 H a b ld xs ys bx by_ m' σ H', fun σ H' z => z, ?_⟩
      refine ⟨_, rfl, _, rfl, l, _, _, _, rfl, rfl, hL.sq, htp2, _, rfl, tp, ld, rfl, ?_⟩
      generalize hfe : ((Nat.gcd tp.natAbs ld.natAbs : Nat) : Int) = f at *
      refine ⟨_, rfl, ld, rfl, _, rfl, _, _, rfl, rfl, wide_div (b := by_) f0 (by omega) by0 (by omega), ?_⟩
      refine ⟨_, rfl, _, rfl, l, _, _, _, rfl, rfl, hL.sq, htp2, _, rfl, _, _, rfl, rfl, wide_div (b := by_) f0 (by omega) by0 (by omega), two, fun t ht => ?_⟩
      refine ⟨t, _, rfl, SqT.of upd_same, rfl, _, _, rfl, _, _, rfl, rfl, ?_⟩
      have et := Evl.Ex.new (o := .tup [.int ((if ld < 0 then -ld else ld) / f), .int (tp / f)]) ht
      obtain ⟨g, hg⟩ : ∃ g, (if ld < 0 then -ld else ld) / f = g := ⟨_, rfl⟩
      rw [hg] at g0 gb ge
      generalize htk : (if ld < 0 then -(tp / f) else tp / f) = tk at ge
      refine ⟨fun σ H' => ∃ v7 v8, σ = [some (.ref a), some (.ref b), some (.ref l), some (.int ld), some (.int f), some (.int g), some (.int tk), v7, v8, none, none] ∧ Evl.Ex H1 H', ?_, ?_⟩
      · refine ⟨_, rfl, _, _, rfl, rfl, _, rfl, ?_⟩
        refine ite2 (fun z => ?_) (fun z => ?_)
        · have z1 : ld < 0 := of_decide_eq_true z
          rw [if_pos z1] at htk
          refine ⟨_, rfl, _, rfl, v7, v8, ?_, et⟩
          rw [← htk, ← hg]
          rfl
        · have z1 : ¬ ld < 0 := fun y => z (decide_eq_true y)
          rw [if_neg z1] at htk
          refine ⟨v7, v8, ?_, et⟩
          rw [← htk, ← hg]
          rfl
      have tkb : tk.natAbs < 2 ^ (bx + j0 * (by_ + 1)) := by
        have h1 := hbd tp (List.mem_of_getElem? htp)
        have h2 : tk.natAbs = (tp / f).natAbs := by rw [← htk]; split <;> omega
        omega
      clear et ht
      rintro σ H2 ⟨w7, w8, rfl, e2⟩
      have hL2 : Li H2 l L := e2 _ _ hL
      have hb2 : Li H2 b ys := (e1.trans e2) _ _ hb
      refine ⟨_, rfl, l, _, rfl, .inl hL2.sq, _, rfl, b, _, rfl, .inl hb2.sq, _, _, rfl, rfl, ?_⟩
      refine ⟨one, fun p1 hp1 => ⟨_, rfl, p1, _, _, rfl, rfl, upd_same, by rw [iV_len, iV_len]; omega, by rw [iV_len, iV_len]; omega, ?_, fun p2 hp2 => ?_⟩⟩
      · rw [iV_len, iV_len]
        show 1 * _ ≤ sizeLine
        exact Nat.le_trans (show 1 * ((L.length : Int) - (ys.length : Int)).toNat ≤ 100 by omega) (by decide)
      rw [iV_len, iV_len, rep_flat, ← iV_rep, show ((L.length : Int) - (ys.length : Int)).toNat = L.length - ys.length by omega]
      have e3 : Evl.Ex H2 (upd H2 p1 (.lst [.int 0])) := Evl.Ex.new hp1
      have e4 := e3.trans (Evl.Ex.new (o := .lst (iV (List.replicate (L.length - ys.length) 0))) hp2)
      generalize hH3 : upd (upd H2 p1 (.lst [.int 0])) p2 (.lst (iV (List.replicate (L.length - ys.length) 0))) = H3 at *
      have hp23 : H3 p2 = some (.lst (iV (List.replicate (L.length - ys.length) 0))) := by rw [← hH3]; exact upd_same
      refine ⟨_, rfl, b, rfl, ⟨_, SqL.of (e4 _ _ hb2)⟩, fun D hD => lc_list (xs := iV ys) (fun i H' => Evl.Ex H3 H' ∧ H' D = some (.lst (iV ((ys.map fun x => tk * x).take i)))) ⟨Evl.Ex.new hD, upd_same⟩ (fun i H' _ q => SqL.of (q.1 _ _ (e4 _ _ hb2))) ?_ ?_⟩
      · rintro i x H' hi ⟨e5, h5⟩
        obtain ⟨n, hn, rfl⟩ := iV_get hi
        refine ⟨rfl, ?_⟩
        show tOp (rI CMulW fun i j => .int (i * j)) (tVar 6) (tVar 9) _ _ _
        refine ⟨_, rfl, _, rfl, _, _, rfl, rfl, wide_mul (a := bx + j0 * (by_ + 1) + 1) (big tkb (by omega)) (hby n (List.mem_of_getElem? hn)) (by omega) by0 (by omega), _, h5, ?_, Evl.Ex.mut e5 hD, ?_⟩
        · rw [iV_len, List.length_take, List.length_map]
          exact Nat.lt_of_le_of_lt (show min i ys.length ≤ 8 by omega) (by decide)
        · rw [upd_same, tkn_next hn]
      rintro H4 ⟨e5, h5⟩
      rw [iV_len, List.take_of_length_le (by rw [List.length_map]; exact Nat.le_refl _)] at h5
      refine ⟨p2, D, _, _, rfl, rfl, e5 _ _ hp23, h5, ?_, fun p3 hp3 => ?_⟩
      · rw [iV_len, iV_len, List.length_replicate, List.length_map]
        exact Nat.le_trans (show L.length - ys.length + ys.length ≤ 100 by omega) (by decide)
      rw [iV_app]
      have htkn : List.replicate (L.length - ys.length) 0 ++ ys.map (fun x => tk * x) = tkn ys (L.length - ys.length) tk := rfl
      rw [htkn]
      have e6 : Evl.Ex H4 (upd H4 p3 (.lst (iV (tkn ys (L.length - ys.length) tk)))) := Evl.Ex.new hp3
      have hp34 : Li (upd H4 p3 (.lst (iV (tkn ys (L.length - ys.length) tk)))) p3 (tkn ys (L.length - ys.length) tk) := upd_same
      generalize upd H4 p3 (.lst (iV (tkn ys (L.length - ys.length) tk))) = H5 at e6 hp34
      have e25 : Evl.Ex H2 H5 := (e4.trans e5).trans e6
      have hL5 : Li H5 l L := e25 _ _ hL2
      have gb20 : g.natAbs < 2 ^ by_ := by omega
      have hc := rs_step y0 hR c g0 (t := tk) (by rw [getD_at htp, getD_at hld]; exact ge)
      have hbd2 := bs_step (B := ys) hbd gb20 tkb hby
      have ej : bx + j0 * (by_ + 1) + (by_ + 1) = bx + (j0 + 1) * (by_ + 1) := by rw [Nat.succ_mul]; omega
      rw [ej] at hbd2
      refine ⟨_, rfl, l, _, rfl, hL5.sq, fun D2 hD2 => lc_it walk_enum (fun i H' => Evl.Ex H5 H' ∧ H' D2 = some (.lst (iV ((stepL ys L g tk).take i)))) ⟨Evl.Ex.new hD2, upd_same⟩ (fun i H' _ q => SqL.of (q.1 _ _ hL5)) ?_ ?_⟩
      · rintro i x H' H6 hi ⟨e7, h7⟩ ⟨t3, z, y, rfl, ht3, rfl, hz, hyy⟩
        obtain rfl := (Option.some.inj hz).symm
        obtain ⟨n, hn, rfl⟩ := iV_get hyy
        rw [iV_len] at hi
        have e8 := e7.trans (Evl.Ex.new (o := .tup [.int (i : Nat), .int n]) ht3)
        refine ⟨t3, _, rfl, SqT.of upd_same, rfl, _, _, rfl, _, _, rfl, rfl, rfl, ?_⟩
        show tOp (rI0 fun i j => .int (i - j)) (tOp (rI CMulW fun i j => .int (i * j)) (tVar 5) (tVar 9)) (tOp (rIxL K) (tVar 8) (tVar 10)) _ _ _
        have tl : i < (tkn ys (L.length - ys.length) tk).length := by rw [tkn_len]; omega
        refine ⟨_, rfl, _, rfl, _, _, rfl, rfl, wide_mul (b := bx + j0 * (by_ + 1) + 1) gb20 (big (hbd n (List.mem_of_getElem? hn)) (by omega)) by0 (by omega) (by omega), _, rfl, _, rfl, p3, _, _, _, rfl, rfl, SqL.of (e8 _ _ hp34), atI_nat (iV_at (List.getElem?_eq_getElem tl)), _, _, rfl, rfl, ?_⟩
        have h8 : (upd H' t3 (.tup [.int (i : Nat), .int n])) D2 = some (.lst (iV ((stepL ys L g tk).take i))) := by
          rw [upd_ne (ne_of_none h7 ht3)]
          exact h7
        refine ⟨_, h8, ?_, Evl.Ex.mut e8 hD2, ?_⟩
        · rw [iV_len, List.length_take]
          exact Nat.lt_of_le_of_lt (show min i (stepL ys L g tk).length ≤ 8 by omega) (by decide)
        · rw [upd_same]
          unfold stepL
          rw [vec_take hi, getD_at hn, getD_at (List.getElem?_eq_getElem tl)]
      · rintro H' ⟨e7, h7⟩
        rw [iV_len, show (stepL ys L g tk).take L.length = stepL ys L g tk from List.take_of_length_le (by unfold stepL; rw [vec_len]; exact Nat.le_refl _)] at h7
        refine ⟨D2, _, rfl, SqL.of h7, by unfold stepL; rw [vec_len]; omega, fun q H7 hq e9 h9 => ?_⟩
        have el : (trm (stepL ys L g tk)).length ≤ 8 := by omega
        exact ⟨_, hc.2, q, trm (stepL ys L g tk), _, _, _, _, _, j0 + 1, rfl, (((e1.trans e2).trans e25).trans e7).trans e9, h9, pol_trm _, rfl, el, by omega, by omega, hbd2, hc.1⟩
    · refine if_f (decide_eq_false (by rw [iV_len, iV_len]; omega)) ?_
      refine ⟨_, rfl, l, L, rfl, hL, by omega, hbd.le (by omega), hp, fun q H2 hq e2 h2 => ?_⟩
      exact k L ⟨hp, by omega, hR⟩ q H2 (Evl.fresh_back e1 hq) (e1.trans e2) h2
end
end V2


namespace V2
open PySem L2
open PySem.Spec PyProof.Rows
def tRowsInW (K : PySem.W.Frag) : TS := tAsg (tOp (rI0 fun i j => .int (i + j)) (tOp (rIxL K) (tVar 2) (tOp (rI0 fun i j => .int (i + j)) (tVar 3) (tVar 5))) (tOp (rI CMulW fun i j => .int (i * j)) (tVar 4) (tVar 6))) (gSub (tVar 2) (tOp (rI0 fun i j => .int (i + j)) (tVar 3) (tVar 5)) rSetL)
def tRowsW (K : PySem.W.Frag) : TS := tFor (iEnum K (tCons (tVar 0) tNil)) (gTup K 2 (gCons (gName 3) (gCons (gName 4) gNil))) (tFor (iEnum K (tCons (tVar 1) tNil)) (gTup K 2 (gCons (gName 5) (gCons (gName 6) gNil))) (tRowsInW K))
theorem rowsW_read {K : PySem.W.Frag} {D : Ends} {H : Hp} {a b l : Addr} {xs ys : List Int} {N : Nat} {u3 u4 u5 u6 : Option V} (ha : Li H a xs) (hb : Li H b ys) (hl : Li H l (vec N fun _ => 0)) (na : a ≠ l) (nb : b ≠ l) (hN : xs.length + ys.length ≤ N + 1)
    (hx : ∀ x ∈ xs, ∀ y ∈ ys, CMulW x y) (k : ∀ (H' : Hp) v3 v4 v5 v6, But l H H' → Li H' l (vec N (cf xs ys xs.length)) → D.nx [some (.ref a), some (.ref b), some (.ref l), v3, v4, v5, v6] H') :
    tRowsW K D [some (.ref a), some (.ref b), some (.ref l), u3, u4, u5, u6] H := by
  refine ⟨_, rfl, a, _, rfl, ha.sq, for_it walk_enum (fun i σ H' => ∃ v3 v4 v5 v6, σ = [some (.ref a), some (.ref b), some (.ref l), v3, v4, v5, v6] ∧ But l H H' ∧ Li H' l (vec N (rw_ xs ys i 0)))
    ⟨_, _, _, _, rfl, But.refl _ _, ?_⟩ (fun i σ H' _ ⟨_, _, _, _, _, q, _⟩ => SqL.of (q _ _ na ha)) ?_ ?_⟩
  · rw [vec_congr (g := fun _ => 0) fun i _ => by rw [rw_0]; rfl]
    exact hl
  · rintro i x σ H' H2 hi ⟨v3, v4, v5, v6, rfl, q, hL⟩ ⟨T, z, y, rfl, hT, rfl, hz, hy⟩
    obtain rfl := (Option.some.inj hz).symm
    obtain ⟨n, hn, rfl⟩ := iV_get hy
    rw [iV_len] at hi
    have nTl : T ≠ l := (ne_of_none hL hT).symm
    have q2 : But l H (upd H' T (.tup [.int (i : Nat), .int n])) := fun c o nc e => by
      rw [upd_ne (ne_of_none (q c o nc e) hT)]; exact q c o nc e
    refine ⟨T, _, rfl, SqT.of upd_same, rfl, _, _, rfl, _, _, rfl, rfl, ?_⟩
    have hL2 : Li (upd H' T (.tup [.int (i : Nat), .int n])) l (vec N (rw_ xs ys i 0)) := Eq.trans (upd_ne nTl.symm) hL
    refine ⟨_, rfl, b, _, rfl, SqL.of (q2 _ _ nb hb), for_it walk_enum (fun j σ H3 => ∃ v5 v6, σ = [some (.ref a), some (.ref b), some (.ref l), some (.int (i : Nat)), some (.int n), v5, v6] ∧ But l H H3 ∧ Li H3 l (vec N (rw_ xs ys i j)))
      ⟨_, _, rfl, q2, hL2⟩ (fun i σ H' _ ⟨_, _, _, q, _⟩ => SqL.of (q _ _ nb hb)) ?_ ?_⟩
    · rintro j x σ H3 H4 hj ⟨v5, v6, rfl, q3, hL3⟩ ⟨T2, z, y, rfl, hT2, rfl, hz, hy⟩
      obtain rfl := (Option.some.inj hz).symm
      obtain ⟨m, hm, rfl⟩ := iV_get hy
      rw [iV_len] at hj
      have nTl2 : T2 ≠ l := (ne_of_none hL3 hT2).symm
      refine ⟨T2, _, rfl, SqT.of upd_same, rfl, _, _, rfl, _, _, rfl, rfl, ?_⟩
      have hL4 : Li (upd H3 T2 (.tup [.int (j : Nat), .int m])) l (vec N (rw_ xs ys i j)) := Eq.trans (upd_ne nTl2.symm) hL3
      have hp : i + j < N := by omega
      have ep : ((i : Nat) : Int) + ((j : Nat) : Int) = ((i + j : Nat) : Int) := by omega
      refine ⟨_, rfl, _, rfl, _, rfl, _, _, rfl, rfl, l, _, _, .int (rw_ xs ys i j (i + j)), rfl, rfl, SqL.of hL4, ?_, _, rfl, _, rfl, n, m, rfl, rfl, hx n (List.mem_of_getElem? hn) m (List.mem_of_getElem? hm), _, _, rfl, rfl, ?_⟩
      · show atI _ (((i : Nat) : Int) + ((j : Nat) : Int)) = _
        rw [ep]
        exact atI_nat (iV_at (vec_get hp))
      refine ⟨_, rfl, _, rfl, _, rfl, _, _, rfl, rfl, l, _, _, i + j, rfl, rfl, hL4, ?_, ?_⟩
      · show ixN _ (((i : Nat) : Int) + ((j : Nat) : Int)) = _
        rw [ep]
        exact Evl.ixN_nat (by rw [iV_len, vec_len]; exact hp)
      refine ⟨_, _, rfl, fun c o nc e => ?_, ?_⟩
      · rw [upd_ne nc, upd_ne (ne_of_none (q3 c o nc e) hT2)]
        exact q3 c o nc e
      · unfold Li
        rw [upd_same]
        show some (HO.lst ((iV (vec N (rw_ xs ys i j))).set (i + j) (.int (rw_ xs ys i j (i + j) + n * m)))) = _
        rw [iV_set, vec_set (g := rw_ xs ys i (j + 1)) (by rw [rw_step, getD_at hn, getD_at hm]) fun p hp => rw_other hp]
    · rintro σ H3 ⟨v5, v6, rfl, q3, hL3⟩
      refine ⟨_, _, _, _, rfl, q3, ?_⟩
      rw [iV_len, vec_congr (g := rw_ xs ys (i + 1) 0) fun p _ => rw_end xs ys i p] at hL3
      exact hL3
  · rintro σ H' ⟨v3, v4, v5, v6, rfl, q, hL⟩
    rw [iV_len, vec_congr (g := cf xs ys xs.length) fun i _ => rw_0 _ _ _ _] at hL
    exact k H' v3 v4 v5 v6 q hL
/-- at most 16 numbers, of any size -/
def Pw (ns : List Int) : Prop := Pol ns ∧ ns.length ≤ 16
def spTwoW (C : Int → Int → Prop) (m : List Int → List Int → List Int) : Sp := fun vs H Q _ => ∃ (a b : Addr) (xs ys : List Int), vs = [.ref a, .ref b] ∧ Li H a xs ∧ Li H b ys ∧ Pw xs ∧ Pw ys ∧ (∀ x ∈ xs, ∀ y ∈ ys, C x y) ∧ Evl.RetL (iV (m xs ys)) H Q
/-- the constant n -/
def cp (n : Int) : List Int := if n = 0 then [] else [n]
theorem cp_0 : cp 0 = [] := rfl
theorem cp_n {n : Int} (h : n ≠ 0) : cp n = [n] := if_neg h
theorem cp_pw (n : Int) : Pw (cp n) := by
  unfold cp
  split
  · exact ⟨fun x h => (by cases h), Nat.zero_le _⟩
  · rename_i h
    refine ⟨fun x e => ?_, by show 1 ≤ 16; decide⟩
    cases e
    exact h
theorem cp_mem {n x : Int} (h : x ∈ cp n) : x = n := by
  unfold cp at h
  split at h
  · cases h
  · exact List.mem_singleton.mp h
theorem trm_1 (n : Int) : trm [n] = cp n := by
  by_cases h : n = 0
  · subst h
    decide
  · rw [cp_n h]
    exact trm_pol fun x e => by
      cases e
      exact h
theorem cp_add (x y : Int) : trm (padd (cp x) (cp y)) = cp (x + y) := by
  by_cases hx : x = 0
  · by_cases hy : y = 0
    · subst hx hy
      decide
    · have e : padd (cp x) (cp y) = [x + y] := by
        rw [hx, cp_0, cp_n hy]
        simp [padd, vec]
      rw [e, trm_1]
  · by_cases hy : y = 0
    · have e : padd (cp x) (cp y) = [x + y] := by
        rw [hy, cp_0, cp_n hx]
        simp [padd, vec]
      rw [e, trm_1]
    · have e : padd (cp x) (cp y) = [x + y] := by
        rw [cp_n hx, cp_n hy]
        simp [padd, vec]
      rw [e, trm_1]
theorem cp_mul (x y : Int) : trm (pmul (cp x) (cp y)) = cp (x * y) := by
  by_cases hx : x = 0
  · subst hx
    rw [Int.zero_mul, cp_0]
    exact nil_pmul _
  · by_cases hy : y = 0
    · subst hy
      rw [Int.mul_zero, cp_0]
      exact pmul_nil _
    · have e : pmul (cp x) (cp y) = [x * y] := by
        rw [cp_n hx, cp_n hy]
        simp [pmul, vec, cf]
      rw [e, trm_1]
section
variable {base : Heap} {mg : Str → Option Value} {K : PySem.W.Frag} {w : World} {P : Program}
theorem ok_multipliedW {f : Addr} {fd : FuncData} (F : Fun K "multiplied" "multiplied" s_multiplied f fd) (T : T2 mg) : FnOk P w K mg base CX0 1 f fd p_multiplied (spTwoW (fun x y => CMulW x y) fun xs ys => trm (pmul xs ys)) := by
  refine F.ok sc_multiplied (fun vs H Q E h => ?_) (fun cdv A outer s H vs Q E hr h => ?_)
  · obtain ⟨a, b, xs, ys, rfl, _⟩ := h
    rfl
  · obtain ⟨a, b, xs, ys, rfl, ha, hb, hx, hy, hxy, k⟩ := h
    have k : Evl.RetL (iV (trm (pmul xs ys))) H Q := k
    have nd := sc_multiplied.nd
    refine ⟨_, pss_cons (ps_if (PW.pt (pw_or (pt_not (pt_truth (pv 0) (by intro _; rfl))) (pw_or1 (pt_not (pt_truth (pv 1) (by intro _; rfl)))))) (pss_one (ps_ret (pe_lst pa_nil))) pss_nil)
      (pss_cons (ps_set (i := 2) nd rfl (Or.inl rfl) (pe_op op_rep (pe_lst (pa_cons pe_int pa_nil)) (pe_op op_sub (pe_op op_add (pe_callB call_len_seq (by rfl) T.len PySem.boot_len (pa_cons (pv 0) pa_nil)) (pe_callB call_len_seq (by rfl) T.len PySem.boot_len (pa_cons (pv 1) pa_nil))) pe_int)))
      (pss_cons (ps_for PassesOwn.never rfl (pi_enum (by rfl) T.enu (pa_cons (pv 0) pa_nil)) (pg_tup rfl (pgs_cons (pg_name (i := 3) nd rfl (Or.inl rfl)) (pgs_cons (pg_name (i := 4) nd rfl (Or.inl rfl)) pgs_nil)))
        (pss_one (ps_for PassesOwn.never rfl (pi_enum (by rfl) T.enu (pa_cons (pv 1) pa_nil)) (pg_tup rfl (pgs_cons (pg_name (i := 5) nd rfl (Or.inl rfl)) (pgs_cons (pg_name (i := 6) nd rfl (Or.inl rfl)) pgs_nil)))
          (pss_one (ps_asg (pe_op op_add (pe_ix ix_list (pv 2) (pe_op op_add (pv 3) (pv 5)) (fun _ _ => rfl)) (pe_op op_mulW (pv 4) (pv 6))) (pg_sub (pv 2) (pe_op op_add (pv 3) (pv 5)) set_list))))))
      (pss_one (ps_ret (pv 2))))), ?_⟩
    have none_ : xs = [] ∨ ys = [] → trm (pmul xs ys) = [] := by
      rintro (e | e)
      · rw [e]; exact nil_pmul ys
      · rw [e]; exact pmul_nil xs
    refine ⟨_, rfl, _, tru_list ha, ?_⟩
    by_cases ex : xs = []
    · refine if_t (by rw [ex]; rfl) ?_
      refine ite2 (fun _ => ?_) (fun z => absurd rfl z)
      refine ⟨Nat.zero_le _, fun p hp => k p _ hp (Evl.Ex.new hp) ?_⟩
      rw [upd_same, none_ (.inl ex)]; rfl
    refine if_f (by cases xs with | nil => exact absurd rfl ex | cons _ _ => rfl) ⟨_, rfl, _, tru_list hb, ?_⟩
    by_cases ey : ys = []
    · refine if_t (by rw [ey]; rfl) ?_
      refine ⟨Nat.zero_le _, fun p hp => k p _ hp (Evl.Ex.new hp) ?_⟩
      rw [upd_same, none_ (.inr ey)]; rfl
    refine if_f (by cases ys with | nil => exact absurd rfl ey | cons _ _ => rfl) ?_
    have lx : 0 < xs.length := List.length_pos_iff.mpr ex
    have ly : 0 < ys.length := List.length_pos_iff.mpr ey
    obtain ⟨px, hx2⟩ := hx
    obtain ⟨py, hy2⟩ := hy
    refine ⟨(by show 1 ≤ sizeLine; decide), fun p hp => ?_⟩
    have ha1 : Li (upd H p (.lst [.int 0])) a xs := Eq.trans (upd_ne (ne_of_none ha hp)) ha
    have hb1 : Li (upd H p (.lst [.int 0])) b ys := Eq.trans (upd_ne (ne_of_none hb hp)) hb
    refine ⟨_, rfl, a, _, rfl, .inl ha1.sq, _, rfl, b, _, rfl, .inl hb1.sq, _, _, rfl, rfl, _, _, rfl, rfl, p, _, _, rfl, rfl, upd_same, by rw [iV_len, iV_len]; omega, by rw [iV_len, iV_len]; omega, ?_, fun l hl => ?_⟩
    · rw [iV_len, iV_len]
      show 1 * _ ≤ sizeLine
      refine Nat.le_trans ?_ (show 100 ≤ sizeLine by decide)
      omega
    have eN : (((iV xs).length : Int) + ((iV ys).length : Int) - 1).toNat = xs.length + ys.length - 1 := by rw [iV_len, iV_len]; omega
    refine rowsW_read (K := K) (N := xs.length + ys.length - 1) (Eq.trans (upd_ne (ne_of_none ha1 hl)) ha1) (Eq.trans (upd_ne (ne_of_none hb1 hl)) hb1) ?_ (ne_of_none ha1 hl) (ne_of_none hb1 hl) (by omega) hxy fun H' v3 v4 v5 v6 q hL => ?_
    · unfold Li
      rw [upd_same]
      show some (HO.lst (List.replicate (((iV xs).length : Int) + ((iV ys).length : Int) - 1).toNat [V.int 0]).flatten) = _
      rw [eN, rep_flat, vec_zero, iV_rep]
    · refine ⟨_, rfl, k l H' (Evl.fresh_back (Evl.Ex.new hp) hl) (fun c o e => ?_) ?_⟩
      · have e1 : upd H p (.lst [.int 0]) c = some o := Eq.trans (upd_ne (ne_of_none e hp)) e
        exact q c o (ne_of_none e1 hl) (Eq.trans (upd_ne (ne_of_none e1 hl)) e1)
      · rw [trm_pol (pol_pmul px py ex ey)]
        exact hL
theorem ok_addedW {f : Addr} {fd : FuncData} (F : Fun K "added" "added" s_added f fd) (T : T2 mg) (cT : Cal P w K mg base 1 "cut" p_cut (spTrim K)) : FnOk P w K mg base CX0 2 f fd p_added (spTwoW (fun _ _ => True) fun xs ys => trm (padd xs ys)) := by
  refine F.ok sc_added (fun vs H Q E h => ?_) (fun cdv A outer s H vs Q E hr h => ?_)
  · obtain ⟨a, b, xs, ys, rfl, _⟩ := h
    rfl
  · obtain ⟨a, b, xs, ys, rfl, ha, hb, hx, hy, _, k⟩ := h
    have k : Evl.RetL (iV (trm (padd xs ys))) H Q := k
    have nd := sc_added.nd
    refine ⟨_, pss_cons (ps_set (i := 2) nd rfl (Or.inl rfl) (pe_callB (call_max2 rfl) (by rfl) T.max (by decide +kernel) (pa_cons (pe_callB call_len_seq (by rfl) T.len PySem.boot_len (pa_cons (pv 0) pa_nil)) (pa_cons (pe_callB call_len_seq (by rfl) T.len PySem.boot_len (pa_cons (pv 1) pa_nil)) pa_nil))))
      (pss_cons (ps_asg (pe_tup (pa_cons (pe_op op_cat (pv 0) (pe_op op_rep (pe_lst (pa_cons pe_int pa_nil)) (pe_op op_sub (pv 2) (pe_callB call_len_seq (by rfl) T.len PySem.boot_len (pa_cons (pv 0) pa_nil)))))
          (pa_cons (pe_op op_cat (pv 1) (pe_op op_rep (pe_lst (pa_cons pe_int pa_nil)) (pe_op op_sub (pv 2) (pe_callB call_len_seq (by rfl) T.len PySem.boot_len (pa_cons (pv 1) pa_nil))))) pa_nil))) (pg_tup rfl (pgs_cons (pg_name (i := 3) nd rfl (Or.inr rfl)) (pgs_cons (pg_name (i := 4) nd rfl (Or.inr rfl)) pgs_nil))))
      (pss_one (ps_ret (pe_c cT hr (pa_cons (pe_lc (own := [("k", 5)]) (g := gName 5) (tt := tYes) (te := tOp (rI0 fun i j => .int (i + j)) (tOp (rIxL K) (tVar 3) (tVar 5)) (tOp (rIxL K) (tVar 4) (tVar 5))) rfl nd (pi_range1 (by rfl) T.rng (pa_cons (pv 2) pa_nil)) (blkOk_by (N := n_added) (sc := defScope s_added) (by decide +kernel)) (fun _ _ _ _ _ => pg_name (i := 5) nd rfl (Or.inl rfl)) (fun _ _ _ _ _ => pts_nil)
        (fun _ _ _ _ _ => pe_op op_add (pe_ix ix_list (pv 3) (pv 5) (fun _ _ => rfl)) (pe_ix ix_list (pv 4) (pv 5) (fun _ _ => rfl)))) pa_nil))))), ?_⟩
    obtain ⟨px, hx2⟩ := hx
    obtain ⟨py, hy2⟩ := hy
    generalize hn : max xs.length ys.length = n
    have em : (if ((iV ys).length : Int) > ((iV xs).length : Int) then ((iV ys).length : Int) else ((iV xs).length : Int)) = (n : Int) := by
      rw [iV_len, iV_len]; exact gt_len _ _ _ hn.symm
    refine ⟨_, rfl, a, _, rfl, .inl ha.sq, _, rfl, b, _, rfl, .inl hb.sq, _, _, rfl, ?_⟩
    rw [em]
    refine el_pad (K := K) (n := n) (xs := xs) (a := a) rfl rfl ha (by omega) (by omega) H (Evl.Ex.refl _) _ fun p H1 hp e1 h1 => ?_
    refine el_pad (K := K) (n := n) (xs := ys) (a := b) rfl rfl (e1 _ _ hb) (by omega) (by omega) H1 (Evl.Ex.refl _) _ fun q H2 hq e2 h2 => ?_
    refine ⟨(by show 2 ≤ sizeLine; decide), fun t ht => ?_⟩
    have e3 : Evl.Ex H2 (upd H2 t (.tup [.ref p, .ref q])) := Evl.Ex.new ht
    refine ⟨t, _, rfl, SqT.of upd_same, rfl, _, _, rfl, _, _, rfl, rfl, ?_⟩
    have hG := el_sums (K := K) (σ := [some (.ref a), some (.ref b), some (.int (n : Int)), some (.ref p), some (.ref q), none]) (jn := 2) (jk := 5) (im := 3) (iy := 4) (n := n) (xs := xs) (ys := ys) (a := p) (b := q) rfl (e3 _ _ (e2 _ _ h1)) (e3 _ _ h2) (by omega) (by omega) (by omega) (by intro _; rfl) (by intro _; rfl) (by intro _; rfl) (by intro _; rfl) _ (Evl.Ex.refl _) (fun x H1 => spTrim K [x] H1 Q E0) (fun r H4 hr4 e4 h4 => by
      refine ⟨r, _, rfl, SqL.of h4, by rw [vec_len]; omega, fun z H5 hz e5 h5 => ?_⟩
      have e05 := ((e1.trans e2).trans e3).trans e4
      refine k z H5 (Evl.fresh_back e05 hz) (e05.trans e5) ?_
      rw [h5, ← hn]
      rfl)
    exact hG
end
end V2


namespace V2
open PySem L2
open PySem.Spec PyProof.Rows
theorem pe_never {X : Cx} {e : Expr} : PE X e (fun _ _ _ => False) := ⟨fun _ _ _ _ _ _ h => h.elim⟩
theorem cont_1 (b : Int) : cont [b] = b.natAbs := by
  simp [cont]
theorem prim_1 {b : Int} (h : 0 < b) : prim [b] = [1] := by
  unfold prim
  rw [cont_1]
  have e : ((b.natAbs : Nat) : Int) = b := by omega
  rw [List.map_cons, List.map_nil, e, Int.ediv_self (by omega)]
def B26 (n : Int) : Prop := n.natAbs < 2 ^ 4400
/-- the way up of a constant above 0 -/
def spUp1 : Sp := fun vs H Q _ => ∃ (a : Addr) (b : Int), vs = [.ref a] ∧ Li H a [b] ∧ 0 < b ∧ B26 b ∧ Evl.RetL (iV [1]) H Q
def spCf1 : Sp := fun vs H Q _ => ∃ (a b : Addr) (t m : Int), vs = [.ref a, .ref b] ∧ Li H a [t] ∧ Li H b [m] ∧ t ≠ 0 ∧ 0 < m ∧ B26 t ∧ B26 m ∧ Evl.RetL (iV [1]) H Q
def spQ1 : Sp := fun vs H Q _ => ∃ (a b : Addr) (t : Int), vs = [.ref a, .ref b] ∧ Li H a [t] ∧ Li H b [1] ∧ B26 t ∧ Evl.RetL (iV [t]) H Q
section
variable {base : Heap} {mg : Str → Option Value} {K : PySem.W.Frag} {w : World} {P : Program}
theorem ok_upright1 {f : Addr} {fd : FuncData} (F : Fun K "upright" "upright" s_upright f fd) (cP : Cal P w K mg base 2 "primitive" p_primitive spPrim) : FnOk P w K mg base CX0 3 f fd p_upright spUp1 := by
  refine F.ok sc_upright (fun vs H Q E h => ?_) (fun cdv A outer s H vs Q E hr h => ?_)
  · obtain ⟨a, b, rfl, _⟩ := h
    rfl
  · obtain ⟨a, b, rfl, ha, hb, hB, k⟩ := h
    have nd := sc_upright.nd
    refine ⟨_, pss_cons (ps_set (i := 1) nd rfl (Or.inl rfl) (pe_c cP hr (pa_cons (pv 0) pa_nil)))
      (pss_one (ps_ret (pe_ifExp (PW.pt (pw_and (pt_truth (pv 1) (by intro _; rfl)) (pw_and1 (pt_cmpR op_lt (pe_ix ix_list (pv 1) (pe_un un_neg pe_int) (fun _ _ => rfl)) pe_int (nomark _))))) pe_never (pv 1)))), ?_⟩
    refine ⟨_, rfl, a, [b], rfl, ha, by show 1 ≤ 100; decide, ?_, ?_, fun l H1 hl e1 h1 => ?_⟩
    · intro x hx
      obtain rfl := List.mem_singleton.mp hx
      exact Nat.lt_of_lt_of_le hB (Nat.pow_le_pow_right (by decide) (by decide))
    · intro x e
      cases e
      omega
    · rw [prim_1 hb] at h1
      refine ⟨_, rfl, _, tru_list (ns := [1]) h1, if_t rfl ?_⟩
      refine ⟨_, rfl, _, rfl, l, _, _, _, rfl, rfl, SqL.of h1, rfl, _, _, rfl, rfl, _, rfl, if_f (by decide) ?_⟩
      exact ⟨_, rfl, k l H1 hl e1 h1⟩
theorem ok_common1 {f : Addr} {fd : FuncData} (F : Fun K "common_factor" "common_factor" s_common_factor f fd) (cR : Cal P w K mg base 3 "remainder" p_remainder spRemW) (cU : Cal P w K mg base 3 "upright" p_upright spUp1) : FnOk P w K mg base CX0 4 f fd p_common_factor spCf1 := by
  refine F.ok sc_common_factor (fun vs H Q E h => ?_) (fun cdv A outer s H vs Q E hr h => ?_)
  · obtain ⟨a, b, t, m, rfl, _⟩ := h
    rfl
  · obtain ⟨a, b, t, m, rfl, ha, hb, ht, hm, hT, hM, k⟩ := h
    have nd := sc_common_factor.nd
    refine ⟨_, pss_cons (ps_par (i := 2) (j := 3) rfl nd rfl rfl (by decide) rfl rfl (pa_cons (pv 0) (pa_cons (pv 1) pa_nil)) (by rfl))
      (pss_cons (ps_while PassesOwn.never (pt_truth (pv 3) (by intro _; rfl)) (pss_one (ps_par (i := 2) (j := 3) rfl nd rfl rfl (by decide) rfl rfl (pa_cons (pv 3) (pa_cons (pe_c cR hr (pa_cons (pv 2) (pa_cons (pv 3) pa_nil))) pa_nil)) (by rfl))))
      (pss_one (ps_ret (pe_c cU hr (pa_cons (pv 2) pa_nil))))), ?_⟩
    refine ⟨_, rfl, _, rfl, _, _, rfl, ?_⟩
    refine ⟨fun n σ H' => Evl.Ex H H' ∧ ((n = 1 ∧ σ = [some (.ref a), some (.ref b), some (.ref a), some (.ref b)]) ∨ ∃ r, n = 0 ∧ Li H' r [] ∧ σ = [some (.ref a), some (.ref b), some (.ref b), some (.ref r)]), ⟨1, Evl.Ex.refl _, .inl ⟨rfl, rfl⟩⟩, ?_⟩
    rintro n σ H1 ⟨e1, ⟨rfl, rfl⟩ | ⟨r, rfl, hr0, rfl⟩⟩
    · refine ⟨_, rfl, _, tru_list (e1 _ _ hb), if_t rfl ?_⟩
      refine ⟨fun σ H' => ∃ r, Li H' r [] ∧ Evl.Ex H H' ∧ σ = [some (.ref a), some (.ref b), some (.ref b), some (.ref r)], fun σ H' ⟨r, h1, h2, h3⟩ => ⟨0, by decide, h2, .inr ⟨r, rfl, h1, h3⟩⟩, ?_⟩
      have bs : ∀ {x : Int}, B26 x → Bs 4400 [x] := fun h z hz => by
        obtain rfl := List.mem_singleton.mp hz
        exact h
      have p1 : ∀ {x : Int}, x ≠ 0 → Pol [x] := fun h z e => by
        cases e
        exact h
      refine ⟨_, rfl, _, rfl, _, rfl, a, b, [t], [m], 4400, 4400, rfl, e1 _ _ ha, e1 _ _ hb, p1 ht, p1 (by omega), by show 1 ≤ 8; decide, by show 1 ≤ 8; decide, bs hT, bs hM, by simp, by show 4400 + (1 + 1 - 1) * (4400 + 1) ≤ 8900; decide, by decide, fun L hL r H2 hr2 e2 h2 => ?_⟩
      have hL0 : L = [] := List.length_eq_zero_iff.mp (Nat.lt_one_iff.mp hL.2.1)
      subst hL0
      exact ⟨_, _, rfl, r, h2, e1.trans e2, rfl⟩
    · refine ⟨_, rfl, _, tru_list hr0, if_f rfl ?_⟩
      exact ⟨_, rfl, b, m, rfl, e1 _ _ hb, hm, hM, fun l H2 hl e2 h2 => k l H2 (Evl.fresh_back e1 hl) (e1.trans e2) h2⟩
theorem ok_quotient1 {f : Addr} {fd : FuncData} (F : Fun K "quotient" "quotient" s_quotient f fd) (T : T2 mg) (mL : mg "list" = none) : FnOk P w K mg base CX0 1 f fd p_quotient spQ1 := by
  refine F.ok sc_quotient (fun vs H Q E h => ?_) (fun cdv A outer s H vs Q E hr h => ?_)
  · obtain ⟨a, b, t, rfl, _⟩ := h
    rfl
  · obtain ⟨a, b, t, rfl, ha, hb, hT, k⟩ := h
    have nd := sc_quotient.nd
    refine ⟨_, pss_cons (ps_set (i := 2) nd rfl (Or.inl rfl) (pe_callTy call_list_of (by rfl) mL (by decide +kernel) (pa_cons (pv 0) pa_nil)))
      (pss_cons (ps_set (i := 3) nd rfl (Or.inl rfl) (pe_op op_add (pe_op op_sub (pe_callB call_len_seq (by rfl) T.len PySem.boot_len (pa_cons (pv 0) pa_nil)) (pe_callB call_len_seq (by rfl) T.len PySem.boot_len (pa_cons (pv 1) pa_nil))) pe_int))
      (pss_cons (ps_set (i := 4) nd rfl (Or.inl rfl) (pe_op op_rep (pe_lst (pa_cons pe_int pa_nil)) (pv 3)))
      (pss_cons (ps_for PassesOwn.never rfl (pi_range3 (by rfl) T.rng (pa_cons (pe_op op_sub (pv 3) pe_int) (pa_cons (pe_un un_neg pe_int) (pa_cons (pe_un un_neg pe_int) pa_nil)))) (pg_name (i := 5) nd rfl (Or.inl rfl))
        (pss_cons (ps_asg (pe_op op_fdivW (pe_ix ix_list (pv 2) (pe_op op_sub (pe_op op_add (pv 5) (pe_callB call_len_seq (by rfl) T.len PySem.boot_len (pa_cons (pv 1) pa_nil))) pe_int) (fun _ _ => rfl)) (pe_ix ix_list (pv 1) (pe_un un_neg pe_int) (fun _ _ => rfl))) (pg_sub (pv 4) (pv 5) set_list))
        (pss_one (ps_for PassesOwn.never rfl (pi_enum (by rfl) T.enu (pa_cons (pv 1) pa_nil)) (pg_tup rfl (pgs_cons (pg_name (i := 6) nd rfl (Or.inl rfl)) (pgs_cons (pg_name (i := 7) nd rfl (Or.inl rfl)) pgs_nil)))
          (pss_one (ps_asg (pe_op op_sub (pe_ix ix_list (pv 2) (pe_op op_add (pv 5) (pv 6)) (fun _ _ => rfl)) (pe_op op_mulW (pe_ix ix_list (pv 4) (pv 5) (fun _ _ => rfl)) (pv 7))) (pg_sub (pv 2) (pe_op op_add (pv 5) (pv 6)) set_list)))))))
      (pss_one (ps_ret (pv 4)))))), ?_⟩
    have one : 1 ≤ sizeLine := by show 1 ≤ sizeLine; decide
    refine ⟨_, rfl, a, _, rfl, .inl ha.sq, fun l hl => ?_⟩
    have e1 := Evl.Ex.new (o := .lst (iV [t])) hl
    have u1 : Li (upd H l (.lst (iV [t]))) l [t] := upd_same
    generalize upd H l (.lst (iV [t])) = H1 at e1 u1
    refine ⟨_, rfl, a, _, rfl, .inl (SqL.of (e1 _ _ ha)), _, rfl, b, _, rfl, .inl (SqL.of (e1 _ _ hb)), _, _, rfl, rfl, _, _, rfl, rfl, ?_⟩
    have em : ((iV [t]).length : Int) - ((iV [1]).length : Int) + 1 = 1 := rfl
    dsimp only
    rw [em]
    refine ⟨one, fun p hp => ⟨_, rfl, p, _, _, rfl, rfl, upd_same, by decide, by decide, by decide, fun q hq => ?_⟩⟩
    have e2 := (Evl.Ex.new (o := .lst [.int 0]) hp).trans (Evl.Ex.new (o := .lst [.int 0]) hq)
    have hq1 : H1 q = none := Evl.fresh_back (Evl.Ex.new hp) hq
    have u2 : Li (upd (upd H1 p (.lst [.int 0])) q (.lst [.int 0])) q [0] := upd_same
    have nlq : l ≠ q := ne_of_none u1 hq1
    replace u1 := e2 _ _ u1
    have e3 := e1.trans e2
    have e12 : Evl.Ex H (upd H1 p (.lst [.int 0])) := e1.trans (Evl.Ex.new hp)
    have fq : H q = none := Evl.fresh_back e12 hq
    generalize hG : upd (upd H1 p (.lst [.int 0])) q (.lst [.int 0]) = H2 at e3 u1 u2
    have hG' : upd (upd H1 p (.lst [.int 0])) q (.lst (List.replicate (1 : Int).toNat [V.int 0]).flatten) = H2 := hG
    rw [hG']
    refine ⟨_, rfl, _, _, rfl, rfl, _, rfl, _, rfl, 0, -1, -1, 1, rfl, ⟨by decide, by decide, by decide, by decide⟩, for_rangeC (n := 1) (fun i σ H' => ∃ v5 v6 v7, σ = [some (.ref a), some (.ref b), some (.ref l), some (.int 1), some (.ref q), v5, v6, v7] ∧ (∀ c o, c ≠ l → c ≠ q → H2 c = some o → H' c = some o) ∧ Li H' l [if i = 0 then t else 0] ∧ Li H' q [if i = 0 then 0 else t]) ⟨_, _, _, rfl, fun _ _ _ _ h => h, u1, u2⟩ ?_ ?_⟩
    · rintro i σ H3 hi ⟨v5, v6, v7, rfl, k3, u3, q3⟩
      obtain rfl : i = 0 := by omega
      have bl : b ≠ l := ne_of_none (show H b = some _ from hb) hl
      have bq : b ≠ q := ne_of_none (show H b = some _ from hb) fq
      have hb3 : Li H3 b [1] := k3 _ _ bl bq (e3 _ _ hb)
      refine ⟨_, rfl, _, rfl, _, rfl, b, _, rfl, .inl (SqL.of hb3), _, _, rfl, rfl, _, _, rfl, rfl, l, _, _, _, rfl, rfl, SqL.of u3, rfl, _, rfl, _, rfl, b, _, _, _, rfl, rfl, SqL.of hb3, rfl, _, _, rfl, rfl, wide_div (b := 1) (by decide) (by decide) (by decide) (by decide), ?_⟩
      refine ⟨_, rfl, _, rfl, q, _, _, 0, rfl, rfl, q3, by rfl, ?_⟩
      have hb4 : Li (upd H3 q (.lst ((iV [if 0 = 0 then 0 else t]).set 0 (.int ((if 0 = 0 then t else 0) / 1))))) b [1] := Eq.trans (upd_ne bq) hb3
      have l4 : Li (upd H3 q (.lst ((iV [if 0 = 0 then 0 else t]).set 0 (.int ((if 0 = 0 then t else 0) / 1))))) l [t] := Eq.trans (upd_ne nlq) u3
      have q4 : Li (upd H3 q (.lst ((iV [if 0 = 0 then 0 else t]).set 0 (.int ((if 0 = 0 then t else 0) / 1))))) q [t] := by
        unfold Li
        rw [upd_same]
        show some (HO.lst [V.int (t / 1)]) = some (HO.lst [V.int t])
        rw [Int.ediv_one]
      have k4 : ∀ c o, c ≠ l → c ≠ q → H2 c = some o → upd H3 q (.lst ((iV [if 0 = 0 then 0 else t]).set 0 (.int ((if 0 = 0 then t else 0) / 1)))) c = some o := fun c o cl cq h => by
        rw [upd_ne cq]
        exact k3 c o cl cq h
      generalize upd H3 q (.lst ((iV [if 0 = 0 then 0 else t]).set 0 (.int ((if 0 = 0 then t else 0) / 1)))) = H4 at hb4 l4 q4 k4
      refine ⟨_, rfl, b, _, rfl, SqL.of hb4, for_it walk_enum (fun j σ H5 => ∃ v6 v7, σ = [some (.ref a), some (.ref b), some (.ref l), some (.int 1), some (.ref q), some (.int (0 + ((0 : Nat) : Int) * -1)), v6, v7] ∧ (∀ c o, c ≠ l → c ≠ q → H2 c = some o → H5 c = some o) ∧ Li H5 l [if j = 0 then t else 0] ∧ Li H5 q [t])
        ⟨_, _, rfl, k4, l4, q4⟩ (fun j σ H5 _ ⟨_, _, _, kk, _⟩ => SqL.of (kk _ _ bl bq (e3 _ _ hb))) ?_ ?_⟩
      · rintro j x σ H5 H6 hj ⟨v6, v7, rfl, k5, l5, q5⟩ ⟨T2, z, y, rfl, hT2, rfl, hz, hy⟩
        obtain rfl : j = 0 := by
          have : j < 1 := hj
          omega
        obtain rfl := (Option.some.inj hz).symm
        obtain rfl : y = .int 1 := (Option.some.inj hy).symm
        have nT2l : T2 ≠ l := (ne_of_none l5 hT2).symm
        have nT2q : T2 ≠ q := (ne_of_none q5 hT2).symm
        refine ⟨T2, _, rfl, SqT.of upd_same, rfl, _, _, rfl, _, _, rfl, rfl, ?_⟩
        have l6 : Li (upd H5 T2 (.tup [.int ((0 : Nat) : Int), .int 1])) l [t] := Eq.trans (upd_ne nT2l.symm) l5
        have q6 : Li (upd H5 T2 (.tup [.int ((0 : Nat) : Int), .int 1])) q [t] := Eq.trans (upd_ne nT2q.symm) q5
        refine ⟨_, rfl, _, rfl, _, rfl, _, _, rfl, rfl, l, _, _, _, rfl, rfl, SqL.of l6, rfl, _, rfl, _, rfl, q, _, _, _, rfl, rfl, SqL.of q6, rfl, _, rfl, _, _, rfl, rfl, ?_, _, _, rfl, rfl, ?_⟩
        · exact wide_mul (a := 4400) (b := 1) hT (by decide) (by decide) (by decide) (by decide)
        refine ⟨_, rfl, _, rfl, _, rfl, _, _, rfl, rfl, l, _, _, 0, rfl, rfl, l6, by rfl, ?_⟩
        refine ⟨_, _, rfl, fun c o cl cq h => ?_, ?_, ?_⟩
        · rw [upd_ne cl, upd_ne (ne_of_none (k5 c o cl cq h) hT2)]
          exact k5 c o cl cq h
        · unfold Li
          rw [upd_same]
          show some (HO.lst [V.int (t - t * 1)]) = some (HO.lst [V.int 0])
          rw [Int.mul_one, Int.sub_self]
        · exact Eq.trans (upd_ne nlq.symm) q6
      · rintro σ H5 ⟨v6, v7, rfl, k5, l5, q5⟩
        exact ⟨_, _, _, rfl, k5, l5, q5⟩
    · rintro σ H3 ⟨v5, v6, v7, rfl, k3, u3, q3⟩
      refine ⟨_, rfl, k q H3 fq (fun c o h => k3 c o (ne_of_none h hl) (ne_of_none h fq) (e3 _ _ h)) q3⟩
/-- top by bottom, constants: the tuple of two lists -/
def spRed1 : Sp := fun vs H Q _ => ∃ (a b : Addr) (t m : Int), vs = [.ref a, .ref b] ∧ Li H a (cp t) ∧ Li H b [m] ∧ 0 < m ∧ B26 t ∧ B26 m ∧
  ∀ (q x y : Addr) (H' : Hp), H x = none → H y = none → Evl.Ex H H' → H' q = some (.tup [.ref x, .ref y]) → Li H' x (cp (fr t m).1) → Li H' y [(fr t m).2] → Q (.ref q) H'
theorem B26.g {t m : Int} (hm : 0 < m) (h : B26 m) : 0 < ((Int.gcd t m : Nat) : Int) ∧ B26 ((Int.gcd t m : Nat) : Int) := by
  have h0 : 0 < Int.gcd t m := Int.gcd_pos_of_ne_zero_right _ (by omega)
  refine ⟨by omega, ?_⟩
  unfold B26
  rw [Int.natAbs_natCast]
  refine Nat.lt_of_le_of_lt (Nat.le_of_dvd (by omega) ?_) h
  exact Int.natAbs_dvd_natAbs.mpr (Int.gcd_dvd_right _ _) |> (by simpa using ·)
theorem ok_reduced1 {f : Addr} {fd : FuncData} (F : Fun K "reduced" "reduced" s_reduced f fd) (mG : mg "gcd" = some (.builtin "math.gcd")) (cF : Cal P w K mg base 4 "common_factor" p_common_factor spCf1) (cQ : Cal P w K mg base 1 "quotient" p_quotient spQ1) (cC : Cal P w K mg base 1 "content" p_content (spCont K)) : FnOk P w K mg base CX0 5 f fd p_reduced spRed1 := by
  refine F.ok sc_reduced (fun vs H Q E h => ?_) (fun cdv A outer s H vs Q E hr h => ?_)
  · obtain ⟨a, b, t, m, rfl, _⟩ := h
    rfl
  · obtain ⟨a, b, t, m, rfl, ha, hb, hm, hT, hM, k⟩ := h
    have nd := sc_reduced.nd
    have r1 : Room 1 _ := hr.mono (by decide)
    have two : 2 ≤ sizeLine := by show 2 ≤ sizeLine; decide
    refine ⟨_, pss_cons (ps_if (pt_not (pt_truth (pv 0) (by intro _; rfl))) (pss_one (ps_ret (pe_tup (pa_cons (pe_lst pa_nil) (pa_cons (pe_lst (pa_cons pe_int pa_nil)) pa_nil))))) pss_nil)
      (pss_cons (ps_set (i := 2) nd rfl (Or.inl rfl) (pe_c cF hr (pa_cons (pv 0) (pa_cons (pv 1) pa_nil))))
      (pss_cons (ps_par (i := 3) (j := 4) rfl nd rfl rfl (by decide) rfl rfl (pa_cons (pe_c cQ r1 (pa_cons (pv 0) (pa_cons (pv 2) pa_nil))) (pa_cons (pe_c cQ r1 (pa_cons (pv 1) (pa_cons (pv 2) pa_nil))) pa_nil)) (by rfl))
      (pss_cons (ps_set (i := 5) nd rfl (Or.inr rfl) (pe_callBfun cr_gcd (by rfl) mG (pa_cons (pe_c cC r1 (pa_cons (pv 3) pa_nil)) (pa_cons (pe_c cC r1 (pa_cons (pv 4) pa_nil)) pa_nil))))
      (pss_one (ps_ret (pe_tup (pa_cons (pe_lc (own := [("part", 6)]) (g := gName 6) (tt := tYes) (te := tOp (rI CDivW fun i j => .int (i / j)) (tVar 6) (tVar 5)) rfl nd (pi_list (pv 3)) (blkOk_by (N := n_reduced) (sc := defScope s_reduced) (by decide +kernel)) (fun _ _ _ _ _ => pg_name (i := 6) nd rfl (Or.inl rfl)) (fun _ _ _ _ _ => pts_nil) (fun _ _ _ _ _ => pe_op op_fdivW (pv 6) (pv 5)))
        (pa_cons (pe_lc (own := [("part", 6)]) (g := gName 6) (tt := tYes) (te := tOp (rI CDivW fun i j => .int (i / j)) (tVar 6) (tVar 5)) rfl nd (pi_list (pv 4)) (blkOk_by (N := n_reduced) (sc := defScope s_reduced) (by decide +kernel)) (fun _ _ _ _ _ => pg_name (i := 6) nd rfl (Or.inl rfl)) (fun _ _ _ _ _ => pts_nil) (fun _ _ _ _ _ => pe_op op_fdivW (pv 6) (pv 5))) pa_nil)))))))), ?_⟩
    refine ⟨_, rfl, _, tru_list ha, ?_⟩
    by_cases h0 : t = 0
    · subst h0
      refine if_t rfl ⟨Nat.zero_le _, fun x hx => ⟨by show 1 ≤ sizeLine; decide, fun y hy => ⟨two, fun q hq => ?_⟩⟩⟩
      have e1 := Evl.Ex.new (o := .lst []) hx
      have e2 := Evl.Ex.new (o := .lst [.int 1]) hy
      have e3 := Evl.Ex.new (o := .tup [.ref x, .ref y]) hq
      have f0 : fr 0 m = (0, 1) := by
        have := fr_eq (a := 0) (b := m) (c := 0) (d := 1) hm (by decide) (by omega)
        rw [this]
        exact fr_same (by decide) (by decide)
      refine k q x y _ hx (Evl.fresh_back e1 hy) ((e1.trans e2).trans e3) upd_same ?_ ?_
      · rw [f0]
        exact e3 _ _ (e2 _ _ upd_same)
      · rw [f0]
        exact e3 _ _ upd_same
    · rw [cp_n h0] at ha
      obtain ⟨g0, gB⟩ := B26.g (t := t) hm hM
      refine if_f (by rw [cp_n h0]; rfl) ?_
      refine ⟨_, rfl, _, rfl, a, b, t, m, rfl, ha, hb, h0, hm, hT, hM, fun F1 H1 hF1 e1 h1 => ?_⟩
      refine ⟨_, rfl, _, rfl, a, F1, t, rfl, e1 _ _ ha, h1, hT, fun x H2 hx e2 h2 => ?_⟩
      refine ⟨_, rfl, _, rfl, b, F1, m, rfl, e2 _ _ (e1 _ _ hb), e2 _ _ h1, hM, fun y H3 hy e3 h3 => ⟨_, _, rfl, ?_⟩⟩
      refine ⟨_, rfl, x, [t], rfl, e3 _ _ h2, fun H4 e4 => ?_⟩
      refine ⟨_, rfl, y, [m], rfl, e4 _ _ h3, fun H5 e5 => ⟨_, _, rfl, ?_⟩⟩
      rw [cont_1, cont_1]
      have eg : ((Nat.gcd ((t.natAbs : Nat) : Int).natAbs ((m.natAbs : Nat) : Int).natAbs : Nat) : Int) = ((Int.gcd t m : Nat) : Int) := by
        rw [Int.natAbs_natCast, Int.natAbs_natCast]
        rfl
      dsimp only
      rw [eg]
      generalize hge : ((Int.gcd t m : Nat) : Int) = g at g0 gB
      have x5 : Li H5 x [t] := e5 _ _ (e4 _ _ (e3 _ _ h2))
      have y5 : Li H5 y [m] := e5 _ _ (e4 _ _ h3)
      have e05 := ((((e1.trans e2).trans e3).trans e4).trans e5)
      refine ⟨_, rfl, x, rfl, ⟨_, SqL.of x5⟩, fun D hD => lc_list (xs := iV [t]) (fun i H' => Evl.Ex H5 H' ∧ H' D = some (.lst (iV (if i = 0 then [] else [t / g])))) ⟨Evl.Ex.new hD, upd_same⟩ (fun i H' _ q => SqL.of (q.1 _ _ x5)) ?_ ?_⟩
      · rintro i v H6 hi ⟨e6, h6⟩
        have i0 : i = 0 := by
          have : i < 1 := (List.getElem?_eq_some_iff.mp hi).1
          omega
        subst i0
        obtain rfl : v = .int t := (Option.some.inj hi).symm
        refine ⟨rfl, ?_⟩
        show tOp (rI CDivW fun i j => .int (i / j)) (tVar 6) (tVar 5) _ _ _
        exact ⟨_, rfl, _, rfl, _, _, rfl, rfl, wide_div (b := 4400) g0 gB (by decide) (by decide), _, h6, by show 0 < sizeLine; decide, Evl.Ex.mut e6 hD, upd_same⟩
      · rintro H6 ⟨e6, h6⟩
        have y6 : Li H6 y [m] := e6 _ _ y5
        refine ⟨_, rfl, y, rfl, ⟨_, SqL.of y6⟩, fun D2 hD2 => lc_list (xs := iV [m]) (fun i H' => Evl.Ex H6 H' ∧ H' D2 = some (.lst (iV (if i = 0 then [] else [m / g])))) ⟨Evl.Ex.new hD2, upd_same⟩ (fun i H' _ q => SqL.of (q.1 _ _ y6)) ?_ ?_⟩
        · rintro i v H7 hi ⟨e7, h7⟩
          have i0 : i = 0 := by
            have : i < 1 := (List.getElem?_eq_some_iff.mp hi).1
            omega
          subst i0
          obtain rfl : v = .int m := (Option.some.inj hi).symm
          refine ⟨rfl, ?_⟩
          show tOp (rI CDivW fun i j => .int (i / j)) (tVar 6) (tVar 5) _ _ _
          exact ⟨_, rfl, _, rfl, _, _, rfl, rfl, wide_div (b := 4400) g0 gB (by decide) (by decide), _, h7, by show 0 < sizeLine; decide, Evl.Ex.mut e7 hD2, upd_same⟩
        · rintro H7 ⟨e7, h7⟩
          refine ⟨two, fun q hq => ?_⟩
          have e8 := Evl.Ex.new (o := .tup [.ref D, .ref D2]) hq
          have ft : fr t m = (t / g, m / g) := by
            unfold fr
            rw [hge]
          have tg : t / g ≠ 0 := by
            have h1 := (fr_mul (u := t) hm).1
            rw [ft] at h1
            intro z
            rw [show (t / g, m / g).1 = t / g from rfl, z, Int.zero_mul] at h1
            exact h0 h1
          refine k q D D2 _ (Evl.fresh_back e05 hD) (Evl.fresh_back (e05.trans e6) hD2) (((e05.trans e6).trans e7).trans e8) upd_same ?_ ?_
          · rw [ft, cp_n tg]
            exact e8 _ _ (e7 _ _ h6)
          · rw [ft]
            exact e8 _ _ h7
end
end V2


namespace PySem
mutual
inductive ReadsS (h : Heap) : Value → PyData → Prop
  | none : ReadsS h .none .none
  | bool (b : Bool) : ReadsS h (.bool b) (.bool b)
  | int (i : Int) (t : Tok) : ReadsS h (.int i t) (.int i)
  | str (x : Str) (t : Tok) : ReadsS h (.str x t) (.str x)
  | list {a : Addr} {o : Obj} {vs : Array Value} {n : Nat} {xs : List PyData} : h.get? a = some o → o.cls = .type "list" → o.data = .seq vs n → ReadsAllS h vs.toList xs → ReadsS h (.ref a) (.list xs)
  | tuple {a : Addr} {o : Obj} {vs : Array Value} {n : Nat} {xs : List PyData} : h.get? a = some o → o.cls = .type "tuple" → o.data = .seq vs n → ReadsAllS h vs.toList xs → ReadsS h (.ref a) (.tuple xs)
  | dict {a : Addr} {o : Obj} {es : Array DictEntry} {n : Nat} {kvs : List (PyData × PyData)} : h.get? a = some o → o.cls = .type "dict" → o.data = .dict es n → (a == sysModules) = false → ReadsAllS h (es.toList.map (·.key)) (kvs.map (·.1)) →
      ReadsAllS h (es.toList.map (·.val)) (kvs.map (·.2)) → ReadsS h (.ref a) (.dict kvs)
inductive ReadsAllS (h : Heap) : List Value → List PyData → Prop
  | nil : ReadsAllS h [] []
  | cons {v : Value} {vs : List Value} {d : PyData} {ds : List PyData} : ReadsS h v d → ReadsAllS h vs ds → ReadsAllS h (v :: vs) (d :: ds)
end
section
variable {h : Heap}
mutual
theorem ReadsS.reads : ∀ {v : Value} {d : PyData}, ReadsS h v d → ∃ as, Reads h v d as
  | _, _, .none => ⟨_, .none⟩
  | _, _, .bool b => ⟨_, .bool b⟩
  | _, _, .int i t => ⟨_, .int i t⟩
  | _, _, .str x t => ⟨_, .str x t⟩
  | _, _, .list h1 h2 h3 h4 => let ⟨_, r⟩ := ReadsAllS.reads h4; ⟨_, .list h1 h2 h3 r⟩
  | _, _, .tuple h1 h2 h3 h4 => let ⟨_, r⟩ := ReadsAllS.reads h4; ⟨_, .tuple h1 h2 h3 r⟩
  | _, _, .dict h1 h2 h3 _ h4 h5 => let ⟨_, r⟩ := ReadsAllS.reads h4; let ⟨_, q⟩ := ReadsAllS.reads h5; ⟨_, .dict h1 h2 h3 r q⟩
theorem ReadsAllS.reads : ∀ {vs : List Value} {ds : List PyData}, ReadsAllS h vs ds → ∃ as, ReadsAll h vs ds as
  | _, _, .nil => ⟨_, .nil⟩
  | _, _, .cons r q => let ⟨_, a⟩ := ReadsS.reads r; let ⟨_, b⟩ := ReadsAllS.reads q; ⟨_, .cons a b⟩
end
end
section
variable {prog : Program} {w : World} {h₀ : Heap}
end
end PySem
namespace V2
open PySem L2
open PySem.Spec PyProof.Rows
mutual
/-- v is the data d, where the abstract heap is H -/
inductive Dq (H : Hp) : V → PyData → Prop
  | non : Dq H .non .none
  | bl (b : Bool) : Dq H (.bl b) (.bool b)
  | int (i : Int) : Dq H (.int i) (.int i)
  | str (x : Str) : Dq H (.str x) (.str x)
  | lst {a : Addr} {xs : List V} {ds : List PyData} : H a = some (.lst xs) → DqAll H xs ds → Dq H (.ref a) (.list ds)
  | tup {a : Addr} {xs : List V} {ds : List PyData} : H a = some (.tup xs) → DqAll H xs ds → Dq H (.ref a) (.tuple ds)
  | dct {a : Addr} {x : Str} {w : V} {d : PyData} : H a = some (.dK [(.inr x, w)]) → Dq H w d → Dq H (.ref a) (.dict [(.str x, d)])
inductive DqAll (H : Hp) : List V → List PyData → Prop
  | nil : DqAll H [] []
  | cons {v : V} {vs : List V} {d : PyData} {ds : List PyData} : Dq H v d → DqAll H vs ds → DqAll H (v :: vs) (d :: ds)
end
mutual
theorem Dq.go {H H' : Hp} : ∀ {d : PyData} {v : V}, Dq H v d → Evl.Ex H H' → Dq H' v d
  | _, _, .non, _ => .non
  | _, _, .bl b, _ => .bl b
  | _, _, .int i, _ => .int i
  | _, _, .str x, _ => .str x
  | _, _, .lst h r, e => .lst (e _ _ h) (DqAll.go r e)
  | _, _, .tup h r, e => .tup (e _ _ h) (DqAll.go r e)
  | _, _, .dct h r, e => .dct (e _ _ h) (Dq.go r e)
theorem DqAll.go {H H' : Hp} : ∀ {ds : List PyData} {vs : List V}, DqAll H vs ds → Evl.Ex H H' → DqAll H' vs ds
  | _, _, .nil, _ => .nil
  | _, _, .cons a b, e => .cons (Dq.go a e) (DqAll.go b e)
end
section
variable {X : Cx} {pins : List (Addr × Obj)} {σ : L2.St} {H : Hp} {s : Shared}
mutual
theorem Dq.reads (I : Inv X pins σ H s) : ∀ {d : PyData} {v : V}, Dq H v d → ∀ {u : Value}, RelV v u → ReadsS s.heap u d
  | _, _, .non, _, r => by
    cases r
    exact .none
  | _, _, .bl b, _, r => by
    cases r
    exact .bool b
  | _, _, .int i, _, r => by
    obtain ⟨t, rfl⟩ := r
    exact .int i t
  | _, _, .str x, _, r => by
    obtain ⟨t, rfl⟩ := r
    exact .str x t
  | _, _, .lst h q, _, r => by
    cases r
    obtain ⟨_, its, n, rv, ho⟩ := I.hok _ _ h
    exact .list ho rfl rfl (by simpa using DqAll.reads I q rv)
  | _, _, .tup h q, _, r => by
    cases r
    obtain ⟨_, its, rv, o, ho, hc, n, hd⟩ := I.hok _ _ h
    exact .tuple ho hc hd (by simpa using DqAll.reads I q rv)
  | _, _, .dct h q, _, r => by
    cases r
    obtain ⟨_, hsys, vs, kv, o, es, ep, ho, ⟨hc, _, _⟩, hd, _, hp, _⟩ := dk_of I.hok h
    obtain ⟨p1, p2, rfl, e1, e2⟩ : ∃ p1 p2, vs = [(p1, p2)] ∧ Sum.inr _ = p1 ∧ RelV _ p2 := by
      cases kv with
      | cons r1 r2 =>
        cases r2
        exact ⟨_, _, rfl, r1.1, r1.2⟩
    · subst e1
      refine .dict ho hc hd hsys ?_ ?_
      · generalize es.toList = l at hp
        cases hp with
        | cons a1 a2 a3 =>
          cases a3
          have z1 := a1
          rw [mixKind_is] at z1
          rcases keyIs_shape z1 with ⟨_, _, z, _⟩ | ⟨x', t, z, ht⟩
          · cases z
          cases z
          rw [List.map_cons, List.map_nil, ht]
          exact .cons (.str _ _) .nil
      · generalize es.toList = l at hp
        cases hp with
        | cons a1 a2 a3 =>
          cases a3
          rw [List.map_cons, List.map_nil, a2]
          exact .cons (Dq.reads I q e2) .nil
theorem DqAll.reads (I : Inv X pins σ H s) : ∀ {ds : List PyData} {vs : List V}, DqAll H vs ds → ∀ {us : List Value}, Vals vs us → ReadsAllS s.heap us ds
  | _, _, .nil, _, r => by
    cases r
    exact .nil
  | _, _, .cons a b, _, r => by
    cases r with
    | cons r1 r2 => exact .cons (Dq.reads I a r1) (DqAll.reads I b r2)
end
end
end V2


namespace V2
open PySem L2
open PySem.Spec PyProof.Rows
/-- what is new -/
def Nw (H H' : Hp) : Hp := fun b => if (H b).isSome = true then none else H' b
theorem Nw.ex {H H' : Hp} : Evl.Ex (Nw H H') H' := fun b o h => by
  unfold Nw at h
  split at h
  · cases h
  · exact h
theorem nw_at {H H' : Hp} {b : Addr} {o : HO} (n : H b = none) (h : H' b = some o) : Nw H H' b = some o := by
  unfold Nw
  rw [n]
  exact h
theorem nw_none {H H' : Hp} {b : Addr} {o : HO} (h : Nw H H' b = some o) : H b = none := by
  unfold Nw at h
  split at h
  · cases h
  · rename_i z
    cases e : H b with
    | none => rfl
    | some x =>
      rw [e] at z
      exact absurd rfl z
/-- data of lists and tuples, n deep at most -/
inductive Cp : Nat → PyData → Prop
  | non {n : Nat} : Cp n .none
  | bl {n : Nat} (b : Bool) : Cp n (.bool b)
  | int {n : Nat} (i : Int) : Cp n (.int i)
  | str {n : Nat} (x : Str) : Cp n (.str x)
  | lst {n : Nat} {ds : List PyData} : ds.length ≤ 100 → (∀ d ∈ ds, Cp n d) → Cp (n + 1) (.list ds)
  | tup {n : Nat} {ds : List PyData} : ds.length ≤ 100 → (∀ d ∈ ds, Cp n d) → Cp (n + 1) (.tuple ds)
theorem DqAll.len {H : Hp} : ∀ {ds : List PyData} {vs : List V}, DqAll H vs ds → vs.length = ds.length
  | _, _, .nil => rfl
  | _, _, .cons _ b => congrArg Nat.succ b.len
theorem DqAll.get {H : Hp} : ∀ {ds : List PyData} {vs : List V} {i : Nat} {v : V}, DqAll H vs ds → vs[i]? = some v → ∃ d, ds[i]? = some d ∧ Dq H v d
  | _, _, _, _, .nil, h => by cases h
  | _, _, 0, _, .cons a _, h => by
    cases h
    exact ⟨_, rfl, a⟩
  | _, _, i + 1, _, .cons _ b, h => b.get (i := i) h
theorem DqAll.snoc {H : Hp} : ∀ {ds : List PyData} {vs : List V} {v : V} {d : PyData}, DqAll H vs ds → Dq H v d → DqAll H (vs ++ [v]) (ds ++ [d])
  | _, _, _, _, .nil, h => .cons h .nil
  | _, _, _, _, .cons a b, h => .cons a (b.snoc h)
theorem ds_take {ds : List PyData} {i : Nat} {d : PyData} (h : ds[i]? = some d) : ds.take (i + 1) = ds.take i ++ [d] := by
  rw [List.take_add_one, h]
  rfl
def spCp (n : Nat) : Sp := fun vs H Q _ => ∃ (v : V) (d : PyData), vs = [v] ∧ Dq H v d ∧ Cp n d ∧ ∀ v' H', Evl.Ex H H' → Dq (Nw H H') v' d → Q v' H'
structure T5 (mg : Str → Option Value) : Prop where
  isi : mg "isinstance" = none
  lst : mg "list" = none
  tup : mg "tuple" = none
section
variable {base : Heap} {mg : Str → Option Value} {K : PySem.W.Frag} {w : World} {P : Program}
theorem ok_copied0 {f : Addr} {fd : FuncData} (F : Fun K "copied" "copied" s_copied f fd) (T : T5 mg) : FnOk P w K mg base CX0 1 f fd p_copied (spCp 0) := by
  refine F.ok sc_copied (fun vs H Q E h => ?_) (fun cdv A outer s H vs Q E hr h => ?_)
  · obtain ⟨v, d, rfl, _⟩ := h
    rfl
  · obtain ⟨v, d, rfl, hd, hc, k⟩ := h
    refine ⟨_, pss_cons (ps_if (pt_val (pe_callB call_isi (by rfl) T.isi (by decide +kernel) (pa_cons (pv 0) (pa_cons (pe_bltn (v := .ty "list") (by rfl) T.lst (by decide +kernel) rfl) pa_nil)))) (pss_one ps_never) pss_nil)
      (pss_cons (ps_if (pt_val (pe_callB call_isi (by rfl) T.isi (by decide +kernel) (pa_cons (pv 0) (pa_cons (pe_bltn (v := .ty "tuple") (by rfl) T.tup (by decide +kernel) rfl) pa_nil)))) (pss_one ps_never) pss_nil)
      (pss_one (ps_ret (pv 0)))), ?_⟩
    cases hc with
    | non =>
      cases hd
      exact ⟨_, rfl, _, _, _, _, false, rfl, .ty "list", .base .non, kit_ty (by decide +kernel), false, rfl, if_f rfl ⟨_, rfl, _, _, _, _, false, rfl, .ty "tuple", .base .non, kit_ty (by decide +kernel), false, rfl, if_f rfl ⟨_, rfl, k _ _ (Evl.Ex.refl _) .non⟩⟩⟩
    | bl b =>
      cases hd
      exact ⟨_, rfl, _, _, _, _, false, rfl, .ty "list", .base (.bl b), kit_ty (by decide +kernel), false, rfl, if_f rfl ⟨_, rfl, _, _, _, _, false, rfl, .ty "tuple", .base (.bl b), kit_ty (by decide +kernel), false, rfl, if_f rfl ⟨_, rfl, k _ _ (Evl.Ex.refl _) (.bl b)⟩⟩⟩
    | int i =>
      cases hd
      exact ⟨_, rfl, _, _, _, _, false, rfl, .ty "list", .base (.int i), kit_ty (by decide +kernel), false, rfl, if_f rfl ⟨_, rfl, _, _, _, _, false, rfl, .ty "tuple", .base (.int i), kit_ty (by decide +kernel), false, rfl, if_f rfl ⟨_, rfl, k _ _ (Evl.Ex.refl _) (.int i)⟩⟩⟩
    | str x =>
      cases hd
      exact ⟨_, rfl, _, _, _, _, false, rfl, .ty "list", .base (.str x), kit_ty (by decide +kernel), false, rfl, if_f rfl ⟨_, rfl, _, _, _, _, false, rfl, .ty "tuple", .base (.str x), kit_ty (by decide +kernel), false, rfl, if_f rfl ⟨_, rfl, k _ _ (Evl.Ex.refl _) (.str x)⟩⟩⟩
/-- the turns of the comprehension -/
theorem cp_turns {H H1 H2 H3 : Hp} {D : Addr} {v' : V} {acc : List V} {ds : List PyData} {d : PyData} (hD : H1 D = none) (e0 : Evl.Ex H H1) (e1 : Evl.Ex H1 H2) (hD2 : H2 D = some (.lst acc)) (ha : DqAll (Nw H (fun b => if b = D then none else H2 b)) acc ds) (e2 : Evl.Ex H2 H3) (hd : Dq (Nw H2 H3) v' d) :
    DqAll (Nw H (fun b => if b = D then none else upd H3 D (.lst (acc ++ [v'])) b)) (acc ++ [v']) (ds ++ [d]) := by
  have hHD : H D = none := Evl.fresh_back e0 hD
  refine DqAll.snoc (ha.go fun b o h => ?_) (hd.go fun b o h => ?_)
  · have n := nw_none h
    have z := Nw.ex _ _ h
    by_cases hb : b = D
    · rw [if_pos hb] at z
      cases z
    · rw [if_neg hb] at z
      refine nw_at n ?_
      show (if b = D then none else upd H3 D (.lst (acc ++ [v'])) b) = some o
      rw [if_neg hb, upd_ne hb]
      exact e2 _ _ z
  · have n := nw_none h
    have z := Nw.ex _ _ h
    have hb : b ≠ D := fun q => by
      rw [q, hD2] at n
      cases n
    refine nw_at (Evl.fresh_back (e0.trans e1) n) ?_
    show (if b = D then none else upd H3 D (.lst (acc ++ [v'])) b) = some o
    rw [if_neg hb, upd_ne hb]
    exact z
theorem ok_copiedS {n k : Nat} {f : Addr} {fd : FuncData} (F : Fun K "copied" "copied" s_copied f fd) (T : T5 mg) (c0 : Cal P w K mg base k "copied" p_copied (spCp n)) : FnOk P w K mg base CX0 (k + 1) f fd p_copied (spCp (n + 1)) := by
  refine F.ok sc_copied (fun vs H Q E h => ?_) (fun cdv A outer s H vs Q E hr h => ?_)
  · obtain ⟨v, d, rfl, _⟩ := h
    rfl
  · obtain ⟨v, d, rfl, hd, hc, kk⟩ := h
    have nd := sc_copied.nd
    cases hc with
    | non =>
      cases hd
      refine ⟨_, pss_cons (ps_if (pt_val (pe_callB call_isi (by rfl) T.isi (by decide +kernel) (pa_cons (pv 0) (pa_cons (pe_bltn (v := .ty "list") (by rfl) T.lst (by decide +kernel) rfl) pa_nil)))) (pss_one ps_never) pss_nil)
        (pss_cons (ps_if (pt_val (pe_callB call_isi (by rfl) T.isi (by decide +kernel) (pa_cons (pv 0) (pa_cons (pe_bltn (v := .ty "tuple") (by rfl) T.tup (by decide +kernel) rfl) pa_nil)))) (pss_one ps_never) pss_nil)
        (pss_one (ps_ret (pv 0)))), ?_⟩
      exact ⟨_, rfl, _, _, _, _, false, rfl, .ty "list", .base .non, kit_ty (by decide +kernel), false, rfl, if_f rfl ⟨_, rfl, _, _, _, _, false, rfl, .ty "tuple", .base .non, kit_ty (by decide +kernel), false, rfl, if_f rfl ⟨_, rfl, kk _ _ (Evl.Ex.refl _) .non⟩⟩⟩
    | bl b =>
      cases hd
      refine ⟨_, pss_cons (ps_if (pt_val (pe_callB call_isi (by rfl) T.isi (by decide +kernel) (pa_cons (pv 0) (pa_cons (pe_bltn (v := .ty "list") (by rfl) T.lst (by decide +kernel) rfl) pa_nil)))) (pss_one ps_never) pss_nil)
        (pss_cons (ps_if (pt_val (pe_callB call_isi (by rfl) T.isi (by decide +kernel) (pa_cons (pv 0) (pa_cons (pe_bltn (v := .ty "tuple") (by rfl) T.tup (by decide +kernel) rfl) pa_nil)))) (pss_one ps_never) pss_nil)
        (pss_one (ps_ret (pv 0)))), ?_⟩
      exact ⟨_, rfl, _, _, _, _, false, rfl, .ty "list", .base (.bl b), kit_ty (by decide +kernel), false, rfl, if_f rfl ⟨_, rfl, _, _, _, _, false, rfl, .ty "tuple", .base (.bl b), kit_ty (by decide +kernel), false, rfl, if_f rfl ⟨_, rfl, kk _ _ (Evl.Ex.refl _) (.bl b)⟩⟩⟩
    | int i =>
      cases hd
      refine ⟨_, pss_cons (ps_if (pt_val (pe_callB call_isi (by rfl) T.isi (by decide +kernel) (pa_cons (pv 0) (pa_cons (pe_bltn (v := .ty "list") (by rfl) T.lst (by decide +kernel) rfl) pa_nil)))) (pss_one ps_never) pss_nil)
        (pss_cons (ps_if (pt_val (pe_callB call_isi (by rfl) T.isi (by decide +kernel) (pa_cons (pv 0) (pa_cons (pe_bltn (v := .ty "tuple") (by rfl) T.tup (by decide +kernel) rfl) pa_nil)))) (pss_one ps_never) pss_nil)
        (pss_one (ps_ret (pv 0)))), ?_⟩
      exact ⟨_, rfl, _, _, _, _, false, rfl, .ty "list", .base (.int i), kit_ty (by decide +kernel), false, rfl, if_f rfl ⟨_, rfl, _, _, _, _, false, rfl, .ty "tuple", .base (.int i), kit_ty (by decide +kernel), false, rfl, if_f rfl ⟨_, rfl, kk _ _ (Evl.Ex.refl _) (.int i)⟩⟩⟩
    | str x =>
      cases hd
      refine ⟨_, pss_cons (ps_if (pt_val (pe_callB call_isi (by rfl) T.isi (by decide +kernel) (pa_cons (pv 0) (pa_cons (pe_bltn (v := .ty "list") (by rfl) T.lst (by decide +kernel) rfl) pa_nil)))) (pss_one ps_never) pss_nil)
        (pss_cons (ps_if (pt_val (pe_callB call_isi (by rfl) T.isi (by decide +kernel) (pa_cons (pv 0) (pa_cons (pe_bltn (v := .ty "tuple") (by rfl) T.tup (by decide +kernel) rfl) pa_nil)))) (pss_one ps_never) pss_nil)
        (pss_one (ps_ret (pv 0)))), ?_⟩
      exact ⟨_, rfl, _, _, _, _, false, rfl, .ty "list", .base (.str x), kit_ty (by decide +kernel), false, rfl, if_f rfl ⟨_, rfl, _, _, _, _, false, rfl, .ty "tuple", .base (.str x), kit_ty (by decide +kernel), false, rfl, if_f rfl ⟨_, rfl, kk _ _ (Evl.Ex.refl _) (.str x)⟩⟩⟩
    | @lst _ ds hl hcs =>
      cases hd with
      | @lst a xs _ ha hds =>
      refine ⟨_, pss_cons (ps_if (pt_val (pe_callB call_isi (by rfl) T.isi (by decide +kernel) (pa_cons (pv 0) (pa_cons (pe_bltn (v := .ty "list") (by rfl) T.lst (by decide +kernel) rfl) pa_nil))))
          (pss_one (ps_ret (pe_lc (own := [("part", 1)]) (g := gName 1) (tt := tYes) (te := tCall (spCp n) [] E0 (tCons (tVar 1) tNil)) rfl nd (pi_list (pv 0)) (blkOk_by (N := n_copied) (sc := defScope s_copied) (by decide +kernel)) (fun _ _ _ _ _ => pg_name (i := 1) nd rfl (Or.inl rfl)) (fun _ _ _ _ _ => pts_nil)
            (fun _ _ _ _ _ => pe_c c0 hr (pa_cons (pv 1) pa_nil))))) pss_nil)
        (pss_cons ps_never (pss_one ps_never)), ?_⟩
      refine ⟨_, rfl, _, _, _, _, true, rfl, .ty "list", .base (.lst ha), kit_ty (by decide +kernel), true, rfl, if_t rfl ?_⟩
      have hlen := hds.len
      refine ⟨_, rfl, a, rfl, ⟨_, SqL.of ha⟩, fun D hD => lc_list (xs := xs) (fun i H' => Evl.Ex H H' ∧ ∃ acc, H' D = some (.lst acc) ∧ DqAll (Nw H (fun b => if b = D then none else H' b)) acc (ds.take i)) ⟨Evl.Ex.new hD, [], upd_same, .nil⟩ (fun i H' _ q => SqL.of (q.1 _ _ ha)) ?_ ?_⟩
      · rintro i x H2 hi ⟨e2, acc, hD2, hacc⟩
        obtain ⟨d, hdi, hdx⟩ := hds.get hi
        refine ⟨rfl, ?_⟩
        show tCall (spCp n) [] E0 (tCons (tVar 1) tNil) _ _ _
        refine ⟨_, rfl, x, d, rfl, hdx.go e2, hcs d (List.mem_of_getElem? hdi), fun v' H3 e3 hv' => ⟨acc, e3 _ _ hD2, ?_, Evl.Ex.mut (e2.trans e3) hD, _, upd_same, ?_⟩⟩
        · have h1 := hacc.len
          rw [List.length_take] at h1
          exact Nat.lt_of_le_of_lt (show acc.length ≤ 100 by omega) (by decide)
        · rw [ds_take hdi]
          exact cp_turns hD (Evl.Ex.refl _) e2 hD2 hacc e3 hv'
      · rintro H2 ⟨e2, acc, hD2, hacc⟩
        rw [hlen, List.take_length] at hacc
        refine kk _ _ e2 (.lst (nw_at hD hD2) (hacc.go fun b o h => nw_at (nw_none h) ?_))
        have z := Nw.ex _ _ h
        by_cases hb : b = D
        · rw [if_pos hb] at z
          cases z
        · rw [if_neg hb] at z
          exact z
    | @tup _ ds hl hcs =>
      cases hd with
      | @tup a xs _ ha hds =>
      refine ⟨_, pss_cons (ps_if (pt_val (pe_callB call_isi (by rfl) T.isi (by decide +kernel) (pa_cons (pv 0) (pa_cons (pe_bltn (v := .ty "list") (by rfl) T.lst (by decide +kernel) rfl) pa_nil)))) (pss_one ps_never) pss_nil)
        (pss_cons (ps_if (pt_val (pe_callB call_isi (by rfl) T.isi (by decide +kernel) (pa_cons (pv 0) (pa_cons (pe_bltn (v := .ty "tuple") (by rfl) T.tup (by decide +kernel) rfl) pa_nil))))
          (pss_one (ps_ret (pe_callTy call_tuple_of (by rfl) T.tup (by decide +kernel) (pa_cons (pe_lc (own := [("part", 1)]) (g := gName 1) (tt := tYes) (te := tCall (spCp n) [] E0 (tCons (tVar 1) tNil)) rfl nd (pi_tup (pv 0)) (blkOk_by (N := n_copied) (sc := defScope s_copied) (by decide +kernel)) (fun _ _ _ _ _ => pg_name (i := 1) nd rfl (Or.inl rfl)) (fun _ _ _ _ _ => pts_nil)
            (fun _ _ _ _ _ => pe_c c0 hr (pa_cons (pv 1) pa_nil))) pa_nil)))) pss_nil)
        (pss_one ps_never)), ?_⟩
      refine ⟨_, rfl, _, _, _, _, false, rfl, .ty "list", .base (.tup ha), kit_ty (by decide +kernel), false, rfl, if_f rfl ?_⟩
      refine ⟨_, rfl, _, _, _, _, true, rfl, .ty "tuple", .base (.tup ha), kit_ty (by decide +kernel), true, rfl, if_t rfl ?_⟩
      have hlen := hds.len
      refine ⟨_, rfl, a, rfl, ⟨_, SqT.of ha⟩, fun D hD => lc_tup (xs := xs) (fun i H' => Evl.Ex H H' ∧ ∃ acc, H' D = some (.lst acc) ∧ DqAll (Nw H (fun b => if b = D then none else H' b)) acc (ds.take i)) ⟨Evl.Ex.new hD, [], upd_same, .nil⟩ (fun i H' _ q => SqT.of (q.1 _ _ ha)) ?_ ?_⟩
      · rintro i x H2 hi ⟨e2, acc, hD2, hacc⟩
        obtain ⟨d, hdi, hdx⟩ := hds.get hi
        refine ⟨rfl, ?_⟩
        show tCall (spCp n) [] E0 (tCons (tVar 1) tNil) _ _ _
        refine ⟨_, rfl, x, d, rfl, hdx.go e2, hcs d (List.mem_of_getElem? hdi), fun v' H3 e3 hv' => ⟨acc, e3 _ _ hD2, ?_, Evl.Ex.mut (e2.trans e3) hD, _, upd_same, ?_⟩⟩
        · have h1 := hacc.len
          rw [List.length_take] at h1
          exact Nat.lt_of_le_of_lt (show acc.length ≤ 100 by omega) (by decide)
        · rw [ds_take hdi]
          exact cp_turns hD (Evl.Ex.refl _) e2 hD2 hacc e3 hv'
      · rintro H2 ⟨e2, acc, hD2, hacc⟩
        rw [hlen, List.take_length] at hacc
        refine ⟨D, _, rfl, .inl ⟨SqL.of hD2, fun l hl2 => ?_⟩⟩
        have e3 := Evl.Ex.new (o := .tup acc) hl2
        refine kk _ _ (e2.trans e3) (.tup (nw_at (Evl.fresh_back e2 hl2) upd_same) (hacc.go fun b o h => nw_at (nw_none h) (e3 _ _ ?_)))
        have z := Nw.ex _ _ h
        by_cases hb : b = D
        · rw [if_pos hb] at z
          cases z
        · rw [if_neg hb] at z
          exact z
end
end V2


namespace V2
open PySem L2
open PySem.Spec PyProof.Rows
abbrev Tk := Option Int × Int
def wV : Option Int → V
  | none => .non
  | some z => .int z
def wD : Option Int → PyData
  | none => .none
  | some z => .int z
def tkD (t : Tk) : PyData := .tuple [wD t.1, .int t.2]
def okT (ts : List Tk) : Prop := ts.length ≤ 20 ∧ (∀ t ∈ ts, (∀ z, t.1 = some z → 1 ≤ z) ∧ 0 ≤ t.2) ∧ ts.countP (fun t => t.1.isNone) = 1
def TksAt (H : Hp) (l : Addr) (ts : List Tk) : Prop := ∃ as : List Addr, H l = some (.lst (as.map V.ref)) ∧ as.length = ts.length ∧ ∀ (i : Nat) (a : Addr) (t : Tk), as[i]? = some a → ts[i]? = some t → H a = some (.tup [wV t.1, .int t.2])
theorem TksAt.ex {H H' : Hp} {l : Addr} {ts : List Tk} (h : TksAt H l ts) (e : Evl.Ex H H') : TksAt H' l ts := by
  obtain ⟨as, h1, h2, h3⟩ := h
  exact ⟨as, e _ _ h1, h2, fun i a t x y => e _ _ (h3 i a t x y)⟩
theorem dq_w {H : Hp} {v : V} {w : Option Int} (h : Dq H v (wD w)) : v = wV w := by
  cases w with
  | none => cases h; rfl
  | some z => cases h; rfl
theorem dq_tk {H : Hp} {v : V} {t : Tk} (h : Dq H v (tkD t)) : ∃ a, v = .ref a ∧ H a = some (.tup [wV t.1, .int t.2]) := by
  cases h with
  | tup h1 h2 =>
    cases h2 with
    | cons a b =>
      cases b with
      | cons b c =>
        cases c
        cases b
        rw [dq_w a] at h1
        exact ⟨_, rfl, h1⟩
theorem dq_tks {H : Hp} : ∀ {ts : List Tk} {vs : List V}, DqAll H vs (ts.map tkD) → ∃ as : List Addr, vs = as.map V.ref ∧ as.length = ts.length ∧ ∀ (i : Nat) (a : Addr) (t : Tk), as[i]? = some a → ts[i]? = some t → H a = some (.tup [wV t.1, .int t.2])
  | [], _, .nil => ⟨[], rfl, rfl, fun i a t h => (by cases h)⟩
  | t :: ts, _, .cons a b => by
    obtain ⟨x, rfl, hx⟩ := dq_tk a
    obtain ⟨as, rfl, h2, h3⟩ := dq_tks b
    refine ⟨x :: as, rfl, congrArg Nat.succ h2, fun i a t' h1 h2 => ?_⟩
    cases i with
    | zero =>
      cases h1
      cases h2
      exact hx
    | succ i => exact h3 i a t' h1 h2
theorem Dq.tks {H : Hp} {v : V} {ts : List Tk} (h : Dq H v (.list (ts.map tkD))) : ∃ l, v = .ref l ∧ TksAt H l ts := by
  cases h with
  | lst h1 h2 =>
    obtain ⟨as, rfl, h3, h4⟩ := dq_tks h2
    exact ⟨_, rfl, as, h1, h3, h4⟩
theorem cp_tks {ts : List Tk} (h : ts.length ≤ 100) : Cp 2 (.list (ts.map tkD)) := by
  refine .lst (by rw [List.length_map]; exact h) fun d hd => ?_
  obtain ⟨t, _, rfl⟩ := List.mem_map.mp hd
  refine .tup (by show 2 ≤ 100; decide) fun x hx => ?_
  simp only [List.mem_cons, List.not_mem_nil, or_false] at hx
  rcases hx with rfl | rfl
  · cases t.1 with
    | none => exact .non
    | some z => exact .int z
  · exact .int _
def spAmt : Sp := fun vs H Q _ => ∃ n : Int, vs = [.int n] ∧ 0 ≤ n ∧ Evl.RetV (.bl true) H Q
def spTank : Sp := fun vs H Q _ => ∃ (a : Addr) (t : Tk), vs = [.ref a] ∧ H a = some (.tup [wV t.1, .int t.2]) ∧ (∀ z, t.1 = some z → 1 ≤ z) ∧ 0 ≤ t.2 ∧ Evl.RetV (.bl true) H Q
def spChkT : Sp := fun vs H Q _ => ∃ (l : Addr) (ts : List Tk), vs = [.ref l] ∧ TksAt H l ts ∧ okT ts ∧ Evl.RetV .non H Q
section
variable {base : Heap} {mg : Str → Option Value} {K : PySem.W.Frag} {w : World} {P : Program}
theorem ok_is_amount {f : Addr} {fd : FuncData} (F : Fun K "is_amount" "is_amount" s_is_amount f fd) (cI : Cal P w K mg base 1 "is_integer" p_is_integer spInt) : FnOk P w K mg base CX0 2 f fd p_is_amount spAmt := by
  refine F.ok sc_is_amount (fun vs H Q E h => ?_) (fun cdv A outer s H vs Q E hr h => ?_)
  · obtain ⟨n, rfl, _⟩ := h
    rfl
  · obtain ⟨n, rfl, h0, k⟩ := h
    refine ⟨_, pss_one (ps_ret (pe_and (pe_c cI hr (pa_cons (pv 0) pa_nil)) (pe_one (pe_cmpR op_ge (pv 0) pe_int (nomark _))))), ?_⟩
    refine ⟨_, rfl, n, rfl, fun H1 e1 => ⟨_, rfl, if_t rfl ?_⟩⟩
    refine ⟨_, rfl, _, _, rfl, rfl, ?_⟩
    have e : decide (n ≥ 0) = true := decide_eq_true h0
    show Q (.bl (decide (n ≥ 0))) H1
    rw [e]
    exact k _ e1
theorem ok_is_tank {f : Addr} {fd : FuncData} (F : Fun K "is_tank" "is_tank" s_is_tank f fd) (T : T3 mg) (cI : Cal P w K mg base 1 "is_integer" p_is_integer spInt) (cA : Cal P w K mg base 2 "is_amount" p_is_amount spAmt) : FnOk P w K mg base CX0 3 f fd p_is_tank spTank := by
  refine F.ok sc_is_tank (fun vs H Q E h => ?_) (fun cdv A outer s H vs Q E hr h => ?_)
  · obtain ⟨a, t, rfl, _⟩ := h
    rfl
  · obtain ⟨a, t, rfl, ha, hw, h0, k⟩ := h
    have nd := sc_is_tank.nd
    have r1 : Room 1 _ := hr.mono (by decide)
    refine ⟨_, pss_cons (ps_if (PW.pt (pw_or (pt_not (pt_val (pe_callB call_isi (by rfl) T.isi (by decide +kernel) (pa_cons (pv 0) (pa_cons (pe_bltn (v := .ty "tuple") (by rfl) T.tup (by decide +kernel) rfl) pa_nil)))))
        (pw_or1 (pt_cmpR op_ne (pe_callB call_len_seq (by rfl) T.len PySem.boot_len (pa_cons (pv 0) pa_nil)) pe_int (nomark _))))) (pss_one (ps_ret pe_bl)) pss_nil)
      (pss_cons (ps_asg (pv 0) (pg_tup rfl (pgs_cons (pg_name (i := 1) nd rfl (Or.inl rfl)) (pgs_cons (pg_name (i := 2) nd rfl (Or.inl rfl)) pgs_nil))))
      (pss_one (ps_ret (pe_and (pe_or (pe_cmp (pc_isN (pv 1))) (pe_one (pe_and (pe_c cI r1 (pa_cons (pv 1) pa_nil)) (pe_one (pe_cmpR op_ge (pv 1) pe_int (nomark _)))))) (pe_one (pe_c cA hr (pa_cons (pv 2) pa_nil))))))), ?_⟩
    refine ⟨_, rfl, _, _, _, _, true, rfl, .ty "tuple", .base (.tup ha), kit_ty (by decide +kernel), true, rfl, if_f rfl ?_⟩
    refine ⟨_, rfl, a, _, rfl, .inr (SqT.of ha), rfl, false, rfl, if_f rfl ?_⟩
    refine ⟨_, rfl, a, _, rfl, SqT.of ha, rfl, _, _, rfl, _, _, rfl, rfl, ?_⟩
    obtain ⟨tw, ta⟩ := t
    cases tw with
    | none => exact ⟨_, rfl, _, rfl, _, rfl, if_t rfl ⟨_, rfl, ta, rfl, h0, k⟩⟩
    | some z =>
      have hz := hw z rfl
      refine ⟨_, rfl, _, rfl, if_f rfl ⟨_, rfl, z, rfl, fun H1 e1 => ⟨_, rfl, if_t rfl ?_⟩⟩⟩
      refine ⟨_, rfl, _, _, rfl, rfl, _, rfl, if_t (decide_eq_true (by omega)) ?_⟩
      exact ⟨_, rfl, ta, rfl, h0, fun H' e' => k H' (e1.trans e')⟩
theorem cntN {ts : List Tk} {i : Nat} {t : Tk} (h : ts[i]? = some t) : (ts.take (i + 1)).countP (fun t => t.1.isNone) = (ts.take i).countP (fun t => t.1.isNone) + (if t.1 = none then 1 else 0) := by
  rw [List.take_add_one, h, List.countP_append]
  obtain ⟨w, a⟩ := t
  cases w <;> simp
theorem ok_check_tanks {f : Addr} {fd : FuncData} (F : Fun K "check_tanks" "check_tanks" s_check_tanks f fd) (mL : mg "len" = none) (cT : Cal P w K mg base 3 "is_tank" p_is_tank spTank) : FnOk P w K mg base CX0 4 f fd p_check_tanks spChkT := by
  refine F.ok sc_check_tanks (fun vs H Q E h => ?_) (fun cdv A outer s H vs Q E hr h => ?_)
  · obtain ⟨l, ts, rfl, _⟩ := h
    rfl
  · obtain ⟨l, ts, rfl, hT, ⟨h20, hts, hone⟩, k⟩ := h
    obtain ⟨as, hl, hlen, hat⟩ := hT
    have nd := sc_check_tanks.nd
    refine ⟨_, pss_cons (ps_for PassesOwn.never rfl (pi_list (pv 0)) (pg_name (i := 1) nd rfl (Or.inl rfl)) (pss_one (ps_if (pt_not (pt_val (pe_c cT hr (pa_cons (pv 1) pa_nil)))) (pss_one ps_never) pss_nil)))
      (pss_one (ps_if (pt_cmpR op_ne (pe_callB call_len_seq (by rfl) mL PySem.boot_len (pa_cons (pe_lc (own := [("tank", 1)]) (g := gName 1) (tt := tB (tIsN (tOp (rIxT K) (tVar 1) (tC (.int 0))))) (te := tVar 1) rfl nd (pi_list (pv 0)) (blkOk_by (N := n_check_tanks) (sc := defScope s_check_tanks) (by decide +kernel)) (fun _ _ _ _ _ => pg_name (i := 1) nd rfl (Or.inl rfl))
          (fun _ _ _ _ _ => pts_one (pt_cmp (pc_isN (pe_ix ix_tup (pv 1) pe_int (fun _ _ => rfl))))) (fun _ _ _ _ _ => pv 1)) pa_nil)) pe_int (nomark _)) (pss_one ps_never) pss_nil)), ?_⟩
    have get : ∀ {i : Nat} {x : V}, (as.map V.ref)[i]? = some x → ∃ a t, x = .ref a ∧ as[i]? = some a ∧ ts[i]? = some t ∧ H a = some (.tup [wV t.1, .int t.2]) := fun {i x} hx => by
      rw [List.getElem?_map] at hx
      cases e : as[i]? with
      | none =>
        rw [e] at hx
        cases hx
      | some a =>
        rw [e] at hx
        have hi : i < ts.length := by
          have := (List.getElem?_eq_some_iff.mp e).1
          omega
        exact ⟨a, ts[i], (Option.some.inj hx).symm, rfl, List.getElem?_eq_getElem hi, hat i a _ e (List.getElem?_eq_getElem hi)⟩
    refine ⟨_, rfl, l, rfl, ⟨_, SqL.of hl⟩, for_list (xs := as.map V.ref) (fun i σ H' => Evl.Ex H H' ∧ ∃ v, σ = [some (.ref l), v]) ⟨Evl.Ex.refl _, none, rfl⟩ (fun i σ H' _ q => SqL.of (q.1 _ _ hl)) ?_ ?_⟩
    · rintro i x σ H1 hi ⟨e1, v, rfl⟩
      obtain ⟨a, t, rfl, _, ht, ha⟩ := get hi
      obtain ⟨t1, t2⟩ := hts t (List.mem_of_getElem? ht)
      exact ⟨_, rfl, a, t, rfl, e1 _ _ ha, t1, t2, fun H2 e2 => ⟨true, rfl, if_f rfl ⟨e1.trans e2, _, rfl⟩⟩⟩
    · rintro σ H1 ⟨e1, v, rfl⟩
      refine ⟨_, rfl, l, rfl, ⟨_, SqL.of (e1 _ _ hl)⟩, fun D hD => lc_list (xs := as.map V.ref) (fun i H' => Evl.Ex H1 H' ∧ ∃ acc, H' D = some (.lst acc) ∧ acc.length = (ts.take i).countP (fun t => t.1.isNone)) ⟨Evl.Ex.new hD, [], upd_same, rfl⟩ (fun i H' _ q => SqL.of (q.1 _ _ (e1 _ _ hl))) ?_ ?_⟩
      · rintro i x H2 hi ⟨e2, acc, h2, hc⟩
        obtain ⟨a, t, rfl, _, ht, ha⟩ := get hi
        have hcn := cntN ht
        refine ⟨rfl, ?_⟩
        show tB (tIsN (tOp (rIxT K) (tVar 1) (tC (.int 0)))) _ _ _
        refine ⟨_, rfl, a, _, _, _, rfl, rfl, SqT.of (e2 _ _ (e1 _ _ ha)), rfl, _, rfl, ?_⟩
        obtain ⟨tw, ta⟩ := t
        cases tw with
        | none =>
          refine if_t rfl ?_
          show tVar 1 _ _ _
          refine ⟨_, rfl, acc, h2, ?_, Evl.Ex.mut e2 hD, _, upd_same, ?_⟩
          · have := List.countP_le_length (p := fun t : Tk => t.1.isNone) (l := ts.take i)
            rw [List.length_take] at this
            exact Nat.lt_of_le_of_lt (show acc.length ≤ 20 by omega) (by decide)
          · rw [List.length_append, hcn, hc]
            rfl
        | some z =>
          refine if_f rfl ⟨e2, acc, h2, ?_⟩
          rw [hcn, hc]
          rfl
      · rintro H2 ⟨e2, acc, h2, hc⟩
        rw [List.length_map, hlen, List.take_length, hone] at hc
        refine ⟨D, _, rfl, .inl (SqL.of h2), ?_⟩
        rw [hc]
        exact ⟨rfl, _, rfl, if_f rfl (k _ (e1.trans e2))⟩
end
end V2


namespace V2
open PySem L2
open PySem.Spec PyProof.Rows
inductive Deed
  | op (ks : List Int)
  | po (k a : Int)
  | sc (k p q : Int)
  | mv (k m p q : Int)
  | un (k m : Int)
def dD : Deed → PyData
  | .op ks => .tuple [.str "open", .list (ks.map .int)]
  | .po k a => .tuple [.str "pour", .int k, .int a]
  | .sc k p q => .tuple [.str "scoop", .int k, .tuple [.int p, .int q]]
  | .mv k m p q => .tuple [.str "move", .int k, .int m, .tuple [.int p, .int q]]
  | .un k m => .tuple [.str "unless", .int k, .int m]
def DAt (H : Hp) (a : Addr) : Deed → Prop
  | .op ks => ∃ l, H a = some (.tup [.str "open", .ref l]) ∧ Li H l ks
  | .po k x => H a = some (.tup [.str "pour", .int k, .int x])
  | .sc k p q => ∃ f, H a = some (.tup [.str "scoop", .int k, .ref f]) ∧ Fr H f p q
  | .mv k m p q => ∃ f, H a = some (.tup [.str "move", .int k, .int m, .ref f]) ∧ Fr H f p q
  | .un k m => H a = some (.tup [.str "unless", .int k, .int m])
theorem DAt.ex {H H' : Hp} {a : Addr} {d : Deed} (h : DAt H a d) (e : Evl.Ex H H') : DAt H' a d := by
  cases d with
  | op ks =>
    obtain ⟨l, h1, h2⟩ := h
    exact ⟨l, e _ _ h1, e _ _ h2⟩
  | po k x => exact e _ _ h
  | sc k p q =>
    obtain ⟨f, h1, h2⟩ := h
    exact ⟨f, e _ _ h1, e _ _ h2⟩
  | mv k m p q =>
    obtain ⟨f, h1, h2⟩ := h
    exact ⟨f, e _ _ h1, e _ _ h2⟩
  | un k m => exact e _ _ h
def Pt (p q : Int) : Prop := 0 ≤ p ∧ p ≤ q ∧ Qn p q
/-- a step that is right, for n tanks -/
def okD (n : Int) : Deed → Prop
  | .op ks => 2 ≤ ks.length ∧ ks.length ≤ 20 ∧ (∀ (i : Nat) (x y : Int), ks[i]? = some x → ks[i + 1]? = some y → x < y) ∧ ∀ k ∈ ks, 0 ≤ k ∧ k < n
  | .po k a => (0 ≤ k ∧ k < n) ∧ 0 ≤ a
  | .sc k p q => (0 ≤ k ∧ k < n) ∧ Pt p q
  | .mv k m p q => (0 ≤ k ∧ k < n) ∧ (0 ≤ m ∧ m < n) ∧ k ≠ m ∧ Pt p q
  | .un k m => (0 ≤ k ∧ k < n) ∧ (0 ≤ m ∧ m < n) ∧ k ≠ m
structure Th (K : PySem.W.Frag) (w : World) (mg : Str → Option Value) (aT : Addr) (es : Array DictEntry) (n : Nat) (t1 t2 t3 t4 t5 : Tok) : Prop where
  g : mg "THINGS" = some (.ref aT)
  D : KDict K w aT es n
  n1 : PySem.W.nsIn K aT "open" = some (some (.int 2 t1))
  n2 : PySem.W.nsIn K aT "pour" = some (some (.int 3 t2))
  n3 : PySem.W.nsIn K aT "scoop" = some (some (.int 3 t3))
  n4 : PySem.W.nsIn K aT "move" = some (some (.int 4 t4))
  n5 : PySem.W.nsIn K aT "unless" = some (some (.int 3 t5))
def spAsc : Sp := fun vs H Q _ => ∃ (l : Addr) (ks : List Int), vs = [.ref l] ∧ Li H l ks ∧ 2 ≤ ks.length ∧ ks.length ≤ 20 ∧ (∀ (i : Nat) (x y : Int), ks[i]? = some x → ks[i + 1]? = some y → x < y) ∧ Evl.RetV (.bl true) H Q
def spStep : Sp := fun vs H Q _ => ∃ (a : Addr) (d : Deed) (n : Int), vs = [.ref a] ∧ DAt H a d ∧ okD n d ∧ Evl.RetV (.bl true) H Q
section
variable {base : Heap} {mg : Str → Option Value} {K : PySem.W.Frag} {w : World} {P : Program} {aT : Addr} {es : Array DictEntry} {nT : Nat} {t1 t2 t3 t4 t5 : Tok}
theorem ok_is_ascending {f : Addr} {fd : FuncData} (F : Fun K "is_ascending" "is_ascending" s_is_ascending f fd) (T : T3 mg) (mR : mg "range" = none) (cI : Cal P w K mg base 1 "is_integer" p_is_integer spInt) : FnOk P w K mg base CX0 2 f fd p_is_ascending spAsc := by
  refine F.ok sc_is_ascending (fun vs H Q E h => ?_) (fun cdv A outer s H vs Q E hr h => ?_)
  · obtain ⟨l, ks, rfl, _⟩ := h
    rfl
  · obtain ⟨l, ks, rfl, hl, h2, h20, hasc, k⟩ := h
    have nd := sc_is_ascending.nd
    refine ⟨_, pss_cons (ps_if (PW.pt (pw_or (pt_not (pt_val (pe_callB call_isi (by rfl) T.isi (by decide +kernel) (pa_cons (pv 0) (pa_cons (pe_bltn (v := .ty "list") (by rfl) T.lst (by decide +kernel) rfl) pa_nil)))))
        (pw_or (pt_cmpR op_lt (pe_callB call_len_seq (by rfl) T.len PySem.boot_len (pa_cons (pv 0) pa_nil)) pe_int (nomark _))
        (pw_or1 (pt_not (pt_val (pe_callB (cr_all rfl) (by rfl) T.all (by decide +kernel) (pa_cons (pe_lc (own := [("number", 1)]) (g := gName 1) (tt := tYes) (te := tCall spInt [] E0 (tCons (tVar 1) tNil)) rfl nd (pi_list (pv 0)) (blkOk_by (N := n_is_ascending) (sc := defScope s_is_ascending) (by decide +kernel)) (fun _ _ _ _ _ => pg_name (i := 1) nd rfl (Or.inl rfl)) (fun _ _ _ _ _ => pts_nil)
          (fun _ _ _ _ _ => pe_c cI hr (pa_cons (pv 1) pa_nil))) pa_nil)))))))) (pss_one (ps_ret pe_bl)) pss_nil)
      (pss_one (ps_ret (pe_callB (cr_all rfl) (by rfl) T.all (by decide +kernel) (pa_cons (pe_lc (own := [("k", 2)]) (g := gName 2) (tt := tYes) (te := tOp (rI0 fun i j => .bl (decide (i < j))) (tOp (rIxL K) (tVar 0) (tVar 2)) (tOp (rIxL K) (tVar 0) (tOp (rI0 fun i j => .int (i + j)) (tVar 2) (tC (.int 1))))) rfl nd (pi_range1 (by rfl) mR (pa_cons (pe_op op_sub (pe_callB call_len_seq (by rfl) T.len PySem.boot_len (pa_cons (pv 0) pa_nil)) pe_int) pa_nil)) (blkOk_by (N := n_is_ascending) (sc := defScope s_is_ascending) (by decide +kernel)) (fun _ _ _ _ _ => pg_name (i := 2) nd rfl (Or.inl rfl)) (fun _ _ _ _ _ => pts_nil)
          (fun _ _ _ _ _ => pe_cmpR op_lt (pe_ix ix_list (pv 0) (pv 2) (fun _ _ => rfl)) (pe_ix ix_list (pv 0) (pe_op op_add (pv 2) pe_int) (fun _ _ => rfl)) (nomark _))) pa_nil)))), ?_⟩
    refine ⟨_, rfl, _, _, _, _, true, rfl, .ty "list", .base (.lst hl), kit_ty (by decide +kernel), true, rfl, if_f rfl ?_⟩
    refine ⟨_, rfl, l, _, rfl, .inl hl.sq, _, _, rfl, rfl, _, rfl, if_f (decide_eq_false (by rw [iV_len]; omega)) ?_⟩
    refine ⟨_, rfl, l, rfl, ⟨_, hl.sq⟩, fun D hD => lc_list (xs := iV ks) (fun i H' => Evl.Ex H H' ∧ H' D = some (.lst (List.replicate i (.bl true)))) ⟨Evl.Ex.new hD, upd_same⟩ (fun i H' _ q => SqL.of (q.1 _ _ hl)) ?_ ?_⟩
    · rintro i x H' hi ⟨e1, h1⟩
      obtain ⟨n, hn, rfl⟩ := iV_get hi
      have hlt : i < ks.length := (List.getElem?_eq_some_iff.mp hn).1
      refine ⟨rfl, ?_⟩
      show tCall spInt [] E0 (tCons (tVar 1) tNil) _ _ _
      refine ⟨_, rfl, n, rfl, fun H2 e2 => ⟨_, e2 _ _ h1, ?_, ?_, ?_⟩⟩
      · rw [List.length_replicate]; exact Nat.lt_of_lt_of_le (show i < 100 by omega) (by decide)
      · exact Evl.Ex.mut (e1.trans e2) hD
      · rw [upd_same, rep_snoc]
    · rintro H1 ⟨e1, h1⟩
      rw [iV_len] at h1
      refine ⟨D, List.replicate ks.length true, rfl, SqL.of (by rw [h1, List.map_replicate]), true, by simp, if_f rfl ?_⟩
      have hl1 : Li H1 l ks := e1 _ _ hl
      refine ⟨_, rfl, l, _, rfl, .inl hl1.sq, _, _, rfl, rfl, _, rfl, ?_, ?_, fun D2 hD2 => ?_⟩
      · rw [iV_len]; omega
      · rw [iV_len]; omega
      have en : (((iV ks).length : Int) - 1).toNat = ks.length - 1 := by rw [iV_len]; omega
      refine lc_range (n := (((iV ks).length : Int) - 1).toNat) (fun i H' => Evl.Ex H1 H' ∧ H' D2 = some (.lst (List.replicate i (.bl true)))) ⟨Evl.Ex.new hD2, upd_same⟩ ?_ ?_
      · rintro i H2 hi ⟨e2, h2'⟩
        rw [en] at hi
        obtain ⟨xa, g1⟩ : ∃ x, ks[i]? = some x := ⟨_, List.getElem?_eq_getElem (by omega)⟩
        obtain ⟨xb, g2⟩ : ∃ x, ks[i + 1]? = some x := ⟨_, List.getElem?_eq_getElem (by omega)⟩
        refine ⟨rfl, ?_⟩
        show tOp (rI0 fun i j => .bl (decide (i < j))) (tOp (rIxL K) (tVar 0) (tVar 2)) (tOp (rIxL K) (tVar 0) (tOp (rI0 fun i j => .int (i + j)) (tVar 2) (tC (.int 1)))) _ _ _
        refine ⟨_, rfl, _, rfl, l, _, _, _, rfl, rfl, SqL.of (e2 _ _ hl1), by rw [Int.zero_add]; exact atI_nat (iV_at g1), ?_⟩
        refine ⟨_, rfl, _, rfl, _, _, rfl, rfl, l, _, _, .int xb, rfl, rfl, SqL.of (e2 _ _ hl1), ?_, _, _, rfl, rfl, _, h2', ?_, Evl.Ex.mut e2 hD2, ?_⟩
        · show atI _ (0 + (i : Int) + 1) = _
          rw [show (0 + (i : Int) + 1) = ((i + 1 : Nat) : Int) by omega]
          exact atI_nat (iV_at g2)
        · rw [List.length_replicate]; exact Nat.lt_of_lt_of_le (show i < 100 by omega) (by decide)
        · rw [upd_same]
          show some (HO.lst (List.replicate i (V.bl true) ++ [V.bl (decide (xa < xb))])) = _
          rw [decide_eq_true (hasc i _ _ g1 g2), rep_snoc]
      · rintro H2 ⟨e2, h2'⟩
        rw [en] at h2'
        refine ⟨D2, List.replicate (ks.length - 1) true, rfl, SqL.of (by rw [h2', List.map_replicate]), ?_⟩
        have e : (List.replicate (ks.length - 1) true).all id = true := by simp
        rw [e]
        exact k _ (e1.trans e2)
theorem ok_is_step {f : Addr} {fd : FuncData} (F : Fun K "is_step" "is_step" s_is_step f fd) (T : T3 mg) (mS : mg "str" = none) (th : Th K w mg aT es nT t1 t2 t3 t4 t5) (cA : Cal P w K mg base 2 "is_ascending" p_is_ascending spAsc) (cM : Cal P w K mg base 2 "is_amount" p_is_amount spAmt) : FnOk P w K mg base CX0 3 f fd p_is_step spStep := by
  refine F.ok sc_is_step (fun vs H Q E h => ?_) (fun cdv A outer s H vs Q E hr h => ?_)
  · obtain ⟨a, d, n, rfl, _⟩ := h
    rfl
  · obtain ⟨a, d, n, rfl, hd, hok, k⟩ := h
    have nd := sc_is_step.nd
    refine ⟨_, pss_cons (ps_if (PW.pt (pw_or (pt_not (pt_val (pe_callB call_isi (by rfl) T.isi (by decide +kernel) (pa_cons (pv 0) (pa_cons (pe_bltn (v := .ty "tuple") (by rfl) T.tup (by decide +kernel) rfl) pa_nil)))))
        (pw_or (pt_not (pt_truth (pv 0) (by intro _; rfl)))
        (pw_or (pt_not (pt_val (pe_callB call_isi (by rfl) T.isi (by decide +kernel) (pa_cons (pe_ix ix_tup (pv 0) pe_int (fun _ _ => rfl)) (pa_cons (pe_bltn (v := .ty "str") (by rfl) mS (by decide +kernel) rfl) pa_nil)))))
        (pw_or1 (pt_cmpR (op_notIn_kd th.D) (pe_ix ix_tup (pv 0) pe_int (fun _ _ => rfl)) (pe_glob (v := .ref aT) (by rfl) th.g rfl) (by rfl))))))) (pss_one (ps_ret pe_bl)) pss_nil)
      (pss_cons (ps_set (i := 1) nd rfl (Or.inl rfl) (pe_ix ix_tup (pv 0) pe_int (fun _ _ => rfl)))
      (pss_cons (ps_if (pt_cmpR op_ne (pe_callB call_len_seq (by rfl) T.len PySem.boot_len (pa_cons (pv 0) pa_nil)) (pe_ix ix_kdict (pe_glob (v := .ref aT) (by rfl) th.g rfl) (pv 1) (fun _ _ => rfl)) (nomark _)) (pss_one (ps_ret pe_bl)) pss_nil)
      (pss_cons (ps_if (pt_cmpR op_eq (pv 1) pe_str (nomark _)) (pss_one (ps_ret (pe_c cA hr (pa_cons (pe_ix ix_tup (pv 0) pe_int (fun _ _ => rfl)) pa_nil)))) pss_nil)
      (pss_cons (ps_if (pt_cmpR op_eq (pv 1) pe_str (nomark _)) (pss_one (ps_ret (pe_c cM hr (pa_cons (pe_ix ix_tup (pv 0) pe_int (fun _ _ => rfl)) pa_nil)))) pss_nil)
      (pss_one (ps_ret (pe_or (pe_cmpR op_eq (pv 1) pe_str (nomark _)) (pe_one (pe_cmpR op_ne (pe_ix ix_tup (pv 0) pe_int (fun _ _ => rfl)) (pe_ix ix_tup (pv 0) pe_int (fun _ _ => rfl)) (nomark _)))))))))), ?_⟩
    cases d with
    | op ks =>
      obtain ⟨l, ha, hl⟩ := hd
      obtain ⟨h2, h20, hasc, _⟩ := hok
      refine ⟨_, rfl, _, _, _, _, true, rfl, .ty "tuple", .base (.tup ha), kit_ty (by decide +kernel), true, rfl, if_f rfl ?_⟩
      refine ⟨_, rfl, _, .inr (.inl ⟨_, SqT.of ha, rfl⟩), if_f rfl ?_⟩
      refine ⟨_, rfl, a, _, _, _, rfl, rfl, SqT.of ha, rfl, _, _, _, _, true, rfl, .ty "str", .base (.str _), kit_ty (by decide +kernel), true, rfl, if_f rfl ?_⟩
      refine ⟨_, rfl, a, _, _, _, rfl, rfl, SqT.of ha, rfl, _, _, rfl, rfl, th.n1, _, rfl, if_f rfl ?_⟩
      refine ⟨_, rfl, a, _, _, _, rfl, rfl, SqT.of ha, rfl, ?_⟩
      refine ⟨_, rfl, a, _, rfl, .inr (SqT.of ha), _, rfl, aT, _, .int 2, rfl, rfl, ⟨_, _, _, th.D.at_, th.D.lit, th.n1, ⟨_, rfl⟩⟩, rfl, _, rfl, if_f rfl ?_⟩
      refine ⟨_, rfl, rfl, _, rfl, if_t (by decide) ?_⟩
      exact ⟨_, rfl, a, _, _, _, rfl, rfl, SqT.of ha, rfl, l, ks, rfl, hl, h2, h20, hasc, k⟩
    | po j x =>
      have ha : H a = some (.tup [.str "pour", .int j, .int x]) := hd
      refine ⟨_, rfl, _, _, _, _, true, rfl, .ty "tuple", .base (.tup ha), kit_ty (by decide +kernel), true, rfl, if_f rfl ?_⟩
      refine ⟨_, rfl, _, .inr (.inl ⟨_, SqT.of ha, rfl⟩), if_f rfl ?_⟩
      refine ⟨_, rfl, a, _, _, _, rfl, rfl, SqT.of ha, rfl, _, _, _, _, true, rfl, .ty "str", .base (.str _), kit_ty (by decide +kernel), true, rfl, if_f rfl ?_⟩
      refine ⟨_, rfl, a, _, _, _, rfl, rfl, SqT.of ha, rfl, _, _, rfl, rfl, th.n2, _, rfl, if_f rfl ?_⟩
      refine ⟨_, rfl, a, _, _, _, rfl, rfl, SqT.of ha, rfl, ?_⟩
      refine ⟨_, rfl, a, _, rfl, .inr (SqT.of ha), _, rfl, aT, _, .int 3, rfl, rfl, ⟨_, _, _, th.D.at_, th.D.lit, th.n2, ⟨_, rfl⟩⟩, rfl, _, rfl, if_f rfl ?_⟩
      refine ⟨_, rfl, rfl, _, rfl, if_f (by decide) ?_⟩
      refine ⟨_, rfl, rfl, _, rfl, if_t (by decide) ?_⟩
      exact ⟨_, rfl, a, _, _, _, rfl, rfl, SqT.of ha, rfl, x, rfl, hok.2, k⟩
    | sc j p q =>
      obtain ⟨g, ha, hg⟩ := hd
      refine ⟨_, rfl, _, _, _, _, true, rfl, .ty "tuple", .base (.tup ha), kit_ty (by decide +kernel), true, rfl, if_f rfl ?_⟩
      refine ⟨_, rfl, _, .inr (.inl ⟨_, SqT.of ha, rfl⟩), if_f rfl ?_⟩
      refine ⟨_, rfl, a, _, _, _, rfl, rfl, SqT.of ha, rfl, _, _, _, _, true, rfl, .ty "str", .base (.str _), kit_ty (by decide +kernel), true, rfl, if_f rfl ?_⟩
      refine ⟨_, rfl, a, _, _, _, rfl, rfl, SqT.of ha, rfl, _, _, rfl, rfl, th.n3, _, rfl, if_f rfl ?_⟩
      refine ⟨_, rfl, a, _, _, _, rfl, rfl, SqT.of ha, rfl, ?_⟩
      refine ⟨_, rfl, a, _, rfl, .inr (SqT.of ha), _, rfl, aT, _, .int 3, rfl, rfl, ⟨_, _, _, th.D.at_, th.D.lit, th.n3, ⟨_, rfl⟩⟩, rfl, _, rfl, if_f rfl ?_⟩
      refine ⟨_, rfl, rfl, _, rfl, if_f (by decide) ?_⟩
      refine ⟨_, rfl, rfl, _, rfl, if_f (by decide) ?_⟩
      refine ⟨_, rfl, rfl, _, rfl, if_t (by decide) (k _ (Evl.Ex.refl _))⟩
    | mv j m p q =>
      obtain ⟨g, ha, hg⟩ := hd
      refine ⟨_, rfl, _, _, _, _, true, rfl, .ty "tuple", .base (.tup ha), kit_ty (by decide +kernel), true, rfl, if_f rfl ?_⟩
      refine ⟨_, rfl, _, .inr (.inl ⟨_, SqT.of ha, rfl⟩), if_f rfl ?_⟩
      refine ⟨_, rfl, a, _, _, _, rfl, rfl, SqT.of ha, rfl, _, _, _, _, true, rfl, .ty "str", .base (.str _), kit_ty (by decide +kernel), true, rfl, if_f rfl ?_⟩
      refine ⟨_, rfl, a, _, _, _, rfl, rfl, SqT.of ha, rfl, _, _, rfl, rfl, th.n4, _, rfl, if_f rfl ?_⟩
      refine ⟨_, rfl, a, _, _, _, rfl, rfl, SqT.of ha, rfl, ?_⟩
      refine ⟨_, rfl, a, _, rfl, .inr (SqT.of ha), _, rfl, aT, _, .int 4, rfl, rfl, ⟨_, _, _, th.D.at_, th.D.lit, th.n4, ⟨_, rfl⟩⟩, rfl, _, rfl, if_f rfl ?_⟩
      refine ⟨_, rfl, rfl, _, rfl, if_f (by decide) ?_⟩
      refine ⟨_, rfl, rfl, _, rfl, if_f (by decide) ?_⟩
      refine ⟨_, rfl, rfl, _, rfl, if_f (by decide) ?_⟩
      refine ⟨_, rfl, a, _, _, _, rfl, rfl, SqT.of ha, rfl, _, rfl, a, _, _, _, rfl, rfl, SqT.of ha, rfl, rfl, ?_⟩
      have e : (!decide (V.int j = V.int m)) = true := by
        rw [decide_eq_false fun z => hok.2.2.1 (by injection z)]
        rfl
      rw [e]
      exact k _ (Evl.Ex.refl _)
    | un j m =>
      have ha : H a = some (.tup [.str "unless", .int j, .int m]) := hd
      refine ⟨_, rfl, _, _, _, _, true, rfl, .ty "tuple", .base (.tup ha), kit_ty (by decide +kernel), true, rfl, if_f rfl ?_⟩
      refine ⟨_, rfl, _, .inr (.inl ⟨_, SqT.of ha, rfl⟩), if_f rfl ?_⟩
      refine ⟨_, rfl, a, _, _, _, rfl, rfl, SqT.of ha, rfl, _, _, _, _, true, rfl, .ty "str", .base (.str _), kit_ty (by decide +kernel), true, rfl, if_f rfl ?_⟩
      refine ⟨_, rfl, a, _, _, _, rfl, rfl, SqT.of ha, rfl, _, _, rfl, rfl, th.n5, _, rfl, if_f rfl ?_⟩
      refine ⟨_, rfl, a, _, _, _, rfl, rfl, SqT.of ha, rfl, ?_⟩
      refine ⟨_, rfl, a, _, rfl, .inr (SqT.of ha), _, rfl, aT, _, .int 3, rfl, rfl, ⟨_, _, _, th.D.at_, th.D.lit, th.n5, ⟨_, rfl⟩⟩, rfl, _, rfl, if_f rfl ?_⟩
      refine ⟨_, rfl, rfl, _, rfl, if_f (by decide) ?_⟩
      refine ⟨_, rfl, rfl, _, rfl, if_f (by decide) ?_⟩
      refine ⟨_, rfl, rfl, _, rfl, if_f (by decide) ?_⟩
      refine ⟨_, rfl, a, _, _, _, rfl, rfl, SqT.of ha, rfl, _, rfl, a, _, _, _, rfl, rfl, SqT.of ha, rfl, rfl, ?_⟩
      have e : (!decide (V.int j = V.int m)) = true := by
        rw [decide_eq_false fun z => hok.2.2 (by injection z)]
        rfl
      rw [e]
      exact k _ (Evl.Ex.refl _)
end
end V2


namespace V2
open PySem L2
open PySem.Spec PyProof.Rows
def sgn (x : Int) : Int := if x = 0 then 0 else if x > 0 then 1 else -1
theorem sgn_le {x : Int} (h : x ≤ 0) : sgn x ≤ 0 := by
  unfold sgn
  split
  · omega
  · split <;> omega
def spSgn : Sp := fun vs H Q _ => ∃ x : Int, vs = [.int x] ∧ Evl.RetV (.int (sgn x)) H Q
def spOrd : Sp := fun vs H Q _ => ∃ (a b : Addr) (p q x y : Int), vs = [.ref a, .ref b] ∧ Fr H a p q ∧ Fr H b x y ∧ p.natAbs < 2 ^ 50 ∧ q.natAbs < 2 ^ 50 ∧ x.natAbs < 2 ^ 50 ∧ y.natAbs < 2 ^ 50 ∧ Evl.RetV (.int (sgn (p * y - x * q))) H Q
def spTof (n : Int) : Sp := fun vs H Q _ => ∃ (a : Addr) (d : Deed), vs = [.ref a] ∧ DAt H a d ∧ okD n d ∧ ∀ (l : Addr) (ks : List Int) (H' : Hp), Evl.Ex H H' → Li H' l ks → ks.length ≤ 20 → (∀ k ∈ ks, 0 ≤ k ∧ k < n) → Q (.ref l) H'
def spNums : Sp := fun vs H Q _ => ∃ (l : Addr) (ks : List Int) (n : Int), vs = [.ref l, .int n] ∧ Li H l ks ∧ ks.length ≤ 20 ∧ (∀ k ∈ ks, 0 ≤ k ∧ k < n) ∧ Evl.RetV .non H Q
def spPart : Sp := fun vs H Q _ => ∃ (a : Addr) (p q : Int), vs = [.ref a] ∧ Fr H a p q ∧ Pt p q ∧ Evl.RetV .non H Q
def spChkS : Sp := fun vs H Q _ => ∃ (a : Addr) (d : Deed) (n : Int), vs = [.ref a, .int n] ∧ DAt H a d ∧ okD n d ∧ Evl.RetV .non H Q
section
variable {base : Heap} {mg : Str → Option Value} {K : PySem.W.Frag} {w : World} {P : Program} {aT : Addr} {es : Array DictEntry} {nT : Nat} {t1 t2 t3 t4 t5 : Tok}
theorem ok_sign_of {f : Addr} {fd : FuncData} (F : Fun K "sign_of" "sign_of" s_sign_of f fd) : FnOk P w K mg base CX0 1 f fd p_sign_of spSgn := by
  refine F.ok sc_sign_of (fun vs H Q E h => ?_) (fun cdv A outer s H vs Q E hr h => ?_)
  · obtain ⟨x, rfl, _⟩ := h
    rfl
  · obtain ⟨x, rfl, k⟩ := h
    refine ⟨_, pss_cons (ps_if (pt_cmpR op_eq (pv 0) pe_int (nomark _)) (pss_one (ps_ret pe_int)) pss_nil) (pss_one (ps_ret (pe_ifExp (pt_cmpR op_gt (pv 0) pe_int (nomark _)) pe_int (pe_un un_neg pe_int)))), ?_⟩
    refine ⟨_, rfl, rfl, _, rfl, ?_⟩
    unfold sgn at k
    by_cases h0 : x = 0
    · refine if_t (decide_eq_true (by rw [h0])) ?_
      rw [if_pos h0] at k
      exact k _ (Evl.Ex.refl _)
    · refine if_f (decide_eq_false (fun z => h0 (by injection z))) ?_
      rw [if_neg h0] at k
      by_cases h1 : x > 0
      · rw [if_pos h1] at k
        exact ⟨_, rfl, _, _, rfl, rfl, _, rfl, if_t (decide_eq_true h1) (k _ (Evl.Ex.refl _))⟩
      · rw [if_neg h1] at k
        exact ⟨_, rfl, _, _, rfl, rfl, _, rfl, if_f (decide_eq_false h1) ⟨_, rfl, k _ (Evl.Ex.refl _)⟩⟩
theorem ok_order {f : Addr} {fd : FuncData} (F : Fun K "order_of_fractions" "order_of_fractions" s_order_of_fractions f fd) (cS : Cal P w K mg base 1 "sign_of" p_sign_of spSgn) : FnOk P w K mg base CX0 2 f fd p_order_of_fractions spOrd := by
  refine F.ok sc_order_of_fractions (fun vs H Q E h => ?_) (fun cdv A outer s H vs Q E hr h => ?_)
  · obtain ⟨a, b, p, q, x, y, rfl, _⟩ := h
    rfl
  · obtain ⟨a, b, p, q, x, y, rfl, ha, hb, h1, h2, h3, h4, k⟩ := h
    refine ⟨_, pss_one (ps_ret (pe_c cS hr (pa_cons (pe_op op_sub (pe_op op_mulW (pe_ix ix_tup (pv 0) pe_int (fun _ _ => rfl)) (pe_ix ix_tup (pv 1) pe_int (fun _ _ => rfl))) (pe_op op_mulW (pe_ix ix_tup (pv 1) pe_int (fun _ _ => rfl)) (pe_ix ix_tup (pv 0) pe_int (fun _ _ => rfl)))) pa_nil))), ?_⟩
    refine ⟨_, rfl, a, _, _, _, rfl, rfl, SqT.of ha, rfl, _, rfl, b, _, _, _, rfl, rfl, SqT.of hb, rfl, p, y, rfl, rfl, wide_mul (a := 50) (b := 50) h1 h4 (by decide) (by decide) (by decide), ?_⟩
    refine ⟨_, rfl, b, _, _, _, rfl, rfl, SqT.of hb, rfl, _, rfl, a, _, _, _, rfl, rfl, SqT.of ha, rfl, x, q, rfl, rfl, wide_mul (a := 50) (b := 50) h3 h2 (by decide) (by decide) (by decide), _, _, rfl, rfl, ?_⟩
    exact ⟨_, rfl, k⟩
theorem ok_tanks_of {n : Int} {f : Addr} {fd : FuncData} (F : Fun K "tanks_of" "tanks_of" s_tanks_of f fd) : FnOk P w K mg base CX0 1 f fd p_tanks_of (spTof n) := by
  refine F.ok sc_tanks_of (fun vs H Q E h => ?_) (fun cdv A outer s H vs Q E hr h => ?_)
  · obtain ⟨a, d, rfl, _⟩ := h
    rfl
  · obtain ⟨a, d, rfl, hd, hok, k⟩ := h
    have one : 1 ≤ sizeLine := by show 1 ≤ sizeLine; decide
    have two : 2 ≤ sizeLine := by show 2 ≤ sizeLine; decide
    refine ⟨_, pss_cons (ps_if (pt_cmpR op_eq (pe_ix ix_tup (pv 0) pe_int (fun _ _ => rfl)) pe_str (nomark _)) (pss_one (ps_ret (pe_ix ix_tup (pv 0) pe_int (fun _ _ => rfl)))) pss_nil)
      (pss_one (ps_ret (pe_ifExp (pt_cmpR op_in_seq (pe_ix ix_tup (pv 0) pe_int (fun _ _ => rfl)) (pe_tup (pa_cons pe_str (pa_cons pe_str pa_nil))) (by rfl))
        (pe_lst (pa_cons (pe_ix ix_tup (pv 0) pe_int (fun _ _ => rfl)) (pa_cons (pe_ix ix_tup (pv 0) pe_int (fun _ _ => rfl)) pa_nil))) (pe_lst (pa_cons (pe_ix ix_tup (pv 0) pe_int (fun _ _ => rfl)) pa_nil))))), ?_⟩
    cases d with
    | op ks =>
      obtain ⟨l, ha, hl⟩ := hd
      refine ⟨_, rfl, a, _, _, _, rfl, rfl, SqT.of ha, rfl, rfl, _, rfl, if_t (by decide) ?_⟩
      exact ⟨_, rfl, a, _, _, _, rfl, rfl, SqT.of ha, rfl, k l ks H (Evl.Ex.refl _) hl hok.2.1 hok.2.2.2⟩
    | po j x =>
      have ha : H a = some (.tup [.str "pour", .int j, .int x]) := hd
      refine ⟨_, rfl, a, _, _, _, rfl, rfl, SqT.of ha, rfl, rfl, _, rfl, if_f (by decide) ?_⟩
      refine ⟨_, rfl, a, _, _, _, rfl, rfl, SqT.of ha, rfl, two, fun t ht => ?_⟩
      have e1 := Evl.Ex.new (o := .tup [.str "move", .str "unless"]) ht
      refine ⟨t, _, rfl, .inr (SqT.of upd_same), rfl, rfl, _, rfl, if_f (by decide) ?_⟩
      refine ⟨_, rfl, a, _, _, _, rfl, rfl, SqT.of (e1 _ _ ha), rfl, one, fun l hl => k l [j] _ (e1.trans (Evl.Ex.new hl)) upd_same (by show 1 ≤ 20; decide) fun z hz => ?_⟩
      obtain rfl := List.mem_singleton.mp hz
      exact hok.1
    | sc j p q =>
      obtain ⟨g, ha, hg⟩ := hd
      refine ⟨_, rfl, a, _, _, _, rfl, rfl, SqT.of ha, rfl, rfl, _, rfl, if_f (by decide) ?_⟩
      refine ⟨_, rfl, a, _, _, _, rfl, rfl, SqT.of ha, rfl, two, fun t ht => ?_⟩
      have e1 := Evl.Ex.new (o := .tup [.str "move", .str "unless"]) ht
      refine ⟨t, _, rfl, .inr (SqT.of upd_same), rfl, rfl, _, rfl, if_f (by decide) ?_⟩
      refine ⟨_, rfl, a, _, _, _, rfl, rfl, SqT.of (e1 _ _ ha), rfl, one, fun l hl => k l [j] _ (e1.trans (Evl.Ex.new hl)) upd_same (by show 1 ≤ 20; decide) fun z hz => ?_⟩
      obtain rfl := List.mem_singleton.mp hz
      exact hok.1
    | mv j m p q =>
      obtain ⟨g, ha, hg⟩ := hd
      refine ⟨_, rfl, a, _, _, _, rfl, rfl, SqT.of ha, rfl, rfl, _, rfl, if_f (by decide) ?_⟩
      refine ⟨_, rfl, a, _, _, _, rfl, rfl, SqT.of ha, rfl, two, fun t ht => ?_⟩
      have e1 := Evl.Ex.new (o := .tup [.str "move", .str "unless"]) ht
      refine ⟨t, _, rfl, .inr (SqT.of upd_same), rfl, rfl, _, rfl, if_t (by decide) ?_⟩
      refine ⟨_, rfl, a, _, _, _, rfl, rfl, SqT.of (e1 _ _ ha), rfl, _, rfl, a, _, _, _, rfl, rfl, SqT.of (e1 _ _ ha), rfl, two, fun l hl => k l [j, m] _ (e1.trans (Evl.Ex.new hl)) upd_same (by show 2 ≤ 20; decide) fun z hz => ?_⟩
      simp only [List.mem_cons, List.not_mem_nil, or_false] at hz
      rcases hz with rfl | rfl
      · exact hok.1
      · exact hok.2.1
    | un j m =>
      have ha : H a = some (.tup [.str "unless", .int j, .int m]) := hd
      refine ⟨_, rfl, a, _, _, _, rfl, rfl, SqT.of ha, rfl, rfl, _, rfl, if_f (by decide) ?_⟩
      refine ⟨_, rfl, a, _, _, _, rfl, rfl, SqT.of ha, rfl, two, fun t ht => ?_⟩
      have e1 := Evl.Ex.new (o := .tup [.str "move", .str "unless"]) ht
      refine ⟨t, _, rfl, .inr (SqT.of upd_same), rfl, rfl, _, rfl, if_t (by decide) ?_⟩
      refine ⟨_, rfl, a, _, _, _, rfl, rfl, SqT.of (e1 _ _ ha), rfl, _, rfl, a, _, _, _, rfl, rfl, SqT.of (e1 _ _ ha), rfl, two, fun l hl => k l [j, m] _ (e1.trans (Evl.Ex.new hl)) upd_same (by show 2 ≤ 20; decide) fun z hz => ?_⟩
      simp only [List.mem_cons, List.not_mem_nil, or_false] at hz
      rcases hz with rfl | rfl
      · exact hok.1
      · exact hok.2.1
theorem ok_check_numbers {f : Addr} {fd : FuncData} (F : Fun K "check_numbers" "check_numbers" s_check_numbers f fd) (cA : Cal P w K mg base 2 "is_amount" p_is_amount spAmt) : FnOk P w K mg base CX0 3 f fd p_check_numbers spNums := by
  refine F.ok sc_check_numbers (fun vs H Q E h => ?_) (fun cdv A outer s H vs Q E hr h => ?_)
  · obtain ⟨l, ks, n, rfl, _⟩ := h
    rfl
  · obtain ⟨l, ks, n, rfl, hl, h20, hks, k⟩ := h
    have nd := sc_check_numbers.nd
    refine ⟨_, pss_one (ps_for PassesOwn.never rfl (pi_list (pv 0)) (pg_name (i := 2) nd rfl (Or.inl rfl)) (pss_one (ps_if (PW.pt (pw_or (pt_not (pt_val (pe_c cA hr (pa_cons (pv 2) pa_nil)))) (pw_or1 (pt_cmpR op_ge (pv 2) (pv 1) (nomark _))))) (pss_one ps_never) pss_nil))), ?_⟩
    refine ⟨_, rfl, l, rfl, ⟨_, hl.sq⟩, for_list (xs := iV ks) (fun i σ H' => Evl.Ex H H' ∧ ∃ v, σ = [some (.ref l), some (.int n), v]) ⟨Evl.Ex.refl _, none, rfl⟩ (fun i σ H' _ q => SqL.of (q.1 _ _ hl)) ?_ ?_⟩
    · rintro i x σ H1 hi ⟨e1, v, rfl⟩
      obtain ⟨z, hz, rfl⟩ := iV_get hi
      obtain ⟨z0, z1⟩ := hks z (List.mem_of_getElem? hz)
      refine ⟨_, rfl, z, rfl, z0, fun H2 e2 => ⟨true, rfl, if_f rfl ?_⟩⟩
      exact ⟨_, rfl, _, rfl, _, _, rfl, rfl, _, rfl, if_f (decide_eq_false (by omega)) ⟨e1.trans e2, _, rfl⟩⟩
    · rintro σ H1 ⟨e1, v, rfl⟩
      exact k _ e1
theorem ok_check_part {f : Addr} {fd : FuncData} (F : Fun K "check_part" "check_part" s_check_part f fd) (cF : Cal P w K mg base 2 "is_fraction" p_is_fraction spIsFr) (cO : Cal P w K mg base 2 "order_of_fractions" p_order_of_fractions spOrd) : FnOk P w K mg base CX0 3 f fd p_check_part spPart := by
  refine F.ok sc_check_part (fun vs H Q E h => ?_) (fun cdv A outer s H vs Q E hr h => ?_)
  · obtain ⟨a, p, q, rfl, _⟩ := h
    rfl
  · obtain ⟨a, p, q, rfl, ha, ⟨p0, pq, hQ⟩, k⟩ := h
    have two : 2 ≤ sizeLine := by show 2 ≤ sizeLine; decide
    refine ⟨_, pss_one (ps_if (PW.pt (pw_or (pt_not (pt_val (pe_c cF hr (pa_cons (pv 0) pa_nil)))) (pw_or (pt_cmpR op_lt (pe_ix ix_tup (pv 0) pe_int (fun _ _ => rfl)) pe_int (nomark _))
      (pw_or1 (pt_cmpR op_gt (pe_c cO hr (pa_cons (pv 0) (pa_cons (pe_tup (pa_cons pe_int (pa_cons pe_int pa_nil))) pa_nil))) pe_int (nomark _)))))) (pss_one ps_never) pss_nil), ?_⟩
    refine ⟨_, rfl, a, p, q, rfl, ha, hQ, fun H1 e1 => ⟨true, rfl, if_f rfl ?_⟩⟩
    refine ⟨_, rfl, a, _, _, _, rfl, rfl, SqT.of (e1 _ _ ha), rfl, _, _, rfl, rfl, _, rfl, if_f (decide_eq_false (by omega)) ?_⟩
    refine ⟨_, rfl, two, fun t ht => ?_⟩
    have e2 := Evl.Ex.new (o := .tup [.int 1, .int 1]) ht
    refine ⟨a, t, p, q, 1, 1, rfl, e2 _ _ (e1 _ _ ha), upd_same, hQ.2.2.1, hQ.2.2.2, by decide, by decide, fun H2 e3 => ⟨_, _, rfl, rfl, _, rfl, if_f (decide_eq_false ?_) (k _ ((e1.trans e2).trans e3))⟩⟩
    have := sgn_le (x := p * 1 - 1 * q) (by omega)
    omega
theorem ok_check_step {f : Addr} {fd : FuncData} (F : Fun K "check_step" "check_step" s_check_step f fd) (cS : Cal P w K mg base 3 "is_step" p_is_step spStep) (cT : ∀ n, Cal P w K mg base 1 "tanks_of" p_tanks_of (spTof n)) (cN : Cal P w K mg base 3 "check_numbers" p_check_numbers spNums) (cP : Cal P w K mg base 3 "check_part" p_check_part spPart) : FnOk P w K mg base CX0 4 f fd p_check_step spChkS := by
  refine F.ok sc_check_step (fun vs H Q E h => ?_) (fun cdv A outer s H vs Q E hr h => ?_)
  · obtain ⟨a, d, n, rfl, _⟩ := h
    rfl
  · obtain ⟨a, d, n, rfl, hd, hok, k⟩ := h
    have two : 2 ≤ sizeLine := by show 2 ≤ sizeLine; decide
    have r1 : Room 1 _ := hr.mono (by decide)
    refine ⟨_, pss_cons (ps_if (pt_not (pt_val (pe_c cS hr (pa_cons (pv 0) pa_nil)))) (pss_one ps_never) pss_nil)
      (pss_cons (ps_expr (pe_c cN hr (pa_cons (pe_c (cT n) r1 (pa_cons (pv 0) pa_nil)) (pa_cons (pv 1) pa_nil))))
      (pss_one (ps_if (pt_cmpR op_in_seq (pe_ix ix_tup (pv 0) pe_int (fun _ _ => rfl)) (pe_tup (pa_cons pe_str (pa_cons pe_str pa_nil))) (by rfl)) (pss_one (ps_expr (pe_c cP hr (pa_cons (pe_ix ix_tup (pv 0) (pe_un un_neg pe_int) (fun _ _ => rfl)) pa_nil)))) pss_nil))), ?_⟩
    refine ⟨_, rfl, a, d, n, rfl, hd, hok, fun H1 e1 => ⟨true, rfl, if_f rfl ?_⟩⟩
    refine ⟨_, rfl, a, d, rfl, hd.ex e1, hok, fun l ks H2 e2 hl h20 hks => ⟨_, rfl, l, ks, n, rfl, hl, h20, hks, fun H3 e3 => ?_⟩⟩
    have e13 := (e1.trans e2).trans e3
    cases d with
    | op ks =>
      obtain ⟨l, ha, hl⟩ := hd
      refine ⟨_, rfl, a, _, _, _, rfl, rfl, SqT.of (e13 _ _ ha), rfl, two, fun t ht => ⟨t, _, rfl, .inr (SqT.of upd_same), rfl, rfl, _, rfl, if_f (by decide) (k _ (e13.trans (Evl.Ex.new ht)))⟩⟩
    | po j x =>
      have ha : H a = some (.tup [.str "pour", .int j, .int x]) := hd
      refine ⟨_, rfl, a, _, _, _, rfl, rfl, SqT.of (e13 _ _ ha), rfl, two, fun t ht => ⟨t, _, rfl, .inr (SqT.of upd_same), rfl, rfl, _, rfl, if_f (by decide) (k _ (e13.trans (Evl.Ex.new ht)))⟩⟩
    | sc j p q =>
      obtain ⟨g, ha, hg⟩ := hd
      refine ⟨_, rfl, a, _, _, _, rfl, rfl, SqT.of (e13 _ _ ha), rfl, two, fun t ht => ⟨t, _, rfl, .inr (SqT.of upd_same), rfl, rfl, _, rfl, if_t (by decide) ?_⟩⟩
      have e4 := e13.trans (Evl.Ex.new (o := .tup [.str "scoop", .str "move"]) ht)
      exact ⟨_, rfl, _, rfl, a, _, _, _, rfl, rfl, SqT.of (e4 _ _ ha), rfl, g, p, q, rfl, e4 _ _ hg, hok.2, fun H5 e5 => k _ (e4.trans e5)⟩
    | mv j m p q =>
      obtain ⟨g, ha, hg⟩ := hd
      refine ⟨_, rfl, a, _, _, _, rfl, rfl, SqT.of (e13 _ _ ha), rfl, two, fun t ht => ⟨t, _, rfl, .inr (SqT.of upd_same), rfl, rfl, _, rfl, if_t (by decide) ?_⟩⟩
      have e4 := e13.trans (Evl.Ex.new (o := .tup [.str "scoop", .str "move"]) ht)
      exact ⟨_, rfl, _, rfl, a, _, _, _, rfl, rfl, SqT.of (e4 _ _ ha), rfl, g, p, q, rfl, e4 _ _ hg, hok.2.2.2, fun H5 e5 => k _ (e4.trans e5)⟩
    | un j m =>
      have ha : H a = some (.tup [.str "unless", .int j, .int m]) := hd
      refine ⟨_, rfl, a, _, _, _, rfl, rfl, SqT.of (e13 _ _ ha), rfl, two, fun t ht => ⟨t, _, rfl, .inr (SqT.of upd_same), rfl, rfl, _, rfl, if_f (by decide) (k _ (e13.trans (Evl.Ex.new ht)))⟩⟩
end
end V2


namespace V2
open PySem L2
open PySem.Spec PyProof.Rows
def DObj : HO → Prop
  | .lst _ => True
  | .tup _ => True
  | .dK _ => True
  | _ => False
mutual
theorem Dq.keep {H H' : Hp} (e : ∀ b o, DObj o → H b = some o → H' b = some o) : ∀ {d : PyData} {v : V}, Dq H v d → Dq H' v d
  | _, _, .non => .non
  | _, _, .bl b => .bl b
  | _, _, .int i => .int i
  | _, _, .str x => .str x
  | _, _, .lst h r => .lst (e _ _ trivial h) (DqAll.keep e r)
  | _, _, .tup h r => .tup (e _ _ trivial h) (DqAll.keep e r)
  | _, _, .dct h r => .dct (e _ _ trivial h) (Dq.keep e r)
theorem DqAll.keep {H H' : Hp} (e : ∀ b o, DObj o → H b = some o → H' b = some o) : ∀ {ds : List PyData} {vs : List V}, DqAll H vs ds → DqAll H' vs ds
  | _, _, .nil => .nil
  | _, _, .cons a b => .cons (Dq.keep e a) (DqAll.keep e b)
end
theorem keep_ins {H H' : Hp} {x C dx : Addr} {fs : List (Str × V)} (hx : H x = some (.ins C dx fs)) (b : But x H H') : ∀ c o, DObj o → H c = some o → H' c = some o := fun c o d h => b c o (fun z => by
  rw [z, hx] at h
  cases h
  exact d) h
theorem cp_ints {n : Nat} {ks : List Int} (h : ks.length ≤ 100) : Cp (n + 1) (.list (ks.map .int)) := .lst (by rw [List.length_map]; exact h) fun d hd => by
  obtain ⟨t, _, rfl⟩ := List.mem_map.mp hd
  exact .int t
theorem cp_dD {d : Deed} {n : Int} (h : okD n d) : Cp 2 (dD d) := by
  cases d with
  | op ks =>
    refine .tup (by show 2 ≤ 100; decide) fun x hx => ?_
    simp only [List.mem_cons, List.not_mem_nil, or_false] at hx
    rcases hx with rfl | rfl
    · exact .str _
    · exact cp_ints (Nat.le_trans h.2.1 (by decide))
  | po k a =>
    refine .tup (by show 3 ≤ 100; decide) fun x hx => ?_
    simp only [List.mem_cons, List.not_mem_nil, or_false] at hx
    rcases hx with rfl | rfl | rfl
    · exact .str _
    · exact .int _
    · exact .int _
  | sc k p q =>
    refine .tup (by show 3 ≤ 100; decide) fun x hx => ?_
    simp only [List.mem_cons, List.not_mem_nil, or_false] at hx
    rcases hx with rfl | rfl | rfl
    · exact .str _
    · exact .int _
    · exact .tup (by show 2 ≤ 100; decide) fun y hy => by
        simp only [List.mem_cons, List.not_mem_nil, or_false] at hy
        rcases hy with rfl | rfl
        · exact .int _
        · exact .int _
  | mv k m p q =>
    refine .tup (by show 4 ≤ 100; decide) fun x hx => ?_
    simp only [List.mem_cons, List.not_mem_nil, or_false] at hx
    rcases hx with rfl | rfl | rfl | rfl
    · exact .str _
    · exact .int _
    · exact .int _
    · exact .tup (by show 2 ≤ 100; decide) fun y hy => by
        simp only [List.mem_cons, List.not_mem_nil, or_false] at hy
        rcases hy with rfl | rfl
        · exact .int _
        · exact .int _
  | un k m =>
    refine .tup (by show 3 ≤ 100; decide) fun x hx => ?_
    simp only [List.mem_cons, List.not_mem_nil, or_false] at hx
    rcases hx with rfl | rfl | rfl
    · exact .str _
    · exact .int _
    · exact .int _
theorem cp_deeds {ds : List Deed} {n : Int} (h : ∀ d ∈ ds, okD n d) (hl : ds.length ≤ 100) : Cp 3 (.list (ds.map dD)) := .lst (by rw [List.length_map]; exact hl) fun d hd => by
  obtain ⟨t, ht, rfl⟩ := List.mem_map.mp hd
  exact cp_dD (h t ht)
theorem dq_ints {H : Hp} : ∀ {ks : List Int} {vs : List V}, DqAll H vs (ks.map .int) → vs = iV ks
  | [], _, .nil => rfl
  | k :: ks, _, .cons a b => by
    cases a
    rw [dq_ints b]
    rfl
theorem dq_deed {H : Hp} {v : V} {d : Deed} (h : Dq H v (dD d)) : ∃ a, v = .ref a ∧ DAt H a d := by
  cases d with
  | op ks =>
    cases h with
    | tup h1 h2 =>
      cases h2 with
      | cons a b =>
        cases a
        cases b with
        | cons b c =>
          cases c
          cases b with
          | lst h3 h4 =>
            rw [dq_ints h4] at h3
            exact ⟨_, rfl, _, h1, h3⟩
  | po k x =>
    cases h with
    | tup h1 h2 =>
      cases h2 with
      | cons a b =>
        cases a
        cases b with
        | cons b c =>
          cases b
          cases c with
          | cons c e =>
            cases c
            cases e
            exact ⟨_, rfl, h1⟩
  | sc k p q =>
    cases h with
    | tup h1 h2 =>
      cases h2 with
      | cons a b =>
        cases a
        cases b with
        | cons b c =>
          cases b
          cases c with
          | cons c e =>
            cases e
            cases c with
            | tup h3 h4 =>
              rw [dq_ints (ks := [p, q]) h4] at h3
              exact ⟨_, rfl, _, h1, h3⟩
  | mv k m p q =>
    cases h with
    | tup h1 h2 =>
      cases h2 with
      | cons a b =>
        cases a
        cases b with
        | cons b c =>
          cases b
          cases c with
          | cons c e =>
            cases c
            cases e with
            | cons e g =>
              cases g
              cases e with
              | tup h3 h4 =>
                rw [dq_ints (ks := [p, q]) h4] at h3
                exact ⟨_, rfl, _, h1, h3⟩
  | un k m =>
    cases h with
    | tup h1 h2 =>
      cases h2 with
      | cons a b =>
        cases a
        cases b with
        | cons b c =>
          cases b
          cases c with
          | cons c e =>
            cases c
            cases e
            exact ⟨_, rfl, h1⟩
/-- the steps that stand in a list -/
def DsAt (H : Hp) (l : Addr) (ds : List Deed) : Prop := ∃ as : List Addr, H l = some (.lst (as.map V.ref)) ∧ as.length = ds.length ∧ ∀ (i : Nat) (a : Addr) (d : Deed), as[i]? = some a → ds[i]? = some d → DAt H a d
theorem DsAt.ex {H H' : Hp} {l : Addr} {ds : List Deed} (h : DsAt H l ds) (e : Evl.Ex H H') : DsAt H' l ds := by
  obtain ⟨as, h1, h2, h3⟩ := h
  exact ⟨as, e _ _ h1, h2, fun i a t x y => (h3 i a t x y).ex e⟩
theorem dq_deeds {H : Hp} : ∀ {ds : List Deed} {vs : List V}, DqAll H vs (ds.map dD) → ∃ as : List Addr, vs = as.map V.ref ∧ as.length = ds.length ∧ ∀ (i : Nat) (a : Addr) (d : Deed), as[i]? = some a → ds[i]? = some d → DAt H a d
  | [], _, .nil => ⟨[], rfl, rfl, fun i a t h => (by cases h)⟩
  | t :: ts, _, .cons a b => by
    obtain ⟨x, rfl, hx⟩ := dq_deed a
    obtain ⟨as, rfl, h2, h3⟩ := dq_deeds b
    refine ⟨x :: as, rfl, congrArg Nat.succ h2, fun i a t' h1 h2 => ?_⟩
    cases i with
    | zero =>
      cases h1
      cases h2
      exact hx
    | succ i => exact h3 i a t' h1 h2
theorem Dq.deeds {H : Hp} {v : V} {ds : List Deed} (h : Dq H v (.list (ds.map dD))) : ∃ l, v = .ref l ∧ DsAt H l ds := by
  cases h with
  | lst h1 h2 =>
    obtain ⟨as, rfl, h3, h4⟩ := dq_deeds h2
    exact ⟨_, rfl, as, h1, h3, h4⟩
structure ScC (K : PySem.W.Frag) (C fI fT fS pT pS : Addr) : Prop where
  cls : Cls K C
  na1 : NoAttr K C "_tanks"
  na2 : NoAttr K C "_steps"
  mkI : Mk K C fI
  prT : PropOf K C "tanks" pT fT
  prS : PropOf K C "steps" pS fS
/-- a script's shape that is right -/
def okS (ts : List Tk) (ds : List Deed) : Prop := okT ts ∧ ds.length ≤ 60 ∧ ∀ d ∈ ds, okD ts.length d
def scF (v u : V) : List (Str × V) := [("_tanks", v), ("_steps", u)]
def spScI (C : Addr) : Sp := fun vs H Q _ => ∃ (x dx : Addr) (v u : V) (ts : List Tk) (ds : List Deed), vs = [.ref x, v, u] ∧ H x = some (.ins C dx []) ∧ Dq H v (.list (ts.map tkD)) ∧ Dq H u (.list (ds.map dD)) ∧ okS ts ds ∧
  ∀ (v' u' : V) (fs : List (Str × V)) (H' : Hp), But x H H' → H' x = some (.ins C dx fs) → fs.lookup ("_tanks" : Str) = some v' → fs.lookup ("_steps" : Str) = some u' → Dq (Nw H H') v' (.list (ts.map tkD)) → Dq (Nw H H') u' (.list (ds.map dD)) → fs = scF v' u' → Q .non H'
def spGet (C : Addr) (n : Nat) (f : Str) : Sp := fun vs H Q _ => ∃ (x dx : Addr) (fs : List (Str × V)) (v : V) (d : PyData), vs = [.ref x] ∧ H x = some (.ins C dx fs) ∧ fs.lookup f = some v ∧ Dq H v d ∧ Cp n d ∧ ∀ v' H', Evl.Ex H H' → Dq (Nw H H') v' d → Q v' H'
section
variable {base : Heap} {mg : Str → Option Value} {K : PySem.W.Frag} {w : World} {P : Program} {C fI fT fS pT pS : Addr}
theorem ok_Sc_tanks {f : Addr} {fd : FuncData} (F : Fun K "tanks" "Script.tanks" s_Sc_tanks f fd) (c : ScC K C fI fT fS pT pS) (c2 : Cal P w K mg base 3 "copied" p_copied (spCp 2)) : FnOk P w K mg base CX0 4 f fd p_Sc_tanks (spGet C 2 "_tanks") := by
  refine F.ok sc_Sc_tanks (fun vs H Q E h => ?_) (fun cdv A outer s H vs Q E hr h => ?_)
  · obtain ⟨x, dx, fs, v, d, rfl, _⟩ := h
    rfl
  · obtain ⟨x, dx, fs, v, d, rfl, hx, hf, hd, hc, k⟩ := h
    refine ⟨_, pss_one (ps_ret (pe_c c2 hr (pa_cons (pe_fld (pv 0) rfl) pa_nil))), ?_⟩
    exact ⟨_, rfl, x, C, dx, fs, v, rfl, hx, c.cls, c.na1, hf, v, d, rfl, hd, hc, k⟩
theorem ok_Sc_steps {f : Addr} {fd : FuncData} (F : Fun K "steps" "Script.steps" s_Sc_steps f fd) (c : ScC K C fI fT fS pT pS) (c3 : Cal P w K mg base 4 "copied" p_copied (spCp 3)) : FnOk P w K mg base CX0 5 f fd p_Sc_steps (spGet C 3 "_steps") := by
  refine F.ok sc_Sc_steps (fun vs H Q E h => ?_) (fun cdv A outer s H vs Q E hr h => ?_)
  · obtain ⟨x, dx, fs, v, d, rfl, _⟩ := h
    rfl
  · obtain ⟨x, dx, fs, v, d, rfl, hx, hf, hd, hc, k⟩ := h
    refine ⟨_, pss_one (ps_ret (pe_c c3 hr (pa_cons (pe_fld (pv 0) rfl) pa_nil))), ?_⟩
    exact ⟨_, rfl, x, C, dx, fs, v, rfl, hx, c.cls, c.na2, hf, v, d, rfl, hd, hc, k⟩
theorem ok_Sc_init {f : Addr} {fd : FuncData} (F : Fun K "__init__" "Script.__init__" s_Sc_init f fd) (mL : mg "len" = none) (c : ScC K C fI fT fS pT pS) (c2 : Cal P w K mg base 3 "copied" p_copied (spCp 2)) (c3 : Cal P w K mg base 4 "copied" p_copied (spCp 3)) (cT : Cal P w K mg base 4 "check_tanks" p_check_tanks spChkT) (cS : Cal P w K mg base 4 "check_step" p_check_step spChkS) : FnOk P w K mg base CX0 5 f fd p_Sc_init (spScI C) := by
  refine F.ok sc_Sc_init (fun vs H Q E h => ?_) (fun cdv A outer s H vs Q E hr h => ?_)
  · obtain ⟨x, dx, v, u, ts, ds, rfl, _⟩ := h
    rfl
  · obtain ⟨x, dx, v, u, ts, ds, rfl, hx, hv, hu, ⟨hT, h60, hD⟩, k⟩ := h
    have nd := sc_Sc_init.nd
    have r3 : Room 3 _ := hr.mono (by decide)
    obtain ⟨lt, rfl, hlt⟩ := hv.tks
    obtain ⟨ls, rfl, hls⟩ := hu.deeds
    refine ⟨_, pss_cons (ps_expr (pe_c cT hr (pa_cons (pv 1) pa_nil)))
      (pss_cons (ps_for PassesOwn.never rfl (pi_list (pv 2)) (pg_name (i := 3) nd rfl (Or.inl rfl)) (pss_one (ps_expr (pe_c cS hr (pa_cons (pv 3) (pa_cons (pe_callB call_len_seq (by rfl) mL PySem.boot_len (pa_cons (pv 1) pa_nil)) pa_nil))))))
      (pss_cons (ps_fld (pv 0) (pe_c c2 r3 (pa_cons (pv 1) pa_nil)) (by rfl))
      (pss_one (ps_fld (pv 0) (pe_c c3 hr (pa_cons (pv 2) pa_nil)) (by rfl))))), ?_⟩
    obtain ⟨as, hl, hlen, hat⟩ := id hls
    obtain ⟨bs, hlb, hlenb, hatb⟩ := id hlt
    refine ⟨_, rfl, lt, ts, rfl, hlt, hT, fun H1 e1 => ?_⟩
    refine ⟨_, rfl, ls, rfl, ⟨_, SqL.of (e1 _ _ hl)⟩, for_list (xs := as.map V.ref) (fun i σ H' => Evl.Ex H H' ∧ ∃ v, σ = [some (.ref x), some (.ref lt), some (.ref ls), v]) ⟨e1, none, rfl⟩ (fun i σ H' _ q => SqL.of (q.1 _ _ hl)) ?_ ?_⟩
    · rintro i y σ H2 hi ⟨e2, v, rfl⟩
      rw [List.getElem?_map] at hi
      obtain ⟨a, ha, rfl⟩ : ∃ a, as[i]? = some a ∧ y = .ref a := by
        cases e : as[i]? with
        | none =>
          rw [e] at hi
          cases hi
        | some a =>
          rw [e] at hi
          exact ⟨a, rfl, (Option.some.inj hi).symm⟩
      have hi2 : i < ds.length := by
        have := (List.getElem?_eq_some_iff.mp ha).1
        omega
      have hd : ds[i]? = some ds[i] := List.getElem?_eq_getElem hi2
      refine ⟨_, rfl, _, rfl, lt, _, rfl, .inl (SqL.of (e2 _ _ hlb)), a, ds[i], _, rfl, (hat i a _ ha hd).ex e2, ?_, fun H3 e3 => ⟨e2.trans e3, _, rfl⟩⟩
      have z := hD ds[i] (List.getElem_mem hi2)
      rw [List.length_map, hlenb]
      exact z
    · rintro σ H2 ⟨e2, v, rfl⟩
      refine ⟨_, rfl, _, _, rfl, hv.go e2, cp_tks (Nat.le_trans hT.1 (by decide)), fun v' H3 e3 hv' => ?_⟩
      have hx3 : H3 x = some (.ins C dx []) := e3 _ _ (e2 _ _ hx)
      refine ⟨_, rfl, x, C, dx, [], rfl, hx3, c.cls, c.na1, by decide, ?_⟩
      have b3 : But x H3 (upd H3 x (.ins C dx (putF "_tanks" v' []))) := But.upd
      have x4 : upd H3 x (.ins C dx (putF "_tanks" v' [])) x = some (.ins C dx (putF "_tanks" v' [])) := upd_same
      have hv4 : Dq (upd H3 x (.ins C dx (putF "_tanks" v' []))) v' (.list (ts.map tkD)) := (hv'.go Nw.ex).keep (keep_ins hx3 b3)
      have hu4 := ((hu.go e2).go e3).keep (keep_ins hx3 b3)
      have b4 : But x H (upd H3 x (.ins C dx (putF "_tanks" v' []))) := (But.of_ex (e2.trans e3)).trans b3
      generalize upd H3 x (.ins C dx (putF "_tanks" v' [])) = H4 at b3 x4 hv4 hu4 b4
      refine ⟨_, rfl, _, _, rfl, hu4, cp_deeds hD (Nat.le_trans h60 (by decide)), fun u' H5 e5 hu' => ?_⟩
      refine ⟨_, rfl, x, C, dx, _, rfl, e5 _ _ x4, c.cls, c.na2, by show 1 < 1000; decide, ?_⟩
      have b6 : But x H5 (upd H5 x (.ins C dx (putF "_steps" u' (putF "_tanks" v' [])))) := But.upd
      refine k v' u' _ _ ((b4.trans (But.of_ex e5)).trans b6) upd_same (by rfl) (by rfl) (hv'.go fun b o z => ?_) (hu'.go fun b o z => ?_) rfl
      · have n := nw_none z
        have nx : b ≠ x := fun q => by
          rw [q, e2 _ _ hx] at n
          cases n
        exact nw_at (Evl.fresh_back e2 n) (b6 _ _ nx (e5 _ _ (b3 _ _ nx (Nw.ex _ _ z))))
      · have n := nw_none z
        have nx : b ≠ x := fun q => by
          rw [q, x4] at n
          cases n
        refine nw_at ?_ (b6 _ _ nx (Nw.ex _ _ z))
        cases q : H b with
        | none => rfl
        | some o' =>
          rw [b4 _ _ nx q] at n
          cases n
end
end V2


namespace V2
open PySem L2
open PySem.Spec PyProof.Rows
def CsAt (H : Hp) (l : Addr) (ns : List Int) : Prop := ∃ as : List Addr, H l = some (.lst (as.map V.ref)) ∧ as.length = ns.length ∧ ∀ (i : Nat) (a : Addr) (n : Int), as[i]? = some a → ns[i]? = some n → Li H a (cp n)
theorem CsAt.ex {H H' : Hp} {l : Addr} {ns : List Int} (h : CsAt H l ns) (e : Evl.Ex H H') : CsAt H' l ns := by
  obtain ⟨as, h1, h2, h3⟩ := h
  exact ⟨as, e _ _ h1, h2, fun i a t x y => e _ _ (h3 i a t x y)⟩
theorem CsAt.get {H : Hp} {l : Addr} {ns : List Int} (h : CsAt H l ns) {i : Nat} {n : Int} (hn : ns[i]? = some n) : ∃ (xs : List V) (a : Addr), H l = some (.lst xs) ∧ xs[i]? = some (.ref a) ∧ Li H a (cp n) := by
  obtain ⟨as, h1, h2, h3⟩ := h
  have hi : i < as.length := by
    have := (List.getElem?_eq_some_iff.mp hn).1
    omega
  have ha : as[i]? = some as[i] := List.getElem?_eq_getElem hi
  exact ⟨_, as[i], h1, by rw [List.getElem?_map, ha]; rfl, h3 i _ n ha hn⟩
/-- while the list at D is being made: i of them are there -/
def CsN (H : Hp) (D : Addr) (ns : List Int) (i : Nat) : Prop := ∃ as : List Addr, H D = some (.lst (as.map V.ref)) ∧ as.length = i ∧ ∀ (j : Nat) (a : Addr) (n : Int), as[j]? = some a → ns[j]? = some n → a ≠ D ∧ Li H a (cp n)
theorem CsN.start {H : Hp} {D : Addr} {ns : List Int} (h : H D = some (.lst [])) : CsN H D ns 0 := ⟨[], h, rfl, fun j a n h => by cases h⟩
theorem get_app {α : Type} {as : List α} {r a : α} {j : Nat} (h : (as ++ [r])[j]? = some a) : (as[j]? = some a ∧ j < as.length) ∨ (j = as.length ∧ a = r) := by
  by_cases hj : j < as.length
  · rw [List.getElem?_append_left hj] at h
    exact .inl ⟨h, hj⟩
  · rw [List.getElem?_append_right (by omega)] at h
    have h1 : j - as.length < 1 := (List.getElem?_eq_some_iff.mp h).1
    have h2 : j = as.length := by omega
    subst h2
    rw [Nat.sub_self] at h
    exact .inr ⟨rfl, (Option.some.inj h).symm⟩
/-- one more: r, which is no part of the list -/
theorem CsN.more {H2 H3 : Hp} {D r : Addr} {ns : List Int} {i : Nat} {n : Int} (h : CsN H2 D ns i) (e : Evl.Ex H2 H3) (hr : r ≠ D) (h3 : Li H3 r (cp n)) (hn : ns[i]? = some n) (hi : i ≤ 100) :
    ∃ acc, H3 D = some (.lst acc) ∧ acc.length < sizeLine ∧ CsN (upd H3 D (.lst (acc ++ [.ref r]))) D ns (i + 1) := by
  obtain ⟨as, h1, h2, h4⟩ := h
  refine ⟨_, e _ _ h1, ?_, as ++ [r], ?_, ?_, fun j a m ha hm => ?_⟩
  · rw [List.length_map, h2]
    exact Nat.lt_of_le_of_lt hi (by decide)
  · rw [upd_same, List.map_append]
    rfl
  · rw [List.length_append, h2]
    rfl
  · rcases get_app ha with ⟨h5, _⟩ | ⟨h5, rfl⟩
    · obtain ⟨n1, n2⟩ := h4 j a m h5 hm
      exact ⟨n1, Eq.trans (upd_ne n1) (e _ _ n2)⟩
    · rw [h5, h2, hn] at hm
      cases hm
      exact ⟨hr, Eq.trans (upd_ne hr) h3⟩
theorem CsN.done {H : Hp} {D : Addr} {ns : List Int} (h : CsN H D ns ns.length) : CsAt H D ns := by
  obtain ⟨as, h1, h2, h3⟩ := h
  exact ⟨as, h1, h2, fun i a n x y => (h3 i a n x y).2⟩
/-- the widths, times what is below in the told one -/
def wid (u b : Int) (t : Tk) : Int := match t.1 with
  | none => u
  | some z => z * b
def spTold : Sp := fun vs H Q _ => ∃ (l f : Addr) (ts : List Tk) (u b : Int), vs = [.ref l, .ref f] ∧ TksAt H l ts ∧ okT ts ∧ (∀ t ∈ ts, ∀ z, t.1 = some z → z ≤ 1000) ∧ Fr H f u b ∧ 0 < u ∧ 0 < b ∧ u.natAbs < 2 ^ 50 ∧ b.natAbs < 2 ^ 50 ∧ ∀ D H', H D = none → Evl.Ex H H' → CsAt H' D (ts.map (wid u b)) → Q (.ref D) H'
def spFirst : Sp := fun vs H Q _ => ∃ (l : Addr) (ts : List Tk), vs = [.ref l] ∧ TksAt H l ts ∧ ts.length ≤ 20 ∧ ∀ t x y H', Evl.Ex H H' → H' t = some (.tup [.ref x, .ref y]) → CsAt H' x (ts.map (·.2)) → Li H' y [1] → Q (.ref t) H'
def spSum : Sp := fun vs H Q _ => ∃ (l : Addr) (ns : List Int), vs = [.ref l] ∧ CsAt H l ns ∧ Evl.RetL (iV (cp ns.sum)) H Q
theorem tks_get {H : Hp} {l : Addr} {ts : List Tk} (h : TksAt H l ts) : ∃ xs, H l = some (.lst xs) ∧ xs.length = ts.length ∧ ∀ (i : Nat) (x : V), xs[i]? = some x → ∃ a t, x = .ref a ∧ ts[i]? = some t ∧ H a = some (.tup [wV t.1, .int t.2]) := by
  obtain ⟨as, h1, h2, h3⟩ := h
  refine ⟨_, h1, by rw [List.length_map]; exact h2, fun i x hx => ?_⟩
  rw [List.getElem?_map] at hx
  cases e : as[i]? with
  | none =>
    rw [e] at hx
    cases hx
  | some a =>
    rw [e] at hx
    have hi : i < ts.length := by
      have := (List.getElem?_eq_some_iff.mp e).1
      omega
    exact ⟨a, ts[i], (Option.some.inj hx).symm, List.getElem?_eq_getElem hi, h3 i a _ e (List.getElem?_eq_getElem hi)⟩
section
variable {base : Heap} {mg : Str → Option Value} {K : PySem.W.Frag} {w : World} {P : Program}
theorem ok_told_widths {f : Addr} {fd : FuncData} (F : Fun K "told_widths" "told_widths" s_told_widths f fd) : FnOk P w K mg base CX0 1 f fd p_told_widths spTold := by
  refine F.ok sc_told_widths (fun vs H Q E h => ?_) (fun cdv A outer s H vs Q E hr h => ?_)
  · obtain ⟨l, g, ts, u, b, rfl, _⟩ := h
    rfl
  · obtain ⟨l, g, ts, u, b, rfl, hT, ⟨h20, hts, _⟩, h1000, hg, hu, hb, hub, hbb, k⟩ := h
    have nd := sc_told_widths.nd
    have one : 1 ≤ sizeLine := by show 1 ≤ sizeLine; decide
    refine ⟨_, pss_cons (ps_asg (pv 1) (pg_tup rfl (pgs_cons (pg_name (i := 2) nd rfl (Or.inr rfl)) (pgs_cons (pg_name (i := 3) nd rfl (Or.inr rfl)) pgs_nil))))
      (pss_one (ps_ret (pe_lc (own := [("width", 4), ("_", 5)]) (g := gTup K 2 (gCons (gName 4) (gCons (gName 5) gNil))) (tt := tYes) (te := tIf (tB (tIsN (tVar 4))) (tLst (tCons (tVar 2) tNil)) (tLst (tCons (tOp (rI CMulW fun i j => .int (i * j)) (tVar 4) (tVar 3)) tNil))) rfl nd (pi_list (pv 0)) (blkOk_by (N := n_told_widths) (sc := defScope s_told_widths) (by decide +kernel)) (fun _ _ _ _ _ => pg_tup rfl (pgs_cons (pg_name (i := 4) nd rfl (Or.inl rfl)) (pgs_cons (pg_name (i := 5) nd rfl (Or.inl rfl)) pgs_nil))) (fun _ _ _ _ _ => pts_nil)
        (fun _ _ _ _ _ => pe_ifExp (pt_cmp (pc_isN (pv 4))) (pe_lst (pa_cons (pv 2) pa_nil)) (pe_lst (pa_cons (pe_op op_mulW (pv 4) (pv 3)) pa_nil)))))), ?_⟩
    obtain ⟨xs, hl, hlen, hx⟩ := tks_get hT
    refine ⟨_, rfl, g, _, rfl, SqT.of hg, rfl, _, _, rfl, _, _, rfl, rfl, ?_⟩
    refine ⟨_, rfl, l, rfl, ⟨_, SqL.of hl⟩, fun D hD => lc_list (xs := xs) (fun i H' => Evl.Ex H H' ∧ CsN H' D (ts.map (wid u b)) i) ⟨Evl.Ex.new hD, CsN.start upd_same⟩ (fun i H' _ q => SqL.of (q.1 _ _ hl)) ?_ ?_⟩
    · rintro i x H2 hi ⟨e2, hN⟩
      obtain ⟨a, t, rfl, ht, ha⟩ := hx i x hi
      have ht2 : (ts.map (wid u b))[i]? = some (wid u b t) := by rw [List.getElem?_map, ht]; rfl
      have hi20 : i ≤ 100 := by
        have := (List.getElem?_eq_some_iff.mp ht).1
        omega
      have hmem := List.mem_of_getElem? ht
      refine ⟨a, _, rfl, SqT.of (e2 _ _ ha), rfl, _, _, rfl, _, _, rfl, rfl, rfl, ?_⟩
      show tIf (tB (tIsN (tVar 4))) (tLst (tCons (tVar 2) tNil)) (tLst (tCons (tOp (rI CMulW fun i j => .int (i * j)) (tVar 4) (tVar 3)) tNil)) _ _ _
      obtain ⟨tw, ta⟩ := t
      have fin : ∀ r n, H2 r = none → n = wid u b (tw, ta) → n ≠ 0 → ∃ acc, upd H2 r (.lst [.int n]) D = some (.lst acc) ∧ acc.length < sizeLine ∧ Evl.Ex H (upd (upd H2 r (.lst [.int n])) D (.lst (acc ++ [.ref r]))) ∧ CsN (upd (upd H2 r (.lst [.int n])) D (.lst (acc ++ [.ref r]))) D (ts.map (wid u b)) (i + 1) := fun r n hr hn h0 => by
        have e3 := Evl.Ex.new (o := .lst [.int n]) hr
        obtain ⟨as0, hD0, _⟩ := id hN
        have l3 : Li (upd H2 r (.lst [.int n])) r (cp n) := by
          rw [cp_n h0]
          exact upd_same
        obtain ⟨acc, a1, a2, a3⟩ := hN.more e3 (ne_of_none hD0 hr).symm l3 (hn ▸ ht2) hi20
        exact ⟨acc, a1, a2, Evl.Ex.mut (e2.trans e3) hD, a3⟩
      cases tw with
      | none =>
        refine ⟨_, rfl, _, rfl, if_t rfl ⟨_, rfl, one, fun r hr => fin r u hr rfl (by omega)⟩⟩
      | some z =>
        have z1 := (hts _ hmem).1 z rfl
        have z2 := h1000 _ hmem z rfl
        have hzb : z * b ≠ 0 := Int.ne_of_gt (Int.mul_pos (by omega) hb)
        refine ⟨_, rfl, _, rfl, if_f rfl ⟨_, rfl, _, rfl, z, b, rfl, rfl, wide_mul (a := 10) (b := 50) (Nat.lt_of_le_of_lt (show z.natAbs ≤ 1000 by omega) (by decide)) hbb (by decide) (by decide) (by decide), one, fun r hr => fin r (z * b) hr rfl hzb⟩⟩
    · rintro H2 ⟨e2, hN⟩
      rw [hlen, show ts.length = (ts.map (wid u b)).length by rw [List.length_map]] at hN
      exact k D H2 hD e2 hN.done
theorem ok_first_water {f : Addr} {fd : FuncData} (F : Fun K "first_water" "first_water" s_first_water f fd) (cC : Cal P w K mg base 1 "cut" p_cut (spTrim K)) : FnOk P w K mg base CX0 2 f fd p_first_water spFirst := by
  refine F.ok sc_first_water (fun vs H Q E h => ?_) (fun cdv A outer s H vs Q E hr h => ?_)
  · obtain ⟨l, ts, rfl, _⟩ := h
    rfl
  · obtain ⟨l, ts, rfl, hT, h20, k⟩ := h
    have nd := sc_first_water.nd
    have one : 1 ≤ sizeLine := by show 1 ≤ sizeLine; decide
    have two : 2 ≤ sizeLine := by show 2 ≤ sizeLine; decide
    refine ⟨_, pss_one (ps_ret (pe_tup (pa_cons (pe_lc (own := [("_", 1), ("amount", 2)]) (g := gTup K 2 (gCons (gName 1) (gCons (gName 2) gNil))) (tt := tYes) (te := tCall (spTrim K) [] E0 (tCons (tLst (tCons (tVar 2) tNil)) tNil)) rfl nd (pi_list (pv 0)) (blkOk_by (N := n_first_water) (sc := defScope s_first_water) (by decide +kernel)) (fun _ _ _ _ _ => pg_tup rfl (pgs_cons (pg_name (i := 1) nd rfl (Or.inl rfl)) (pgs_cons (pg_name (i := 2) nd rfl (Or.inl rfl)) pgs_nil))) (fun _ _ _ _ _ => pts_nil)
        (fun _ _ _ _ _ => pe_c cC hr (pa_cons (pe_lst (pa_cons (pv 2) pa_nil)) pa_nil))) (pa_cons (pe_lst (pa_cons pe_int pa_nil)) pa_nil)))), ?_⟩
    obtain ⟨xs, hl, hlen, hx⟩ := tks_get hT
    refine ⟨_, rfl, l, rfl, ⟨_, SqL.of hl⟩, fun D hD => lc_list (xs := xs) (fun i H' => Evl.Ex H H' ∧ CsN H' D (ts.map (·.2)) i) ⟨Evl.Ex.new hD, CsN.start upd_same⟩ (fun i H' _ q => SqL.of (q.1 _ _ hl)) ?_ ?_⟩
    · rintro i x H2 hi ⟨e2, hN⟩
      obtain ⟨a, t, rfl, ht, ha⟩ := hx i x hi
      have ht2 : (ts.map (·.2))[i]? = some t.2 := by rw [List.getElem?_map, ht]; rfl
      have hi20 : i ≤ 100 := by
        have := (List.getElem?_eq_some_iff.mp ht).1
        omega
      refine ⟨a, _, rfl, SqT.of (e2 _ _ ha), rfl, _, _, rfl, _, _, rfl, rfl, rfl, ?_⟩
      show tCall (spTrim K) [] E0 (tCons (tLst (tCons (tVar 2) tNil)) tNil) _ _ _
      refine ⟨_, rfl, one, fun r hr2 => ⟨r, [t.2], rfl, SqL.of upd_same, by show 1 ≤ 1000; decide, fun q H3 hq e3 h3 => ?_⟩⟩
      have e4 := (Evl.Ex.new (o := .lst [.int t.2]) hr2).trans e3
      obtain ⟨as0, hD0, _⟩ := id hN
      have qD : q ≠ D := (ne_of_none (Evl.Ex.new hr2 _ _ hD0) hq).symm
      rw [trm_1] at h3
      obtain ⟨acc, a1, a2, a3⟩ := hN.more e4 qD h3 ht2 hi20
      exact ⟨acc, a1, a2, Evl.Ex.mut (e2.trans e4) hD, a3⟩
    · rintro H2 ⟨e2, hN⟩
      rw [hlen, show ts.length = (ts.map (·.2)).length by rw [List.length_map]] at hN
      have hC := hN.done
      refine ⟨one, fun y hy => ⟨two, fun t ht => ?_⟩⟩
      have e3 := Evl.Ex.new (o := .lst [.int 1]) hy
      have e4 := Evl.Ex.new (o := .tup [.ref D, .ref y]) ht
      exact k t D y _ ((e2.trans e3).trans e4) upd_same ((hC.ex e3).ex e4) (e4 _ _ upd_same)
theorem sum_take {ns : List Int} {i : Nat} {n : Int} (h : ns[i]? = some n) : (ns.take (i + 1)).sum = (ns.take i).sum + n := by
  rw [List.take_add_one, h, List.sum_append]
  simp
theorem ok_sum_of {f : Addr} {fd : FuncData} (F : Fun K "sum_of" "sum_of" s_sum_of f fd) (cA : Cal P w K mg base 2 "added" p_added (spTwoW (fun _ _ => True) fun xs ys => trm (padd xs ys))) : FnOk P w K mg base CX0 3 f fd p_sum_of spSum := by
  refine F.ok sc_sum_of (fun vs H Q E h => ?_) (fun cdv A outer s H vs Q E hr h => ?_)
  · obtain ⟨l, ns, rfl, _⟩ := h
    rfl
  · obtain ⟨l, ns, rfl, hC, k⟩ := h
    have nd := sc_sum_of.nd
    refine ⟨_, pss_cons (ps_set (i := 1) nd rfl (Or.inl rfl) (pe_lst pa_nil))
      (pss_cons (ps_for PassesOwn.never rfl (pi_list (pv 0)) (pg_name (i := 2) nd rfl (Or.inl rfl)) (pss_one (ps_set (i := 1) nd rfl (Or.inl rfl) (pe_c cA hr (pa_cons (pv 1) (pa_cons (pv 2) pa_nil))))))
      (pss_one (ps_ret (pv 1)))), ?_⟩
    obtain ⟨as, hl, hlen, hat⟩ := id hC
    refine ⟨Nat.zero_le _, fun t0 ht0 => ?_⟩
    refine ⟨_, rfl, l, rfl, ⟨_, SqL.of (Evl.Ex.new ht0 _ _ hl)⟩, for_list (xs := as.map V.ref) (fun i σ H' => Evl.Ex H H' ∧ ∃ t v, σ = [some (.ref l), some (.ref t), v] ∧ H t = none ∧ Li H' t (cp (ns.take i).sum)) ⟨Evl.Ex.new ht0, t0, none, rfl, ht0, upd_same⟩ (fun i σ H' _ q => SqL.of (q.1 _ _ hl)) ?_ ?_⟩
    · rintro i x σ H2 hi ⟨e2, t, v, rfl, ht, hLi⟩
      rw [List.getElem?_map] at hi
      obtain ⟨a, ha, rfl⟩ : ∃ a, as[i]? = some a ∧ x = .ref a := by
        cases e : as[i]? with
        | none =>
          rw [e] at hi
          cases hi
        | some a =>
          rw [e] at hi
          exact ⟨a, rfl, (Option.some.inj hi).symm⟩
      have hi2 : i < ns.length := by
        have := (List.getElem?_eq_some_iff.mp ha).1
        omega
      have hn : ns[i]? = some ns[i] := List.getElem?_eq_getElem hi2
      refine ⟨_, rfl, _, rfl, t, a, _, _, rfl, hLi, e2 _ _ (hat i a _ ha hn), cp_pw _, cp_pw _, fun _ _ _ _ => trivial, fun r H3 hr2 e3 h3 => ⟨e2.trans e3, r, _, rfl, Evl.fresh_back e2 hr2, ?_⟩⟩
      have h3 : H3 r = some (.lst (iV (trm (padd (cp (ns.take i).sum) (cp ns[i]))))) := h3
      rw [cp_add, ← sum_take hn] at h3
      exact h3
    · rintro σ H2 ⟨e2, t, v, rfl, ht, hLi⟩
      rw [List.length_map, hlen, List.take_length] at hLi
      exact ⟨_, rfl, k t H2 ht e2 hLi⟩
end
end V2


namespace V2
open PySem L2
open PySem.Spec PyProof.Rows
def pick (ns : List Int) (ks : List Int) : List Int := ks.map fun k => ns.getD k.toNat 0
/-- numbers of less than n bits -/
def Bn (n : Nat) (x : Int) : Prop := x.natAbs < 2 ^ n
theorem Bn.le {n m : Nat} {x : Int} (h : Bn n x) (l : n ≤ m) : Bn m x := Nat.lt_of_lt_of_le h (Nat.pow_le_pow_right (by decide) l)
theorem Bn.mul {n m : Nat} {x y : Int} (h : Bn n x) (k : Bn m y) : Bn (n + m) (x * y) := wide_lt h k
theorem Bn.add {n : Nat} {x y : Int} (h : Bn n x) (k : Bn n y) : Bn (n + 1) (x + y) := by
  unfold Bn at *
  rw [Nat.pow_succ]
  omega
/-- water: the amounts A by W -/
structure Wat (H : Hp) (t : Addr) (A : List Int) (W : Int) : Prop where
  at_ : ∃ la lw, H t = some (.tup [.ref la, .ref lw]) ∧ CsAt H la A ∧ Li H lw [W]
  pos : 0 < W
theorem Wat.ex {H H' : Hp} {t : Addr} {A : List Int} {W : Int} (h : Wat H t A W) (e : Evl.Ex H H') : Wat H' t A W := by
  obtain ⟨⟨la, lw, h1, h2, h3⟩, p⟩ := h
  exact ⟨⟨la, lw, e _ _ h1, h2.ex e, e _ _ h3⟩, p⟩
def okK (n : Nat) (ks : List Int) : Prop := ks.length ≤ 20 ∧ ∀ k ∈ ks, 0 ≤ k ∧ k < n
def spTog : Sp := fun vs H Q _ => ∃ (lk la lw : Addr) (ks A ws : List Int), vs = [.ref lk, .ref la, .ref lw] ∧ Li H lk ks ∧ CsAt H la A ∧ CsAt H lw ws ∧ okK A.length ks ∧ ws.length = A.length ∧
  ∀ q x y H', Evl.Ex H H' → H' q = some (.tup [.ref x, .ref y]) → Li H' x (cp (pick A ks).sum) → Li H' y (cp (pick ws ks).sum) → Q (.ref q) H'
theorem pick_get {ns ks : List Int} {i : Nat} {k : Int} (h : ks[i]? = some k) : (pick ns ks)[i]? = some (ns.getD k.toNat 0) := by
  unfold pick
  rw [List.getElem?_map, h]
  rfl
theorem getD_some {ns : List Int} {j : Nat} (h : j < ns.length) : ns[j]? = some (ns.getD j 0) := by
  rw [List.getD_eq_getElem?_getD, List.getElem?_eq_getElem h]
  rfl
/-- a list of some of the constants of another one -/
theorem picked {H H' : Hp} {D la : Addr} {A ks : List Int} {as : List Addr} {i : Nat} {k : Int} (hA : ∀ (i : Nat) (a : Addr) (n : Int), as[i]? = some a → A[i]? = some n → Li H a (cp n)) (hla : as.length = A.length) (hk : ks[i]? = some k) (hok : okK A.length ks) :
    ∃ a, as[k.toNat]? = some a ∧ atI (as.map V.ref) k = some (.ref a) ∧ Li H a (cp (A.getD k.toNat 0)) := by
  obtain ⟨k0, k1⟩ := hok.2 k (List.mem_of_getElem? hk)
  obtain ⟨j, rfl⟩ : ∃ j : Nat, k = j := ⟨k.toNat, by omega⟩
  rw [Int.toNat_natCast]
  have hlt : j < A.length := by omega
  obtain ⟨a, ha⟩ : ∃ a, as[j]? = some a := ⟨_, List.getElem?_eq_getElem (by omega)⟩
  exact ⟨a, ha, atI_nat (by rw [List.getElem?_map, ha]; rfl), hA _ _ _ ha (getD_some hlt)⟩
section
variable {base : Heap} {mg : Str → Option Value} {K : PySem.W.Frag} {w : World} {P : Program}
theorem ok_together {f : Addr} {fd : FuncData} (F : Fun K "together" "together" s_together f fd) (cS : Cal P w K mg base 3 "sum_of" p_sum_of spSum) : FnOk P w K mg base CX0 4 f fd p_together spTog := by
  refine F.ok sc_together (fun vs H Q E h => ?_) (fun cdv A outer s H vs Q E hr h => ?_)
  · obtain ⟨lk, la, lw, ks, A, ws, rfl, _⟩ := h
    rfl
  · obtain ⟨lk, la, lw, ks, A, ws, rfl, hk, hA, hw, hok, hl, k⟩ := h
    have nd := sc_together.nd
    have two : 2 ≤ sizeLine := by show 2 ≤ sizeLine; decide
    refine ⟨_, pss_one (ps_ret (pe_tup (pa_cons (pe_c cS hr (pa_cons (pe_lc (own := [("k", 3)]) (g := gName 3) (tt := tYes) (te := tOp (rIxL K) (tVar 1) (tVar 3)) rfl nd (pi_list (pv 0)) (blkOk_by (N := n_together) (sc := defScope s_together) (by decide +kernel)) (fun _ _ _ _ _ => pg_name (i := 3) nd rfl (Or.inl rfl)) (fun _ _ _ _ _ => pts_nil) (fun _ _ _ _ _ => pe_ix ix_list (pv 1) (pv 3) (fun _ _ => rfl))) pa_nil))
      (pa_cons (pe_c cS hr (pa_cons (pe_lc (own := [("k", 3)]) (g := gName 3) (tt := tYes) (te := tOp (rIxL K) (tVar 2) (tVar 3)) rfl nd (pi_list (pv 0)) (blkOk_by (N := n_together) (sc := defScope s_together) (by decide +kernel)) (fun _ _ _ _ _ => pg_name (i := 3) nd rfl (Or.inl rfl)) (fun _ _ _ _ _ => pts_nil) (fun _ _ _ _ _ => pe_ix ix_list (pv 2) (pv 3) (fun _ _ => rfl))) pa_nil)) pa_nil)))), ?_⟩
    obtain ⟨as, ha, hla, haa⟩ := id hA
    obtain ⟨bs, hb, hlb, hbb⟩ := id hw
    have hokw : okK ws.length ks := by rw [hl]; exact hok
    refine ⟨_, rfl, lk, rfl, ⟨_, hk.sq⟩, fun D hD => lc_list (xs := iV ks) (fun i H' => Evl.Ex H H' ∧ CsN H' D (pick A ks) i) ⟨Evl.Ex.new hD, CsN.start upd_same⟩ (fun i H' _ q => SqL.of (q.1 _ _ hk)) ?_ ?_⟩
    · rintro i x H2 hi ⟨e2, hN⟩
      obtain ⟨z, hz, rfl⟩ := iV_get hi
      obtain ⟨a, h1, h2, h3⟩ := picked (H' := H) (D := D) (la := la) haa hla hz hok
      have hi20 : i ≤ 100 := by
        have := (List.getElem?_eq_some_iff.mp hz).1
        have := hok.1
        omega
      refine ⟨rfl, ?_⟩
      show tOp (rIxL K) (tVar 1) (tVar 3) _ _ _
      obtain ⟨acc, a1, a2, a3⟩ := hN.more (Evl.Ex.refl _) (ne_of_none (show H a = some _ from h3) hD) (e2 _ _ h3) (pick_get hz) hi20
      exact ⟨_, rfl, _, rfl, la, _, _, _, rfl, rfl, SqL.of (e2 _ _ ha), h2, acc, a1, a2, Evl.Ex.mut e2 hD, a3⟩
    · rintro H2 ⟨e2, hN⟩
      rw [iV_len, show ks.length = (pick A ks).length by unfold pick; rw [List.length_map]] at hN
      refine ⟨D, _, rfl, hN.done, fun x H3 hx e3 h3 => ?_⟩
      have e03 := e2.trans e3
      refine ⟨_, rfl, lk, rfl, ⟨_, SqL.of (e03 _ _ hk)⟩, fun D2 hD2 => lc_list (xs := iV ks) (fun i H' => Evl.Ex H3 H' ∧ CsN H' D2 (pick ws ks) i) ⟨Evl.Ex.new hD2, CsN.start upd_same⟩ (fun i H' _ q => SqL.of (q.1 _ _ (e03 _ _ hk))) ?_ ?_⟩
      · rintro i v H4 hi ⟨e4, hN4⟩
        obtain ⟨z, hz, rfl⟩ := iV_get hi
        obtain ⟨a, h1, h2, h4⟩ := picked (H' := H) (D := D) (la := la) hbb hlb hz hokw
        have hi20 : i ≤ 100 := by
          have := (List.getElem?_eq_some_iff.mp hz).1
          have := hok.1
          omega
        refine ⟨rfl, ?_⟩
        show tOp (rIxL K) (tVar 2) (tVar 3) _ _ _
        have h5 : Li H3 a (cp (ws.getD z.toNat 0)) := e03 _ _ h4
        obtain ⟨acc, a1, a2, a3⟩ := hN4.more (Evl.Ex.refl _) (ne_of_none (show H3 a = some _ from h5) hD2) (e4 _ _ h5) (pick_get hz) hi20
        exact ⟨_, rfl, _, rfl, lw, _, _, _, rfl, rfl, SqL.of (e4 _ _ (e03 _ _ hb)), h2, acc, a1, a2, Evl.Ex.mut e4 hD2, a3⟩
      · rintro H4 ⟨e4, hN4⟩
        rw [iV_len, show ks.length = (pick ws ks).length by unfold pick; rw [List.length_map]] at hN4
        refine ⟨D2, _, rfl, hN4.done, fun y H5 hy e5 h5 => ⟨two, fun q hq => ?_⟩⟩
        have e6 := Evl.Ex.new (o := .tup [.ref x, .ref y]) hq
        exact k q x y _ (((e03.trans e4).trans e5).trans e6) upd_same (e6 _ _ (e5 _ _ (e4 _ _ h3))) (e6 _ _ h5)
end
end V2


namespace V2
open PySem L2
open PySem.Spec PyProof.Rows
/-- products and sums of constants -/
def spMc : Sp := fun vs H Q _ => ∃ (a b : Addr) (x y : Int), vs = [.ref a, .ref b] ∧ Li H a (cp x) ∧ Li H b (cp y) ∧ Bn 4400 x ∧ Bn 4400 y ∧ Evl.RetL (iV (cp (x * y))) H Q
def spAc : Sp := fun vs H Q _ => ∃ (a b : Addr) (x y : Int), vs = [.ref a, .ref b] ∧ Li H a (cp x) ∧ Li H b (cp y) ∧ Evl.RetL (iV (cp (x + y))) H Q
theorem mc_of : ∀ vs H Q E, spMc vs H Q E → spTwoW (fun x y => CMulW x y) (fun xs ys => trm (pmul xs ys)) vs H Q E := by
  rintro vs H Q E ⟨a, b, x, y, rfl, ha, hb, hx, hy, k⟩
  refine ⟨a, b, _, _, rfl, ha, hb, cp_pw _, cp_pw _, fun u hu v hv => ?_, ?_⟩
  · rw [cp_mem hu, cp_mem hv]
    exact wide_mul (a := 4400) (b := 4400) hx hy (by decide) (by decide) (by decide)
  · show Evl.RetL (iV (trm (pmul (cp x) (cp y)))) H Q
    rw [cp_mul]
    exact k
theorem ac_of : ∀ vs H Q E, spAc vs H Q E → spTwoW (fun _ _ => True) (fun xs ys => trm (padd xs ys)) vs H Q E := by
  rintro vs H Q E ⟨a, b, x, y, rfl, ha, hb, k⟩
  refine ⟨a, b, _, _, rfl, ha, hb, cp_pw _, cp_pw _, fun _ _ _ _ => trivial, ?_⟩
  show Evl.RetL (iV (trm (padd (cp x) (cp y)))) H Q
  rw [cp_add]
  exact k
/-- the amounts behind a valve -/
def openA (A ws ks : List Int) : List Int := (List.range A.length).map fun (k : Nat) => if (k : Int) ∈ ks then (pick A ks).sum * ws.getD k 0 else A.getD k 0 * (pick ws ks).sum
theorem map_range_get {n i : Nat} {f : Nat → Int} (h : i < n) : ((List.range n).map f)[i]? = some (f i) := by
  rw [List.getElem?_map, List.getElem?_range h]
  rfl
theorem inV_ints (k : Int) (ks : List Int) : inV (.int k) (iV ks) = decide (k ∈ ks) := by
  induction ks with
  | nil => rfl
  | cons x r ih =>
    have e : inV (.int k) (iV (x :: r)) = (eqV (.int x) (.int k) || inV (.int k) (iV r)) := rfl
    rw [e, ih]
    have e2 : eqV (.int x) (.int k) = decide (x = k) := by
      by_cases h : x = k
      · subst h
        simp [eqV]
      · simp [eqV, h]
    rw [e2]
    by_cases h : x = k
    · simp [h]
    · have h' : ¬ k = x := fun z => h z.symm
      simp [h, h']
theorem flat_ints (ks : List Int) : (iV ks).all flatV = true := by
  unfold iV
  rw [List.all_map]
  exact List.all_eq_true.mpr fun x _ => rfl
def spOpen : Sp := fun vs H Q _ => ∃ (lk t lw : Addr) (ks A ws : List Int) (W : Int), vs = [.ref lk, .ref t, .ref lw] ∧ Li H lk ks ∧ Wat H t A W ∧ CsAt H lw ws ∧ okK A.length ks ∧ ws.length = A.length ∧ A.length ≤ 20 ∧
  (∀ x ∈ A, Bn 4400 x) ∧ Bn 4400 W ∧ (∀ x ∈ ws, Bn 4400 x) ∧ Bn 4400 (pick A ks).sum ∧ Bn 4400 (pick ws ks).sum ∧ 0 < (pick ws ks).sum ∧ ∀ t' H', Evl.Ex H H' → Wat H' t' (openA A ws ks) (W * (pick ws ks).sum) → Q (.ref t') H'
theorem cs_items {H : Hp} {l : Addr} {ns : List Int} (h : CsAt H l ns) : ∃ xs, H l = some (.lst xs) ∧ xs.length = ns.length ∧ ∀ (i : Nat) (x : V), xs[i]? = some x → ∃ a, x = .ref a ∧ i < ns.length ∧ Li H a (cp (ns.getD i 0)) := by
  obtain ⟨as, h1, h2, h3⟩ := h
  refine ⟨_, h1, by rw [List.length_map]; exact h2, fun i x hx => ?_⟩
  rw [List.getElem?_map] at hx
  cases e : as[i]? with
  | none =>
    rw [e] at hx
    cases hx
  | some a =>
    rw [e] at hx
    have hi : i < ns.length := by
      have := (List.getElem?_eq_some_iff.mp e).1
      omega
    exact ⟨a, (Option.some.inj hx).symm, hi, h3 i a _ e (getD_some hi)⟩
theorem getD_mem' {ns : List Int} {i : Nat} (h : i < ns.length) : ns.getD i 0 ∈ ns := List.mem_of_getElem? (getD_some h)
section
variable {base : Heap} {mg : Str → Option Value} {K : PySem.W.Frag} {w : World} {P : Program}
theorem ok_opened {f : Addr} {fd : FuncData} (F : Fun K "opened" "opened" s_opened f fd) (T : T2 mg) (cT : Cal P w K mg base 4 "together" p_together spTog) (cM : Cal P w K mg base 1 "multiplied" p_multiplied spMc) : FnOk P w K mg base CX0 5 f fd p_opened spOpen := by
  refine F.ok sc_opened (fun vs H Q E h => ?_) (fun cdv A outer s H vs Q E hr h => ?_)
  · obtain ⟨lk, t, lw, ks, A, ws, W, rfl, _⟩ := h
    rfl
  · obtain ⟨lk, t, lw, ks, Am, ws, W, rfl, hk, ⟨⟨la, lo, ht, hA, hW⟩, W0⟩, hw, hok, hl, h20, bA, bW, bw, bT, bS, S0, k⟩ := h
    have nd := sc_opened.nd
    have r1 : Room 1 _ := hr.mono (by decide)
    have two : 2 ≤ sizeLine := by show 2 ≤ sizeLine; decide
    refine ⟨_, pss_cons (ps_asg (pv 1) (pg_tup rfl (pgs_cons (pg_name (i := 3) nd rfl (Or.inl rfl)) (pgs_cons (pg_name (i := 4) nd rfl (Or.inl rfl)) pgs_nil))))
      (pss_cons (ps_asg (pe_c cT hr (pa_cons (pv 0) (pa_cons (pv 3) (pa_cons (pv 2) pa_nil)))) (pg_tup rfl (pgs_cons (pg_name (i := 5) nd rfl (Or.inr rfl)) (pgs_cons (pg_name (i := 6) nd rfl (Or.inr rfl)) pgs_nil))))
      (pss_cons (ps_setLc (i := 7) (own := [("k", 8), ("one", 9)]) (g := gTup K 2 (gCons (gName 8) (gCons (gName 9) gNil))) (tt := tYes) (te := tIf (tTest (tOp (rIn K false) (tVar 8) (tVar 0))) (tCall spMc [] E0 (tCons (tVar 5) (tCons (tOp (rIxL K) (tVar 2) (tVar 8)) tNil))) (tCall spMc [] E0 (tCons (tVar 9) (tCons (tVar 6) tNil)))) rfl nd rfl rfl (sw_true rfl rfl rfl (by decide +kernel)) (pi_enum (by rfl) T.enu (pa_cons (pv 3) pa_nil)) (blkOk_by (N := n_opened) (sc := defScope s_opened) (by decide +kernel))
          (fun _ _ _ _ _ => pg_tup rfl (pgs_cons (pg_name (i := 8) nd rfl (Or.inl rfl)) (pgs_cons (pg_name (i := 9) nd rfl (Or.inl rfl)) pgs_nil))) (fun _ _ _ _ _ => pts_nil)
          (fun _ _ _ _ _ => pe_ifExp (pt_cmpR op_in_seq (pv 8) (pv 0) (by rfl)) (pe_c cM r1 (pa_cons (pv 5) (pa_cons (pe_ix ix_list (pv 2) (pv 8) (fun _ _ => rfl)) pa_nil))) (pe_c cM r1 (pa_cons (pv 9) (pa_cons (pv 6) pa_nil)))))
      (pss_one (ps_ret (pe_tup (pa_cons (pv 7) (pa_cons (pe_c cM r1 (pa_cons (pv 4) (pa_cons (pv 6) pa_nil))) pa_nil))))))), ?_⟩
    refine ⟨_, rfl, t, _, rfl, SqT.of ht, rfl, _, _, rfl, _, _, rfl, rfl, ?_⟩
    refine ⟨_, rfl, _, rfl, _, rfl, lk, la, lw, ks, Am, ws, rfl, hk, hA, hw, hok, hl, fun q x y H1 e1 hq hx hy => ?_⟩
    refine ⟨q, _, rfl, SqT.of hq, rfl, _, _, rfl, _, _, rfl, rfl, ?_⟩
    obtain ⟨xs, hxs, hxl, hxi⟩ := cs_items (hA.ex e1)
    obtain ⟨ys, hys, hyl, hyi⟩ := cs_items (hw.ex e1)
    refine ⟨_, rfl, la, _, rfl, SqL.of hxs, fun D hD => lc_it walk_enum (fun i H' => Evl.Ex H1 H' ∧ CsN H' D (openA Am ws ks) i) ⟨Evl.Ex.new hD, CsN.start upd_same⟩ (fun i H' _ q => SqL.of (q.1 _ _ hxs)) ?_ ?_⟩
    · rintro i v H2 H3 hi ⟨e2, hN⟩ ⟨t3, z, o, rfl, ht3, rfl, hz, ho⟩
      obtain rfl := (Option.some.inj hz).symm
      obtain ⟨a, rfl, hia, hLa⟩ := hxi i _ ho
      have e3 := Evl.Ex.new (o := .tup [.int (i : Nat), .ref a]) ht3
      have e23 := e2.trans e3
      refine ⟨t3, _, rfl, SqT.of upd_same, rfl, _, _, rfl, _, _, rfl, rfl, rfl, ?_⟩
      show tIf (tTest (tOp (rIn K false) (tVar 8) (tVar 0))) (tCall spMc [] E0 (tCons (tVar 5) (tCons (tOp (rIxL K) (tVar 2) (tVar 8)) tNil))) (tCall spMc [] E0 (tCons (tVar 9) (tCons (tVar 6) tNil))) _ _ _
      obtain ⟨as0, hD0, _⟩ := id hN
      have fin : ∀ (r : Addr) (H4 : Hp) (n : Int), upd H2 t3 (.tup [.int (i : Nat), .ref a]) r = none → Evl.Ex (upd H2 t3 (.tup [.int (i : Nat), .ref a])) H4 → Li H4 r (cp n) → (openA Am ws ks)[i]? = some n → ∃ acc, H4 D = some (.lst acc) ∧ acc.length < sizeLine ∧ Evl.Ex H1 (upd H4 D (.lst (acc ++ [.ref r]))) ∧ CsN (upd H4 D (.lst (acc ++ [.ref r]))) D (openA Am ws ks) (i + 1) := fun r H4 n hr4 e4 h4 hn => by
        obtain ⟨acc, a1, a2, a3⟩ := hN.more (e3.trans e4) (ne_of_none (e3 _ _ hD0) hr4).symm h4 hn (by omega)
        exact ⟨acc, a1, a2, Evl.Ex.mut (e23.trans e4) hD, a3⟩
      have hget : (openA Am ws ks)[i]? = some (if (i : Int) ∈ ks then (pick Am ks).sum * ws.getD i 0 else Am.getD i 0 * (pick ws ks).sum) := map_range_get hia
      refine ⟨_, rfl, _, rfl, lk, _, rfl, .inl (SqL.of (e23 _ _ (e1 _ _ hk))), rfl, flat_ints ks, _, rfl, ?_⟩
      have em : (if false = true then !inV (.int (i : Nat)) (iV ks) else inV (.int (i : Nat)) (iV ks)) = decide (((i : Nat) : Int) ∈ ks) := inV_ints _ _
      rw [em]
      by_cases hm : ((i : Nat) : Int) ∈ ks
      · rw [if_pos hm] at hget
        refine if_t (decide_eq_true hm) ?_
        have hiw : i < ws.length := by omega
        have hyx : ys[i]? = some ys[i] := List.getElem?_eq_getElem (by omega)
        obtain ⟨b, hb, _, hLb⟩ := hyi i _ hyx
        rw [hb] at hyx
        refine ⟨_, rfl, _, rfl, _, rfl, lw, _, _, _, rfl, rfl, SqL.of (e23 _ _ hys), atI_nat hyx, x, b, _, _, rfl, e23 _ _ hx, e23 _ _ hLb, bT, bw _ (getD_mem' hiw), fun r H4 hr4 e4 h4 => fin r H4 _ hr4 e4 h4 hget⟩
      · rw [if_neg hm] at hget
        refine if_f (decide_eq_false hm) ?_
        refine ⟨_, rfl, _, rfl, a, y, _, _, rfl, e23 _ _ hLa, e23 _ _ hy, bA _ (getD_mem' hia), bS, fun r H4 hr4 e4 h4 => fin r H4 _ hr4 e4 h4 hget⟩
    · rintro H2 ⟨e2, hN⟩
      rw [hxl, show Am.length = (openA Am ws ks).length by unfold openA; rw [List.length_map, List.length_range]] at hN
      have hC := hN.done
      have e12 := e1.trans e2
      refine ⟨_, rfl, _, rfl, _, rfl, lo, y, W, _, rfl, ?_, e2 _ _ hy, bW, bS, fun r H3 hr3 e3 h3 => ⟨two, fun q2 hq2 => ?_⟩⟩
      · rw [cp_n (by omega)]
        exact e12 _ _ hW
      have e4 := Evl.Ex.new (o := .tup [.ref D, .ref r]) hq2
      have WS : 0 < W * (pick ws ks).sum := Int.mul_pos W0 S0
      refine k q2 _ ((e12.trans e3).trans e4) ⟨⟨D, r, upd_same, (hC.ex e3).ex e4, ?_⟩, WS⟩
      have h5 : H3 r = some (.lst (iV (cp (W * (pick ws ks).sum)))) := h3
      rw [cp_n (Int.ne_of_gt WS)] at h5
      exact e4 _ _ h5
end
end V2


namespace V2
open PySem L2
open PySem.Spec PyProof.Rows
def pourA (A : List Int) (W k a : Int) : List Int := (List.range A.length).map fun (j : Nat) => if (j : Int) = k then A.getD j 0 + a * W else A.getD j 0
def spPour : Sp := fun vs H Q _ => ∃ (t : Addr) (A : List Int) (W k a : Int), vs = [.int k, .int a, .ref t] ∧ Wat H t A W ∧ A.length ≤ 20 ∧ Bn 4400 W ∧ Bn 4400 a ∧ ∀ t' H', Evl.Ex H H' → Wat H' t' (pourA A W k a) W → Q (.ref t') H'
/-- an element of a list of constants is not the list -/
theorem cs_ne {H : Hp} {l a : Addr} {as : List Addr} {i : Nat} {n : Int} (hl : H l = some (.lst (as.map V.ref))) (ha : as[i]? = some a) (h : Li H a (cp n)) : a ≠ l := by
  intro z
  have h : H a = some (.lst (iV (cp n))) := h
  rw [z, hl] at h
  injection h with h
  injection h with h
  have h2 := congrArg (fun x => x[i]?) h
  simp only [List.getElem?_map, ha] at h2
  have h2 : some (V.ref a) = (iV (cp n))[i]? := h2
  unfold iV at h2
  rw [List.getElem?_map] at h2
  cases e : (cp n)[i]? with
  | none =>
    rw [e] at h2
    cases h2
  | some x =>
    rw [e] at h2
    cases h2
/-- an element put anew -/
theorem cs_set {H : Hp} {l r : Addr} {as : List Addr} {ns : List Int} {j : Nat} {n : Int} (hl : H l = some (.lst (as.map V.ref))) (hlen : as.length = ns.length) (hat : ∀ (i : Nat) (a : Addr) (n : Int), as[i]? = some a → ns[i]? = some n → Li H a (cp n)) (hr : r ≠ l) (h : Li H r (cp n)) (hj : j < ns.length) :
    CsAt (upd H l (.lst ((as.map V.ref).set j (.ref r)))) l (ns.set j n) := by
  refine ⟨as.set j r, ?_, by rw [List.length_set, List.length_set, hlen], fun i a m ha hm => ?_⟩
  · rw [upd_same, List.map_set]
  · by_cases hij : j = i
    · subst hij
      rw [List.getElem?_set_self (by omega)] at ha hm
      cases ha
      cases hm
      exact Eq.trans (upd_ne hr) h
    · rw [List.getElem?_set_ne hij] at ha hm
      have h3 := hat i a m ha hm
      exact Eq.trans (upd_ne (cs_ne hl ha h3)) h3
section
variable {base : Heap} {mg : Str → Option Value} {K : PySem.W.Frag} {w : World} {P : Program}
theorem ok_poured {f : Addr} {fd : FuncData} (F : Fun K "poured" "poured" s_poured f fd) (T : T2 mg) (cC : Cal P w K mg base 1 "cut" p_cut (spTrim K)) (cM : Cal P w K mg base 1 "multiplied" p_multiplied spMc) (cA : Cal P w K mg base 2 "added" p_added spAc) : FnOk P w K mg base CX0 3 f fd p_poured spPour := by
  refine F.ok sc_poured (fun vs H Q E h => ?_) (fun cdv A outer s H vs Q E hr h => ?_)
  · obtain ⟨t, A, W, k, a, rfl, _⟩ := h
    rfl
  · obtain ⟨t, Am, W, j, x, rfl, ⟨⟨la, lo, ht, hA, hW⟩, W0⟩, h20, bW, bx, k⟩ := h
    have nd := sc_poured.nd
    have r1 : Room 1 _ := hr.mono (by decide)
    have one : 1 ≤ sizeLine := by show 1 ≤ sizeLine; decide
    have two : 2 ≤ sizeLine := by show 2 ≤ sizeLine; decide
    refine ⟨_, pss_cons (ps_asg (pv 2) (pg_tup rfl (pgs_cons (pg_name (i := 3) nd rfl (Or.inl rfl)) (pgs_cons (pg_name (i := 4) nd rfl (Or.inl rfl)) pgs_nil))))
      (pss_cons (ps_set (i := 5) nd rfl (Or.inr rfl) (pe_c cM r1 (pa_cons (pe_c cC r1 (pa_cons (pe_lst (pa_cons (pv 1) pa_nil)) pa_nil)) (pa_cons (pv 4) pa_nil))))
      (pss_one (ps_ret (pe_tup (pa_cons (pe_lc (own := [("k", 6), ("one", 7)]) (g := gTup K 2 (gCons (gName 6) (gCons (gName 7) gNil))) (tt := tYes) (te := tIf (tTest (tOp rEq (tVar 6) (tVar 0))) (tCall spAc [] E0 (tCons (tVar 7) (tCons (tVar 5) tNil))) (tVar 7)) rfl nd (pi_enum (by rfl) T.enu (pa_cons (pv 3) pa_nil)) (blkOk_by (N := n_poured) (sc := defScope s_poured) (by decide +kernel))
          (fun _ _ _ _ _ => pg_tup rfl (pgs_cons (pg_name (i := 6) nd rfl (Or.inl rfl)) (pgs_cons (pg_name (i := 7) nd rfl (Or.inl rfl)) pgs_nil))) (fun _ _ _ _ _ => pts_nil)
          (fun _ _ _ _ _ => pe_ifExp (pt_cmpR op_eq (pv 6) (pv 0) (nomark _)) (pe_c cA hr (pa_cons (pv 7) (pa_cons (pv 5) pa_nil))) (pv 7))) (pa_cons (pv 4) pa_nil)))))), ?_⟩
    refine ⟨_, rfl, t, _, rfl, SqT.of ht, rfl, _, _, rfl, _, _, rfl, rfl, ?_⟩
    refine ⟨_, rfl, one, fun r0 hr0 => ⟨r0, [x], rfl, SqL.of upd_same, by show 1 ≤ 1000; decide, fun r H1 hr1 e1 h1 => ?_⟩⟩
    rw [trm_1] at h1
    have e01 := (Evl.Ex.new (o := .lst [.int x]) hr0).trans e1
    refine ⟨_, rfl, r, lo, x, W, rfl, h1, ?_, bx, bW, fun y H2 hy e2 h2 => ?_⟩
    · rw [cp_n (by omega)]
      exact e01 _ _ hW
    have e02 := e01.trans e2
    have hA2 := hA.ex e02
    obtain ⟨xs, hxs, hxl, hxi⟩ := cs_items hA2
    refine ⟨_, rfl, la, _, rfl, SqL.of hxs, fun D hD => lc_it walk_enum (fun i H' => Evl.Ex H2 H' ∧ CsN H' D (pourA Am W j x) i) ⟨Evl.Ex.new hD, CsN.start upd_same⟩ (fun i H' _ q => SqL.of (q.1 _ _ hxs)) ?_ ?_⟩
    · rintro i v H3 H4 hi ⟨e3, hN⟩ ⟨t3, z, o, rfl, ht3, rfl, hz, ho⟩
      obtain rfl := (Option.some.inj hz).symm
      obtain ⟨a, rfl, hia, hLa⟩ := hxi i _ ho
      have e4 := Evl.Ex.new (o := .tup [.int (i : Nat), .ref a]) ht3
      have e34 := e3.trans e4
      refine ⟨t3, _, rfl, SqT.of upd_same, rfl, _, _, rfl, _, _, rfl, rfl, rfl, ?_⟩
      show tIf (tTest (tOp rEq (tVar 6) (tVar 0))) (tCall spAc [] E0 (tCons (tVar 7) (tCons (tVar 5) tNil))) (tVar 7) _ _ _
      obtain ⟨as0, hD0, _⟩ := id hN
      have hget : (pourA Am W j x)[i]? = some (if (i : Int) = j then Am.getD i 0 + x * W else Am.getD i 0) := map_range_get hia
      refine ⟨_, rfl, _, rfl, rfl, _, rfl, ?_⟩
      by_cases hm : ((i : Nat) : Int) = j
      · rw [if_pos hm] at hget
        refine if_t (decide_eq_true (by rw [hm])) ?_
        refine ⟨_, rfl, _, rfl, a, y, _, _, rfl, e34 _ _ hLa, e34 _ _ h2, fun r H5 hr5 e5 h5 => ?_⟩
        obtain ⟨acc, a1, a2, a3⟩ := hN.more (e4.trans e5) (ne_of_none (e4 _ _ hD0) hr5).symm h5 hget (by omega)
        exact ⟨acc, a1, a2, Evl.Ex.mut (e34.trans e5) hD, a3⟩
      · rw [if_neg hm] at hget
        refine if_f (decide_eq_false fun z => hm (by injection z)) ?_
        obtain ⟨acc, a1, a2, a3⟩ := hN.more e4 (ne_of_none (show H2 a = some _ from hLa) hD) (e34 _ _ hLa) hget (by omega)
        exact ⟨_, rfl, acc, a1, a2, Evl.Ex.mut e34 hD, a3⟩
    · rintro H3 ⟨e3, hN⟩
      rw [hxl, show Am.length = (pourA Am W j x).length by unfold pourA; rw [List.length_map, List.length_range]] at hN
      have hC := hN.done
      refine ⟨_, rfl, two, fun q hq => ?_⟩
      have e5 := Evl.Ex.new (o := .tup [.ref D, .ref lo]) hq
      exact k q _ ((e02.trans e3).trans e5) ⟨⟨D, lo, upd_same, hC.ex e5, e5 _ _ (e3 _ _ (e02 _ _ hW))⟩, W0⟩
end
end V2


namespace V2
open PySem L2
open PySem.Spec PyProof.Rows
def oV : Option Int → V
  | none => .non
  | some m => .int m
/-- the amounts when p of q of tank k are taken, put into the tank o -/
def takeA (A : List Int) (k p q : Int) (o : Option Int) : List Int :=
  let B := (A.map (· * q)).set k.toNat (A.getD k.toNat 0 * (q - p))
  match o with
  | none => B
  | some m => B.set m.toNat (B.getD m.toNat 0 + A.getD k.toNat 0 * p)
def spTake : Sp := fun vs H Q _ => ∃ (f t : Addr) (A : List Int) (W k p q : Int) (o : Option Int), vs = [.int k, oV o, .ref f, .ref t] ∧ Wat H t A W ∧ A.length ≤ 20 ∧ (∀ x ∈ A, Bn 4400 x) ∧ Bn 4400 W ∧ Fr H f p q ∧ Pt p q ∧ (0 ≤ k ∧ k < A.length) ∧
  (∀ m, o = some m → 0 ≤ m ∧ m < A.length) ∧ ∀ t' H', Evl.Ex H H' → Wat H' t' (takeA A k p q o) (W * q) → Q (.ref t') H'
section
variable {base : Heap} {mg : Str → Option Value} {K : PySem.W.Frag} {w : World} {P : Program}
theorem ok_taken {f : Addr} {fd : FuncData} (F : Fun K "taken" "taken" s_taken f fd) (cC : Cal P w K mg base 1 "cut" p_cut (spTrim K)) (cM : Cal P w K mg base 1 "multiplied" p_multiplied spMc) (cA : Cal P w K mg base 2 "added" p_added spAc) : FnOk P w K mg base CX0 3 f fd p_taken spTake := by
  refine F.ok sc_taken (fun vs H Q E h => ?_) (fun cdv A outer s H vs Q E hr h => ?_)
  · obtain ⟨g, t, A, W, k, p, q, o, rfl, _⟩ := h
    rfl
  · obtain ⟨g, t, Am, W, j, p, q, o, rfl, ⟨⟨la, lo, ht, hA, hW⟩, W0⟩, h20, bA, bW, hg, ⟨p0, pq, hQn⟩, ⟨j0, j1⟩, hm, k⟩ := h
    have nd := sc_taken.nd
    have r1 : Room 1 _ := hr.mono (by decide)
    have one : 1 ≤ sizeLine := by show 1 ≤ sizeLine; decide
    have two : 2 ≤ sizeLine := by show 2 ≤ sizeLine; decide
    obtain ⟨q0, qc, pb, qb⟩ := hQn
    have bq : Bn 4400 q := Nat.lt_of_lt_of_le qb (Nat.pow_le_pow_right (by decide) (by decide))
    have bp : Bn 4400 p := Nat.lt_of_lt_of_le pb (Nat.pow_le_pow_right (by decide) (by decide))
    have bqp : Bn 4400 (q - p) := Nat.lt_of_le_of_lt (show (q - p).natAbs ≤ q.natAbs by omega) bq
    refine ⟨_, pss_cons (ps_asg (pv 3) (pg_tup rfl (pgs_cons (pg_name (i := 4) nd rfl (Or.inl rfl)) (pgs_cons (pg_name (i := 5) nd rfl (Or.inl rfl)) pgs_nil))))
      (pss_cons (ps_asg (pv 2) (pg_tup rfl (pgs_cons (pg_name (i := 6) nd rfl (Or.inl rfl)) (pgs_cons (pg_name (i := 7) nd rfl (Or.inr rfl)) pgs_nil))))
      (pss_cons (ps_setLc (i := 8) (own := [("one", 9)]) (g := gName 9) (tt := tYes) (te := tCall spMc [] E0 (tCons (tVar 9) (tCons (tLst (tCons (tVar 7) tNil)) tNil))) rfl nd rfl rfl (sw_true rfl rfl rfl (by decide +kernel)) (pi_list (pv 4)) (blkOk_by (N := n_taken) (sc := defScope s_taken) (by decide +kernel)) (fun _ _ _ _ _ => pg_name (i := 9) nd rfl (Or.inl rfl)) (fun _ _ _ _ _ => pts_nil)
          (fun _ _ _ _ _ => pe_c cM r1 (pa_cons (pv 9) (pa_cons (pe_lst (pa_cons (pv 7) pa_nil)) pa_nil))))
      (pss_cons (ps_asg (pe_c cM r1 (pa_cons (pe_ix ix_list (pv 4) (pv 0) (fun _ _ => rfl)) (pa_cons (pe_c cC r1 (pa_cons (pe_lst (pa_cons (pe_op op_sub (pv 7) (pv 6)) pa_nil)) pa_nil)) pa_nil))) (pg_sub (pv 8) (pv 0) set_list))
      (Evl.pss_cut (ps_if (pt_cmp (pc_notN (pv 1))) (pss_one (ps_asg (pe_c cA hr (pa_cons (pe_ix ix_list (pv 8) (pv 1) (fun _ _ => rfl)) (pa_cons (pe_c cM r1 (pa_cons (pe_ix ix_list (pv 4) (pv 0) (fun _ _ => rfl)) (pa_cons (pe_c cC r1 (pa_cons (pe_lst (pa_cons (pv 6) pa_nil)) pa_nil)) pa_nil))) pa_nil))) (pg_sub (pv 8) (pv 1) set_list))) pss_nil)
      (pss_one (ps_ret (pe_tup (pa_cons (pv 8) (pa_cons (pe_c cM r1 (pa_cons (pv 5) (pa_cons (pe_lst (pa_cons (pv 7) pa_nil)) pa_nil))) pa_nil))))))))), ?_⟩
    refine ⟨_, rfl, t, _, rfl, SqT.of ht, rfl, _, _, rfl, _, _, rfl, rfl, ?_⟩
    refine ⟨_, rfl, g, _, rfl, SqT.of hg, rfl, _, _, rfl, _, _, rfl, rfl, ?_⟩
    obtain ⟨xs, hxs, hxl, hxi⟩ := cs_items hA
    have hjn : j.toNat < Am.length := by omega
    obtain ⟨jn, rfl⟩ : ∃ n : Nat, j = n := ⟨j.toNat, by omega⟩
    rw [Int.toNat_natCast] at hjn
    have hxj : xs[jn]? = some xs[jn] := List.getElem?_eq_getElem (by omega)
    obtain ⟨aj, haj, _, hLj⟩ := hxi jn _ hxj
    rw [haj] at hxj
    have bAj := bA _ (getD_mem' hjn)
    refine ⟨_, rfl, la, rfl, ⟨_, SqL.of hxs⟩, fun D hD => lc_list (xs := xs) (fun i H' => Evl.Ex H H' ∧ CsN H' D (Am.map (· * q)) i) ⟨Evl.Ex.new hD, CsN.start upd_same⟩ (fun i H' _ z => SqL.of (z.1 _ _ hxs)) ?_ ?_⟩
    · rintro i v H2 hi ⟨e2, hN⟩
      obtain ⟨a, rfl, hia, hLa⟩ := hxi i _ hi
      refine ⟨rfl, ?_⟩
      show tCall spMc [] E0 (tCons (tVar 9) (tCons (tLst (tCons (tVar 7) tNil)) tNil)) _ _ _
      obtain ⟨as0, hD0, _⟩ := id hN
      have hget : (Am.map (· * q))[i]? = some (Am.getD i 0 * q) := by
        rw [List.getElem?_map, getD_some hia]
        rfl
      refine ⟨_, rfl, _, rfl, one, fun r0 hr0 => ⟨a, r0, Am.getD i 0, q, rfl, Evl.Ex.new hr0 _ _ (e2 _ _ hLa), ?_, bA _ (getD_mem' hia), bq, fun r H4 hr4 e4 h4 => ?_⟩⟩
      · rw [cp_n (by omega)]
        exact upd_same
      · have e3 := Evl.Ex.new (o := .lst [.int q]) hr0
        obtain ⟨acc, a1, a2, a3⟩ := hN.more (e3.trans e4) (ne_of_none (e3 _ _ hD0) hr4).symm h4 hget (by omega)
        exact ⟨acc, a1, a2, Evl.Ex.mut ((e2.trans e3).trans e4) hD, a3⟩
    · rintro H2 ⟨e2, hN⟩
      rw [hxl, show Am.length = (Am.map (· * q)).length by rw [List.length_map]] at hN
      obtain ⟨as, hDa, hDl, hDi⟩ := hN.done
      -- found[tank]
      refine ⟨_, rfl, _, rfl, la, xs, _, _, rfl, rfl, SqL.of (e2 _ _ hxs), atI_nat hxj, _, rfl, _, rfl, _, _, rfl, rfl, one, fun r0 hr0 => ⟨r0, [q - p], rfl, SqL.of upd_same, by show 1 ≤ 1000; decide, fun r1' H3 hr3 e3 h3 => ?_⟩⟩
      rw [trm_1] at h3
      have e23 := (Evl.Ex.new (o := .lst [.int (q - p)]) hr0).trans e3
      have e03 := e2.trans e23
      refine ⟨aj, r1', _, _, rfl, e03 _ _ hLj, h3, bAj, bqp, fun r2 H4 hr4 e4 h4 => ?_⟩
      have e24 := e23.trans e4
      have e04 := e2.trans e24
      have hD4 : H4 D = some (.lst (as.map V.ref)) := e24 _ _ hDa
      have r2D : r2 ≠ D := (ne_of_none (e23 _ _ hDa) hr4).symm
      have hDi4 : ∀ (i : Nat) (a : Addr) (n : Int), as[i]? = some a → (Am.map (· * q))[i]? = some n → Li H4 a (cp n) := fun i a n x y => e24 _ _ (hDi i a n x y)
      have hset := cs_set (r := r2) (j := jn) hD4 hDl hDi4 r2D h4 (by rw [List.length_map]; exact hjn)
      refine ⟨_, rfl, _, rfl, D, _, _, jn, rfl, rfl, hD4, Evl.ixN_nat (by rw [List.length_map, hDl, List.length_map]; exact hjn), ?_⟩
      have x5 : Evl.Ex H (upd H4 D (.lst ((as.map V.ref).set jn (.ref r2)))) := Evl.Ex.mut e04 hD
      generalize upd H4 D (.lst ((as.map V.ref).set jn (.ref r2))) = H5 at hset x5
      -- the other tank
      refine ⟨fun σ H' => Evl.Ex H H' ∧ σ = [some (.int (jn : Int)), some (oV o), some (.ref g), some (.ref t), some (.ref la), some (.ref lo), some (.int p), some (.int q), some (.ref D), none] ∧ CsAt H' D (takeA Am jn p q o), ?_, ?_⟩
      · refine ⟨_, rfl, _, rfl, ?_⟩
        cases o with
        | none => exact ⟨x5, rfl, by unfold takeA; rw [Int.toNat_natCast]; exact hset⟩
        | some m =>
          obtain ⟨m0, m1⟩ := hm m rfl
          obtain ⟨mn, rfl⟩ : ∃ n : Nat, m = n := ⟨m.toNat, by omega⟩
          have hmn : mn < Am.length := by omega
          obtain ⟨bs, hDb, hDbl, hDbi⟩ := id hset
          have hBl : ((Am.map (· * q)).set jn (Am.getD jn 0 * (q - p))).length = Am.length := by rw [List.length_set, List.length_map]
          have hbm : bs[mn]? = some bs[mn] := List.getElem?_eq_getElem (by rw [hDbl, hBl]; exact hmn)
          have hbL := hDbi mn _ _ hbm (getD_some (by rw [hBl]; exact hmn))
          refine ⟨_, rfl, _, rfl, D, _, _, _, rfl, rfl, SqL.of hDb, atI_nat (by rw [List.getElem?_map, hbm]; rfl), ?_⟩
          refine ⟨_, rfl, _, rfl, la, xs, _, _, rfl, rfl, SqL.of (x5 _ _ hxs), atI_nat hxj, _, rfl, one, fun s0 hs0 => ⟨s0, [p], rfl, SqL.of upd_same, by show 1 ≤ 1000; decide, fun s1 H6 hs6 e6 h6 => ?_⟩⟩
          rw [trm_1] at h6
          have e56 := (Evl.Ex.new (o := .lst [.int p]) hs0).trans e6
          refine ⟨aj, s1, _, _, rfl, e56 _ _ (x5 _ _ hLj), h6, bAj, bp, fun s2 H7 hs7 e7 h7 => ?_⟩
          have e57 := e56.trans e7
          refine ⟨bs[mn], s2, _, _, rfl, e57 _ _ hbL, h7, fun s3 H8 hs8 e8 h8 => ?_⟩
          have e58 := e57.trans e8
          have hD8 : H8 D = some (.lst (bs.map V.ref)) := e58 _ _ hDb
          have s3D : s3 ≠ D := (ne_of_none (e57 _ _ hDb) hs8).symm
          have hset2 := cs_set (r := s3) (j := mn) hD8 hDbl (fun i a n x y => e58 _ _ (hDbi i a n x y)) s3D h8 (by rw [hBl]; exact hmn)
          refine ⟨_, rfl, _, rfl, D, _, _, mn, rfl, rfl, hD8, Evl.ixN_nat (by rw [List.length_map, hDbl, hBl]; exact hmn), ?_⟩
          refine ⟨Evl.Ex.mut (x5.trans e58) hD, rfl, ?_⟩
          unfold takeA
          rw [Int.toNat_natCast]
          exact hset2
      · rintro σ H6 ⟨e6, rfl, hC⟩
        refine ⟨_, rfl, _, rfl, _, rfl, one, fun r0 hr0 => ⟨lo, r0, W, q, rfl, ?_, ?_, bW, bq, fun y H7 hy e7 h7 => ⟨two, fun z hz => ?_⟩⟩⟩
        · rw [cp_n (by omega)]
          exact Evl.Ex.new hr0 _ _ (e6 _ _ hW)
        · rw [cp_n (by omega)]
          exact upd_same
        · have e67 := (Evl.Ex.new (o := .lst [.int q]) hr0).trans e7
          have e8 := Evl.Ex.new (o := .tup [.ref D, .ref y]) hz
          have Wq : 0 < W * q := Int.mul_pos W0 q0
          have h7 : H7 y = some (.lst (iV (cp (W * q)))) := h7
          rw [cp_n (Int.ne_of_gt Wq)] at h7
          exact k z _ ((e6.trans e67).trans e8) ⟨⟨D, y, upd_same, (hC.ex e67).ex e8, e8 _ _ h7⟩, Wq⟩
end
end V2


namespace V2
open PySem L2
open PySem.Spec PyProof.Rows
/-- what a step does -/
def stepA (ws : List Int) (S : List Int × Int) : Deed → List Int × Int
  | .op ks => (openA S.1 ws ks, S.2 * (pick ws ks).sum)
  | .po k a => (pourA S.1 S.2 k a, S.2)
  | .sc k p q => (takeA S.1 k p q none, S.2 * q)
  | .mv k m p q => (takeA S.1 k p q (some m), S.2 * q)
  | .un _ _ => S
theorem bn_sum {N : Nat} : ∀ xs : List Int, (∀ x ∈ xs, Bn N x) → xs.sum.natAbs ≤ xs.length * 2 ^ N
  | [], _ => by simp
  | x :: r, h => by
    have h1 := bn_sum r fun y hy => h y (List.mem_cons_of_mem _ hy)
    have h2 : x.natAbs < 2 ^ N := h x List.mem_cons_self
    have h3 : (x :: r).sum = x + r.sum := List.sum_cons
    rw [h3, List.length_cons, Nat.succ_mul r.length (2 ^ N)]
    omega
theorem bn_sum20 {N : Nat} {xs : List Int} (h : ∀ x ∈ xs, Bn N x) (hl : xs.length ≤ 20) : Bn (N + 5) xs.sum := by
  have h1 := bn_sum xs h
  have h2 := Nat.mul_le_mul_right (2 ^ N) hl
  have h3 : (2 : Nat) ^ (N + 5) = 32 * 2 ^ N := by rw [Nat.pow_add, Nat.mul_comm]
  have h4 : 0 < 2 ^ N := Nat.pow_pos (by decide)
  unfold Bn
  omega
theorem pick_mem {ns ks : List Int} (hok : okK ns.length ks) {x : Int} (h : x ∈ pick ns ks) : x ∈ ns := by
  unfold pick at h
  obtain ⟨k, hk, rfl⟩ := List.mem_map.mp h
  obtain ⟨k0, k1⟩ := hok.2 k hk
  exact getD_mem' (by omega)
theorem pick_len (ns ks : List Int) : (pick ns ks).length = ks.length := by unfold pick; rw [List.length_map]
theorem sum_pos : ∀ {xs : List Int}, xs ≠ [] → (∀ x ∈ xs, 0 < x) → 0 < xs.sum
  | [], h, _ => absurd rfl h
  | [x], _, h => by
    have := h x List.mem_cons_self
    simpa using this
  | x :: y :: r, _, h => by
    have h1 := sum_pos (xs := y :: r) (by simp) fun z hz => h z (List.mem_cons_of_mem _ hz)
    have h2 := h x List.mem_cons_self
    rw [List.sum_cons]
    omega
/-- the state of the water: amounts from 0 on, of at most N bits -/
structure OkW (N : Nat) (A : List Int) (W : Int) : Prop where
  nn : ∀ x ∈ A, 0 ≤ x
  bA : ∀ x ∈ A, Bn N x
  bW : Bn N W
  pos : 0 < W
structure OkV (n : Nat) (ws : List Int) : Prop where
  len : ws.length = n
  pos : ∀ x ∈ ws, 0 < x
  bit : ∀ x ∈ ws, Bn 60 x
def spAfter : Sp := fun vs H Q _ => ∃ (s t lw : Addr) (d : Deed) (A ws : List Int) (W : Int) (N : Nat), vs = [.ref s, .ref t, .ref lw] ∧ DAt H s d ∧ okD A.length d ∧ (∀ k a, d = .po k a → Bn 60 a) ∧ Wat H t A W ∧ CsAt H lw ws ∧ A.length ≤ 20 ∧ OkV A.length ws ∧ OkW N A W ∧ N ≤ 4300 ∧
  ∀ t' H', Evl.Ex H H' → Wat H' t' (stepA ws (A, W) d).1 (stepA ws (A, W) d).2 → Q (.ref t') H'
/-- the level of a tank -/
def lvl (A ws : List Int) (W b : Int) (i : Nat) : Int × Int := fr (A.getD i 0 * b) (W * ws.getD i 0)
def FmAt (H : Hp) (l : Addr) (fs : List (Int × Int)) : Prop := ∃ as : List Addr, H l = some (.lst (as.map V.ref)) ∧ as.length = fs.length ∧ ∀ (i : Nat) (a : Addr) (f : Int × Int), as[i]? = some a → fs[i]? = some f → ∃ x y, H a = some (.tup [.ref x, .ref y]) ∧ Li H x (cp f.1) ∧ Li H y [f.2]
def spLev : Sp := fun vs H Q _ => ∃ (t lw : Addr) (A ws : List Int) (W b : Int) (N : Nat), vs = [.ref t, .ref lw, .int b] ∧ Wat H t A W ∧ CsAt H lw ws ∧ A.length ≤ 20 ∧ OkV A.length ws ∧ OkW N A W ∧ N ≤ 4300 ∧ 0 < b ∧ Bn 50 b ∧
  ∀ D H', H D = none → Evl.Ex H H' → FmAt H' D ((List.range A.length).map (lvl A ws W b)) → Q (.ref D) H'
section
variable {base : Heap} {mg : Str → Option Value} {K : PySem.W.Frag} {w : World} {P : Program}
theorem ok_after {f : Addr} {fd : FuncData} (F : Fun K "after" "after" s_after f fd) (cO : Cal P w K mg base 5 "opened" p_opened spOpen) (cP : Cal P w K mg base 3 "poured" p_poured spPour) (cT : Cal P w K mg base 3 "taken" p_taken spTake) : FnOk P w K mg base CX0 6 f fd p_after spAfter := by
  refine F.ok sc_after (fun vs H Q E h => ?_) (fun cdv A outer s H vs Q E hr h => ?_)
  · obtain ⟨s, t, lw, d, A, ws, W, N, rfl, _⟩ := h
    rfl
  · obtain ⟨s, t, lw, d, Am, ws, W, N, rfl, hd, hok, hpo, hWt, hw, h20, hV, hW, hN, k⟩ := h
    have nd := sc_after.nd
    have r3 : Room 3 _ := hr.mono (by decide)
    refine ⟨_, pss_cons (ps_set (i := 3) nd rfl (Or.inl rfl) (pe_ix ix_tup (pv 0) pe_int (fun _ _ => rfl)))
      (pss_cons (ps_if (pt_cmpR op_eq (pv 3) pe_str (nomark _)) (pss_one (ps_ret (pe_c cO hr (pa_cons (pe_ix ix_tup (pv 0) pe_int (fun _ _ => rfl)) (pa_cons (pv 1) (pa_cons (pv 2) pa_nil)))))) pss_nil)
      (pss_cons (ps_if (pt_cmpR op_eq (pv 3) pe_str (nomark _)) (pss_one (ps_ret (pe_c cP r3 (pa_cons (pe_ix ix_tup (pv 0) pe_int (fun _ _ => rfl)) (pa_cons (pe_ix ix_tup (pv 0) pe_int (fun _ _ => rfl)) (pa_cons (pv 1) pa_nil)))))) pss_nil)
      (pss_cons (ps_if (pt_cmpR op_eq (pv 3) pe_str (nomark _)) (pss_one (ps_ret (pe_c cT r3 (pa_cons (pe_ix ix_tup (pv 0) pe_int (fun _ _ => rfl)) (pa_cons pe_non (pa_cons (pe_ix ix_tup (pv 0) pe_int (fun _ _ => rfl)) (pa_cons (pv 1) pa_nil))))))) pss_nil)
      (pss_cons (ps_if (pt_cmpR op_eq (pv 3) pe_str (nomark _)) (pss_one (ps_ret (pe_c cT r3 (pa_cons (pe_ix ix_tup (pv 0) pe_int (fun _ _ => rfl)) (pa_cons (pe_ix ix_tup (pv 0) pe_int (fun _ _ => rfl)) (pa_cons (pe_ix ix_tup (pv 0) pe_int (fun _ _ => rfl)) (pa_cons (pv 1) pa_nil))))))) pss_nil)
      (pss_one (ps_ret (pv 1))))))), ?_⟩
    cases d with
    | op ks =>
      obtain ⟨l, ha, hl⟩ := hd
      obtain ⟨h2, hk20, _, hks⟩ := hok
      have ok1 : okK Am.length ks := ⟨hk20, hks⟩
      have ok2 : okK ws.length ks := by rw [hV.len]; exact ok1
      have l20 : ∀ ns : List Int, (pick ns ks).length ≤ 20 := fun ns => by rw [pick_len]; exact hk20
      refine ⟨_, rfl, s, _, _, _, rfl, rfl, SqT.of ha, rfl, _, rfl, rfl, _, rfl, if_t (by decide) ?_⟩
      refine ⟨_, rfl, s, _, _, _, rfl, rfl, SqT.of ha, rfl, _, rfl, _, rfl, l, t, lw, ks, Am, ws, W, rfl, hl, hWt, hw, ok1, hV.len, h20, fun x hx => (hW.bA x hx).le (by omega), hW.bW.le (by omega), fun x hx => (hV.bit x hx).le (by decide), ?_, ?_, ?_, k⟩
      · exact (bn_sum20 (fun x hx => hW.bA x (pick_mem ok1 hx)) (l20 _)).le (by omega)
      · exact (bn_sum20 (fun x hx => hV.bit x (pick_mem ok2 hx)) (l20 _)).le (by decide)
      · refine sum_pos (fun z => ?_) fun x hx => hV.pos x (pick_mem ok2 hx)
        have := congrArg List.length z
        rw [pick_len, List.length_nil] at this
        omega
    | po j x =>
      have ha : H s = some (.tup [.str "pour", .int j, .int x]) := hd
      refine ⟨_, rfl, s, _, _, _, rfl, rfl, SqT.of ha, rfl, _, rfl, rfl, _, rfl, if_f (by decide) ?_⟩
      refine ⟨_, rfl, rfl, _, rfl, if_t (by decide) ?_⟩
      exact ⟨_, rfl, s, _, _, _, rfl, rfl, SqT.of ha, rfl, _, rfl, s, _, _, _, rfl, rfl, SqT.of ha, rfl, _, rfl, t, Am, W, j, x, rfl, hWt, h20, hW.bW.le (by omega), (hpo j x rfl).le (by decide), k⟩
    | sc j p q =>
      obtain ⟨g, ha, hg⟩ := hd
      refine ⟨_, rfl, s, _, _, _, rfl, rfl, SqT.of ha, rfl, _, rfl, rfl, _, rfl, if_f (by decide) ?_⟩
      refine ⟨_, rfl, rfl, _, rfl, if_f (by decide) ?_⟩
      refine ⟨_, rfl, rfl, _, rfl, if_t (by decide) ?_⟩
      exact ⟨_, rfl, s, _, _, _, rfl, rfl, SqT.of ha, rfl, _, rfl, s, _, _, _, rfl, rfl, SqT.of ha, rfl, _, rfl, g, t, Am, W, j, p, q, none, rfl, hWt, h20, fun x hx => (hW.bA x hx).le (by omega), hW.bW.le (by omega), hg, hok.2, hok.1, fun m hm => (by cases hm), k⟩
    | mv j m p q =>
      obtain ⟨g, ha, hg⟩ := hd
      refine ⟨_, rfl, s, _, _, _, rfl, rfl, SqT.of ha, rfl, _, rfl, rfl, _, rfl, if_f (by decide) ?_⟩
      refine ⟨_, rfl, rfl, _, rfl, if_f (by decide) ?_⟩
      refine ⟨_, rfl, rfl, _, rfl, if_f (by decide) ?_⟩
      refine ⟨_, rfl, rfl, _, rfl, if_t (by decide) ?_⟩
      exact ⟨_, rfl, s, _, _, _, rfl, rfl, SqT.of ha, rfl, _, rfl, s, _, _, _, rfl, rfl, SqT.of ha, rfl, _, rfl, s, _, _, _, rfl, rfl, SqT.of ha, rfl, _, rfl, g, t, Am, W, j, p, q, some m, rfl, hWt, h20, fun x hx => (hW.bA x hx).le (by omega), hW.bW.le (by omega), hg, hok.2.2.2, hok.1, fun m' hm => (by cases hm; exact hok.2.1), k⟩
    | un j m =>
      have ha : H s = some (.tup [.str "unless", .int j, .int m]) := hd
      refine ⟨_, rfl, s, _, _, _, rfl, rfl, SqT.of ha, rfl, _, rfl, rfl, _, rfl, if_f (by decide) ?_⟩
      refine ⟨_, rfl, rfl, _, rfl, if_f (by decide) ?_⟩
      refine ⟨_, rfl, rfl, _, rfl, if_f (by decide) ?_⟩
      refine ⟨_, rfl, rfl, _, rfl, if_f (by decide) ?_⟩
      exact ⟨_, rfl, k t H (Evl.Ex.refl _) hWt⟩
end
end V2


namespace V2
open PySem L2
open PySem.Spec PyProof.Rows
/-- while the list of forms at D is being made -/
def FmN (H : Hp) (D : Addr) (fs : List (Int × Int)) (i : Nat) : Prop := ∃ as : List Addr, H D = some (.lst (as.map V.ref)) ∧ as.length = i ∧ ∀ (j : Nat) (a : Addr) (f : Int × Int), as[j]? = some a → fs[j]? = some f → ∃ x y, a ≠ D ∧ x ≠ D ∧ y ≠ D ∧ H a = some (.tup [.ref x, .ref y]) ∧ Li H x (cp f.1) ∧ Li H y [f.2]
theorem FmN.start {H : Hp} {D : Addr} {fs : List (Int × Int)} (h : H D = some (.lst [])) : FmN H D fs 0 := ⟨[], h, rfl, fun j a n h => by cases h⟩
theorem FmN.more {H2 H3 : Hp} {D r x y : Addr} {fs : List (Int × Int)} {i : Nat} {f : Int × Int} (h : FmN H2 D fs i) (e : Evl.Ex H2 H3) (hx : x ≠ D) (hy : y ≠ D) (hr : H3 r = some (.tup [.ref x, .ref y])) (h3 : Li H3 x (cp f.1)) (h4 : Li H3 y [f.2]) (hn : fs[i]? = some f) (hi : i ≤ 100) :
    ∃ acc, H3 D = some (.lst acc) ∧ acc.length < sizeLine ∧ FmN (upd H3 D (.lst (acc ++ [.ref r]))) D fs (i + 1) := by
  obtain ⟨as, h1, h2, h5⟩ := h
  have h1' := e _ _ h1
  have rD : r ≠ D := ne_of hr h1' (fun z => by cases z)
  refine ⟨_, h1', ?_, as ++ [r], ?_, ?_, fun j a m ha hm => ?_⟩
  · rw [List.length_map, h2]
    exact Nat.lt_of_le_of_lt hi (by decide)
  · rw [upd_same, List.map_append]
    rfl
  · rw [List.length_append, h2]
    rfl
  · rcases get_app ha with ⟨h6, _⟩ | ⟨h6, rfl⟩
    · obtain ⟨x', y', n1, n2, n3, g1, g2, g3⟩ := h5 j a m h6 hm
      exact ⟨x', y', n1, n2, n3, by rw [upd_ne n1]; exact e _ _ g1, Eq.trans (upd_ne n2) (e _ _ g2), Eq.trans (upd_ne n3) (e _ _ g3)⟩
    · rw [h6, h2, hn] at hm
      cases hm
      exact ⟨x, y, rD, hx, hy, by rw [upd_ne rD]; exact hr, Eq.trans (upd_ne hx) h3, Eq.trans (upd_ne hy) h4⟩
theorem FmN.done {H : Hp} {D : Addr} {fs : List (Int × Int)} (h : FmN H D fs fs.length) : FmAt H D fs := by
  obtain ⟨as, h1, h2, h3⟩ := h
  exact ⟨as, h1, h2, fun i a f x y => let ⟨u, v, _, _, _, g⟩ := h3 i a f x y; ⟨u, v, g⟩⟩
section
variable {base : Heap} {mg : Str → Option Value} {K : PySem.W.Frag} {w : World} {P : Program}
theorem ok_levels {f : Addr} {fd : FuncData} (F : Fun K "levels" "levels" s_levels f fd) (T : T2 mg) (cM : Cal P w K mg base 1 "multiplied" p_multiplied spMc) (cR : Cal P w K mg base 5 "reduced" p_reduced spRed1) : FnOk P w K mg base CX0 6 f fd p_levels spLev := by
  refine F.ok sc_levels (fun vs H Q E h => ?_) (fun cdv A outer s H vs Q E hr h => ?_)
  · obtain ⟨t, lw, A, ws, W, b, N, rfl, _⟩ := h
    rfl
  · obtain ⟨t, lw, Am, ws, W, b, N, rfl, ⟨⟨la, lo, ht, hA, hW⟩, _⟩, hw, h20, hV, hOk, hN, b0, bb, k⟩ := h
    have nd := sc_levels.nd
    have r1 : Room 1 _ := hr.mono (by decide)
    have one : 1 ≤ sizeLine := by show 1 ≤ sizeLine; decide
    refine ⟨_, pss_cons (ps_asg (pv 0) (pg_tup rfl (pgs_cons (pg_name (i := 3) nd rfl (Or.inl rfl)) (pgs_cons (pg_name (i := 4) nd rfl (Or.inr rfl)) pgs_nil))))
      (pss_one (ps_ret (pe_lc (own := [("k", 5), ("one", 6)]) (g := gTup K 2 (gCons (gName 5) (gCons (gName 6) gNil))) (tt := tYes) (te := tCall spRed1 [] E0 (tCons (tCall spMc [] E0 (tCons (tVar 6) (tCons (tLst (tCons (tVar 2) tNil)) tNil))) (tCons (tCall spMc [] E0 (tCons (tVar 4) (tCons (tOp (rIxL K) (tVar 1) (tVar 5)) tNil))) tNil))) rfl nd (pi_enum (by rfl) T.enu (pa_cons (pv 3) pa_nil)) (blkOk_by (N := n_levels) (sc := defScope s_levels) (by decide +kernel))
          (fun _ _ _ _ _ => pg_tup rfl (pgs_cons (pg_name (i := 5) nd rfl (Or.inl rfl)) (pgs_cons (pg_name (i := 6) nd rfl (Or.inl rfl)) pgs_nil))) (fun _ _ _ _ _ => pts_nil)
          (fun _ _ _ _ _ => pe_c cR hr (pa_cons (pe_c cM r1 (pa_cons (pv 6) (pa_cons (pe_lst (pa_cons (pv 2) pa_nil)) pa_nil))) (pa_cons (pe_c cM r1 (pa_cons (pv 4) (pa_cons (pe_ix ix_list (pv 1) (pv 5) (fun _ _ => rfl)) pa_nil))) pa_nil)))))), ?_⟩
    refine ⟨_, rfl, t, _, rfl, SqT.of ht, rfl, _, _, rfl, _, _, rfl, rfl, ?_⟩
    obtain ⟨xs, hxs, hxl, hxi⟩ := cs_items hA
    obtain ⟨ys, hys, hyl, hyi⟩ := cs_items hw
    refine ⟨_, rfl, la, _, rfl, SqL.of hxs, fun D hD => lc_it walk_enum (fun i H' => Evl.Ex H H' ∧ FmN H' D ((List.range Am.length).map (lvl Am ws W b)) i) ⟨Evl.Ex.new hD, FmN.start upd_same⟩ (fun i H' _ q => SqL.of (q.1 _ _ hxs)) ?_ ?_⟩
    · rintro i v H3 H4 hi ⟨e3, hN3⟩ ⟨t3, z, o, rfl, ht3, rfl, hz, ho⟩
      obtain rfl := (Option.some.inj hz).symm
      obtain ⟨a, rfl, hia, hLa⟩ := hxi i _ ho
      have e4 := Evl.Ex.new (o := .tup [.int (i : Nat), .ref a]) ht3
      have e34 := e3.trans e4
      refine ⟨t3, _, rfl, SqT.of upd_same, rfl, _, _, rfl, _, _, rfl, rfl, rfl, ?_⟩
      show tCall spRed1 [] E0 (tCons (tCall spMc [] E0 (tCons (tVar 6) (tCons (tLst (tCons (tVar 2) tNil)) tNil))) (tCons (tCall spMc [] E0 (tCons (tVar 4) (tCons (tOp (rIxL K) (tVar 1) (tVar 5)) tNil))) tNil)) _ _ _
      have hiw : i < ws.length := by rw [hV.len]; exact hia
      have hyx : ys[i]? = some ys[i] := List.getElem?_eq_getElem (by omega)
      obtain ⟨bq, hb, _, hLb⟩ := hyi i _ hyx
      rw [hb] at hyx
      have bAi := hOk.bA _ (getD_mem' hia)
      have bwi := hV.bit _ (getD_mem' hiw)
      have pwi := hV.pos _ (getD_mem' hiw)
      have hget : ((List.range Am.length).map (lvl Am ws W b))[i]? = some (lvl Am ws W b i) := by
        rw [List.getElem?_map, List.getElem?_range hia]
        rfl
      obtain ⟨as0, hD0, _⟩ := id hN3
      have hD4 := e4 _ _ hD0
      generalize upd H3 t3 (.tup [.int (i : Nat), .ref a]) = H4 at e4 e34 hD4
      refine ⟨_, rfl, _, rfl, one, fun r0 hr0 => ⟨a, r0, Am.getD i 0, b, rfl, Evl.Ex.new hr0 _ _ (e34 _ _ hLa), ?_, bAi.le (by omega), bb.le (by decide), fun r H5 hr5 e5 h5 => ?_⟩⟩
      · rw [cp_n (by omega)]
        exact upd_same
      have e45 := (Evl.Ex.new (o := .lst [.int b]) hr0).trans e5
      have e05 := e34.trans e45
      refine ⟨_, rfl, _, rfl, _, rfl, lw, _, _, _, rfl, rfl, SqL.of (e05 _ _ hys), atI_nat hyx, lo, bq, W, ws.getD i 0, rfl, ?_, e05 _ _ hLb, hOk.bW.le (by omega), bwi.le (by decide), fun r2 H6 hr6 e6 h6 => ?_⟩
      · rw [cp_n (by have := hOk.pos; omega)]
        exact e05 _ _ hW
      have Ww : 0 < W * ws.getD i 0 := Int.mul_pos hOk.pos pwi
      have h6 : H6 r2 = some (.lst (iV (cp (W * ws.getD i 0)))) := h6
      rw [cp_n (Int.ne_of_gt Ww)] at h6
      refine ⟨r, r2, Am.getD i 0 * b, W * ws.getD i 0, rfl, e6 _ _ h5, h6, Ww, (bAi.mul bb).le (by omega), (hOk.bW.mul bwi).le (by omega), fun q x y H7 hx hy e7 hq hLx hLy => ?_⟩
      have e47 := (e45.trans e6).trans e7
      have hD6 := e6 _ _ (e45 _ _ hD4)
      obtain ⟨acc, a1, a2, a3⟩ := hN3.more (e4.trans e47) (ne_of_none hD6 hx).symm (ne_of_none hD6 hy).symm hq hLx hLy hget (by omega)
      exact ⟨acc, a1, a2, Evl.Ex.mut (e34.trans e47) hD, a3⟩
    · rintro H2 ⟨e2, hN2⟩
      rw [hxl] at hN2
      exact k D H2 hD e2 (FmN.done (by rw [List.length_map, List.length_range]; exact hN2))
end
end V2


namespace V2
open PySem L2
theorem sum_nn : ∀ {xs : List Int}, (∀ x ∈ xs, 0 ≤ x) → 0 ≤ xs.sum
  | [], _ => by simp
  | x :: r, h => by
    have h1 := sum_nn fun z hz => h z (List.mem_cons_of_mem _ hz)
    have h2 := h x List.mem_cons_self
    rw [List.sum_cons]
    omega
theorem openA_len (A ws ks : List Int) : (openA A ws ks).length = A.length := by unfold openA; rw [List.length_map, List.length_range]
theorem pourA_len (A : List Int) (W k a : Int) : (pourA A W k a).length = A.length := by unfold pourA; rw [List.length_map, List.length_range]
theorem takeA_len (A : List Int) (k p q : Int) (o : Option Int) : (takeA A k p q o).length = A.length := by
  unfold takeA
  cases o with
  | none => simp
  | some m => simp
theorem stepA_len (ws A : List Int) (W : Int) (d : Deed) : (stepA ws (A, W) d).1.length = A.length := by
  cases d with
  | op ks => exact openA_len _ _ _
  | po k a => exact pourA_len _ _ _ _
  | sc k p q => exact takeA_len A k p q none
  | mv k m p q => exact takeA_len A k p q (some m)
  | un k m => rfl
theorem mem_set' {α : Type} {l : List α} {i : Nat} {x y : α} (h : y ∈ l.set i x) : y ∈ l ∨ y = x := by
  rcases List.mem_or_eq_of_mem_set h with h | h
  · exact .inl h
  · exact .inr h
theorem getD_or (A : List Int) (i : Nat) : A.getD i 0 ∈ A ∨ A.getD i 0 = 0 := by
  by_cases h : i < A.length
  · exact .inl (getD_mem' h)
  · right
    rw [List.getD_eq_getElem?_getD, List.getElem?_eq_none (by omega)]
    rfl
theorem bn0 (N : Nat) : Bn N 0 := Nat.pow_pos (by decide)
theorem takeA_ok {N : Nat} {A : List Int} {k p q : Int} {o : Option Int} (nn : ∀ x ∈ A, 0 ≤ x) (bA : ∀ x ∈ A, Bn N x) (h : Pt p q) : ∀ x ∈ takeA A k p q o, 0 ≤ x ∧ Bn (N + 51) x := by
  obtain ⟨p0, pq, q0, qc, pb, qb⟩ := h
  have bq : Bn 50 q := qb
  have bp : Bn 50 p := pb
  have bqp : Bn 50 (q - p) := Nat.lt_of_le_of_lt (show (q - p).natAbs ≤ q.natAbs by omega) bq
  have g : 0 ≤ A.getD k.toNat 0 ∧ Bn N (A.getD k.toNat 0) := by
    rcases getD_or A k.toNat with z | z
    · exact ⟨nn _ z, bA _ z⟩
    · rw [z]
      exact ⟨Int.le_refl _, bn0 _⟩
  have hB : ∀ x ∈ (A.map (· * q)).set k.toNat (A.getD k.toNat 0 * (q - p)), 0 ≤ x ∧ Bn (N + 50) x := by
    intro x hx
    rcases mem_set' hx with hx | rfl
    · obtain ⟨y, hy, rfl⟩ := List.mem_map.mp hx
      exact ⟨Int.mul_nonneg (nn y hy) (by omega), (bA y hy).mul bq⟩
    · exact ⟨Int.mul_nonneg g.1 (by omega), g.2.mul bqp⟩
  intro x hx
  unfold takeA at hx
  cases o with
  | none => exact ⟨(hB x hx).1, (hB x hx).2.le (by omega)⟩
  | some m =>
    rcases mem_set' hx with hx | rfl
    · exact ⟨(hB x hx).1, (hB x hx).2.le (by omega)⟩
    · have gm : 0 ≤ ((A.map (· * q)).set k.toNat (A.getD k.toNat 0 * (q - p))).getD m.toNat 0 ∧ Bn (N + 50) (((A.map (· * q)).set k.toNat (A.getD k.toNat 0 * (q - p))).getD m.toNat 0) := by
        rcases getD_or ((A.map (· * q)).set k.toNat (A.getD k.toNat 0 * (q - p))) m.toNat with z | z
        · exact hB _ z
        · rw [z]
          exact ⟨Int.le_refl _, bn0 _⟩
      have z1 := Int.mul_nonneg g.1 p0
      exact ⟨by omega, gm.2.add (g.2.mul bp)⟩
theorem okW_step {N n : Nat} {A ws : List Int} {W : Int} {d : Deed} (hA : A.length = n) (hV : OkV n ws) (hW : OkW N A W) (hd : okD n d) (hpo : ∀ k a, d = .po k a → Bn 60 a) : OkW (N + 66) (stepA ws (A, W) d).1 (stepA ws (A, W) d).2 := by
  subst hA
  cases d with
  | op ks =>
    obtain ⟨h2, hk20, _, hks⟩ := hd
    have ok1 : okK A.length ks := ⟨hk20, hks⟩
    have ok2 : okK ws.length ks := by rw [hV.len]; exact ok1
    have l20 : ∀ ns : List Int, (pick ns ks).length ≤ 20 := fun ns => by rw [pick_len]; exact hk20
    have bT := bn_sum20 (fun x hx => hW.bA x (pick_mem ok1 hx)) (l20 _)
    have bS := bn_sum20 (fun x hx => hV.bit x (pick_mem ok2 hx)) (l20 _)
    have nT := sum_nn (xs := pick A ks) fun x hx => hW.nn x (pick_mem ok1 hx)
    have pS : 0 < (pick ws ks).sum := by
      refine sum_pos (fun z => ?_) fun x hx => hV.pos x (pick_mem ok2 hx)
      have := congrArg List.length z
      rw [pick_len, List.length_nil] at this
      omega
    have each : ∀ x ∈ openA A ws ks, 0 ≤ x ∧ Bn (N + 66) x := by
      intro x hx
      unfold openA at hx
      obtain ⟨i, hi, rfl⟩ := List.mem_map.mp hx
      have hi := List.mem_range.mp hi
      split
      · have m := getD_mem' (ns := ws) (i := i) (by rw [hV.len]; exact hi)
        exact ⟨Int.mul_nonneg nT (Int.le_of_lt (hV.pos _ m)), (bT.mul (hV.bit _ m)).le (by omega)⟩
      · have m := getD_mem' hi
        exact ⟨Int.mul_nonneg (hW.nn _ m) (Int.le_of_lt pS), ((hW.bA _ m).mul bS).le (by omega)⟩
    exact ⟨fun x hx => (each x hx).1, fun x hx => (each x hx).2, (hW.bW.mul bS).le (by omega), Int.mul_pos hW.pos pS⟩
  | po k a =>
    have ba := hpo k a rfl
    have a0 : 0 ≤ a := hd.2
    have aW := Int.mul_nonneg a0 (Int.le_of_lt hW.pos)
    have baW : Bn (N + 60) (a * W) := (ba.mul hW.bW).le (by omega)
    have each : ∀ x ∈ pourA A W k a, 0 ≤ x ∧ Bn (N + 66) x := by
      intro x hx
      unfold pourA at hx
      obtain ⟨i, hi, rfl⟩ := List.mem_map.mp hx
      have m := getD_mem' (List.mem_range.mp hi)
      have n1 := hW.nn _ m
      split
      · exact ⟨by omega, (((hW.bA _ m).le (show N ≤ N + 60 by omega)).add baW).le (by omega)⟩
      · exact ⟨n1, (hW.bA _ m).le (by omega)⟩
    exact ⟨fun x hx => (each x hx).1, fun x hx => (each x hx).2, hW.bW.le (by omega), hW.pos⟩
  | sc k p q =>
    have hp := hd.2
    have z := takeA_ok (k := k) (o := none) hW.nn hW.bA hp
    have bq : Bn 50 q := hp.2.2.2.2.2
    exact ⟨fun x hx => (z x hx).1, fun x hx => (z x hx).2.le (by omega), (hW.bW.mul bq).le (by omega), Int.mul_pos hW.pos hp.2.2.1⟩
  | mv k m p q =>
    have hp := hd.2.2.2
    have z := takeA_ok (k := k) (o := some m) hW.nn hW.bA hp
    have bq : Bn 50 q := hp.2.2.2.2.2
    exact ⟨fun x hx => (z x hx).1, fun x hx => (z x hx).2.le (by omega), (hW.bW.mul bq).le (by omega), Int.mul_pos hW.pos hp.2.2.1⟩
  | un k m => exact ⟨hW.nn, fun x hx => (hW.bA x hx).le (by omega), hW.bW.le (by omega), hW.pos⟩
/-- behind all steps -/
def runA (ws : List Int) (S : List Int × Int) (ds : List Deed) : List Int × Int := ds.foldl (stepA ws) S
theorem runA_take {ws : List Int} {S : List Int × Int} {ds : List Deed} {i : Nat} {d : Deed} (h : ds[i]? = some d) : runA ws S (ds.take (i + 1)) = stepA ws (runA ws S (ds.take i)) d := by
  unfold runA
  rw [List.take_add_one, h, List.foldl_append]
  rfl
theorem runA_ok {n : Nat} {ws : List Int} (hV : OkV n ws) : ∀ {ds : List Deed} {N : Nat} {S : List Int × Int}, S.1.length = n → OkW N S.1 S.2 → (∀ d ∈ ds, okD n d ∧ ∀ k a, d = .po k a → Bn 60 a) → (runA ws S ds).1.length = n ∧ OkW (N + 66 * ds.length) (runA ws S ds).1 (runA ws S ds).2
  | [], N, S, h, hW, _ => ⟨h, hW⟩
  | d :: ds, N, S, h, hW, hd => by
    obtain ⟨h1, h2⟩ := hd d List.mem_cons_self
    have z := runA_ok hV (ds := ds) (N := N + 66) (S := stepA ws S d) (by rw [stepA_len]; exact h) (okW_step h hV hW h1 h2) fun x hx => hd x (List.mem_cons_of_mem _ hx)
    refine ⟨z.1, ?_⟩
    have e : N + 66 * (d :: ds).length = N + 66 + 66 * ds.length := by rw [List.length_cons]; omega
    rw [e]
    exact z.2
end V2


namespace V2
open PySem L2
open PySem.Spec PyProof.Rows
/-- pairs of ints that stand in a list, as tuples -/
def PrAt (H : Hp) (l : Addr) (fs : List (Int × Int)) : Prop := ∃ as : List Addr, H l = some (.lst (as.map V.ref)) ∧ as.length = fs.length ∧ ∀ (i : Nat) (a : Addr) (f : Int × Int), as[i]? = some a → fs[i]? = some f → Fr H a f.1 f.2
theorem PrAt.ex {H H' : Hp} {l : Addr} {fs : List (Int × Int)} (h : PrAt H l fs) (e : Evl.Ex H H') : PrAt H' l fs := by
  obtain ⟨as, h1, h2, h3⟩ := h
  exact ⟨as, e _ _ h1, h2, fun i a t x y => e _ _ (h3 i a t x y)⟩
theorem ds_items {H : Hp} {l : Addr} {ds : List Deed} (h : DsAt H l ds) : ∃ xs, H l = some (.lst xs) ∧ xs.length = ds.length ∧ ∀ (i : Nat) (x : V), xs[i]? = some x → ∃ a d, x = .ref a ∧ ds[i]? = some d ∧ DAt H a d := by
  obtain ⟨as, h1, h2, h3⟩ := h
  refine ⟨_, h1, by rw [List.length_map]; exact h2, fun i x hx => ?_⟩
  rw [List.getElem?_map] at hx
  cases e : as[i]? with
  | none =>
    rw [e] at hx
    cases hx
  | some a =>
    rw [e] at hx
    have hi : i < ds.length := by
      have := (List.getElem?_eq_some_iff.mp e).1
      omega
    exact ⟨a, ds[i], (Option.some.inj hx).symm, List.getElem?_eq_getElem hi, h3 i a _ e (List.getElem?_eq_getElem hi)⟩
def spNum : Sp := fun vs H Q _ => ∃ (a x y : Addr) (f : Int × Int), vs = [.ref a] ∧ H a = some (.tup [.ref x, .ref y]) ∧ Li H x (cp f.1) ∧ Li H y [f.2] ∧ RetU [.int f.1, .int f.2] H Q
def spTL : Sp := fun vs H Q _ => ∃ (t lw g : Addr) (A ws : List Int) (W u b : Int) (N : Nat), vs = [.ref t, .ref lw, .ref g] ∧ Wat H t A W ∧ CsAt H lw ws ∧ Fr H g u b ∧ A.length ≤ 20 ∧ OkV A.length ws ∧ OkW N A W ∧ N ≤ 4300 ∧ 0 < b ∧ Bn 50 b ∧
  ∀ D H', H D = none → Evl.Ex H H' → PrAt H' D ((List.range A.length).map (lvl A ws W b)) → Q (.ref D) H'

def spNeg1 : Sp := fun vs H Q _ => ∃ (a : Addr) (x : Int), vs = [.ref a] ∧ Li H a (cp x) ∧ Evl.RetL (iV (cp (-x))) H Q
def spSc1 : Sp := fun vs H Q _ => ∃ (a b : Addr) (x : Int), vs = [.ref a, .ref b] ∧ Li H a (cp x) ∧ Fr H b 1 1 ∧ Bn 9000 x ∧ RetU [.int x, .int 1] H Q
def spSg1 : Sp := fun vs H Q _ => ∃ (a b : Addr) (x : Int), vs = [.ref a, .ref b] ∧ Li H a (cp x) ∧ Fr H b 1 1 ∧ Bn 9000 x ∧ Evl.RetV (.int (sgn x)) H Q
/-- the sign of one level less another one -/
def spLead : Sp := fun vs H Q _ => ∃ (a1 w1 a2 w2 l : Addr) (x1 y1 x2 y2 W : Int), vs = [.ref a1, .ref w1, .ref a2, .ref w2, .ref l] ∧ Li H a1 (cp x1) ∧ Li H w1 (cp y1) ∧ Li H a2 (cp x2) ∧ Li H w2 (cp y2) ∧ Li H l (cp W) ∧ Bn 4100 x1 ∧ Bn 4100 x2 ∧ Bn 60 y1 ∧ Bn 60 y2 ∧ Bn 4100 W ∧ 0 < y1 ∧ 0 < y2 ∧ 0 < W ∧
  ∀ (p : Addr) (z : Int) (H' : Hp), Evl.Ex H H' → Li H' p (cp z) → Bn 9000 z → (0 < z ↔ x2 * y1 < x1 * y2) → Q (.ref p) H'
def spAhead : Sp := fun vs H Q _ => ∃ (s t lw : Addr) (j m : Int) (A ws : List Int) (W : Int), vs = [.ref s, .ref t, .ref lw] ∧ H s = some (.tup [.str "unless", .int j, .int m]) ∧ (0 ≤ j ∧ j < A.length) ∧ (0 ≤ m ∧ m < A.length) ∧ Wat H t A W ∧ CsAt H lw ws ∧ A.length ≤ 20 ∧ OkV A.length ws ∧ OkW 4000 A W ∧
  ∀ (p : Addr) (z : Int) (H' : Hp), Evl.Ex H H' → Li H' p (cp z) → Bn 9000 z → (0 < z ↔ A.getD m.toNat 0 * ws.getD j.toNat 0 < A.getD j.toNat 0 * ws.getD m.toNat 0) → Q (.ref p) H'
/-- whether a step ends the script -/
def endB (ws : List Int) (A : List Int) : Deed → Bool
  | .un j m => decide (A.getD m.toNat 0 * ws.getD j.toNat 0 < A.getD j.toNat 0 * ws.getD m.toNat 0)
  | _ => false
def spEnd : Sp := fun vs H Q _ => ∃ (s t lw : Addr) (d : Deed) (A ws : List Int) (W : Int), vs = [.ref s, .ref t, .ref lw] ∧ DAt H s d ∧ okD A.length d ∧ Wat H t A W ∧ CsAt H lw ws ∧ A.length ≤ 20 ∧ OkV A.length ws ∧ OkW 4000 A W ∧ Evl.RetV (.bl (endB ws A d)) H Q
theorem dat_unless {H : Hp} {a : Addr} {d : Deed} (h : DAt H a d) : (∃ k m, d = .un k m) ∨ ∃ (x : Str) (r : List V), H a = some (.tup (.str x :: r)) ∧ decide (V.str x = V.str "unless") = false := by
  cases d with
  | op ks =>
    obtain ⟨l, h1, _⟩ := h
    exact .inr ⟨_, _, h1, by decide⟩
  | po k x => exact .inr ⟨_, _, h, by decide⟩
  | sc k p q =>
    obtain ⟨l, h1, _⟩ := h
    exact .inr ⟨_, _, h1, by decide⟩
  | mv k m p q =>
    obtain ⟨l, h1, _⟩ := h
    exact .inr ⟨_, _, h1, by decide⟩
  | un k m => exact .inl ⟨k, m, rfl⟩
section
variable {base : Heap} {mg : Str → Option Value} {K : PySem.W.Frag} {w : World} {P : Program}
theorem ok_number_of {f : Addr} {fd : FuncData} (F : Fun K "number_of" "number_of" s_number_of f fd) : FnOk P w K mg base CX0 1 f fd p_number_of spNum := by
  refine F.ok sc_number_of (fun vs H Q E h => ?_) (fun cdv A outer s H vs Q E hr h => ?_)
  · obtain ⟨a, x, y, f, rfl, _⟩ := h
    rfl
  · obtain ⟨a, x, y, f, rfl, ha, hx, hy, k⟩ := h
    have nd := sc_number_of.nd
    have two : 2 ≤ sizeLine := by show 2 ≤ sizeLine; decide
    refine ⟨_, pss_cons (ps_asg (pv 0) (pg_tup rfl (pgs_cons (pg_name (i := 1) nd rfl (Or.inl rfl)) (pgs_cons (pg_name (i := 2) nd rfl (Or.inl rfl)) pgs_nil))))
      (pss_one (ps_ret (pe_tup (pa_cons (pe_ifExp (pt_truth (pv 1) (by intro _; rfl)) (pe_ix ix_list (pv 1) pe_int (fun _ _ => rfl)) pe_int) (pa_cons (pe_ix ix_list (pv 2) pe_int (fun _ _ => rfl)) pa_nil))))), ?_⟩
    refine ⟨_, rfl, a, _, rfl, SqT.of ha, rfl, _, _, rfl, _, _, rfl, rfl, ?_⟩
    refine ⟨_, rfl, _, tru_list hx, ?_⟩
    have fin : ∀ r, H r = none → Q (.ref r) (upd H r (.tup [.int f.1, .int f.2])) := fun r hr5 => k r _ hr5 (Evl.Ex.new hr5) upd_same
    by_cases h0 : f.1 = 0
    · refine if_f (by rw [h0]; rfl) ?_
      rw [h0] at fin
      exact ⟨_, rfl, y, _, _, _, rfl, rfl, SqL.of hy, rfl, two, fun r hr5 => fin r hr5⟩
    · rw [cp_n h0] at hx
      refine if_t (by rw [cp_n h0]; rfl) ?_
      exact ⟨_, rfl, x, _, _, _, rfl, rfl, SqL.of hx, rfl, _, rfl, y, _, _, _, rfl, rfl, SqL.of hy, rfl, two, fun r hr5 => fin r hr5⟩
theorem ok_told_levels {f : Addr} {fd : FuncData} (F : Fun K "told_levels" "told_levels" s_told_levels f fd) (cN : Cal P w K mg base 1 "number_of" p_number_of spNum) (cL : Cal P w K mg base 6 "levels" p_levels spLev) : FnOk P w K mg base CX0 7 f fd p_told_levels spTL := by
  refine F.ok sc_told_levels (fun vs H Q E h => ?_) (fun cdv A outer s H vs Q E hr h => ?_)
  · obtain ⟨t, lw, g, A, ws, W, u, b, N, rfl, _⟩ := h
    rfl
  · obtain ⟨t, lw, g, Am, ws, W, u, b, N, rfl, hWt, hw, hg, h20, hV, hOk, hN, b0, bb, k⟩ := h
    have nd := sc_told_levels.nd
    have r1 : Room 1 _ := hr.mono (by decide)
    refine ⟨_, pss_one (ps_ret (pe_lc (own := [("form", 3)]) (g := gName 3) (tt := tYes) (te := tCall spNum [] E0 (tCons (tVar 3) tNil)) rfl nd (pi_list (pe_c cL hr (pa_cons (pv 0) (pa_cons (pv 1) (pa_cons (pe_ix ix_tup (pv 2) pe_int (fun _ _ => rfl)) pa_nil))))) (blkOk_by (N := n_told_levels) (sc := defScope s_told_levels) (by decide +kernel))
          (fun _ _ _ _ _ => pg_name (i := 3) nd rfl (Or.inl rfl)) (fun _ _ _ _ _ => pts_nil)
          (fun _ _ _ _ _ => pe_c cN r1 (pa_cons (pv 3) pa_nil)))), ?_⟩
    refine ⟨_, rfl, _, rfl, _, rfl, g, _, _, _, rfl, rfl, SqT.of hg, rfl, t, lw, _, ws, _, b, N, rfl, hWt, hw, h20, hV, hOk, hN, b0, bb, fun D H4 hDn e4 hF => ?_⟩
    have fl : ((List.range Am.length).map (lvl Am ws W b)).length ≤ 20 := by
      rw [List.length_map, List.length_range]
      exact h20
    generalize (List.range Am.length).map (lvl Am ws W b) = fs at hF fl k
    obtain ⟨as, hDl, hlen, hat⟩ := hF
    refine ⟨D, rfl, ⟨_, SqL.of hDl⟩, fun D2 hD2 => lc_list (xs := as.map V.ref) (fun i H' => Evl.Ex H4 H' ∧ ∃ rs : List Addr, H' D2 = some (.lst (rs.map V.ref)) ∧ rs.length = i ∧ ∀ (j : Nat) (a : Addr) (f : Int × Int), rs[j]? = some a → fs[j]? = some f → a ≠ D2 ∧ Fr H' a f.1 f.2) ⟨Evl.Ex.new hD2, [], upd_same, rfl, fun j a f h => (by cases h)⟩ (fun i H' _ q => SqL.of (q.1 _ _ hDl)) ?_ ?_⟩
    · rintro i v H5 hi ⟨e5, rs, hrs, hrl, hra⟩
      rw [List.getElem?_map] at hi
      obtain ⟨a, ha, rfl⟩ : ∃ a, as[i]? = some a ∧ v = .ref a := by
        cases e : as[i]? with
        | none =>
          rw [e] at hi
          cases hi
        | some a =>
          rw [e] at hi
          exact ⟨a, rfl, (Option.some.inj hi).symm⟩
      have hif : i < fs.length := by
        have := (List.getElem?_eq_some_iff.mp ha).1
        omega
      have hf : fs[i]? = some fs[i] := List.getElem?_eq_getElem hif
      obtain ⟨p, q, h1, h2, h3⟩ := hat i a _ ha hf
      generalize fs[i] = fi at hf h2 h3
      refine ⟨rfl, ?_⟩
      unfold tYes
      refine if_t rfl ?_
      show tCall spNum [] E0 (tCons (tVar 3) tNil) _ _ _
      refine ⟨_, rfl, a, p, q, fi, rfl, e5 _ _ h1, e5 _ _ h2, e5 _ _ h3, fun r H6 hr5 e6 hr6 => ?_⟩
      have rD : r ≠ D2 := (ne_of_none hrs hr5).symm
      refine ⟨_, e6 _ _ hrs, ?_, Evl.Ex.mut (e5.trans e6) hD2, rs ++ [r], ?_, ?_, fun j a' f h7 h8 => ?_⟩
      · rw [List.length_map, hrl]
        exact Nat.lt_of_le_of_lt (show i ≤ 20 by omega) (by decide)
      · rw [upd_same, List.map_append]
        rfl
      · rw [List.length_append, hrl]
        rfl
      · rcases get_app h7 with ⟨h9, _⟩ | ⟨h9, rfl⟩
        · obtain ⟨n1, n2⟩ := hra j a' f h9 h8
          exact ⟨n1, Eq.trans (upd_ne n1) (e6 _ _ n2)⟩
        · rw [h9, hrl, hf] at h8
          cases h8
          exact ⟨rD, Eq.trans (upd_ne rD) hr6⟩
    · rintro H5 ⟨e5, rs, hrs, hrl, hra⟩
      rw [List.length_map, hlen] at hrl
      refine k D2 _ ?_ (e4.trans e5) ⟨rs, hrs, hrl, fun i a f h1 h2 => (hra i a f h1 h2).2⟩
      cases e : H D2 with
      | none => rfl
      | some o =>
        have h1 := e4 _ _ e
        rw [hD2] at h1
        cases h1
theorem ok_neg1 {f : Addr} {fd : FuncData} (F : Fun K "negated" "negated" s_negated f fd) : FnOk P w K mg base CX0 1 f fd p_negated spNeg1 := by
  refine F.ok sc_negated (fun vs H Q E h => ?_) (fun cdv A outer s H vs Q E hr h => ?_)
  · obtain ⟨a, x, rfl, _⟩ := h
    rfl
  · obtain ⟨a, x, rfl, hL, k⟩ := h
    have nd := sc_negated.nd
    refine ⟨_, pss_one (ps_ret (pe_lc (own := [("number", 1)]) (g := (gName 1)) (tt := tYes) (te := (tUn (rU fun i => .int (-i)) (tVar 1))) rfl nd (pi_list (pv 0)) (blkOk_by (N := n_negated) (sc := defScope s_negated) (by decide +kernel)) (fun _ _ _ _ _ => (pg_name (i := 1) nd rfl (Or.inl rfl))) (fun _ _ _ _ _ => pts_nil) (fun _ _ _ _ _ => (pe_un un_neg (pv 1))))), ?_⟩
    refine ⟨_, rfl, a, rfl, ⟨_, hL.sq⟩, fun D hD => lc_list (xs := iV (cp x)) (fun i H' => Evl.Ex H H' ∧ H' D = some (.lst (iV (((cp x).map fun n => -n).take i)))) ⟨Evl.Ex.new hD, upd_same⟩ (fun i H' _ q => SqL.of (q.1 _ _ hL)) ?_ ?_⟩
    · rintro i v H' hi ⟨e1, h1⟩
      obtain ⟨n, hn, rfl⟩ := iV_get hi
      have hlt : i < (cp x).length := (List.getElem?_eq_some_iff.mp hn).1
      have hl := (cp_pw x).2
      refine ⟨rfl, ?_⟩
      show tUn (rU fun i => .int (-i)) (tVar 1) _ _ _
      refine ⟨_, rfl, n, rfl, _, h1, ?_, Evl.Ex.mut e1 hD, ?_⟩
      · rw [iV_len, List.length_take, List.length_map]
        exact Nat.lt_of_le_of_lt (show min i (cp x).length ≤ 100 by omega) (by decide)
      · rw [upd_same, take_next (n := -n) (by rw [List.getElem?_map, hn]; rfl)]
    · rintro H' ⟨e1, h1⟩
      rw [iV_len, ← List.length_map (as := cp x) (f := fun n => -n), List.take_length] at h1
      refine k D H' hD e1 (h1.trans ?_)
      congr 2
      unfold cp
      by_cases c : x = 0
      · subst c
        rfl
      · rw [if_neg c, if_neg (by omega)]
        rfl
theorem ok_sc1 {f : Addr} {fd : FuncData} (F : Fun K "scaled_value" "scaled_value" s_scaled_value f fd) (T : T2 mg) : FnOk P w K mg base CX0 1 f fd p_scaled_value spSc1 := by
  refine F.ok sc_scaled_value (fun vs H Q E h => ?_) (fun cdv A outer s H vs Q E hr h => ?_)
  · obtain ⟨a, b, x, rfl, _⟩ := h
    rfl
  · obtain ⟨a, b, x, rfl, ha, hb, hx, k⟩ := h
    have nd := sc_scaled_value.nd
    have two : 2 ≤ sizeLine := by show 2 ≤ sizeLine; decide
    refine ⟨_, pss_cons (ps_asg (pv 1) (pg_tup rfl (pgs_cons (pg_name (i := 2) nd rfl (Or.inl rfl)) (pgs_cons (pg_name (i := 3) nd rfl (Or.inl rfl)) pgs_nil))))
      (pss_cons (ps_asg (pe_tup (pa_cons pe_int (pa_cons pe_int pa_nil))) (pg_tup rfl (pgs_cons (pg_name (i := 4) nd rfl (Or.inl rfl)) (pgs_cons (pg_name (i := 5) nd rfl (Or.inl rfl)) pgs_nil))))
      (pss_cons (ps_for PassesOwn.never rfl (pi_enum (by rfl) T.enu (pa_cons (pe_revL (pv 0)) pa_nil)) (pg_tup rfl (pgs_cons (pg_name (i := 6) nd rfl (Or.inl rfl)) (pgs_cons (pg_name (i := 7) nd rfl (Or.inl rfl)) pgs_nil))) (pss_cons (ps_if (pt_cmpR op_gt (pv 6) pe_int (nomark _)) (pss_one (ps_set (i := 5) nd rfl (Or.inl rfl) (pe_op op_mulW (pv 5) (pv 3)))) pss_nil)
      (pss_one (ps_set (i := 4) nd rfl (Or.inl rfl) (pe_op op_add (pe_op op_mulW (pv 4) (pv 2)) (pe_op op_mulW (pv 7) (pv 5)))))))
      (pss_one (ps_ret (pe_tup (pa_cons (pv 4) (pa_cons (pv 5) pa_nil))))))), ?_⟩
    refine ⟨_, rfl, b, _, rfl, SqT.of hb, rfl, _, _, rfl, _, _, rfl, rfl, ?_⟩
    refine ⟨two, fun c hc => ?_⟩
    have e0 : Evl.Ex H (upd H c (.tup [.int 0, .int 1])) := Evl.Ex.new hc
    refine ⟨c, _, rfl, SqT.of upd_same, rfl, _, _, rfl, _, _, rfl, rfl, ?_⟩
    refine ⟨_, rfl, a, _, rfl, SqL.of (e0 _ _ ha), fun l hl => ⟨l, _, rfl, SqL.of upd_same, ?_⟩⟩
    have e1 := e0.trans (Evl.Ex.new (o := .lst (iV (cp x)).reverse) hl)
    have hl1 : upd (upd H c (.tup [.int 0, .int 1])) l (.lst (iV (cp x)).reverse) l = some (.lst (iV (cp x)).reverse) := upd_same
    have erev : (iV (cp x)).reverse = iV (cp x) := by
      unfold cp
      split <;> rfl
    rw [erev] at e1 hl1 ⊢
    generalize upd (upd H c (.tup [.int 0, .int 1])) l (.lst (iV (cp x))) = H1 at e1 hl1
    refine for_it walk_enum (fun i σ H' => ∃ v6 v7, σ = [some (.ref a), some (.ref b), some (.int 1), some (.int 1), some (.int (if i = 0 then 0 else x)), some (.int 1), v6, v7] ∧ Evl.Ex H1 H')
      ⟨none, none, rfl, Evl.Ex.refl _⟩ (fun i σ H' _ ⟨_, _, _, q⟩ => SqL.of (q _ _ hl1)) ?_ ?_
    · rintro i v σ H' H2 hi ⟨v6, v7, rfl, e2⟩ ⟨T, z, y, rfl, hT2, rfl, hz, hy⟩
      obtain rfl := (Option.some.inj hz).symm
      obtain ⟨n, hn, rfl⟩ := iV_get hy
      have e3 := e2.trans (Evl.Ex.new (o := .tup [.int (i : Nat), .int n]) hT2)
      obtain ⟨i0, n0⟩ : i = 0 ∧ n = x := by
        unfold cp at hn
        split at hn
        · cases hn
        · match i, hn with
          | 0, hn => cases hn; exact ⟨rfl, rfl⟩
      subst i0
      subst n0
      refine ⟨T, _, rfl, SqT.of upd_same, rfl, _, _, rfl, _, _, rfl, rfl, ?_⟩
      refine ⟨_, rfl, _, _, rfl, rfl, _, rfl, if_f (by decide) ?_⟩
      refine ⟨_, rfl, _, rfl, _, _, rfl, rfl, wide_mul (a := 1) (b := 2) (i := 0) (by decide) (by decide) (by decide) (by decide) (by decide), _, rfl, _, rfl, n, 1, rfl, rfl, wide_mul (a := 9000) (b := 2) hx (by decide) (by decide) (by decide) (by decide), _, _, rfl, rfl, ?_⟩
      refine ⟨some (.int ((0 : Nat) : Int)), some (.int n), ?_, e3⟩
      have ez : (if (0 : Nat) = 0 then (0 : Int) else n) * 1 + n * 1 = n := by rw [if_pos rfl]; omega
      show [some (V.ref a), some (V.ref b), some (V.int 1), some (V.int 1), some (V.int ((if (0 : Nat) = 0 then (0 : Int) else n) * 1 + n * 1)), some (V.int 1), some (V.int ((0 : Nat) : Int)), some (V.int n)] = _
      rw [ez]
      rfl
    · rintro σ H' ⟨v6, v7, rfl, e2⟩
      refine ⟨_, rfl, _, rfl, two, fun t ht => ?_⟩
      have ex : (if (iV (cp x)).length = 0 then 0 else x) = x := by
        rw [iV_len]
        unfold cp
        by_cases c : x = 0
        · subst c
          rfl
        · rw [if_neg c]
          rfl
      rw [ex]
      exact k t _ (Evl.fresh_back (e1.trans e2) ht) ((e1.trans e2).trans (Evl.Ex.new ht)) upd_same
theorem ok_sg1 {f : Addr} {fd : FuncData} (F : Fun K "sign_at_fraction" "sign_at_fraction" s_sign_at_fraction f fd) (cS : Cal P w K mg base 1 "sign_of" p_sign_of spSgn) (cV : Cal P w K mg base 1 "scaled_value" p_scaled_value spSc1) : FnOk P w K mg base CX0 2 f fd p_sign_at_fraction spSg1 := by
  refine F.ok sc_sign_at_fraction (fun vs H Q E h => ?_) (fun cdv A outer s H vs Q E hr h => ?_)
  · obtain ⟨a, b, x, rfl, _⟩ := h
    rfl
  · obtain ⟨a, b, x, rfl, ha, hb, hx, k⟩ := h
    refine ⟨_, pss_one (ps_ret (pe_c cS hr (pa_cons (pe_ix ix_tup (pe_c cV hr (pa_cons (pv 0) (pa_cons (pv 1) pa_nil))) pe_int (fun _ _ => rfl)) pa_nil))), ?_⟩
    exact ⟨_, rfl, _, rfl, a, b, x, rfl, ha, hb, hx, fun t H1 ht e1 h1 => ⟨t, _, _, _, rfl, rfl, SqT.of h1, rfl, x, rfl, fun H2 e2 => k _ (e1.trans e2)⟩⟩
theorem ok_lead {f : Addr} {fd : FuncData} (F : Fun K "lead" "lead" s_lead f fd) (cA : Cal P w K mg base 2 "added" p_added spAc) (cM : Cal P w K mg base 1 "multiplied" p_multiplied spMc) (cN : Cal P w K mg base 1 "negated" p_negated spNeg1) (cR : Cal P w K mg base 5 "reduced" p_reduced spRed1) : FnOk P w K mg base CX0 6 f fd p_lead spLead := by
  refine F.ok sc_lead (fun vs H Q E h => ?_) (fun cdv A outer s H vs Q E hr h => ?_)
  · obtain ⟨a1, w1, a2, w2, l, x1, y1, x2, y2, W, rfl, _⟩ := h
    rfl
  · obtain ⟨a1, w1, a2, w2, l, x1, y1, x2, y2, W, rfl, h1, h2, h3, h4, h5, bx1, bx2, by1, by2, bW, p1, p2, pW, k⟩ := h
    have nd := sc_lead.nd
    have r1 : Room 1 _ := hr.mono (by decide)
    have r2 : Room 2 _ := hr.mono (by decide)
    refine ⟨_, pss_cons (ps_set (i := 5) nd rfl (Or.inl rfl) (pe_c cA r2 (pa_cons (pe_c cM r1 (pa_cons (pv 0) (pa_cons (pv 3) pa_nil))) (pa_cons (pe_c cN r1 (pa_cons (pe_c cM r1 (pa_cons (pv 2) (pa_cons (pv 1) pa_nil))) pa_nil)) pa_nil))))
      (pss_one (ps_ret (pe_ix ix_tup (pe_c cR hr (pa_cons (pv 5) (pa_cons (pe_c cM r1 (pa_cons (pv 4) (pa_cons (pe_c cM r1 (pa_cons (pv 1) (pa_cons (pv 3) pa_nil))) pa_nil))) pa_nil))) pe_int (fun _ _ => rfl)))), ?_⟩
    have hp := Int.mul_pos pW (Int.mul_pos p1 p2)
    refine ⟨_, rfl, _, rfl, a1, w2, x1, y2, rfl, h1, h4, bx1.le (by decide), by2.le (by decide), fun r1 H1 hr1 e1 hL1 => ?_⟩
    refine ⟨_, rfl, _, rfl, a2, w1, x2, y1, rfl, e1 _ _ h3, e1 _ _ h2, bx2.le (by decide), by1.le (by decide), fun r2 H2 hr2 e2 hL2 => ⟨r2, _, rfl, hL2, fun r3 H3 hr3 e3 hL3 => ⟨r1, r3, x1 * y2, -(x2 * y1), rfl, (e2.trans e3) _ _ hL1, hL3, fun r4 H4 hr4 e4 hL4 => ?_⟩⟩⟩
    have e14 := ((e1.trans e2).trans e3).trans e4
    refine ⟨_, rfl, _, rfl, _, rfl, _, rfl, w1, w2, y1, y2, rfl, e14 _ _ h2, e14 _ _ h4, by1.le (by decide), by2.le (by decide), fun r5 H5 hr5 e5 hL5 => ⟨l, r5, W, y1 * y2, rfl, (e14.trans e5) _ _ h5, hL5, bW.le (by decide), (by1.mul by2).le (by decide), fun r6 H6 hr6 e6 hL6 => ?_⟩⟩
    have bT : Bn 4200 (x1 * y2 + -(x2 * y1)) := by
      have c1 : Bn 4160 (x1 * y2) := bx1.mul by2
      have c2 : Bn 4160 (-(x2 * y1)) := by
        have h : (x2 * y1).natAbs < 2 ^ 4160 := bx2.mul by1
        show (-(x2 * y1)).natAbs < 2 ^ 4160
        rw [Int.natAbs_neg]
        exact h
      exact (c1.add c2).le (by decide)
    have bM : Bn 4220 (W * (y1 * y2)) := (bW.mul (by1.mul by2)).le (by decide)
    have hL6 : Li H6 r6 (cp (W * (y1 * y2))) := hL6
    rw [cp_n (Int.ne_of_gt hp)] at hL6
    refine ⟨r4, r6, x1 * y2 + -(x2 * y1), W * (y1 * y2), rfl, (e5.trans e6) _ _ hL4, hL6, hp, bT.le (by decide), bM.le (by decide), fun q x y H7 hx hy e7 hq hLx hLy => ?_⟩
    refine ⟨q, _, _, _, rfl, rfl, SqT.of hq, rfl, k x _ H7 ((e14.trans e5).trans (e6.trans e7)) hLx ?_ ?_⟩
    · exact (show Bn 4200 _ from Nat.lt_of_le_of_lt (fr_abs1 hp) bT).le (by decide)
    · obtain ⟨m1, m2⟩ := fr_mul (u := x1 * y2 + -(x2 * y1)) hp
      have g := gcd_pos (u := x1 * y2 + -(x2 * y1)) hp
      constructor
      · intro z
        have := Int.mul_pos z g
        omega
      · intro z
        refine Int.not_le.mp fun q => ?_
        have := Int.mul_le_mul_of_nonneg_right q (Int.le_of_lt g)
        omega
theorem ok_ahead {f : Addr} {fd : FuncData} (F : Fun K "ahead" "ahead" s_ahead f fd) (cL : Cal P w K mg base 6 "lead" p_lead spLead) : FnOk P w K mg base CX0 7 f fd p_ahead spAhead := by
  refine F.ok sc_ahead (fun vs H Q E h => ?_) (fun cdv A outer s H vs Q E hr h => ?_)
  · obtain ⟨s, t, lw, j, m, A, ws, W, rfl, _⟩ := h
    rfl
  · obtain ⟨sp, t, lw, j', m', Am, ws, W, rfl, hs, ⟨j0, j1⟩, ⟨m0, m1⟩, ⟨⟨la, lo, ht, hA, hW⟩, W0⟩, hw, h20, hV, hO, k⟩ := h
    have nd := sc_ahead.nd
    obtain ⟨j, rfl⟩ : ∃ j : Nat, j' = (j : Int) := ⟨j'.toNat, by omega⟩
    obtain ⟨m, rfl⟩ : ∃ j : Nat, m' = (j : Int) := ⟨m'.toNat, by omega⟩
    rw [Int.toNat_natCast, Int.toNat_natCast] at k
    refine ⟨_, pss_cons (ps_asg (pv 1) (pg_tup rfl (pgs_cons (pg_name (i := 3) nd rfl (Or.inl rfl)) (pgs_cons (pg_name (i := 4) nd rfl (Or.inl rfl)) pgs_nil))))
      (pss_cons (ps_asg (pv 0) (pg_tup rfl (pgs_cons (pg_name (i := 5) nd rfl (Or.inl rfl)) (pgs_cons (pg_name (i := 6) nd rfl (Or.inl rfl)) (pgs_cons (pg_name (i := 7) nd rfl (Or.inl rfl)) pgs_nil)))))
      (pss_one (ps_ret (pe_c cL hr (pa_cons (pe_ix ix_list (pv 3) (pv 6) (fun _ _ => rfl)) (pa_cons (pe_ix ix_list (pv 2) (pv 6) (fun _ _ => rfl)) (pa_cons (pe_ix ix_list (pv 3) (pv 7) (fun _ _ => rfl)) (pa_cons (pe_ix ix_list (pv 2) (pv 7) (fun _ _ => rfl)) (pa_cons (pv 4) pa_nil))))))))), ?_⟩
    obtain ⟨xs, hxs, hxl, hxi⟩ := cs_items hA
    obtain ⟨ys, hys, hyl, hyi⟩ := cs_items hw
    have gx : ∀ i : Nat, i < Am.length → ∃ a, xs[i]? = some (.ref a) ∧ Li H a (cp (Am.getD i 0)) := fun i hi => by
      obtain ⟨a, e, _, hL⟩ := hxi i _ (List.getElem?_eq_getElem (show i < xs.length by omega))
      exact ⟨a, by rw [← e]; exact List.getElem?_eq_getElem _, hL⟩
    have gy : ∀ i : Nat, i < Am.length → ∃ a, ys[i]? = some (.ref a) ∧ Li H a (cp (ws.getD i 0)) := fun i hi => by
      obtain ⟨a, e, _, hL⟩ := hyi i _ (List.getElem?_eq_getElem (show i < ys.length by rw [hyl, hV.len]; exact hi))
      exact ⟨a, by rw [← e]; exact List.getElem?_eq_getElem _, hL⟩
    obtain ⟨a1, ha1, hL1⟩ := gx j (by omega)
    obtain ⟨a2, ha2, hL2⟩ := gx m (by omega)
    obtain ⟨b1, hb1, hM1⟩ := gy j (by omega)
    obtain ⟨b2, hb2, hM2⟩ := gy m (by omega)
    have mA : ∀ i : Nat, i < Am.length → Am.getD i 0 ∈ Am := fun i hi => getD_mem' hi
    have mW : ∀ i : Nat, i < Am.length → ws.getD i 0 ∈ ws := fun i hi => getD_mem' (by rw [hV.len]; exact hi)
    refine ⟨_, rfl, t, _, rfl, SqT.of ht, rfl, _, _, rfl, _, _, rfl, rfl, ?_⟩
    refine ⟨_, rfl, sp, _, rfl, SqT.of hs, rfl, _, _, rfl, _, _, rfl, _, _, rfl, rfl, ?_⟩
    refine ⟨_, rfl, _, rfl, la, _, _, _, rfl, rfl, SqL.of hxs, atI_nat ha1, _, rfl, _, rfl, lw, _, _, _, rfl, rfl, SqL.of hys, atI_nat hb1, _, rfl, _, rfl, la, _, _, _, rfl, rfl, SqL.of hxs, atI_nat ha2, _, rfl, _, rfl, lw, _, _, _, rfl, rfl, SqL.of hys, atI_nat hb2, _, rfl, ?_⟩
    refine ⟨a1, b1, a2, b2, lo, Am.getD j 0, ws.getD j 0, Am.getD m 0, ws.getD m 0, W, rfl, hL1, hM1, hL2, hM2, ?_, (hO.bA _ (mA j (by omega))).le (by decide), (hO.bA _ (mA m (by omega))).le (by decide), hV.bit _ (mW j (by omega)), hV.bit _ (mW m (by omega)), hO.bW.le (by decide), hV.pos _ (mW j (by omega)), hV.pos _ (mW m (by omega)), hO.pos, k⟩
    rw [cp_n (Int.ne_of_gt W0)]
    exact hW
theorem ok_is_ended {f : Addr} {fd : FuncData} (F : Fun K "is_ended" "is_ended" s_is_ended f fd) (cS : Cal P w K mg base 2 "sign_at_fraction" p_sign_at_fraction spSg1) (cA : Cal P w K mg base 7 "ahead" p_ahead spAhead) : FnOk P w K mg base CX0 8 f fd p_is_ended spEnd := by
  refine F.ok sc_is_ended (fun vs H Q E h => ?_) (fun cdv A outer s H vs Q E hr h => ?_)
  · obtain ⟨a, t, lw, d, A, ws, W, rfl, _⟩ := h
    rfl
  · obtain ⟨a, t, lw, d, Am, ws, W, rfl, hd, hok, hWt, hw, h20, hV, hO, k⟩ := h
    have r2 : Room 2 _ := hr.mono (by decide)
    have two : 2 ≤ sizeLine := by show 2 ≤ sizeLine; decide
    refine ⟨_, pss_one (ps_ret (pe_and (pe_cmpR op_eq (pe_ix ix_tup (pv 0) pe_int (fun _ _ => rfl)) pe_str (nomark _)) (pe_one (pe_cmpR op_gt (pe_c cS r2 (pa_cons (pe_c cA hr (pa_cons (pv 0) (pa_cons (pv 1) (pa_cons (pv 2) pa_nil)))) (pa_cons (pe_tup (pa_cons pe_int (pa_cons pe_int pa_nil))) pa_nil))) pe_int (nomark _))))), ?_⟩
    rcases dat_unless hd with ⟨j, m, rfl⟩ | ⟨wd, rs, hwd, hne⟩
    · have hd : H a = some (.tup [.str "unless", .int j, .int m]) := hd
      refine ⟨_, rfl, a, _, _, _, rfl, rfl, SqT.of hd, rfl, rfl, _, rfl, if_t (by decide) ?_⟩
      refine ⟨_, rfl, _, rfl, _, rfl, a, t, lw, j, m, Am, ws, W, rfl, hd, hok.1, hok.2.1, hWt, hw, h20, hV, hO, fun p z H1 e1 hp hz hiff => ⟨two, fun q hq => ?_⟩⟩
      have e2 := Evl.Ex.new (o := .tup [.int 1, .int 1]) hq
      refine ⟨p, q, z, rfl, e2 _ _ hp, upd_same, hz, fun H2 e3 => ⟨_, _, rfl, rfl, ?_⟩⟩
      have ee : decide (0 < sgn z) = endB ws Am (.un j m) := by
        unfold endB
        refine decide_eq_decide.mpr (Iff.trans ?_ hiff)
        unfold sgn
        constructor
        · intro h
          split at h
          · exact absurd h (by decide)
          · split at h
            · assumption
            · exact absurd h (by decide)
        · intro h
          rw [if_neg (by omega), if_pos h]
          decide
      have kk := k _ ((e1.trans e2).trans e3)
      rw [← ee] at kk
      exact kk
    · have ee : endB ws Am d = false := by
        cases d with
        | un j m =>
          have hd : H a = some (.tup [.str "unless", .int j, .int m]) := hd
          rw [hd] at hwd
          cases hwd
          exact absurd hne (by decide)
        | _ => rfl
      rw [ee] at k
      exact ⟨_, rfl, a, _, _, _, rfl, rfl, SqT.of hwd, (by exact atI_nat (j := 0) rfl), rfl, _, rfl, if_f hne (k _ (Evl.Ex.refl _))⟩
end
end V2


namespace V2
open PySem L2
open PySem.Spec PyProof.Rows
/-- all but what stands at ps -/
def woL (ps : List Addr) (H : Hp) : Hp := fun b => if b ∈ ps then none else H b
theorem woL_ex {ps : List Addr} {H : Hp} : Evl.Ex (woL ps H) H := fun b o h => by
  unfold woL at h
  split at h
  · cases h
  · exact h
theorem woL_at {ps : List Addr} {b : Addr} {H : Hp} {o : HO} (n : b ∉ ps) (h : H b = some o) : woL ps H b = some o := by
  unfold woL
  rw [if_neg n]
  exact h
theorem woL_ne {ps : List Addr} {b : Addr} {H : Hp} {o : HO} (h : woL ps H b = some o) : b ∉ ps := fun z => by
  unfold woL at h
  rw [if_pos z] at h
  cases h
def ButL (ps : List Addr) (H H' : Hp) : Prop := ∀ b o, b ∉ ps → H b = some o → H' b = some o
theorem ButL.wo {ps qs : List Addr} {H H' : Hp} (h : ButL ps H H') (s : ∀ p ∈ ps, p ∈ qs) : Evl.Ex (woL qs H) (woL qs H') := fun b o z => woL_at (woL_ne z) (h b o (fun q => woL_ne z (s b q)) (woL_ex _ _ z))
theorem ButL.trans {ps : List Addr} {H H1 H2 : Hp} (a : ButL ps H H1) (b : ButL ps H1 H2) : ButL ps H H2 := fun c o n h => b c o n (a c o n h)
theorem ButL.of_ex {ps : List Addr} {H H' : Hp} (e : Evl.Ex H H') : ButL ps H H' := fun b o _ h => e b o h
theorem ButL.of_but {ps : List Addr} {p : Addr} {H H' : Hp} (h : But p H H') (m : p ∈ ps) : ButL ps H H' := fun b o n z => h b o (fun q => n (q ▸ m)) z
theorem ButL.mono {ps qs : List Addr} {H H' : Hp} (h : ButL ps H H') (s : ∀ p ∈ ps, p ∈ qs) : ButL qs H H' := fun b o n z => h b o (fun q => n (s b q)) z
/-- objects that are no part of water, widths or told widths -/
def Odd (H : Hp) (p : Addr) : Prop := (∃ ns : List Int, 2 ≤ ns.length ∧ H p = some (.lst (iV ns))) ∨ (∃ C dx fs, H p = some (.ins C dx fs)) ∨ ∃ ys c zs, H p = some (.lst (ys ++ [.ref c])) ∧ H c = some (.tup zs)
theorem Odd.get {H : Hp} {p : Addr} (k : Odd H p) : ∃ o, H p = some o := by
  rcases k with ⟨ns, n2, k⟩ | ⟨C, dx, fs, k⟩ | ⟨ys, c, zs, k, _⟩
  · exact ⟨_, k⟩
  · exact ⟨_, k⟩
  · exact ⟨_, k⟩
theorem Odd.ex {H H' : Hp} {p : Addr} (k : Odd H p) (e : Evl.Ex H H') : Odd H' p := by
  rcases k with ⟨ns, n2, k⟩ | ⟨C, dx, fs, k⟩ | ⟨ys, c, zs, k, k2⟩
  · exact .inl ⟨ns, n2, e _ _ k⟩
  · exact .inr (.inl ⟨_, _, _, e _ _ k⟩)
  · exact .inr (.inr ⟨_, _, _, e _ _ k, e _ _ k2⟩)
theorem Odd.but {H H' : Hp} {p x C dx : Addr} {fs : List (Str × V)} (k : Odd H p) (hx : H x = some (.ins C dx fs)) (b : But x H H') (n : p ≠ x) : Odd H' p := by
  rcases k with ⟨ns, n2, k⟩ | ⟨C, dx, fs, k⟩ | ⟨ys, c, zs, k, k2⟩
  · exact .inl ⟨ns, n2, b _ _ n k⟩
  · exact .inr (.inl ⟨_, _, _, b _ _ n k⟩)
  · exact .inr (.inr ⟨_, _, _, b _ _ n k, b _ _ (fun z => by rw [z, hx] at k2; cases k2) k2⟩)
theorem Odd.tup {H : Hp} {p q : Addr} {xs : List V} (k : Odd H p) (h : H q = some (.tup xs)) : q ≠ p := fun z => by
  rcases k with ⟨ns', n2, k⟩ | ⟨C, dx, fs, k⟩ | ⟨ys, c, zs, k, _⟩
  · rw [z, k] at h; cases h
  · rw [z, k] at h; cases h
  · rw [z, k] at h; cases h
theorem Odd.ints {H : Hp} {p q : Addr} {ns : List Int} (k : Odd H p) (h : Li H q ns) (l : ns.length ≤ 1) : q ≠ p := fun z => by
  have h : H q = some (.lst (iV ns)) := h
  rcases k with ⟨ns', n2, k⟩ | ⟨C, dx, fs, k⟩ | ⟨ys, c, zs, k, _⟩
  · rw [z, k] at h
    injection h with h
    injection h with h
    have := congrArg List.length h
    rw [iV_len, iV_len] at this
    omega
  · rw [z, k] at h; cases h
  · rw [z, k] at h
    injection h with h
    injection h with h
    have m : V.ref c ∈ iV ns := h ▸ List.mem_append_right _ (List.mem_singleton.mpr rfl)
    unfold iV at m
    obtain ⟨n, _, e⟩ := List.mem_map.mp m
    cases e
theorem Odd.cs {H : Hp} {p l : Addr} {ns : List Int} (k : Odd H p) (h : CsAt H l ns) : l ≠ p := fun z => by
  obtain ⟨as, h1, h2, h3⟩ := h
  rcases k with ⟨ns', n2, k⟩ | ⟨C, dx, fs, k⟩ | ⟨ys, c, zs, k, k2⟩
  · rw [z, k] at h1
    injection h1 with h1
    injection h1 with h1
    cases ns' with
    | nil => exact absurd n2 (by decide)
    | cons n r =>
      cases as with
      | nil => cases h1
      | cons x r => cases h1
  · rw [z, k] at h1; cases h1
  · rw [z, k] at h1
    injection h1 with h1
    injection h1 with h1
    have e : as.length = ys.length + 1 := by
      have := congrArg List.length h1
      rw [List.length_append, List.length_map] at this
      exact this.symm
    have ha : as[ys.length]? = some c := by
      have q : (as.map V.ref)[ys.length]? = some (.ref c) := by
        rw [← h1, List.getElem?_append_right (Nat.le_refl _), Nat.sub_self]
        rfl
      rw [List.getElem?_map] at q
      cases e2 : as[ys.length]? with
      | none =>
        rw [e2] at q
        cases q
      | some a =>
        rw [e2] at q
        injection q with q
        injection q with q
        rw [q]
    have hl : ys.length < ns.length := by omega
    have := h3 ys.length c _ ha (List.getElem?_eq_getElem hl)
    have this : H c = some (.lst _) := this
    rw [k2] at this
    cases this
def spCw : Sp := fun vs H Q _ => ∃ (a : Addr) (u b : Int), vs = [.ref a] ∧ Fr H a u b ∧ Qn u b ∧ 0 < u ∧ Evl.RetV .non H Q
def bnF (lq g lw ls lt : Addr) (v : V) : List (Str × V) := [("_tanks", .ref lq), ("_width", .ref g), ("_widths", .ref lw), ("_steps", .ref ls), ("_waters", .ref lt), ("_ended", v)]
/-- the parts of a bench that stay as they are: tanks, widths, the water (now and ahead of each step), the steps -/
structure BnP (H : Hp) (lq g lw t : Addr) (ts : List Tk) (A ws : List Int) (W u b : Int) (as bs : List Addr) (ds : List Deed) (S : List (List Int × Int)) : Prop where
  q : TksAt H lq ts
  f : Fr H g u b
  c : CsAt H lw ws
  w : Wat H t A W
  d : ∀ (i : Nat) (a : Addr) (d : Deed), as[i]? = some a → ds[i]? = some d → DAt H a d
  ww : ∀ (i : Nat) (a : Addr) (s : List Int × Int), bs[i]? = some a → S[i]? = some s → Wat H a s.1 s.2
theorem BnP.ex {H H' : Hp} {lq g lw t : Addr} {ts : List Tk} {A ws : List Int} {W u b : Int} {as bs : List Addr} {ds : List Deed} {S : List (List Int × Int)} (h : BnP H lq g lw t ts A ws W u b as bs ds S) (e : Evl.Ex H H') : BnP H' lq g lw t ts A ws W u b as bs ds S :=
  ⟨h.q.ex e, e _ _ h.f, h.c.ex e, h.w.ex e, fun i a d x y => (h.d i a d x y).ex e, fun i a s x y => (h.ww i a s x y).ex e⟩
/-- a bench with the lists that it changes; s: the sack; ds: its steps; S: the water ahead of each; A by W: the water now -/
structure BnAt (C s : Addr) (H : Hp) (x ls lt : Addr) (ts : List Tk) (ds : List Deed) (S : List (List Int × Int)) (A ws : List Int) (W u b : Int) (v : V) : Prop where
  ex : ∃ (dx lq g lw t : Addr) (as bs : List Addr), H x = some (.ins C dx (bnF lq g lw ls lt v)) ∧ H ls = some (.lst (as.map V.ref)) ∧ as.length = ds.length ∧ H lt = some (.lst (bs.map V.ref ++ [.ref t])) ∧ bs.length = S.length ∧ BnP (woL [s, x, ls, lt] H) lq g lw t ts A ws W u b as bs ds S
  ne : ls ≠ lt ∧ ls ≠ s ∧ lt ≠ s ∧ x ≠ s
  nv : v = .non ∨ ∃ i, v = .int i
  len : S.length = ds.length
theorem BnAt.sep {C s : Addr} {H : Hp} {x ls lt : Addr} {ts : List Tk} {ds : List Deed} {S : List (List Int × Int)} {A ws : List Int} {W u b : Int} {v : V} (h : BnAt C s H x ls lt ts ds S A ws W u b v) {H' : Hp} (e : Evl.Ex (woL [s] H) (woL [s] H')) : BnAt C s H' x ls lt ts ds S A ws W u b v := by
  obtain ⟨⟨dx, lq, g, lw, t, as, bs, h1, h2, h3, h4, h5, h6⟩, ⟨n1, n2, n3, n4⟩, nv, ln⟩ := h
  have w : ∀ {p : Addr} {o : HO}, p ≠ s → H p = some o → H' p = some o := fun hn hp => woL_ex _ _ (e _ _ (woL_at (fun z => hn (List.mem_singleton.mp z)) hp))
  refine ⟨⟨dx, lq, g, lw, t, as, bs, w n4 h1, w n2 h2, h3, w n3 h4, h5, h6.ex fun p o z => ?_⟩, ⟨n1, n2, n3, n4⟩, nv, ln⟩
  have nm := woL_ne z
  exact woL_at nm (w (fun q => nm (q ▸ List.mem_cons_self)) (woL_ex _ _ z))
theorem BnAt.go {C s : Addr} {H : Hp} {x ls lt : Addr} {ts : List Tk} {ds : List Deed} {S : List (List Int × Int)} {A ws : List Int} {W u b : Int} {v : V} (h : BnAt C s H x ls lt ts ds S A ws W u b v) {H' : Hp} (e : Evl.Ex H H') : BnAt C s H' x ls lt ts ds S A ws W u b v := h.sep fun p o z => woL_at (woL_ne z) (e _ _ (woL_ex _ _ z))
theorem TksAt.dq {H : Hp} {l : Addr} {ts : List Tk} (h : TksAt H l ts) : Dq H (.ref l) (.list (ts.map tkD)) := by
  obtain ⟨as, h1, h2, h3⟩ := h
  refine .lst h1 ?_
  have go : ∀ (as : List Addr) (ts : List Tk), as.length = ts.length → (∀ (i : Nat) (a : Addr) (t : Tk), as[i]? = some a → ts[i]? = some t → H a = some (.tup [wV t.1, .int t.2])) → DqAll H (as.map V.ref) (ts.map tkD) := by
    intro as
    induction as with
    | nil =>
      intro ts hl _
      cases ts with
      | nil => exact .nil
      | cons t r => cases hl
    | cons a r ih =>
      intro ts hl hi
      cases ts with
      | nil => cases hl
      | cons t q =>
        refine .cons (.tup (hi 0 a t rfl rfl) (.cons ?_ (.cons (.int _) .nil))) (ih q (by simpa using hl) fun i a' t' h1 h2 => hi (i + 1) a' t' h1 h2)
        cases t.1 with
        | none => exact .non
        | some z => exact .int z
  exact go as ts h2 h3
theorem TksAt.but {H H' : Hp} {x l : Addr} {ts : List Tk} {C dx : Addr} {fs : List (Str × V)} (h : TksAt H l ts) (hx : H x = some (.ins C dx fs)) (b : But x H H') : TksAt H' l ts := by
  obtain ⟨as, h1, h2, h3⟩ := h
  have w : ∀ {p : Addr} {o : HO}, H p = some o → DObj o → H' p = some o := fun hp hd => keep_ins hx b _ _ hd hp
  exact ⟨as, w h1 trivial, h2, fun i a t y z => w (h3 i a t y z) trivial⟩
theorem OkW.le {N M : Nat} {A : List Int} {W : Int} (h : OkW N A W) (l : N ≤ M) : OkW M A W := ⟨h.nn, fun x hx => (h.bA x hx).le l, h.bW.le l, h.pos⟩
theorem dqi {H : Hp} : ∀ ns : List Int, DqAll H (iV ns) (ns.map .int)
  | [] => .nil
  | n :: ns => .cons (.int _) (dqi ns)
theorem dat_dq {H : Hp} {a : Addr} {d : Deed} (h : DAt H a d) : Dq H (.ref a) (dD d) := by
  cases d with
  | op ks =>
    obtain ⟨l, h1, h2⟩ := h
    exact .tup h1 (.cons (.str _) (.cons (.lst h2 (dqi ks)) .nil))
  | po k x => exact .tup h (.cons (.str _) (.cons (.int _) (.cons (.int _) .nil)))
  | sc k p q =>
    obtain ⟨l, h1, h2⟩ := h
    exact .tup h1 (.cons (.str _) (.cons (.int _) (.cons (.tup h2 (.cons (.int _) (.cons (.int _) .nil))) .nil)))
  | mv k m p q =>
    obtain ⟨l, h1, h2⟩ := h
    exact .tup h1 (.cons (.str _) (.cons (.int _) (.cons (.int _) (.cons (.tup h2 (.cons (.int _) (.cons (.int _) .nil))) .nil))))
  | un k m => exact .tup h (.cons (.str _) (.cons (.int _) (.cons (.int _) .nil)))
section
variable {base : Heap} {mg : Str → Option Value} {K : PySem.W.Frag} {w : World} {P : Program} {C fI fC fL fW fE pE : Addr}
theorem ok_check_width {f : Addr} {fd : FuncData} (F : Fun K "check_width" "check_width" s_check_width f fd) (cF : Cal P w K mg base 2 "is_fraction" p_is_fraction spIsFr) : FnOk P w K mg base CX0 3 f fd p_check_width spCw := by
  refine F.ok sc_check_width (fun vs H Q E h => ?_) (fun cdv A outer s H vs Q E hr h => ?_)
  · obtain ⟨a, u, b, rfl, _⟩ := h
    rfl
  · obtain ⟨a, u, b, rfl, ha, hQ, hu, k⟩ := h
    refine ⟨_, pss_one (ps_if (PW.pt (pw_or (pt_not (pt_val (pe_c cF hr (pa_cons (pv 0) pa_nil)))) (pw_or1 (pt_cmpR op_le (pe_ix ix_tup (pv 0) pe_int (fun _ _ => rfl)) pe_int (nomark _))))) (pss_one ps_never) pss_nil), ?_⟩
    refine ⟨_, rfl, a, u, b, rfl, ha, hQ, fun H1 e1 => ⟨true, rfl, if_f rfl ?_⟩⟩
    exact ⟨_, rfl, a, _, _, _, rfl, rfl, SqT.of (e1 _ _ ha), rfl, _, _, rfl, rfl, _, rfl, if_f (decide_eq_false (by omega)) (k _ e1)⟩
end
end V2


namespace V2
open PySem L2
open PySem.Spec PyProof.Rows
section
variable {X : Cx} {CX : CXT} {k : Nat} {f C : Addr} {fd : FuncData} {ps : List Str} {sp : Sp} {E : L2.St → XK} {m : Str} {p q : Pos} {o e : Expr} {es : List Expr} {to : TE} {t : TA}
/-- what follows on the arguments of raise C(y) -/
theorem raise_in {K : PySem.W.Frag} {C g : Addr} {G : Hp} {y : V} {Q : XK} (T : EC K C g) (q : ∀ d G', G d = none → Evl.Ex G G' → G' d = some (.xd [("value", y)]) → Q (.ref C) (some d) G') :
    [y].length ≤ 1000 ∧ ∀ a, G a = none → spInit K (.ref a :: ([y] ++ [])) (upd G a (exo a C none)) (fun v G2 => v = .non ∧ ∃ (d : Addr) (fs : List (Str × V)), G2 a = some (exo a C (some d)) ∧ G2 d = some (exd d fs) ∧ G d = none ∧ Q (.ref C) (some d) (upd (del G2 a) d (.xd fs))) (fun _ _ _ => False) := by
  refine ⟨by show 1 ≤ 1000; decide, fun a ha => ⟨a, C, y, rfl, T.ox, T.noV, upd_same, fun dx hd hne => ⟨rfl, dx, [("value", y)], upd_same, Eq.trans (upd_ne hne) upd_same, ?_⟩⟩⟩
  have hd' : G dx = none := (upd_ne hne).symm.trans hd
  refine ⟨hd', q dx _ hd' (fun b o hb => ?_) upd_same⟩
  exact Eq.trans (upd_ne (ne_of_none hb hd')) (Eq.trans (del_ne (ne_of_none hb ha)) (Eq.trans (upd_ne (ne_of_none hb ha)) (Eq.trans (upd_ne (ne_of_none hb hd')) (Eq.trans (upd_ne (ne_of_none hb ha)) hb))))
end
end V2


namespace V2
open PySem L2
open PySem.Spec PyProof.Rows
theorem last_split {α : Type} {l : List α} (h : 0 < l.length) : ∃ a b, l = a ++ [b] := ⟨_, _, (List.dropLast_concat_getLast (List.length_pos_iff.mp h)).symm⟩
section
variable {base : Heap} {mg : Str → Option Value} {K : PySem.W.Frag} {w : World} {P : Program} {C fI fC fL fW fE pE : Addr}
end
end V2


namespace V2
open PySem L2
open PySem.Spec PyProof.Rows
def spTwo2 : Sp := fun vs H Q _ => ∃ (s : Addr) (m : Int) (n : Nat), vs = [.ref s, .int m] ∧ 2 ≤ m ∧ m ≤ 20 ∧ Sk H s n ∧ n ≤ 90000 ∧ ∀ (t : Addr) (x y : Int) (H' : Hp), But s H H' → Sk H' s (n + 2) → H t = none → H' t = some (.tup [.int x, .int y]) → 0 ≤ x → x < m → 0 ≤ y → y < m → x ≠ y → Q (.ref t) H'
theorem fr_part {a d : Int} (hd : 0 < d) (h0 : 0 ≤ a) (h1 : a ≤ d) (hb : d ≤ 1001) : Pt (fr a d).1 (fr a d).2 := by
  have hp := fr_pos (u := a) hd
  have hm := fr_mul (u := a) hd
  have g0 : 0 < ((Int.gcd a d : Nat) : Int) := by
    have : 0 < Int.gcd a d := Int.gcd_pos_of_ne_zero_right _ (by omega)
    omega
  have n50 : (2 : Nat) ^ 50 = 1125899906842624 := by decide
  have a1 := fr_abs1 (a := a) hd
  have a2 := fr_abs2 (a := a) hd
  refine ⟨?_, ?_, hp, fr_cop hd, by rw [n50]; omega, by rw [n50]; omega⟩
  · refine Int.not_lt.mp fun z => ?_
    have := Int.mul_neg_of_neg_of_pos z g0
    omega
  · refine Int.not_lt.mp fun z => ?_
    have := Int.mul_lt_mul_of_pos_right z g0
    omega
theorem n200e : (2 : Nat) ^ 200 = 1606938044258990275541962092341162602522202993782792835301376 := by decide
/-- all but the object at p -/
def wo (p : Addr) (H : Hp) : Hp := fun b => if b = p then none else H b
theorem wo_ex {p : Addr} {H : Hp} : Evl.Ex (wo p H) H := fun b o h => by
  unfold wo at h
  split at h
  · cases h
  · exact h
theorem wo_at {p b : Addr} {H : Hp} {o : HO} (n : b ≠ p) (h : H b = some o) : wo p H b = some o := by
  unfold wo
  rw [if_neg n]
  exact h
theorem wo_ne {p b : Addr} {H : Hp} {o : HO} (h : wo p H b = some o) : b ≠ p := fun z => by
  unfold wo at h
  rw [if_pos z] at h
  cases h
theorem But.wo {p : Addr} {H H' : Hp} (h : But p H H') : Evl.Ex (wo p H) (V2.wo p H') := fun b o z => wo_at (wo_ne z) (h b o (wo_ne z) (wo_ex _ _ z))
theorem but_none {p q : Addr} {H H' : Hp} {n : Nat} (b : But p H H') (s : Sk H' p n) (h : H' q = none) : H q = none := by
  cases e : H q with
  | none => rfl
  | some o =>
    have h1 := b q o (sk_ne s h) e
    rw [h] at h1
    cases h1
theorem Sk.upd {H : Hp} {p l : Addr} {n : Nat} {o : HO} (s : Sk H p n) (h : l ≠ p) : Sk (L2.upd H l o) p n := by
  obtain ⟨a, b, c, h1, h2⟩ := s
  exact ⟨a, b, c, by rw [upd_ne h.symm]; exact h1, h2⟩
theorem ne_of_none' {H : Hp} {c l : Addr} {o : HO} (h : H c = some o) (hl : H l = none) : c ≠ l := fun z => by
  rw [z, hl] at h
  cases h
/-- many tanks, whose numbers are at most most -/
def spVats : Sp := fun vs H Q _ => ∃ (s : Addr) (m o : Int) (n : Nat), vs = [.ref s, .int m, .int o] ∧ 0 < m ∧ m ≤ 20 ∧ 0 < o ∧ o ≤ 1000 ∧ Sk H s n ∧ n ≤ 90000 ∧
  ∀ (l : Addr) (ts : List Tk) (H' : Hp), But s H H' → Sk H' s (n + 1 + 3 * m.toNat) → H l = none → TksAt (wo s H') l ts → okT ts → (ts.length : Int) = m → (∀ t ∈ ts, (∀ z, t.1 = some z → z ≤ 1000) ∧ t.2 ≤ 1000) → Q (.ref l) H'
theorem tks_more {p : Addr} {H : Hp} {l t : Addr} {ts : List Tk} {x : Tk} (h : TksAt (wo p H) l ts) (tp : t ≠ p) (ht : H t = some (.tup [wV x.1, .int x.2])) : ∃ acc, H l = some (.lst acc) ∧ acc.length = ts.length ∧ TksAt (wo p (upd H l (.lst (acc ++ [.ref t])))) l (ts ++ [x]) := by
  obtain ⟨as, h1, h2, h3⟩ := h
  have lp := wo_ne h1
  refine ⟨_, wo_ex _ _ h1, by rw [List.length_map]; exact h2, as ++ [t], ?_, by rw [List.length_append, List.length_append, h2]; rfl, fun i a y ha hy => ?_⟩
  · rw [List.map_append]
    exact wo_at lp upd_same
  · have ne : ∀ {a : Addr} {xs : List V}, wo p H a = some (.tup xs) → a ≠ l := fun h z => by
      rw [z, h1] at h
      cases h
    rcases get_app ha with ⟨h4, h5⟩ | ⟨h4, rfl⟩
    · rcases get_app hy with ⟨h6, _⟩ | ⟨h6, _⟩
      · have z := h3 i a y h4 h6
        exact wo_at (wo_ne z) (Eq.trans (upd_ne (ne z)) (wo_ex _ _ z))
      · omega
    · rcases get_app hy with ⟨h6, h7⟩ | ⟨_, rfl⟩
      · omega
      · exact wo_at tp (Eq.trans (upd_ne (ne (wo_at tp ht))) ht)
theorem cnt_more {ts : List Tk} {x : Tk} {rk : Int} {i : Nat} (h : ts.countP (fun t => t.1.isNone) = if rk < (i : Int) then 1 else 0) (hx : x.1 = none ↔ rk = (i : Int)) : (ts ++ [x]).countP (fun t => t.1.isNone) = if rk < ((i + 1 : Nat) : Int) then 1 else 0 := by
  rw [List.countP_append, h]
  obtain ⟨w, a⟩ := x
  cases w with
  | none =>
    have e := hx.mp rfl
    rw [if_neg (by omega), if_pos (by omega)]
    rfl
  | some z =>
    have e : rk ≠ (i : Int) := fun q => by cases hx.mpr q
    by_cases c : rk < (i : Int)
    · rw [if_pos c, if_pos (by omega)]
      rfl
    · rw [if_neg c, if_neg (by omega)]
      rfl
section
variable {base : Heap} {mg : Str → Option Value} {K : PySem.W.Frag} {w : World} {P : Program}
end
end V2


namespace V2
open PySem L2
open PySem.Spec PyProof.Rows
/-- numbers below i that are drawn: f and s are among them -/
structure AscI (f s : Int) (ks : List Int) (i : Nat) : Prop where
  asc : ∀ (j : Nat) (x y : Int), ks[j]? = some x → ks[j + 1]? = some y → x < y
  bd : ∀ x ∈ ks, 0 ≤ x ∧ x < (i : Int)
  hf : 0 ≤ f → f < (i : Int) → f ∈ ks
  hs : 0 ≤ s → s < (i : Int) → s ∈ ks
  len : ks.length ≤ i
theorem AscI.start (f s : Int) : AscI f s [] 0 := ⟨fun _ _ _ h => (by cases h), fun _ h => (by cases h), fun h h' => by omega, fun h h' => by omega, Nat.le_refl _⟩
theorem AscI.more {f s : Int} {ks : List Int} {i : Nat} (h : AscI f s ks i) : AscI f s (ks ++ [(i : Int)]) (i + 1) := by
  refine ⟨fun j x y hx hy => ?_, fun x hx => ?_, fun h0 h1 => ?_, fun h0 h1 => ?_, by rw [List.length_append]; exact Nat.succ_le_succ h.len⟩
  · rcases get_app hy with ⟨h1, h2⟩ | ⟨h1, rfl⟩
    · rcases get_app hx with ⟨h3, _⟩ | ⟨h3, _⟩
      · exact h.asc j x y h3 h1
      · omega
    · rcases get_app hx with ⟨h3, _⟩ | ⟨h3, _⟩
      · exact (h.bd x (List.mem_of_getElem? h3)).2
      · omega
  · rcases List.mem_append.mp hx with h1 | h1
    · have := h.bd x h1
      omega
    · have := List.mem_singleton.mp h1
      omega
  · by_cases c : f < (i : Int)
    · exact List.mem_append_left _ (h.hf h0 c)
    · exact List.mem_append_right _ (List.mem_singleton.mpr (by omega))
  · by_cases c : s < (i : Int)
    · exact List.mem_append_left _ (h.hs h0 c)
    · exact List.mem_append_right _ (List.mem_singleton.mpr (by omega))
theorem AscI.skip {f s : Int} {ks : List Int} {i : Nat} (h : AscI f s ks i) (n : ¬ (f = (i : Int) ∨ s = (i : Int))) : AscI f s ks (i + 1) := by
  have n1 : f ≠ (i : Int) := fun z => n (.inl z)
  have n2 : s ≠ (i : Int) := fun z => n (.inr z)
  exact ⟨h.asc, fun x hx => (by have := h.bd x hx; omega), fun h0 h1 => h.hf h0 (by omega), fun h0 h1 => h.hs h0 (by omega), by have := h.len; omega⟩
def Word (x : Str) : Prop := x = "pour" ∨ x = "scoop" ∨ x = "move" ∨ x = "open" ∨ x = "unless"
theorem strs_ne {H : Hp} {p s : Addr} {n : Nat} {xs : List Str} (h : H p = some (.lst (xs.map V.str))) (k : Sk H s n) : p ≠ s := fun z => by
  obtain ⟨a, b, c, hs, _⟩ := k
  rw [z, hs] at h
  cases xs with
  | nil => cases h
  | cons x r => cases h
section
variable {base : Heap} {mg : Str → Option Value} {K : PySem.W.Frag} {w : World} {P : Program}
end
end V2


namespace V2
open PySem L2
open PySem.Spec PyProof.Rows
theorem atI_mem {xs : List V} {r : Int} (h0 : 0 ≤ r) (h1 : r < xs.length) : ∃ v, v ∈ xs ∧ atI xs r = some v := by
  obtain ⟨j, rfl⟩ : ∃ j : Nat, r = (j : Int) := ⟨r.toNat, by omega⟩
  have hj : j < xs.length := by omega
  exact ⟨xs[j], List.getElem_mem hj, atI_nat (List.getElem?_eq_getElem hj)⟩
/-- [a, b, ..][coin(sack, many)] -/
theorem pick_read {K : PySem.W.Frag} {σ : L2.St} {H : Hp} {Q : VK} {t : TA} {xs : List V} {s : Addr} {n : Nat} {m : Int} (hm : m = (xs.length : Int)) (h0 : 0 < xs.length) (hl : xs.length ≤ 100) (i0 : σ[0]? = some (some (.ref s))) (hS : Sk H s n) (hn : n ≤ 99990)
    (ht : ∀ (H' : Hp) (Q' : List V → Hp → Prop), Q' xs H' → t σ H' Q') (k : ∀ (v : V) (H' : Hp), v ∈ xs → But s H H' → Sk H' s (n + 1) → Q v H') :
    tOp (rIxL K) (tLst t) (tCall spCoin [] E0 (tCons (tVar 0) (tCons (tC (.int m)) tNil))) σ H Q := by
  refine ht _ _ ⟨Nat.le_trans hl (by decide), fun p hp => ⟨_, i0, s, m, n, rfl, hS.ex (Evl.Ex.new hp), by omega, by omega, ?_, fun r H' r0 r1 b s' z => ?_⟩⟩
  · rw [n200e]
    omega
  · obtain ⟨v, hv, e⟩ := atI_mem (xs := xs) r0 (by omega)
    exact ⟨p, xs, r, v, rfl, rfl, SqL.of (b _ _ (sk_ne hS hp) upd_same), e, k v H' hv ((But.of_ex (Evl.Ex.new hp)).trans b) s'⟩
theorem dat_keep {H H' : Hp} {a l : Addr} {d : Deed} {n : Int} {as : List Addr} (h : DAt H a d) (hd : okD n d) (hl : H l = some (.lst (as.map V.ref))) (e : ∀ b o, b ≠ l → H b = some o → H' b = some o) : DAt H' a d := by
  have ne : ∀ {a : Addr} {xs : List V}, H a = some (.tup xs) → a ≠ l := fun h z => by
    rw [z, hl] at h
    cases h
  cases d with
  | op ks =>
    obtain ⟨q, h1, h2⟩ := h
    refine ⟨q, e _ _ (ne h1) h1, e _ _ (fun z => ?_) h2⟩
    have h2 : H q = some (.lst (iV ks)) := h2
    rw [z, hl] at h2
    have h3 : as.map V.ref = iV ks := by
      injection h2 with h2
      injection h2
    have h4 : 2 ≤ ks.length := hd.1
    match ks, as, h3, h4 with
    | k :: ks, a :: as, h3, _ =>
      unfold iV at h3
      rw [List.map_cons, List.map_cons] at h3
      injection h3 with h3 _
      cases h3
    | k :: ks, [], h3, _ => cases h3
    | [], _, _, h4 => exact absurd h4 (by decide)
  | po k x => exact e _ _ (ne h) h
  | sc k p q =>
    obtain ⟨f, h1, h2⟩ := h
    exact ⟨f, e _ _ (ne h1) h1, e _ _ (ne h2) h2⟩
  | mv k m p q =>
    obtain ⟨f, h1, h2⟩ := h
    exact ⟨f, e _ _ (ne h1) h1, e _ _ (ne h2) h2⟩
  | un k m => exact e _ _ (ne h) h
theorem ds_more {G G' : Hp} {l t : Addr} {ds : List Deed} {d : Deed} {n : Int} (h : DsAt G l ds) (hds : ∀ d ∈ ds, okD n d) (ht : DAt G t d) (hd : okD n d) (e : ∀ b o, b ≠ l → G b = some o → G' b = some o) (e' : ∀ acc, G l = some (.lst acc) → G' l = some (.lst (acc ++ [.ref t]))) : DsAt G' l (ds ++ [d]) := by
  obtain ⟨as, h1, h2, h3⟩ := h
  refine ⟨as ++ [t], ?_, by rw [List.length_append, List.length_append, h2]; rfl, fun i a y ha hy => ?_⟩
  · rw [List.map_append]
    exact e' _ h1
  · rcases get_app ha with ⟨h4, h5⟩ | ⟨h4, rfl⟩
    · rcases get_app hy with ⟨h6, _⟩ | ⟨h6, _⟩
      · exact dat_keep (h3 i a y h4 h6) (hds y (List.mem_of_getElem? h6)) h1 e
      · omega
    · rcases get_app hy with ⟨h6, h7⟩ | ⟨_, rfl⟩
      · omega
      · exact dat_keep ht hd h1 e
theorem ds_list {G : Hp} {l : Addr} {ds : List Deed} (h : DsAt G l ds) : ∃ acc, G l = some (.lst acc) ∧ acc.length = ds.length := by
  obtain ⟨as, h1, h2, h3⟩ := h
  exact ⟨_, h1, by rw [List.length_map]; exact h2⟩
theorem wo_upd {p l : Addr} {H : Hp} {x : HO} : ∀ b o, b ≠ l → wo p H b = some o → wo p (upd H l x) b = some o := fun b o nb h => wo_at (wo_ne h) (Eq.trans (upd_ne nb) (wo_ex _ _ h))
theorem wo_app {p l t : Addr} {H : Hp} {acc0 : List V} (h : H l = some (.lst acc0)) : ∀ acc, wo p H l = some (.lst acc) → wo p (upd H l (.lst (acc0 ++ [.ref t]))) l = some (.lst (acc ++ [.ref t])) := fun acc h' => by
  have e := wo_ex _ _ h'
  rw [h] at e
  injection e with e
  injection e with e
  rw [← e]
  exact wo_at (wo_ne h') upd_same
theorem nw_wo {p : Addr} {H H' : Hp} {n : Nat} (s : Sk H p n) : Evl.Ex (Nw H H') (wo p H') := fun b o h => wo_at (fun z => by
  rw [z] at h
  obtain ⟨o', h'⟩ := sk_some s
  rw [nw_none h] at h'
  cases h') (Nw.ex _ _ h)
theorem tks_keep {H H' : Hp} {l v : Addr} {ts : List Tk} {xs : List V} (h : TksAt H v ts) (hl : H l = some (.lst xs)) (n : v ≠ l) (e : ∀ b o, b ≠ l → H b = some o → H' b = some o) : TksAt H' v ts := by
  obtain ⟨as, h1, h2, h3⟩ := h
  exact ⟨as, e _ _ n h1, h2, fun i a t x y => e _ _ (fun z => by rw [← z, h3 i a t x y] at hl; cases hl) (h3 i a t x y)⟩
theorem ex_wo {p : Addr} {G G' : Hp} (e : Evl.Ex G G') : Evl.Ex (wo p G) (wo p G') := fun b o h => wo_at (wo_ne h) (e _ _ (wo_ex _ _ h))
theorem wo_upd2 {q p l : Addr} {H : Hp} {x : HO} : ∀ b o, b ≠ l → wo q (wo p H) b = some o → wo q (wo p (upd H l x)) b = some o := fun b o nb h => wo_at (wo_ne h) (wo_upd b o nb (wo_ex _ _ h))
theorem wo_app2 {q p l t : Addr} {H : Hp} {acc0 : List V} (h : H l = some (.lst acc0)) : ∀ acc, wo q (wo p H) l = some (.lst acc) → wo q (wo p (upd H l (.lst (acc0 ++ [.ref t])))) l = some (.lst (acc ++ [.ref t])) := fun acc h' => wo_at (wo_ne h') (wo_app h acc (wo_ex _ _ h'))
theorem dat_keep' {G G' : Hp} {t l : Addr} {d : Deed} {ds : List Deed} {n : Int} (h : DAt G t d) (hd : okD n d) (hl : DsAt G l ds) (e : ∀ b o, b ≠ l → G b = some o → G' b = some o) : DAt G' t d := by
  obtain ⟨as, h1, _⟩ := hl
  exact dat_keep h hd h1 e
/-- a drawn shape: tanks and steps, none of whose numbers is great -/
structure ShW (ts : List Tk) (ds : List Deed) : Prop where
  ok : okS ts ds
  w1000 : ∀ t ∈ ts, (∀ z, t.1 = some z → z ≤ 1000) ∧ t.2 ≤ 1000
  p1000 : ∀ k a, Deed.po k a ∈ ds → a ≤ 1000
def ShAt (H : Hp) (t : Addr) (ts : List Tk) (ds : List Deed) : Prop := ∃ lv ld, H t = some (.tup [.ref lv, .ref ld]) ∧ TksAt H lv ts ∧ DsAt H ld ds
theorem sIx_pos {n d k : Nat} : HT.sIx n d (some (k : Int)) = min k n := by
  unfold HT.sIx
  simp
  first
    | done
    | omega
    | (split <;> omega)
theorem cut_min (xs : List V) (k : Nat) : cutV xs none (some (k : Int)) = xs.take k := by
  by_cases h : k ≤ xs.length
  · exact cut_to xs h
  · rw [List.take_of_length_le (by omega)]
    unfold cutV
    rw [sIx_pos]
    have e : HT.sIx xs.length 0 none = 0 := rfl
    rw [e, List.drop_zero, Nat.min_eq_right (by omega)]
    exact List.take_of_length_le (by omega)
theorem DsAt.take {H H' : Hp} {l l2 : Addr} {ds : List Deed} {xs : List V} (h : DsAt H l ds) (hl : H l = some (.lst xs)) (k : Nat) (e : Evl.Ex H H') (h2 : H' l2 = some (.lst (xs.take k))) : DsAt H' l2 (ds.take k) := by
  obtain ⟨as, h1, h3, h4⟩ := h
  rw [hl] at h1
  injection h1 with h1
  injection h1 with h1
  subst h1
  refine ⟨as.take k, by rw [h2, List.map_take], by rw [List.length_take, List.length_take, h3], fun i a d ha hd => ?_⟩
  rw [List.getElem?_take] at ha hd
  by_cases c : i < k
  · rw [if_pos c] at ha hd
    exact (h4 i a d ha hd).ex e
  · rw [if_neg c] at ha
    cases ha
theorem dat_word {H : Hp} {a : Addr} {d : Deed} (h : DAt H a d) : ∃ (x : Str) (r : List V), H a = some (.tup (.str x :: r)) := by
  rcases dat_unless h with ⟨k, m, rfl⟩ | ⟨x, r, h, _⟩
  · exact ⟨_, _, h⟩
  · exact ⟨_, _, h⟩
/-- a told width -/
def spWid (a c : Nat) : Sp := fun vs H Q _ => ∃ (s : Addr) (n : Nat), vs = [.ref s] ∧ Sk H s n ∧ n ≤ a ∧
  ∀ (t : Addr) (u b : Int) (H' : Hp), But s H H' → Sk H' s (n + c) → H t = none → Fr (wo s H') t u b → Qn u b → 0 < u → Q (.ref t) H'
theorem qn_fr {y z : Int} (y0 : 0 ≤ y) (y1 : y ≤ 1000000000000000) (z0 : 0 ≤ z) (z1 : z ≤ 1000000000000000) : Qn (fr (1 + z) (1 + y)).1 (fr (1 + z) (1 + y)).2 ∧ 0 < (fr (1 + z) (1 + y)).1 := by
  have p1 := fr_abs1 (a := 1 + z) (show 0 < 1 + y by omega)
  have p2 := fr_abs2 (a := 1 + z) (show 0 < 1 + y by omega)
  have p3 := fr_pos (u := 1 + z) (show 0 < 1 + y by omega)
  have p4 := fr_cop (u := 1 + z) (show 0 < 1 + y by omega)
  have p5 := fr_mul (u := 1 + z) (show 0 < 1 + y by omega)
  have n50 : (2 : Nat) ^ 50 = 1125899906842624 := by decide
  refine ⟨⟨p3, p4, by rw [n50]; omega, by rw [n50]; omega⟩, ?_⟩
  have g := gcd_pos (u := 1 + z) (show 0 < 1 + y by omega)
  refine Int.not_le.mp fun q => ?_
  have q2 := Int.mul_le_mul_of_nonneg_right q (Int.le_of_lt g)
  rw [← p5.1] at q2
  omega
section
variable {base : Heap} {mg : Str → Option Value} {K : PySem.W.Frag} {w : World} {P : Program}
end
end V2


namespace V2
open PySem L2
open PySem.Spec PyProof.Rows
theorem shp_v {ts : List Tk} {ds : List Deed} {u b : Int} (h : ShW ts ds) (hu : 0 < u) (hQ : Qn u b) : OkV ts.length (ts.map (wid u b)) := by
  obtain ⟨b0, _, ub, bb⟩ := hQ
  refine ⟨by rw [List.length_map], fun x hx => ?_, fun x hx => ?_⟩
  · obtain ⟨t, ht, rfl⟩ := List.mem_map.mp hx
    unfold wid
    split
    · exact hu
    · rename_i z hz
      have := (h.ok.1.2.1 t ht).1 z hz
      exact Int.mul_pos (by omega) b0
  · obtain ⟨t, ht, rfl⟩ := List.mem_map.mp hx
    unfold wid
    split
    · exact Nat.lt_of_lt_of_le ub (Nat.pow_le_pow_right (by decide) (by decide))
    · rename_i z hz
      have h1 := (h.ok.1.2.1 t ht).1 z hz
      have h2 := (h.w1000 t ht).1 z hz
      have hz : Bn 10 z := Nat.lt_of_le_of_lt (show z.natAbs ≤ 1000 by omega) (by decide)
      exact hz.mul bb
theorem shp_w {ts : List Tk} {ds : List Deed} (h : ShW ts ds) : OkW 11 (ts.map (·.2)) 1 := by
  refine ⟨fun x hx => ?_, fun x hx => ?_, by show 1 < 2 ^ 11; decide, by decide⟩
  · obtain ⟨t, ht, rfl⟩ := List.mem_map.mp hx
    exact (h.ok.1.2.1 t ht).2
  · obtain ⟨t, ht, rfl⟩ := List.mem_map.mp hx
    have h1 := (h.ok.1.2.1 t ht).2
    have h2 := (h.w1000 t ht).2
    exact Nat.lt_of_le_of_lt (show t.2.natAbs ≤ 1000 by omega) (by decide)
/-- a script stands at x -/
def ScAt (H : Hp) (C x : Addr) (ts : List Tk) (ds : List Deed) : Prop := ∃ (dx : Addr) (fs : List (Str × V)) (v u : V), H x = some (.ins C dx fs) ∧ fs.lookup ("_tanks" : Str) = some v ∧ fs.lookup ("_steps" : Str) = some u ∧ Dq H v (.list (ts.map tkD)) ∧ Dq H u (.list (ds.map dD)) ∧ fs = scF v u
theorem ScAt.ex {H H' : Hp} {C x : Addr} {ts : List Tk} {ds : List Deed} (h : ScAt H C x ts ds) (e : Evl.Ex H H') : ScAt H' C x ts ds := by
  obtain ⟨dx, fs, v, u, h1, h2, h3, h4, h5, h6⟩ := h
  exact ⟨dx, fs, v, u, e _ _ h1, h2, h3, h4.go e, h5.go e, h6⟩
/-- where the water stands behind the first i steps -/
abbrev wAt (ts : List Tk) (ds : List Deed) (u b : Int) (i : Nat) : List Int × Int := runA (ts.map (wid u b)) (ts.map (·.2), 1) (ds.take i)
/-- the run ends behind the first n steps; e tells at which step -/
structure EndsAt (ts : List Tk) (ds : List Deed) (u b : Int) (n : Nat) (e : V) : Prop where
  le : n ≤ ds.length
  no : ∀ (j : Nat) (d : Deed), j < n → ds[j]? = some d → endB (ts.map (wid u b)) (wAt ts ds u b j).1 d = false
  at_ : (n = ds.length ∧ e = .non) ∨ ∃ d, ds[n]? = some d ∧ endB (ts.map (wid u b)) (wAt ts ds u b n).1 d = true ∧ e = .int (n : Int)
def lvsA (ts : List Tk) (ds : List Deed) (u b : Int) (n : Nat) : List (Int × Int) := (List.range (wAt ts ds u b n).1.length).map (lvl (wAt ts ds u b n).1 (ts.map (wid u b)) (wAt ts ds u b n).2 b)
def spRunOf : Sp := fun vs H Q _ => ∃ (lt ls f : Addr) (ts : List Tk) (ds : List Deed) (u b : Int), vs = [.ref lt, .ref ls, .ref f] ∧ TksAt H lt ts ∧ DsAt H ls ds ∧ ShW ts ds ∧ Fr H f u b ∧ 0 < u ∧ Qn u b ∧
  ∀ q D e n H', Evl.Ex H H' → H D = none → H' q = some (.tup [e, .ref D]) → PrAt H' D (lvsA ts ds u b n) → EndsAt ts ds u b n e → Q (.ref q) H'
theorem wAt_ok {ts : List Tk} {ds : List Deed} {u b : Int} (h : ShW ts ds) (hu : 0 < u) (hQ : Qn u b) (i : Nat) : (wAt ts ds u b i).1.length = ts.length ∧ OkW 4000 (wAt ts ds u b i).1 (wAt ts ds u b i).2 := by
  have := runA_ok (shp_v h hu hQ) (ds := ds.take i) (N := 11) (S := (ts.map (·.2), 1)) (List.length_map ..) (shp_w h) (fun d hd => by
    have md := List.mem_of_mem_take hd
    refine ⟨h.ok.2.2 d md, fun k a e => ?_⟩
    subst e
    have h1 := h.p1000 k a md
    have h2 := (h.ok.2.2 _ md).2
    exact Nat.lt_of_le_of_lt (show a.natAbs ≤ 1000 by omega) (by decide))
  refine ⟨this.1, ⟨this.2.nn, fun x hx => (this.2.bA x hx).le ?_, this.2.bW.le ?_, this.2.pos⟩⟩
  · have := h.ok.2.1
    rw [List.length_take]
    omega
  · have := h.ok.2.1
    rw [List.length_take]
    omega
section
variable {base : Heap} {mg : Str → Option Value} {K : PySem.W.Frag} {w : World} {P : Program} {C fI fC fL fW fE pE : Addr}
theorem ok_run_of {f : Addr} {fd : FuncData} (F : Fun K "run_of" "run_of" s_run_of f fd) (T : T2 mg) (cT : Cal P w K mg base 1 "told_widths" p_told_widths spTold) (cF : Cal P w K mg base 2 "first_water" p_first_water spFirst) (cA : Cal P w K mg base 6 "after" p_after spAfter) (cE : Cal P w K mg base 8 "is_ended" p_is_ended spEnd) (cL : Cal P w K mg base 7 "told_levels" p_told_levels spTL) : FnOk P w K mg base CX0 9 f fd p_run_of spRunOf := by
  refine F.ok sc_run_of (fun vs H Q E h => ?_) (fun cdv A outer s H vs Q E hr h => ?_)
  · obtain ⟨lt, ls, g, ts, ds, u, b, rfl, _⟩ := h
    rfl
  · obtain ⟨lt, ls, g, ts, ds, u, b, rfl, hT, hD, hS, hg, hu, hQ, k⟩ := h
    have nd := sc_run_of.nd
    have r1 : Room 1 _ := hr.mono (by decide)
    have r2 : Room 2 _ := hr.mono (by decide)
    have r6 : Room 6 _ := hr.mono (by decide)
    have r7 : Room 7 _ := hr.mono (by decide)
    have two : 2 ≤ sizeLine := by show 2 ≤ sizeLine; decide
    refine ⟨_, pss_cons (ps_par (i := 3) (j := 4) rfl nd rfl rfl (by decide) rfl rfl (pa_cons (pe_c cT r1 (pa_cons (pv 0) (pa_cons (pv 2) pa_nil))) (pa_cons (pe_c cF r2 (pa_cons (pv 0) pa_nil)) pa_nil)) (by rfl))
      (pss_cons (ps_for PassesOwn.never rfl (pi_enum (by rfl) T.enu (pa_cons (pv 1) pa_nil)) (pg_tup rfl (pgs_cons (pg_name (i := 5) nd rfl (Or.inl rfl)) (pgs_cons (pg_name (i := 6) nd rfl (Or.inl rfl)) pgs_nil))) (pss_cons (ps_if (pt_val (pe_c cE hr (pa_cons (pv 6) (pa_cons (pv 4) (pa_cons (pv 3) pa_nil))))) (pss_one (ps_ret (pe_tup (pa_cons (pv 5) (pa_cons (pe_c cL r7 (pa_cons (pv 4) (pa_cons (pv 3) (pa_cons (pv 2) pa_nil)))) pa_nil))))) pss_nil)
      (pss_one (ps_set (i := 4) nd rfl (Or.inl rfl) (pe_c cA r6 (pa_cons (pv 6) (pa_cons (pv 4) (pa_cons (pv 3) pa_nil))))))))
      (pss_one (ps_ret (pe_tup (pa_cons pe_non (pa_cons (pe_c cL r7 (pa_cons (pv 4) (pa_cons (pv 3) (pa_cons (pv 2) pa_nil)))) pa_nil)))))), ?_⟩
    obtain ⟨b0, bc, ub, bb⟩ := id hQ
    have h20 := hS.ok.1.1
    refine ⟨_, rfl, _, rfl, lt, g, ts, u, b, rfl, hT, hS.ok.1, fun t ht => (hS.w1000 t ht).1, hg, hu, b0, ub, bb, fun Wd H1 hWd e1 hw => ?_⟩
    refine ⟨_, rfl, lt, ts, rfl, hT.ex e1, h20, fun t x y H2 e2 ht hx hy => ⟨_, _, rfl, ?_⟩⟩
    have hw2 := hw.ex e2
    have e02 := e1.trans e2
    have hV := shp_v hS hu hQ
    have hV' : ∀ i, OkV (wAt ts ds u b i).1.length (ts.map (wid u b)) := fun i => by rw [(wAt_ok hS hu hQ i).1]; exact hV
    have h20' : ∀ i, (wAt ts ds u b i).1.length ≤ 20 := fun i => by rw [(wAt_ok hS hu hQ i).1]; exact h20
    obtain ⟨xs, hxs, hxl, hxi⟩ := ds_items (hD.ex e02)
    refine ⟨_, rfl, ls, _, rfl, SqL.of hxs, for_it walk_enum (fun i σ H' => ∃ (t : Addr) (v6 v7 : Option V), σ = [some (.ref lt), some (.ref ls), some (.ref g), some (.ref Wd), some (.ref t), v6, v7] ∧ Evl.Ex H2 H' ∧ Wat H' t (wAt ts ds u b i).1 (wAt ts ds u b i).2 ∧ ∀ (j : Nat) (d : Deed), j < i → ds[j]? = some d → endB (ts.map (wid u b)) (wAt ts ds u b j).1 d = false)
      ⟨t, none, none, rfl, Evl.Ex.refl _, ⟨⟨x, y, ht, hx, hy⟩, by show (0 : Int) < 1; decide⟩, fun j d h => absurd h (Nat.not_lt_zero _)⟩ (fun i σ H' _ ⟨_, _, _, _, q, _⟩ => SqL.of (q _ _ hxs)) ?_ ?_⟩
    · rintro i v σ H3 H4 hi ⟨t, v6, v7, rfl, e3, hWt, hno⟩ ⟨t3, z, o, rfl, ht3, rfl, hz, ho⟩
      obtain rfl := (Option.some.inj hz).symm
      obtain ⟨a, d, rfl, hd, hDa⟩ := hxi i _ ho
      have e4 := Evl.Ex.new (o := .tup [.int (i : Nat), .ref a]) ht3
      have e34 := e3.trans e4
      have hi2 : i < ds.length := (List.getElem?_eq_some_iff.mp hd).1
      have hdm := List.mem_of_getElem? hd
      have hok : okD (wAt ts ds u b i).1.length d := by rw [(wAt_ok hS hu hQ i).1]; exact hS.ok.2.2 d hdm
      have hpo : ∀ k a, d = .po k a → Bn 60 a := fun k a e => by
        subst e
        have h1 := hS.p1000 k a hdm
        have h2 := (hS.ok.2.2 _ hdm).2
        exact Nat.lt_of_le_of_lt (show a.natAbs ≤ 1000 by omega) (by decide)
      refine ⟨t3, _, rfl, SqT.of upd_same, rfl, _, _, rfl, _, _, rfl, rfl, ?_⟩
      refine ⟨_, rfl, _, rfl, _, rfl, a, t, Wd, d, _, _, _, rfl, hDa.ex e34, hok, hWt.ex e4, hw2.ex e34, h20' i, hV' i, (wAt_ok hS hu hQ i).2, fun H5 e5 => ?_⟩
      have e35 := e34.trans e5
      cases he : endB (ts.map (wid u b)) (wAt ts ds u b i).1 d with
      | true =>
        refine ⟨_, rfl, if_t rfl ?_⟩
        refine ⟨_, rfl, _, rfl, _, rfl, _, rfl, t, Wd, g, _, ts.map (wid u b), _, u, b, 4000, rfl, (hWt.ex e4).ex e5, hw2.ex e35, (e02.trans e35) _ _ hg, h20' i, hV' i, (wAt_ok hS hu hQ i).2, by decide, b0, bb, fun D2 H6 hD2 e6 hF => ⟨two, fun q hq => ?_⟩⟩
        have e7 := Evl.Ex.new (o := .tup [.int (i : Nat), .ref D2]) hq
        exact k q D2 _ i _ (((e02.trans e35).trans e6).trans e7) (Evl.fresh_back (e02.trans e35) hD2) upd_same (hF.ex e7) ⟨Nat.le_of_lt hi2, hno, .inr ⟨d, hd, he, rfl⟩⟩
      | false =>
        refine ⟨_, rfl, if_f rfl ?_⟩
        refine ⟨_, rfl, _, rfl, _, rfl, a, t, Wd, d, _, ts.map (wid u b), _, 4000, rfl, hDa.ex e35, hok, hpo, (hWt.ex e4).ex e5, hw2.ex e35, h20' i, hV' i, (wAt_ok hS hu hQ i).2, by decide, fun t' H6 e6 hW6 => ?_⟩
        refine ⟨t', _, _, rfl, e35.trans e6, ?_, fun j d' hj hd' => ?_⟩
        · show Wat H6 t' (runA _ _ (ds.take (i + 1))).1 (runA _ _ (ds.take (i + 1))).2
          rw [runA_take hd]
          exact hW6
        · rcases Nat.lt_succ_iff_lt_or_eq.mp hj with h | rfl
          · exact hno j d' h hd'
          · rw [hd] at hd'
            cases hd'
            exact he
    · rintro σ H3 ⟨t, v6, v7, rfl, e3, hWt, hno⟩
      rw [hxl] at hWt hno
      have e03 := e02.trans e3
      refine ⟨_, rfl, _, rfl, _, rfl, t, Wd, g, _, ts.map (wid u b), _, u, b, 4000, rfl, hWt, hw2.ex e3, e03 _ _ hg, h20' _, hV' _, (wAt_ok hS hu hQ _).2, by decide, b0, bb, fun D2 H5 hD2 e5 hF => ⟨two, fun q hq => ?_⟩⟩
      have e6 := Evl.Ex.new (o := .tup [.non, .ref D2]) hq
      exact k q D2 _ ds.length _ ((e03.trans e5).trans e6) (Evl.fresh_back e03 hD2) upd_same (hF.ex e6) ⟨Nat.le_refl _, hno, .inl ⟨rfl, rfl⟩⟩
end
end V2


namespace V2
open PySem L2
open PySem.Spec PyProof.Rows
def frD (f : Int × Int) : PyData := .tuple [.int f.1, .int f.2]
def prD (fs : List (Int × Int)) : PyData := .list (fs.map frD)
theorem DpAll.of_get {K : PySem.W.Frag} {H : Hp} : ∀ {vs : List V} {ds : List PyData}, vs.length = ds.length → (∀ (i : Nat) (v : V) (d : PyData), vs[i]? = some v → ds[i]? = some d → Dp K H v d) → DpAll K H vs ds
  | [], [], _, _ => .nil
  | v :: vs, d :: ds, hl, h => .cons (h 0 v d rfl rfl) (DpAll.of_get (by simpa using hl) fun i v d x y => h (i + 1) v d x y)
  | [], _ :: _, hl, _ => by cases hl
  | _ :: _, [], hl, _ => by cases hl
theorem DqAll.of_get {H : Hp} : ∀ {vs : List V} {ds : List PyData}, vs.length = ds.length → (∀ (i : Nat) (v : V) (d : PyData), vs[i]? = some v → ds[i]? = some d → Dq H v d) → DqAll H vs ds
  | [], [], _, _ => .nil
  | v :: vs, d :: ds, hl, h => .cons (h 0 v d rfl rfl) (DqAll.of_get (by simpa using hl) fun i v d x y => h (i + 1) v d x y)
  | [], _ :: _, hl, _ => by cases hl
  | _ :: _, [], hl, _ => by cases hl
theorem dp_fr {K : PySem.W.Frag} {H : Hp} {a : Addr} {f : Int × Int} (h : Fr H a f.1 f.2) : Dp K H (.ref a) (frD f) := .tup (SqT.of h) (.cons (.int _) (.cons (.int _) .nil))
theorem pr_get {as : List Addr} {fs : List (Int × Int)} {i : Nat} {v : V} {d : PyData} (hv : (as.map V.ref)[i]? = some v) (hd : (fs.map frD)[i]? = some d) : ∃ a f, as[i]? = some a ∧ fs[i]? = some f ∧ v = .ref a ∧ d = frD f := by
  rw [List.getElem?_map] at hv hd
  cases e1 : as[i]? with
  | none =>
    rw [e1] at hv
    cases hv
  | some a =>
    cases e2 : fs[i]? with
    | none =>
      rw [e2] at hd
      cases hd
    | some f =>
      rw [e1] at hv
      rw [e2] at hd
      exact ⟨a, f, rfl, rfl, (Option.some.inj hv).symm, (Option.some.inj hd).symm⟩
theorem dp_pr {K : PySem.W.Frag} {H : Hp} {l : Addr} {fs : List (Int × Int)} (h : PrAt H l fs) : Dp K H (.ref l) (prD fs) := by
  obtain ⟨as, h1, h2, h3⟩ := h
  refine .lst (SqL.of h1) (DpAll.of_get (by rw [List.length_map, List.length_map]; exact h2) fun i v d hv hd => ?_)
  obtain ⟨a, f, x, y, rfl, rfl⟩ := pr_get hv hd
  exact dp_fr (h3 i a f x y)
theorem lay_fr : ∀ fs : List (Int × Int), PyData.canLayAll0 (fs.map frD) = true
  | [] => by simp [PyData.canLayAll0]
  | f :: fs => by simp [PyData.canLayAll0, PyData.canLay0, frD, lay_fr fs]
theorem dep_fr : ∀ fs : List (Int × Int), PyData.depthAll (fs.map frD) ≤ 2
  | [] => by simp [PyData.depthAll]
  | f :: fs => by
    have := dep_fr fs
    simp [PyData.depthAll, frD, PyData.depth]
    omega
theorem shp_pr (fs : List (Int × Int)) : SeqAt.shaped (prD fs) = true := by
  have h1 := lay_fr fs
  have h2 := dep_fr fs
  have e : PyData.depth (.list (fs.map frD)) = PyData.depthAll (fs.map frD) + 1 := by simp [PyData.depth]
  have c : PyData.canLay0 (.list (fs.map frD)) = true := by simpa [PyData.canLay0] using h1
  unfold SeqAt.shaped prD
  rw [c, Bool.true_and]
  exact decide_eq_true (by rw [e]; omega)
/-- while a list of steps is being made at D -/
def DsN (H : Hp) (D : Addr) (ds : List Deed) : Prop := ∃ as : List Addr, H D = some (.lst (as.map V.ref)) ∧ as.length = ds.length ∧ ∀ (i : Nat) (a : Addr) (d : Deed), as[i]? = some a → ds[i]? = some d → DAt (wo D H) a d
theorem DsN.start {H : Hp} {D : Addr} (h : H D = some (.lst [])) : DsN H D [] := ⟨[], h, rfl, fun i a f h => by cases h⟩
theorem DsN.done {H : Hp} {D : Addr} {ds : List Deed} (h : DsN H D ds) : DsAt H D ds := by
  obtain ⟨as, h1, h2, h3⟩ := h
  exact ⟨as, h1, h2, fun i a f x y => (h3 i a f x y).ex wo_ex⟩
theorem DsN.more {H H' : Hp} {D t : Addr} {ds : List Deed} {d : Deed} {n : Int} (h : DsN H D ds) (e : Evl.Ex H H') (ht : DAt H' t d) (hd : okD n d) (hl : ds.length ≤ 1000) : ∃ acc, H' D = some (.lst acc) ∧ acc.length < sizeLine ∧ DsN (upd H' D (.lst (acc ++ [.ref t]))) D (ds ++ [d]) := by
  obtain ⟨as, h1, h2, h3⟩ := h
  have h1' := e _ _ h1
  have up : ∀ o, Evl.Ex (wo D H') (wo D (upd H' D o)) := fun o b u z => wo_at (wo_ne z) (Eq.trans (upd_ne (wo_ne z)) (wo_ex _ _ z))
  refine ⟨_, h1', ?_, as ++ [t], ?_, by rw [List.length_append, List.length_append, h2]; rfl, fun i a g ha hg => ?_⟩
  · rw [List.length_map, h2]
    exact Nat.lt_of_le_of_lt hl (by decide)
  · rw [upd_same, List.map_append]
    rfl
  · rcases get_app ha with ⟨h4, h5⟩ | ⟨h4, rfl⟩
    · rcases get_app hg with ⟨h6, _⟩ | ⟨h6, _⟩
      · exact ((h3 i a g h4 h6).ex (ex_wo e)).ex (up _)
      · omega
    · rcases get_app hg with ⟨h6, h7⟩ | ⟨_, rfl⟩
      · omega
      · exact (dat_keep ht hd h1' fun b o n z => wo_at n z).ex (up _)
/-- while a list of fractions is being made at D -/
def PrN (H : Hp) (D : Addr) (fs : List (Int × Int)) : Prop := ∃ as : List Addr, H D = some (.lst (as.map V.ref)) ∧ as.length = fs.length ∧ ∀ (i : Nat) (a : Addr) (f : Int × Int), as[i]? = some a → fs[i]? = some f → a ≠ D ∧ Fr H a f.1 f.2
theorem PrN.start {H : Hp} {D : Addr} (h : H D = some (.lst [])) : PrN H D [] := ⟨[], h, rfl, fun i a f h => by cases h⟩
theorem PrN.done {H : Hp} {D : Addr} {fs : List (Int × Int)} (h : PrN H D fs) : PrAt H D fs := by
  obtain ⟨as, h1, h2, h3⟩ := h
  exact ⟨as, h1, h2, fun i a f x y => (h3 i a f x y).2⟩
theorem PrN.more {H H' : Hp} {D t : Addr} {fs : List (Int × Int)} {f : Int × Int} (h : PrN H D fs) (e : Evl.Ex H H') (ht : Fr H' t f.1 f.2) (hl : fs.length ≤ 1000) : ∃ acc, H' D = some (.lst acc) ∧ acc.length < sizeLine ∧ acc.length = fs.length ∧ PrN (upd H' D (.lst (acc ++ [.ref t]))) D (fs ++ [f]) := by
  obtain ⟨as, h1, h2, h3⟩ := h
  have h1' := e _ _ h1
  have tD : t ≠ D := fun z => by
    have ht : H' t = some (.tup [.int f.1, .int f.2]) := ht
    rw [z, h1'] at ht
    cases ht
  refine ⟨_, h1', ?_, by rw [List.length_map]; exact h2, as ++ [t], ?_, by rw [List.length_append, List.length_append, h2]; rfl, fun i a g ha hg => ?_⟩
  · rw [List.length_map, h2]
    exact Nat.lt_of_le_of_lt hl (by decide)
  · rw [upd_same, List.map_append]
    rfl
  · rcases get_app ha with ⟨h4, h5⟩ | ⟨h4, rfl⟩
    · rcases get_app hg with ⟨h6, _⟩ | ⟨h6, _⟩
      · obtain ⟨n, z⟩ := h3 i a g h4 h6
        exact ⟨n, Eq.trans (upd_ne n) (e _ _ z)⟩
      · omega
    · rcases get_app hg with ⟨h6, h7⟩ | ⟨_, rfl⟩
      · omega
      · exact ⟨tD, Eq.trans (upd_ne tD) ht⟩
end V2


namespace V2
open PySem L2
open PySem.Spec PyProof.Rows
theorem DsAt.dq {H : Hp} {l : Addr} {ds : List Deed} (h : DsAt H l ds) : Dq H (.ref l) (.list (ds.map dD)) := by
  obtain ⟨as, h1, h2, h3⟩ := h
  refine .lst h1 (DqAll.of_get (by rw [List.length_map, List.length_map]; exact h2) fun i v d hv hd => ?_)
  rw [List.getElem?_map] at hv hd
  cases e1 : as[i]? with
  | none =>
    rw [e1] at hv
    cases hv
  | some a =>
    cases e2 : ds[i]? with
    | none =>
      rw [e2] at hd
      cases hd
    | some t =>
      rw [e1] at hv
      rw [e2] at hd
      cases hv
      cases hd
      exact dat_dq (h3 i a t e1 e2)
def spRun (C : Addr) : Sp := fun vs H Q _ => ∃ (x f : Addr) (ts : List Tk) (ds : List Deed) (u b : Int), vs = [.ref x, .ref f] ∧ ScAt H C x ts ds ∧ ShW ts ds ∧ Fr H f u b ∧ 0 < u ∧ Qn u b ∧
  ∀ q D e n H', Evl.Ex H H' → H D = none → H' q = some (.tup [e, .ref D]) → PrAt H' D (lvsA ts ds u b n) → EndsAt ts ds u b n e → Q (.ref q) H'
def spCi : Sp := fun vs H Q _ => ∃ (i m : Int), vs = [.int i, .int m] ∧ 0 ≤ i ∧ i < m ∧ Evl.RetV .non H Q
section
variable {base : Heap} {mg : Str → Option Value} {K : PySem.W.Frag} {w : World} {P : Program} {C fI fT fS pT pS : Addr}
theorem ok_run {f : Addr} {fd fdT fdS : FuncData} (F : Fun K "run" "run" s_run f fd) (c : ScC K C fI fT fS pT pS) (FT : FnOk P w K mg base CX0 4 fT fdT p_Sc_tanks (spGet C 2 "_tanks")) (bT : Binds K fdT p_Sc_tanks []) (FS : FnOk P w K mg base CX0 5 fS fdS p_Sc_steps (spGet C 3 "_steps")) (bS : Binds K fdS p_Sc_steps [])
    (cW : Cal P w K mg base 3 "check_width" p_check_width spCw) (cR : Cal P w K mg base 9 "run_of" p_run_of spRunOf) : FnOk P w K mg base CX0 10 f fd p_run (spRun C) := by
  refine F.ok sc_run (fun vs H Q E h => ?_) (fun cdv A outer s H vs Q E hr h => ?_)
  · obtain ⟨x, g, ts, ds, u, b, rfl, _⟩ := h
    rfl
  · obtain ⟨x, g, ts, ds, u, b, rfl, ⟨dx, fs, v, y, hx, hv, hy, hdv, hdy, _⟩, hS, hg, hu, hQ, k⟩ := h
    refine ⟨_, pss_cons (ps_expr (pe_c cW (hr.mono (by decide)) (pa_cons (pv 1) pa_nil)))
      (pss_one (ps_ret (pe_c cR hr (pa_cons (pe_prop (pv 0) c.cls c.prT FT (hr.mono (by decide)) bT .nil pass0 rfl) (pa_cons (pe_prop (pv 0) c.cls c.prS FS (hr.mono (by decide)) bS .nil pass0 rfl) (pa_cons (pv 1) pa_nil)))))), ?_⟩
    refine ⟨_, rfl, g, u, b, rfl, hg, hQ, hu, fun H1 e1 => ?_⟩
    refine ⟨_, rfl, x, dx, fs, rfl, e1 _ _ hx, x, dx, fs, v, _, rfl, e1 _ _ hx, hv, hdv.go e1, cp_tks (Nat.le_trans hS.ok.1.1 (by decide)), fun v1 H2 e2 h2 => ?_⟩
    have e02 := e1.trans e2
    refine ⟨_, rfl, x, dx, fs, rfl, e02 _ _ hx, x, dx, fs, y, _, rfl, e02 _ _ hx, hy, hdy.go e02, cp_deeds hS.ok.2.2 (Nat.le_trans hS.ok.2.1 (by decide)), fun v2 H3 e3 h3 => ?_⟩
    have e03 := e02.trans e3
    obtain ⟨lt, rfl, hlt⟩ := ((h2.go Nw.ex).go e3).tks
    obtain ⟨ls, rfl, hls⟩ := (h3.go Nw.ex).deeds
    exact ⟨_, rfl, lt, ls, g, ts, ds, u, b, rfl, hlt, hls, hS, e03 _ _ hg, hu, hQ, fun q D e n H' e4 hD hq hP hE => k q D e n H' (e03.trans e4) (Evl.fresh_back e03 hD) hq hP hE⟩
theorem ok_check_index {f : Addr} {fd : FuncData} (F : Fun K "check_index" "check_index" s_check_index f fd) (cA : Cal P w K mg base 2 "is_amount" p_is_amount spAmt) : FnOk P w K mg base CX0 3 f fd p_check_index spCi := by
  refine F.ok sc_check_index (fun vs H Q E h => ?_) (fun cdv A outer s H vs Q E hr h => ?_)
  · obtain ⟨i, m, rfl, _⟩ := h
    rfl
  · obtain ⟨i, m, rfl, i0, i1, k⟩ := h
    refine ⟨_, pss_one (ps_if (PW.pt (pw_or (pt_not (pt_val (pe_c cA hr (pa_cons (pv 0) pa_nil)))) (pw_or1 (pt_cmpR op_ge (pv 0) (pv 1) (nomark _))))) (pss_one ps_never) pss_nil), ?_⟩
    refine ⟨_, rfl, i, rfl, i0, fun H1 e1 => ⟨true, rfl, if_f rfl ?_⟩⟩
    exact ⟨_, rfl, _, rfl, _, _, rfl, rfl, _, rfl, if_f (decide_eq_false (by omega)) (k _ e1)⟩
end
end V2


namespace V2
open PySem L2
open PySem.Spec PyProof.Rows
def Bh (A : List Int) (W : Int) : List (Int × Int) := A.map fun x => fr x W
theorem PrN.keep {H H' : Hp} {D l : Addr} {fs : List (Int × Int)} {xs : List V} (h : PrN H D fs) (hl : H l = some (.lst xs)) (n : D ≠ l) (e : ∀ b o, b ≠ l → H b = some o → H' b = some o) : PrN H' D fs := by
  obtain ⟨as, h1, h2, h3⟩ := h
  refine ⟨as, e _ _ n h1, h2, fun i a f x y => ?_⟩
  obtain ⟨n1, z⟩ := h3 i a f x y
  exact ⟨n1, e _ _ (fun q => by
    have z : H a = some (.tup _) := z
    rw [q, hl] at z
    cases z) z⟩
theorem PrN.ex {H H' : Hp} {D : Addr} {fs : List (Int × Int)} (h : PrN H D fs) (e : Evl.Ex H H') : PrN H' D fs := by
  obtain ⟨as, h1, h2, h3⟩ := h
  exact ⟨as, e _ _ h1, h2, fun i a f x y => ⟨(h3 i a f x y).1, e _ _ (h3 i a f x y).2⟩⟩
end V2


namespace V2
open PySem L2
open PySem.Spec PyProof.Rows
mutual
/-- v is data; as: its lists, outer ones first -/
inductive TrD (H : Hp) : V → PyData → List Addr → Prop
  | non : TrD H .non .none []
  | bl (b : Bool) : TrD H (.bl b) (.bool b) []
  | int (i : Int) : TrD H (.int i) (.int i) []
  | str (x : Str) : TrD H (.str x) (.str x) []
  | lst {a : Addr} {xs : List V} {ds : List PyData} {as : List Addr} : H a = some (.lst xs) → TrA H xs ds as → TrD H (.ref a) (.list ds) (a :: as)
  | tup {a : Addr} {xs : List V} {ds : List PyData} {as : List Addr} : H a = some (.tup xs) → TrA H xs ds as → TrD H (.ref a) (.tuple ds) as
inductive TrA (H : Hp) : List V → List PyData → List Addr → Prop
  | nil : TrA H [] [] []
  | cons {v : V} {vs : List V} {d : PyData} {ds : List PyData} {as bs : List Addr} : TrD H v d as → TrA H vs ds bs → TrA H (v :: vs) (d :: ds) (as ++ bs)
end
mutual
theorem TrD.go {H H' : Hp} : ∀ {d : PyData} {v : V} {as : List Addr}, TrD H v d as → Evl.Ex H H' → TrD H' v d as
  | _, _, _, .non, _ => .non
  | _, _, _, .bl b, _ => .bl b
  | _, _, _, .int i, _ => .int i
  | _, _, _, .str x, _ => .str x
  | _, _, _, .lst h r, e => .lst (e _ _ h) (TrA.go r e)
  | _, _, _, .tup h r, e => .tup (e _ _ h) (TrA.go r e)
theorem TrA.go {H H' : Hp} : ∀ {ds : List PyData} {vs : List V} {as : List Addr}, TrA H vs ds as → Evl.Ex H H' → TrA H' vs ds as
  | _, _, _, .nil, _ => .nil
  | _, _, _, .cons a b, e => .cons (TrD.go a e) (TrA.go b e)
end
mutual
theorem TrD.dq {H : Hp} : ∀ {d : PyData} {v : V} {as : List Addr}, TrD H v d as → Dq H v d
  | _, _, _, .non => .non
  | _, _, _, .bl b => .bl b
  | _, _, _, .int i => .int i
  | _, _, _, .str x => .str x
  | _, _, _, .lst h r => .lst h (TrA.dq r)
  | _, _, _, .tup h r => .tup h (TrA.dq r)
theorem TrA.dq {H : Hp} : ∀ {ds : List PyData} {vs : List V} {as : List Addr}, TrA H vs ds as → DqAll H vs ds
  | _, _, _, .nil => .nil
  | _, _, _, .cons a b => .cons (TrD.dq a) (TrA.dq b)
end
mutual
/-- how many lists there are in data -/
def cntD : PyData → Nat
  | .list ds => 1 + cntA ds
  | .tuple ds => cntA ds
  | _ => 0
def cntA : List PyData → Nat
  | [] => 0
  | d :: ds => cntD d + cntA ds
end
mutual
/-- the data behind each of whose lists its rank was put, ranks from k on -/
def mkD : Nat → PyData → PyData
  | k, .list ds => .list (mkA (k + 1) ds ++ [.int (k : Int)])
  | k, .tuple ds => .tuple (mkA k ds)
  | _, d => d
def mkA : Nat → List PyData → List PyData
  | _, [] => []
  | k, d :: ds => mkD k d :: mkA (k + cntD d) ds
end
theorem TrA.get {H : Hp} : ∀ {ds : List PyData} {vs : List V} {as : List Addr}, TrA H vs ds as → ∃ bss : List (List Addr), bss.length = vs.length ∧ as = bss.flatten ∧ ∀ (i : Nat) (x : V), vs[i]? = some x → ∃ d bs, ds[i]? = some d ∧ bss[i]? = some bs ∧ TrD H x d bs
  | _, _, _, .nil => ⟨[], rfl, rfl, fun _ _ h => by cases h⟩
  | _, _, _, @TrA.cons _ v vs d ds as bs a b => by
    obtain ⟨bss, h1, h2, h3⟩ := TrA.get b
    refine ⟨as :: bss, by rw [List.length_cons, List.length_cons, h1], by rw [List.flatten_cons, h2], fun i x hx => ?_⟩
    cases i with
    | zero =>
      cases hx
      exact ⟨d, as, rfl, rfl, a⟩
    | succ i => exact h3 i x hx
section
variable {base : Heap} {mg : Str → Option Value} {K : PySem.W.Frag} {w : World} {P : Program}
end
end V2


namespace V2
open PySem L2
open PySem.Spec PyProof.Rows
mutual
theorem TrD.lists {H : Hp} : ∀ {d : PyData} {v : V} {as : List Addr}, TrD H v d as → ∀ {n : Nat}, Cp n d → ∀ a ∈ as, ∃ xs, H a = some (.lst xs) ∧ xs.length ≤ 100
  | _, _, _, .non, _, _, _, m => by cases m
  | _, _, _, .bl b, _, _, _, m => by cases m
  | _, _, _, .int i, _, _, _, m => by cases m
  | _, _, _, .str x, _, _, _, m => by cases m
  | _, _, _, @TrD.lst _ a xs ds as h r, _, c, b, m => by
    cases c with
    | lst hl hc =>
      rcases List.mem_cons.mp m with rfl | m
      · exact ⟨xs, h, by rw [r.dq.len]; exact hl⟩
      · exact TrA.lists r hc b m
  | _, _, _, @TrD.tup _ a xs ds as h r, _, c, b, m => by
    cases c with
    | tup hl hc => exact TrA.lists r hc b m
theorem TrA.lists {H : Hp} : ∀ {ds : List PyData} {vs : List V} {as : List Addr}, TrA H vs ds as → ∀ {n : Nat}, (∀ d ∈ ds, Cp n d) → ∀ a ∈ as, ∃ xs, H a = some (.lst xs) ∧ xs.length ≤ 100
  | _, _, _, .nil, _, _, _, m => by cases m
  | _, _, _, .cons a b, _, c, q, m => by
    rcases List.mem_append.mp m with m | m
    · exact TrD.lists a (c _ List.mem_cons_self) q m
    · exact TrA.lists b (fun d hd => c d (List.mem_cons_of_mem _ hd)) q m
end
section
variable {base : Heap} {mg : Str → Option Value} {K : PySem.W.Frag} {w : World} {P : Program}
end
end V2


namespace V2
open PySem L2
open PySem.Spec PyProof.Rows
/-- the law's state: waters, index, steps done -/
def StAt (H : Hp) (q : Addr) (ds : List Deed) (A : List Int) (W : Int) (v : V) : Prop := ∃ D L, H q = some (.tup [.ref D, v, .ref L]) ∧ PrAt H D (Bh A W) ∧ DsAt H L ds
theorem StAt.ex {H H' : Hp} {q : Addr} {ds : List Deed} {A : List Int} {W : Int} {v : V} (h : StAt H q ds A W v) (e : Evl.Ex H H') : StAt H' q ds A W v := by
  obtain ⟨D, L, h1, h2, h3⟩ := h
  exact ⟨D, L, e _ _ h1, h2.ex e, h3.ex e⟩
/-- objects that are no tuples -/
def Nt (ps : List Addr) (H : Hp) : Prop := ∀ p ∈ ps, (∃ o, H p = some o) ∧ ∀ xs, H p ≠ some (.tup xs)
theorem Nt.ex {ps : List Addr} {H H' : Hp} (h : Nt ps H) (e : Evl.Ex H H') : Nt ps H' := fun p hp => by
  obtain ⟨⟨o, h1⟩, h2⟩ := h p hp
  refine ⟨⟨o, e _ _ h1⟩, fun xs z => h2 xs ?_⟩
  rw [e _ _ h1] at z
  rw [h1, z]
theorem Nt.new {ps : List Addr} {H H' : Hp} {p : Addr} (h : Nt ps H) (e : Evl.Ex H H') (n : H' p = none) : p ∉ ps := fun hp => by
  obtain ⟨⟨o, h1⟩, _⟩ := h p hp
  rw [e _ _ h1] at n
  cases n
theorem Nt.tup {ps : List Addr} {H : Hp} {p : Addr} {xs : List V} (h : Nt ps H) (z : H p = some (.tup xs)) : p ∉ ps := fun hp => (h p hp).2 xs z
theorem woL_go {ps : List Addr} {H H' : Hp} (e : Evl.Ex H H') : Evl.Ex (woL ps H) (woL ps H') := fun b o z => woL_at (woL_ne z) (e _ _ (woL_ex _ _ z))
section
variable {base : Heap} {mg : Str → Option Value} {K : PySem.W.Frag} {w : World} {P : Program}
end
end V2


namespace V2
open PySem L2
open PySem.Spec PyProof.Rows
abbrev wEnd (ts : List Tk) (es : List Deed) (u b : Int) : List Int × Int := wAt ts es u b es.length
def hist (ts : List Tk) (es : List Deed) (u b : Int) : List (List Int × Int) := (List.range es.length).map fun j => wAt ts es u b j
theorem wAt_pre {ts : List Tk} {es fs : List Deed} {u b : Int} {j : Nat} (h : j ≤ es.length) : wAt ts (es ++ fs) u b j = wAt ts es u b j := by
  unfold wAt
  rw [List.take_append_of_le_length h]
theorem BnAt.ins {C s : Addr} {H : Hp} {x ls lt : Addr} {ts : List Tk} {ds : List Deed} {S : List (List Int × Int)} {A ws : List Int} {W u b : Int} {v : V} (h : BnAt C s H x ls lt ts ds S A ws W u b v) : ∃ dx fs, H x = some (.ins C dx fs) := by
  obtain ⟨⟨dx, lq, g, lw, t, as, bs, h1, _⟩, _, _, _⟩ := h
  exact ⟨_, _, h1⟩
end V2


namespace V2
open PySem L2
open PySem.Spec PyProof.Rows
theorem lay_ints : ∀ ns : List Int, PyData.canLayAll0 (ns.map .int) = true
  | [] => by simp [PyData.canLayAll0]
  | n :: ns => by simp [PyData.canLayAll0, PyData.canLay0, lay_ints ns]
theorem dep_ints : ∀ ns : List Int, PyData.depthAll (ns.map .int) ≤ 1
  | [] => by simp [PyData.depthAll]
  | n :: ns => by
    have := dep_ints ns
    simp [PyData.depthAll, PyData.depth]
    omega
theorem lay_dD (d : Deed) : PyData.canLay0 (dD d) = true ∧ PyData.depth (dD d) ≤ 3 := by
  cases d with
  | op ks =>
    have h1 := lay_ints ks
    have h2 := dep_ints ks
    exact ⟨by simp [dD, PyData.canLay0, PyData.canLayAll0, h1]; decide +kernel, by simp [dD, PyData.depth, PyData.depthAll]; omega⟩
  | po k a => exact ⟨by simp [dD, PyData.canLay0, PyData.canLayAll0]; decide +kernel, by simp [dD, PyData.depth, PyData.depthAll]⟩
  | sc k p q => exact ⟨by simp [dD, PyData.canLay0, PyData.canLayAll0]; decide +kernel, by simp [dD, PyData.depth, PyData.depthAll]⟩
  | mv k m p q => exact ⟨by simp [dD, PyData.canLay0, PyData.canLayAll0]; decide +kernel, by simp [dD, PyData.depth, PyData.depthAll]⟩
  | un k m => exact ⟨by simp [dD, PyData.canLay0, PyData.canLayAll0]; decide +kernel, by simp [dD, PyData.depth, PyData.depthAll]⟩
theorem lay_ds : ∀ es : List Deed, PyData.canLayAll0 (es.map dD) = true ∧ PyData.depthAll (es.map dD) ≤ 3
  | [] => by simp [PyData.canLayAll0, PyData.depthAll]
  | d :: es => by
    obtain ⟨h1, h2⟩ := lay_ds es
    obtain ⟨h3, h4⟩ := lay_dD d
    exact ⟨by simp [PyData.canLayAll0, h1, h3], by simp [PyData.depthAll]; omega⟩
theorem shp_ds (es : List Deed) : SeqAt.shaped (.list (es.map dD)) = true := by
  obtain ⟨h1, h2⟩ := lay_ds es
  simp [SeqAt.shaped, PyData.canLay0, PyData.depth, h1]
  omega
theorem dp_deed {K : PySem.W.Frag} {H : Hp} {a : Addr} {d : Deed} (h : DAt H a d) : Dp K H (.ref a) (dD d) := by
  cases d with
  | op ks =>
    obtain ⟨l, h1, h2⟩ := h
    exact .tup (SqT.of h1) (.cons (.str _) (.cons (.lst (SqL.of h2) (dpI2 ks)) .nil))
  | po k x => exact .tup (SqT.of h) (.cons (.str _) (.cons (.int _) (.cons (.int _) .nil)))
  | sc k p q =>
    obtain ⟨l, h1, h2⟩ := h
    exact .tup (SqT.of h1) (.cons (.str _) (.cons (.int _) (.cons (.tup (SqT.of h2) (.cons (.int _) (.cons (.int _) .nil))) .nil)))
  | mv k m p q =>
    obtain ⟨l, h1, h2⟩ := h
    exact .tup (SqT.of h1) (.cons (.str _) (.cons (.int _) (.cons (.int _) (.cons (.tup (SqT.of h2) (.cons (.int _) (.cons (.int _) .nil))) .nil))))
  | un k m => exact .tup (SqT.of h) (.cons (.str _) (.cons (.int _) (.cons (.int _) .nil)))
where dpI2 {K : PySem.W.Frag} {H : Hp} : ∀ ns : List Int, DpAll K H (iV ns) (ns.map .int)
  | [] => .nil
  | n :: r => .cons (.int n) (dpI2 r)
theorem dp_ds {K : PySem.W.Frag} {H : Hp} {l : Addr} {es : List Deed} (h : DsAt H l es) : Dp K H (.ref l) (.list (es.map dD)) := by
  obtain ⟨as, h1, h2, h3⟩ := h
  refine .lst (SqL.of h1) ?_
  clear h1
  induction as generalizing es with
  | nil =>
    cases es with
    | nil => exact .nil
    | cons d r => cases h2
  | cons a r ih =>
    cases es with
    | nil => cases h2
    | cons d q => exact .cons (dp_deed (h3 0 a d rfl rfl)) (ih (Nat.succ.inj h2) fun i b e x y => h3 (i + 1) b e x y)
theorem lay_tks : ∀ ts : List Tk, PyData.canLayAll0 (ts.map tkD) = true ∧ PyData.depthAll (ts.map tkD) ≤ 2
  | [] => by simp [PyData.canLayAll0, PyData.depthAll]
  | (none, a) :: ts => by
    obtain ⟨h1, h2⟩ := lay_tks ts
    exact ⟨by simp [tkD, wD, PyData.canLayAll0, PyData.canLay0, h1], by simp [tkD, wD, PyData.depthAll, PyData.depth]; omega⟩
  | (some z, a) :: ts => by
    obtain ⟨h1, h2⟩ := lay_tks ts
    exact ⟨by simp [tkD, wD, PyData.canLayAll0, PyData.canLay0, h1], by simp [tkD, wD, PyData.depthAll, PyData.depth]; omega⟩
theorem shp_tks (ts : List Tk) : SeqAt.shaped (.list (ts.map tkD)) = true := by
  obtain ⟨h1, h2⟩ := lay_tks ts
  simp [SeqAt.shaped, PyData.canLay0, PyData.depth, h1]
  omega
theorem dp_tks {K : PySem.W.Frag} {H : Hp} {l : Addr} {ts : List Tk} (h : TksAt H l ts) : Dp K H (.ref l) (.list (ts.map tkD)) := by
  obtain ⟨as, h1, h2, h3⟩ := h
  refine .lst (SqL.of h1) ?_
  clear h1
  induction as generalizing ts with
  | nil =>
    cases ts with
    | nil => exact .nil
    | cons d r => cases h2
  | cons a r ih =>
    cases ts with
    | nil => cases h2
    | cons d q =>
      refine .cons ?_ (ih (Nat.succ.inj h2) fun i b e x y => h3 (i + 1) b e x y)
      have z := h3 0 a d rfl rfl
      obtain ⟨w, am⟩ := d
      cases w with
      | none => exact .tup (SqT.of z) (.cons .non (.cons (.int _) .nil))
      | some n => exact .tup (SqT.of z) (.cons (.int _) (.cons (.int _) .nil))
theorem eqv_same {d : PyData} (h : SeqAt.shaped d = true) : PyData.eqv d d = true := by
  refine PySem.SeqAt.eqv_refl _ ?_
  unfold SeqAt.shaped at h
  exact (Bool.and_eq_true_iff.mp h).1
/-- what == of benches looks at -/
def BnV (B : Addr) (H : Hp) (a : Addr) (ts : List Tk) (ds : List Deed) (u b : Int) : Prop := ∃ (dx lq g lw ls lt : Addr) (v : V), H a = some (.ins B dx (bnF lq g lw ls lt v)) ∧ TksAt H lq ts ∧ DsAt H ls ds ∧ Fr H g u b
theorem BnAt.bv {B s : Addr} {H : Hp} {x ls lt : Addr} {ts : List Tk} {ds : List Deed} {S : List (List Int × Int)} {A ws : List Int} {W u b : Int} {v : V} (h : BnAt B s H x ls lt ts ds S A ws W u b v) : BnV B H x ts ds u b := by
  obtain ⟨⟨dx, lq, g, lw, t, as, bs, hx, hls, hxs, hlt, hys, hP⟩, _, _, _⟩ := h
  have p := hP.ex woL_ex
  exact ⟨dx, lq, g, lw, ls, lt, v, hx, p.q, ⟨as, hls, hxs, p.d⟩, p.f⟩
section
variable {base : Heap} {mg : Str → Option Value} {K : PySem.W.Frag} {w : World} {P : Program} {B gI gC gL gW gE qE CE fI : Addr}
end
end V2




namespace V2
open PySem
def five : List Str := ["open", "pour", "scoop", "move", "unless"]
end V2


namespace V2
open PySem L2
open PySem.Spec PyProof.Rows
/-- a step as it may be wrong: nothing, a step of the right form, another word or length -/
inductive Bent where
  | nil
  | de (d : Deed)
  | bad (x : Str) (ds : List PyData)
def dB : Bent → PyData
  | .nil => .tuple []
  | .de d => dD d
  | .bad x ds => .tuple (.str x :: ds)
def BAt (H : Hp) (a : Addr) : Bent → Prop
  | .nil => H a = some (.tup [])
  | .de d => DAt H a d
  | .bad x ds => ∃ vs, H a = some (.tup (.str x :: vs)) ∧ DqAll H vs ds
/-- which word has which length -/
def thN (x : Str) : Option Nat := if x = "open" then some 2 else if x = "pour" then some 3 else if x = "scoop" then some 3 else if x = "move" then some 4 else if x = "unless" then some 3 else none
def badOk (x : Str) (ds : List PyData) : Prop := thN x ≠ some (ds.length + 1)
def BOk : Bent → Prop
  | .bad x ds => badOk x ds ∧ (thN x = none → x ∈ (["Open", "shut", "pours", "", "unles", "moves"] : List Str))
  | .de (.op ks) => ks.length ≤ 30
  | _ => True
section
variable {base : Heap} {mg : Str → Option Value} {K : PySem.W.Frag} {w : World} {P : Program} {aT : Addr} {es : Array DictEntry} {nT : Nat} {t1 t2 t3 t4 t5 : Tok}
end
end V2


namespace V2
open PySem L2
open PySem.Spec PyProof.Rows
theorem TrA.snoc {H : Hp} : ∀ {ds : List PyData} {vs : List V} {as : List Addr} {v : V} {d : PyData} {bs : List Addr}, TrA H vs ds as → TrD H v d bs → TrA H (vs ++ [v]) (ds ++ [d]) (as ++ bs)
  | _, _, _, v, d, bs, .nil, h => by
    have := TrA.cons h (.nil (H := H))
    rw [List.append_nil] at this
    exact this
  | _, _, _, v, d, bs, .cons a b, h => by
    rw [List.append_assoc]
    exact .cons a (TrA.snoc b h)
section
variable {base : Heap} {mg : Str → Option Value} {K : PySem.W.Frag} {w : World} {P : Program}
end
end V2


namespace V2
open PySem L2
open PySem.Spec PyProof.Rows
def CalX (P : Program) (w : World) (K : PySem.W.Frag) (mg : Str → Option Value) (base : Heap) (k : Nat) (x : Str) (ps : List Str) (sp : Sp) : Prop :=
  ∃ (f : Addr) (fd : FuncData), FnOk P w K mg base (L2.CX P w) k f fd ps sp ∧ mg x = some (.ref f) ∧ PySem.W.keepIn K (.ref f) = true ∧ Binds K fd ps []
section
variable {base : Heap} {mg : Str → Option Value} {K : PySem.W.Frag} {w : World} {P : Program} {CS CT CF fI : Addr}
end
end V2


namespace V2
open PySem L2
open PySem.Spec PyProof.Rows
def partD : Deed → Option (Int × Int)
  | .sc _ p q => some (p, q)
  | .mv _ _ p q => some (p, q)
  | _ => none
/-- how a step is refused, if it is -/
inductive Flt where
  | ok
  | step
  | tank (k : Int)
  | part (p q : Int)
theorem BAt.dq {H : Hp} {a : Addr} {d : Bent} (h : BAt H a d) : Dq H (.ref a) (dB d) := by
  cases d with
  | nil => exact .tup (show H a = some (.tup []) from h) .nil
  | de d => exact dat_dq h
  | bad x ds =>
    obtain ⟨vs, h1, h2⟩ := h
    exact .tup h1 (.cons (.str x) h2)
theorem BAt.ex {H H' : Hp} {a : Addr} {d : Bent} (h : BAt H a d) (e : Evl.Ex H H') : BAt H' a d := by
  cases d with
  | nil => exact e _ _ h
  | de d => exact DAt.ex h e
  | bad x ds =>
    obtain ⟨vs, h1, h2⟩ := h
    exact ⟨vs, e _ _ h1, DqAll.go h2 e⟩
def PBn (d : Bent) : Prop := match d with
  | .de d => ∀ p q, partD d = some (p, q) → Bn 50 p ∧ Bn 50 q
  | _ => True
/-- the error of class C with the value y -/
def Rz (C : Addr) (H : Hp) (y : V) (E : XK) : Prop := ∀ (e : Addr) (H' : Hp), H e = none → Evl.Ex H H' → H' e = some (.xd [("value", y)]) → E (.ref C) (some e) H'
section
variable {base : Heap} {mg : Str → Option Value} {K : PySem.W.Frag} {w : World} {P : Program} {CS CT CF fI : Addr}
end
end V2


namespace V2
open PySem L2
open PySem.Spec PyProof.Rows
def rLenO (C : Addr) (sp : Sp) : List V → Hp → VK → Prop := fun xs H Q => ∃ (a dx : Addr) (fs : List (Str × V)), xs = [.ref a] ∧ H a = some (.ins C dx fs) ∧ sp [.ref a] H (fun v H' => ∃ n : Nat, v = .int (n : Int) ∧ n ≤ 1000000 ∧ Q (.int (n : Int)) H') E0
theorem call_lenO {X : Cx} {k : Nat} {C g : Addr} {fd : FuncData} {ps : List Str} {sp : Sp} (F : FnOk X.prog X.w X.K X.mg X.base CX0 k g fd ps sp) (hs : PySem.W.findIn X.K (.ref C) "__len__" = some (some (.ref g))) (hf : PySem.W.isFn X.K (.ref g) = true) (hb : Binds X.K fd ps []) (hr : Room (k + 1) X.A) : CallR X (.builtin "len") (rLenO C sp) := by
  intro pins s σ H xs us Q I r h
  obtain ⟨a, dx, fs, rfl, ha, hsp⟩ := h
  obtain ⟨u, rfl, ru⟩ : ∃ u, us = [u] ∧ RelV (.ref a) u := by
    cases r with
    | cons ra rb =>
      cases rb
      exact ⟨_, rfl, ra⟩
  obtain rfl : u = Value.ref a := ru
  obtain ⟨mA, J, _⟩ := ins_get I.hok ha
  obtain ⟨od, J, _⟩ := J.look
  refine PySem.Calls.call_function_entry PySem.kind_len PySem.plain_len PySem.entry_len (PySem.args_len1 _) ?_
  unfold Builtin.«len»
  refine wpAny_bind (m := oneArg "len" _) (wpAny_pure ?_)
  refine wpAny_bind (m := callSpecial? (.ref a) (PySem.Str.ofString "__len__")) (PySem.W.special_fn I.kIn J hs (beq_iff_eq.mp hf) ?_)
  have e0 : Env0 X.prog X.w X.K X.mg X.base X.A.in1 X.stack s H := by
    have e := I.env0
    exact ⟨e.frames, e.mod, e.bs, e.bsz, e.funs, e.frf, e.hok, e.bare⟩
  have hl := F.len _ _ _ _ hsp
  have r2 : Vals [V.ref a] [Value.ref a] := .cons rfl .nil
  refine wpAny_call (codeAny_mono (F.run X.A.in1 X.stack s H ⟨[.ref a], []⟩ [.ref a] [.ref a] _ E0 hr.in1 e0 (by
    have := hb s [.ref a] I.kIn (by simpa using hl)
    simpa using this) r2 hsp) fun r s' hq => ?_)
  cases r with
  | error e => exact hq.elim
  | ok fl =>
    cases fl with
    | ret w =>
      obtain ⟨z, H', I', rz, n, ez, hn, q⟩ := I.after hq
      subst ez
      obtain ⟨t, rfl⟩ := rz
      refine wpAny_bind (wpAny_holding (wpAny_pure ?_))
      refine wpAny_bind (wpAny_letGo ?_)
      show wpAny _ _ (if ((n : Nat) : Int) < 0 then _ else _) _ _ _
      rw [if_neg (by omega)]
      show wpAny _ _ (if ((n : Nat) : Int) ≥ 2 ^ 63 then _ else _) _ _ _
      rw [if_neg (by omega)]
      exact wpAny_bind (wpAny_mkInt (wpAny_pure ⟨_, rfl, .int (n : Int), H', I'.tok _, ⟨_, rfl⟩, q⟩))
    | next => exact hq.elim
    | brk => exact hq.elim
    | cont => exact hq.elim
end V2


namespace PySem
section
variable {prog : Program} {w : World} {A : Around} {E : Value → Shared → Prop} {s : Shared}
end
mutual
/-- what may be shown so -/
def WideD : PyData → Prop
  | .none => True
  | .bool _ => True
  | .int n => n.natAbs < 10 ^ 4300
  | .str _ => True
  | .list ds => WideA ds
  | .tuple ds => WideA ds
  | _ => False
def WideA : List PyData → Prop
  | [] => True
  | d :: ds => WideD d ∧ WideA ds
end
section
variable {prog : Program} {w : World} {h₀ : Heap} {K : PySem.W.Frag}
end
end PySem
namespace V2
open PySem L2
open PySem.Spec PyProof.Rows
end V2


namespace V2
open PySem L2
open PySem.Spec PyProof.Rows
def ShX (d : PyData) : Prop := WideD d ∧ d.depth ≤ 60 ∧ d.shown.length ≤ sizeLine
section
variable {base : Heap} {mg : Str → Option Value} {K : PySem.W.Frag} {w : World} {P : Program}
end
end V2


namespace V2
open PySem L2
open PySem.Spec PyProof.Rows
structure Sx (n B : Nat) (d : PyData) : Prop where
  s : WideD d
  dp : d.depth ≤ n
  l : d.shown.length ≤ B
theorem Sx.le {n m B C : Nat} {d : PyData} (h : Sx n B d) (a : n ≤ m) (b : B ≤ C) : Sx m C d := ⟨h.s, Nat.le_trans h.dp a, Nat.le_trans h.l b⟩
theorem Sx.sh {n B : Nat} {d : PyData} (h : Sx n B d) (a : n ≤ 60) (b : B ≤ 10000000) : ShX d := ⟨h.s, Nat.le_trans h.dp a, Nat.le_trans h.l (Nat.le_trans b (by decide))⟩
def eD : V → PyData
  | .int i => .int i
  | _ => .none
end V2


namespace V2
open PySem L2
open PySem.Spec PyProof.Rows
theorem Cp.up {n : Nat} {d : PyData} (h : Cp n d) : Cp (n + 1) d := by
  induction h with
  | non => exact .non
  | bl b => exact .bl b
  | int i => exact .int i
  | str x => exact .str x
  | lst h1 h2 ih => exact .lst h1 ih
  | tup h1 h2 ih => exact .tup h1 ih
section
variable {base : Heap} {mg : Str → Option Value} {K : PySem.W.Frag} {w : World} {P : Program} {B gI gC gL gW gE qE gS gN C fI fT fS pT pS : Addr}
end
end V2


namespace V2
open PySem L2
open PySem.Spec PyProof.Rows
section
variable {base : Heap} {mg : Str → Option Value} {K : PySem.W.Frag} {w : World} {P : Program}
end
theorem DqAll.take {H : Hp} : ∀ {vs : List V} {ds : List PyData} (n : Nat), DqAll H vs ds → DqAll H (vs.take n) (ds.take n)
  | _, _, 0, _ => .nil
  | _, _, _ + 1, .nil => .nil
  | _, _, n + 1, .cons a b => .cons a (DqAll.take n b)
section
variable {base : Heap} {mg : Str → Option Value} {K : PySem.W.Frag} {w : World} {P : Program}
end
end V2


namespace V2
open PySem L2
open PySem.Spec PyProof.Rows
mutual
theorem Dq.dp {K : PySem.W.Frag} {H : Hp} : ∀ {n : Nat} {d : PyData} {v : V}, Dq H v d → Cp n d → Dp K H v d
  | _, _, _, .non, _ => .non
  | _, _, _, .bl b, _ => .bl b
  | _, _, _, .int i, _ => .int i
  | _, _, _, .str x, _ => .str x
  | _, _, _, .lst h r, .lst _ c => .lst (SqL.of h) (DqAll.dp r c)
  | _, _, _, .tup h r, .tup _ c => .tup (SqT.of h) (DqAll.dp r c)
theorem DqAll.dp {K : PySem.W.Frag} {H : Hp} : ∀ {n : Nat} {ds : List PyData} {vs : List V}, DqAll H vs ds → (∀ d ∈ ds, Cp n d) → DpAll K H vs ds
  | _, _, _, .nil, _ => .nil
  | _, _, _, .cons a b, c => .cons (Dq.dp a (c _ List.mem_cons_self)) (DqAll.dp b fun d h => c d (List.mem_cons_of_mem _ h))
end
def g5 : Deed → Bool
  | .po _ a => decide (0 ≤ a)
  | .mv k m _ _ => decide (k ≠ m)
  | .un k m => decide (k ≠ m)
  | _ => true
section
variable {base : Heap} {mg : Str → Option Value} {K : PySem.W.Frag} {w : World} {P : Program}
end
end V2


namespace V2
open PySem L2
open PySem.Spec PyProof.Rows
inductive Lw : List Nat → PyData → Prop
  | non {l : List Nat} : Lw l .none
  | int {l : List Nat} {i : Int} : i.natAbs < 2 ^ 50 → Lw l (.int i)
  | str {l : List Nat} {x : Str} : (PyData.shown (.str x)).length ≤ 10 → Lw l (.str x)
  | lst {L : Nat} {l : List Nat} {ds : List PyData} : ds.length ≤ L → (∀ d ∈ ds, Lw l d) → Lw (L :: l) (.list ds)
  | tup {L : Nat} {l : List Nat} {ds : List PyData} : ds.length ≤ L → (∀ d ∈ ds, Lw l d) → Lw (L :: l) (.tuple ds)
theorem Lw.cp {l : List Nat} {d : PyData} (h : Lw l d) (hl : ∀ L ∈ l, L ≤ 100) : Cp l.length d := by
  induction h with
  | non => exact .non
  | int h => exact .int _
  | str h => exact .str _
  | lst h1 h2 ih => exact .lst (Nat.le_trans h1 (hl _ List.mem_cons_self)) fun d hd => ih d hd fun L hL => hl L (List.mem_cons_of_mem _ hL)
  | tup h1 h2 ih => exact .tup (Nat.le_trans h1 (hl _ List.mem_cons_self)) fun d hd => ih d hd fun L hL => hl L (List.mem_cons_of_mem _ hL)
theorem mkA_len2 : ∀ (ds : List PyData) (k : Nat), (mkA k ds).length = ds.length
  | [], _ => by simp [mkA]
  | d :: r, k => by simp [mkA, mkA_len2 r]
theorem mkA_all {C : PyData → Prop} {N : Nat} : ∀ {ds : List PyData} {k : Nat}, (∀ d ∈ ds, ∀ k, k + cntD d ≤ N → C (mkD k d)) → k + cntA ds ≤ N → ∀ x ∈ mkA k ds, C x
  | [], k, _, _, x, hx => by simp [mkA] at hx
  | d :: r, k, h, hk, x, hx => by
    simp only [cntA] at hk
    simp only [mkA, List.mem_cons] at hx
    rcases hx with rfl | hx
    · exact h d List.mem_cons_self k (by omega)
    · exact mkA_all (fun d hd => h d (List.mem_cons_of_mem _ hd)) (by omega) x hx
theorem Lw.mk {l : List Nat} {d : PyData} (h : Lw l d) : ∀ k, k + cntD d ≤ 100000 → Lw (l.map (· + 1)) (mkD k d) := by
  induction h with
  | non => exact fun k _ => by simp only [mkD]; exact .non
  | int h => exact fun k _ => by simp only [mkD]; exact .int h
  | str h => exact fun k _ => by simp only [mkD]; exact .str h
  | @lst L l ds h1 h2 ih =>
    intro k hk
    simp only [cntD] at hk
    simp only [mkD]
    refine .lst ?_ fun x hx => ?_
    · rw [List.length_append, mkA_len2]
      show ds.length + 1 ≤ L + 1
      omega
    · rcases List.mem_append.mp hx with hx | hx
      · exact mkA_all ih (by omega) x hx
      · rw [List.mem_singleton.mp hx]
        exact .int (Nat.lt_of_le_of_lt (show ((k : Int)).natAbs ≤ 100000 by omega) (by decide))
  | @tup L l ds h1 h2 ih =>
    intro k hk
    simp only [cntD] at hk
    simp only [mkD]
    refine .tup ?_ fun x hx => mkA_all ih (by omega) x hx
    rw [mkA_len2]
    show ds.length ≤ L + 1
    omega
section
variable {p : Addr} {σ : L2.St} {H : Hp} {K : PySem.W.Frag}
end
/-- what is known of a step as it may be wrong -/
structure GB (bd : Bent) : Prop where
  ok : BOk bd
  lw : Lw [5, 31] (dB bd)
  pb : PBn bd
  sh : SeqAt.shaped (dB bd) = true
theorem GB.cp {bd : Bent} (g : GB bd) : Cp 2 (dB bd) := g.lw.cp (by decide)
end V2


namespace V2
open PySem L2
open PySem.Spec PyProof.Rows
theorem dq_fr1 {H : Hp} {v : V} {f : Int × Int} (h : Dq H v (frD f)) : ∃ q, v = .ref q ∧ Fr H q f.1 f.2 := by
  cases h with
  | tup h1 r1 =>
    cases r1 with
    | cons a b =>
      cases a
      cases b with
      | cons c e =>
        cases c
        cases e
        exact ⟨_, rfl, h1⟩
theorem TksAt.set {H H' : Hp} {l q : Addr} {ts : List Tk} {t : Tk} {j : Nat} (h : TksAt H l ts) (hq : H q = some (.tup [wV t.1, .int t.2])) (he : ∀ c o, c ≠ l → H c = some o → H' c = some o) (hl : ∀ as : List Addr, H l = some (.lst (as.map V.ref)) → H' l = some (.lst ((as.map V.ref).set j (.ref q)))) : TksAt H' l (ts.set j t) := by
  obtain ⟨as, h1, h2, h3⟩ := h
  refine ⟨as.set j q, by rw [hl as h1, List.map_set], by rw [List.length_set, List.length_set, h2], fun i a t' ha ht => ?_⟩
  have nl : ∀ {a : Addr} {xs : List V}, H a = some (.tup xs) → a ≠ l := fun h z => by rw [z, h1] at h; cases h
  rw [List.getElem?_set] at ha ht
  split at ha
  · rename_i c
    rw [if_pos c] at ht
    split at ha
    · split at ht
      · cases ha
        cases ht
        exact he _ _ (nl hq) hq
      · cases ht
    · cases ha
  · rename_i c
    rw [if_neg c] at ht
    have := h3 i a t' ha ht
    exact he _ _ (nl this) this
theorem TrD.new {H H' : Hp} {n : Nat} {v : V} {d : PyData} {as : List Addr} (h : TrD (Nw H H') v d as) (hc : Cp n d) : ∀ a ∈ as, H a = none := fun a ha => by
  obtain ⟨xs, z, _⟩ := h.lists hc a ha
  exact nw_none z
section
variable {base : Heap} {mg : Str → Option Value} {K : PySem.W.Frag} {w : World} {P : Program}
end
end V2




namespace V2
open PySem L2
open PySem.Spec PyProof.Rows
theorem sq_ex_but {K : PySem.W.Frag} {H H1 H2 : Hp} {a q : Addr} {xs : List V} (h : SqL K H a xs) (hq : H q = none) (e : Evl.Ex H H1) (b : But q H1 H2) : SqL K H2 a xs := by
  rcases h with h | h
  · left
    have go : ∀ o, H a = some o → H2 a = some o := fun o ho => b a o (ne_of_none ho hq) (e a o ho)
    rcases h with h | ⟨o, h⟩
    · exact .inl (go _ h)
    · exact .inr ⟨o, go _ h⟩
  · exact .inr h
def spLaw (K : PySem.W.Frag) : Sp := fun vs H Q _ => ∃ (a : Addr) (ns : List Int), vs = [.ref a] ∧ SqL K H a (iV ns) ∧ ns.length ≤ 63 ∧ ∀ H', Q (.bl true) H'
structure T6 (mg : Str → Option Value) : Prop where
  rng : mg "range" = none
  len : mg "len" = none
  max : mg "max" = none
  min : mg "min" = none
def Lay (K : PySem.W.Frag) (mg : Str → Option Value) (x : Str) (st : Stmt) (ps : List Str) : Prop := ∃ (f : Addr) (fd : FuncData), Fun K x x st f fd ∧ mg x = some (.ref f) ∧ PySem.W.keepIn K (.ref f) = true ∧ Binds K fd ps []
theorem lay_of {h : Heap} {mg : Str → Option Value} {K : PySem.W.Frag} {w : World} {L : Lk} (X : K.In h) (G : h.Ns mainGlobals mg) (c : L.seen K = L.due w) (i j : Nat) {x : Str} {st : Stmt} {ps : List Str}
    (hi : L.ds[i]? = some ⟨fun K => He.ga K x, x, x, st⟩) (hj : L.fb[j]? = some (bGlo x))
    (hb : ∀ (kV doc pm : Value) (an : Option Addr) (cdv ct : Value) (us : List Value), us.length = ps.length → bindArgs (PySem.W.fnOf x x (defArgs st) (defBody st) (defScope st) .none kV doc pm an cdv ct) ⟨us, []⟩ = pure (ps.zip us)) : Lay K mg x st ps := by
  obtain ⟨fd, F⟩ := Lk.df c i hi
  exact ⟨_, fd, F, He.glo_ok X G (Lk.fact c j hj), F.kp, Fun.binds F hb⟩
/-- a method, a getter -/
def LayM (K : PySem.W.Frag) (x y : Str) (st : Stmt) (f : Addr) (ps : List Str) : Prop := ∃ fd : FuncData, Fun K x y st f fd ∧ Binds K fd ps []
theorem laym_of {K : PySem.W.Frag} {w : World} {L : Lk} (c : L.seen K = L.due w) (i : Nat) {x y : Str} {st : Stmt} {a : PySem.W.Frag → Addr} {ps : List Str} (hi : L.ds[i]? = some ⟨a, x, y, st⟩)
    (hb : ∀ (kV doc pm : Value) (an : Option Addr) (cdv ct : Value) (us : List Value), us.length = ps.length → bindArgs (PySem.W.fnOf x y (defArgs st) (defBody st) (defScope st) .none kV doc pm an cdv ct) ⟨us, []⟩ = pure (ps.zip us)) : LayM K x y st (a K) ps := by
  obtain ⟨fd, F⟩ := Lk.df c i hi
  exact ⟨fd, F, Fun.binds F hb⟩
section
variable {base : Heap} {mg : Str → Option Value} {K : PySem.W.Frag} {w : World} {P : Program}
theorem Lay.cal {x : Str} {st : Stmt} {ps : List Str} {k : Nat} {sp : Sp} (L : Lay K mg x st ps) (h : ∀ f fd, Fun K x x st f fd → FnOk P w K mg base CX0 k f fd ps sp) : Cal P w K mg base k x ps sp := by
  obtain ⟨f, fd, F, m, kp, b⟩ := L
  exact ⟨f, fd, h f fd F, m, kp, b⟩
end
end V2




namespace V2
open PySem L2
open PySem.Spec PyProof.Rows
/-! ## texts of numbers and tanks -/
def nT (n : Int) : Str := Str.ofString (toString n)
def tkT (t : Tk) : Str := nT t.2 ++ " in " ++ (match t.1 with | none => "w" | some z => nT z)
/-- a whole number from 0 on, below 10 ** 64 -/
def spShI : Sp := fun vs H Q _ => ∃ n : Int, vs = [.int n] ∧ n.natAbs ≤ 999999999 ∧ Evl.RetV (.str (nT n)) H Q
def spShT : Sp := fun vs H Q _ => ∃ (a : Addr) (t : Tk), vs = [.ref a] ∧ H a = some (.tup [wV t.1, .int t.2]) ∧ (∀ z, t.1 = some z → 0 ≤ z ∧ z ≤ 999999999) ∧ 0 ≤ t.2 ∧ t.2 ≤ 999999999 ∧ Evl.RetV (.str (tkT t)) H Q
theorem join_one (a x : Str) : Txt.join a [x] = x := by rw [TL.join_eq]; rfl
theorem tl_inj1 {x y : Str} (h : TL.tl x = TL.tl y) : x = y := by
  have := TL.map_tl_inj (l := [x]) (m := [y]) (by rw [List.map_cons, List.map_cons, h])
  cases this
  rfl
theorem str_app (x : Str) : ("" : Str) ++ x = x := tl_inj1 (by rw [TL.tl_append]; rfl)
section
variable {base : Heap} {mg : Str → Option Value} {K : PySem.W.Frag} {w : World} {P : Program}
theorem tl_nT_nat (k : Nat) : TL.tl (nT (k : Int)) = TL.numL k := TL.tl_num k
theorem tl_nT_neg (k : Nat) : TL.tl (nT (Int.negSucc k)) = 45 :: TL.numL (k + 1) := by
  have e : nT (Int.negSucc k) = Str.ofString ("-" ++ toString ((k + 1 : Nat) : Int)) := rfl
  rw [e, TL.tl_ofString, String.toList_append, List.map_append, ← TL.tl_ofString, ← TL.tl_ofString, TL.tl_num]
  rfl
theorem nT_neg {n : Int} (h : n < 0) : ("-" : Str) ++ nT (-n) = nT n := by
  obtain ⟨k, rfl⟩ : ∃ k : Nat, n = Int.negSucc k := ⟨(-n - 1).toNat, by omega⟩
  refine tl_inj1 ?_
  rw [TL.tl_append, tl_nT_neg]
  have e : -(Int.negSucc k) = ((k + 1 : Nat) : Int) := rfl
  rw [e, tl_nT_nat]
  rfl
theorem nT_len {n : Int} (h : n.natAbs ≤ 999999999) : (nT n).length ≤ 10 := by
  rw [TL.len_tl]
  have e9 : (10 : Nat) ^ 9 = 1000000000 := by decide
  cases n with
  | ofNat k =>
    have h : k ≤ 999999999 := h
    have := TL.numL_len (n := k) (k := 9) (by decide) (by omega)
    show (TL.tl (nT (k : Int))).length ≤ 10
    rw [tl_nT_nat]; omega
  | negSucc k =>
    have h : k + 1 ≤ 999999999 := h
    have := TL.numL_len (n := k + 1) (k := 9) (by decide) (by omega)
    rw [tl_nT_neg, List.length_cons]; omega
theorem ok_show_integer {f : Addr} {fd : FuncData} (F : Fun K "show_integer" "show_integer" s_show_integer f fd) (mAb : mg "abs" = none) (mS : mg "str" = none) : FnOk P w K mg base CX0 1 f fd p_show_integer spShI := by
  refine F.ok sc_show_integer (fun vs H Q E h => ?_) (fun cdv A outer s H vs Q E hr h => ?_)
  · obtain ⟨n, rfl, _⟩ := h
    rfl
  · obtain ⟨n, rfl, n1, k⟩ := h
    have nd := sc_show_integer.nd
    have one : 1 ≤ sizeLine := by show 1 ≤ sizeLine; decide
    have w64 : CPowX 10 64 := pow_ok (k := 4) (n := 64) (by decide) (by decide)
    refine ⟨_, pss_cons (ps_par (i := 1) (j := 2) rfl nd rfl rfl (by decide) rfl rfl (pa_cons (pe_callB call_abs (by rfl) mAb (by decide +kernel) (pa_cons (pv 0) pa_nil)) (pa_cons (pe_lst pa_nil) pa_nil)) (by rfl))
      (pss_cons (ps_while PassesOwn.never (pt_cmpR op_ge (pv 1) (pe_op op_powX pe_int pe_int) (nomark _)) (pss_cons ps_never
      (pss_one ps_never)))
      (pss_one (ps_ret (pe_op op_add_str (pe_ifExp (pt_cmpR op_lt (pv 0) pe_int (nomark _)) pe_str pe_str) (pe_join pe_str (pe_op op_cat (pe_lst (pa_cons (pe_callTy call_str_int (by rfl) mS (by decide +kernel) (pa_cons (pv 1) pa_nil)) pa_nil)) (pv 2))))))), ?_⟩
    obtain ⟨m, hm, m0, m1⟩ : ∃ m : Int, m = (if n < 0 then -n else n) ∧ 0 ≤ m ∧ m ≤ 999999999 := ⟨_, rfl, by split <;> omega, by split <;> omega⟩
    refine ⟨_, rfl, _, rfl, Nat.zero_le _, fun l hl => ⟨_, _, rfl, ?_⟩⟩
    rw [← hm]
    have e1 := Evl.Ex.new (o := .lst []) hl
    have g1 := upd_same (H := H) (a := l) (o := .lst [])
    generalize upd H l (.lst []) = H1 at e1 g1
    refine ⟨fun _ σ H' => H' = H1 ∧ σ = [some (.int n), some (.int m), some (.ref l), none], ⟨0, rfl, rfl⟩, ?_⟩
    rintro m' σ H' ⟨rfl, rfl⟩
    have e64 : (10 : Int) ^ (64 : Int).toNat = 10000000000000000000000000000000000000000000000000000000000000000 := by decide
    refine ⟨_, rfl, 10, 64, rfl, rfl, w64, _, _, rfl, rfl, _, rfl, if_f (decide_eq_false (by rw [e64]; omega)) ?_⟩
    have lm : (nT m).length ≤ 10 := nT_len (by omega)
    have l0 : (("" : Str)).length = 0 := rfl
    have l1 : (("-" : Str)).length = 1 := rfl
    have em : ∀ sg : Str, (sg = "-" ∧ n < 0) ∨ (sg = "" ∧ ¬ n < 0) → sg ++ nT m = nT n := by
      rintro sg (⟨rfl, h⟩ | ⟨rfl, h⟩)
      · rw [hm, if_pos h]; exact nT_neg h
      · rw [hm, if_neg h]; exact str_app _
    by_cases hn : n < 0
    · refine ⟨_, rfl, _, _, rfl, rfl, _, rfl, if_t (decide_eq_true hn) ⟨⟨_, rfl⟩, ?_⟩⟩
      have es := em _ (.inl ⟨rfl, hn⟩)
      refine ⟨_, rfl, m, rfl, ?_, one, fun b hb => ?_⟩
      · have hb20 : m.natAbs < 2 ^ 30 := Nat.lt_of_le_of_lt (show m.natAbs ≤ 999999999 by omega) (by decide)
        exact Nat.lt_of_lt_of_le (PySem.Flt.log2_lt_of (by decide) hb20) (by decide)
      have e2 := Evl.Ex.new (o := .lst [.str (nT m)]) hb
      have g2 := upd_same (H := H') (a := b) (o := .lst [.str (nT m)])
      refine ⟨_, rfl, b, l, _, _, rfl, rfl, g2, e2 _ _ g1, by show 1 ≤ sizeLine; decide, fun c hc => ?_⟩
      have e3 := Evl.Ex.new (o := .lst [.str (nT m)]) hc
      refine ⟨"", c, [nT m], rfl, rfl, .inl (SqL.of upd_same), ?_, ?_⟩
      · show (nT m).length + 0 + 1 * (("" : Str)).length ≤ 16777216
        omega
      refine ⟨_, _, rfl, rfl, ?_, ?_⟩
      · rw [join_one]
        refine Nat.le_trans (m := 11) ?_ (by decide)
        omega
      rw [join_one, es]
      exact k _ ((e1.trans e2).trans e3)
    · refine ⟨_, rfl, _, _, rfl, rfl, _, rfl, if_f (decide_eq_false hn) ⟨⟨_, rfl⟩, ?_⟩⟩
      have es := em _ (.inr ⟨rfl, hn⟩)
      refine ⟨_, rfl, m, rfl, ?_, one, fun b hb => ?_⟩
      · have hb20 : m.natAbs < 2 ^ 30 := Nat.lt_of_le_of_lt (show m.natAbs ≤ 999999999 by omega) (by decide)
        exact Nat.lt_of_lt_of_le (PySem.Flt.log2_lt_of (by decide) hb20) (by decide)
      have e2 := Evl.Ex.new (o := .lst [.str (nT m)]) hb
      have g2 := upd_same (H := H') (a := b) (o := .lst [.str (nT m)])
      refine ⟨_, rfl, b, l, _, _, rfl, rfl, g2, e2 _ _ g1, by show 1 ≤ sizeLine; decide, fun c hc => ?_⟩
      have e3 := Evl.Ex.new (o := .lst [.str (nT m)]) hc
      refine ⟨"", c, [nT m], rfl, rfl, .inl (SqL.of upd_same), ?_, ?_⟩
      · show (nT m).length + 0 + 1 * (("" : Str)).length ≤ 16777216
        omega
      refine ⟨_, _, rfl, rfl, ?_, ?_⟩
      · rw [join_one]
        refine Nat.le_trans (m := 11) ?_ (by decide)
        omega
      rw [join_one, es]
      exact k _ ((e1.trans e2).trans e3)
theorem ok_show_tank {f : Addr} {fd : FuncData} (F : Fun K "show_tank" "show_tank" s_show_tank f fd) (cI : Cal P w K mg base 1 "show_integer" p_show_integer spShI) : FnOk P w K mg base CX0 2 f fd p_show_tank spShT := by
  refine F.ok sc_show_tank (fun vs H Q E h => ?_) (fun cdv A outer s H vs Q E hr h => ?_)
  · obtain ⟨a, t, rfl, _⟩ := h
    rfl
  · obtain ⟨a, ⟨tw, ta⟩, rfl, ha, hw, a0, a1, k⟩ := h
    have nd := sc_show_tank.nd
    have r1 : Room 1 _ := hr.mono (by decide)
    refine ⟨_, pss_cons (ps_asg (pv 0) (pg_tup rfl (pgs_cons (pg_name (i := 1) nd rfl (Or.inl rfl)) (pgs_cons (pg_name (i := 2) nd rfl (Or.inl rfl)) pgs_nil))))
      (pss_one (ps_ret (pe_op op_add_str (pe_op op_add_str (pe_c cI r1 (pa_cons (pv 2) pa_nil)) pe_str) (pe_ifExp (pt_cmp (pc_isN (pv 1))) pe_str (pe_c cI r1 (pa_cons (pv 1) pa_nil)))))), ?_⟩
    have l1 : (nT ta).length ≤ 10 := nT_len (by omega)
    have l2 : ((" in " : Str)).length = 4 := rfl
    have l3 : ((nT ta) ++ (" in " : Str)).length = (nT ta).length + 4 := by
      rw [TL.len_tl, TL.tl_append, List.length_append, ← TL.len_tl, ← TL.len_tl, l2]
    refine ⟨_, rfl, a, _, rfl, SqT.of ha, rfl, _, _, rfl, _, _, rfl, rfl, ?_⟩
    refine ⟨_, rfl, ta, rfl, by omega, fun H1 e1 => ⟨_, _, rfl, rfl, Nat.le_trans (show (nT ta).length + ((" in " : Str)).length ≤ 14 by omega) (by decide), ?_⟩⟩
    cases tw with
    | none => exact ⟨_, rfl, _, rfl, if_t rfl ⟨_, _, rfl, rfl, Nat.le_trans (show ((nT ta) ++ (" in " : Str)).length + (("w" : Str)).length ≤ 15 by rw [l3]; exact (show (nT ta).length + 4 + 1 ≤ 15 by omega)) (by decide), k _ e1⟩⟩
    | some z =>
      obtain ⟨z0, z1⟩ := hw z rfl
      have l4 : (nT z).length ≤ 10 := nT_len (by omega)
      refine ⟨_, rfl, _, rfl, if_f rfl ⟨_, rfl, z, rfl, by omega, fun H2 e2 => ⟨_, _, rfl, rfl, Nat.le_trans (show ((nT ta) ++ (" in " : Str)).length + (nT z).length ≤ 24 by rw [l3]; omega) (by decide), k _ (e1.trans e2)⟩⟩⟩
end
end V2


namespace V2
open PySem L2
open PySem.Spec PyProof.Rows
/-! ## texts of things -/
def Sm (n : Int) : Prop := 0 ≤ n ∧ n ≤ 999999999
/-- what stands in a step -/
inductive Thg where
  | str (x : Str)
  | lst (ks : List Int)
  | fr (p q : Int)
  | int (n : Int)
def thD : Thg → PyData
  | .str x => .str x
  | .lst ks => .list (ks.map .int)
  | .fr p q => .tuple [.int p, .int q]
  | .int n => .int n
def thT : Thg → Str
  | .str x => x
  | .lst ks => Txt.join "," (ks.map nT)
  | .fr p q => Txt.join "/" [nT p, nT q]
  | .int n => nT n
def OkTh : Thg → Prop
  | .str x => x.length ≤ 10
  | .lst ks => ks.length ≤ 20 ∧ ∀ k ∈ ks, Sm k
  | .fr p q => Sm p ∧ Sm q
  | .int n => Sm n
def spShTh : Sp := fun vs H Q _ => ∃ (v : V) (t : Thg), vs = [v] ∧ Dq H v (thD t) ∧ OkTh t ∧ Evl.RetV (.str (thT t)) H Q
theorem sum_nT : ∀ {ks : List Int}, (∀ k ∈ ks, Sm k) → ((ks.map nT).map (·.length)).sum ≤ 10 * ks.length
  | [], _ => Nat.zero_le _
  | k :: ks, h => by
    have h1 := sum_nT fun x hx => h x (List.mem_cons_of_mem _ hx)
    have h2 := nT_len (n := k) (by have := h k List.mem_cons_self; unfold Sm at this; omega)
    show (nT k).length + ((ks.map nT).map (·.length)).sum ≤ 10 * (ks.length + 1)
    omega
section
variable {base : Heap} {mg : Str → Option Value} {K : PySem.W.Frag} {w : World} {P : Program}
theorem ok_show_thing {f : Addr} {fd : FuncData} (F : Fun K "show_thing" "show_thing" s_show_thing f fd) (mIs : mg "isinstance" = none) (mS : mg "str" = none) (mLs : mg "list" = none) (mTu : mg "tuple" = none) (cI : Cal P w K mg base 1 "show_integer" p_show_integer spShI) : FnOk P w K mg base CX0 2 f fd p_show_thing spShTh := by
  refine F.ok sc_show_thing (fun vs H Q E h => ?_) (fun cdv A outer s H vs Q E hr h => ?_)
  · obtain ⟨v, t, rfl, _⟩ := h
    rfl
  · obtain ⟨v, t, rfl, hv, ok, k⟩ := h
    have nd := sc_show_thing.nd
    have r1 : Room 1 _ := hr.mono (by decide)
    refine ⟨_, pss_cons (ps_if (pt_val (pe_callB call_isi (by rfl) mIs (by decide +kernel) (pa_cons (pv 0) (pa_cons (pe_bltn (v := .ty "str") (by rfl) mS (by decide +kernel) rfl) pa_nil)))) (pss_one (ps_ret (pv 0))) pss_nil)
      (pss_cons (ps_if (pt_val (pe_callB call_isi (by rfl) mIs (by decide +kernel) (pa_cons (pv 0) (pa_cons (pe_bltn (v := .ty "list") (by rfl) mLs (by decide +kernel) rfl) pa_nil)))) (pss_one (ps_ret (pe_join pe_str (pe_lc (own := [("number", 1)]) (g := (gName 1)) (tt := tYes) (te := (tCall spShI [] E0 (tCons (tVar 1) tNil))) rfl nd (pi_list (pv 0)) (blkOk_by (N := n_show_thing) (sc := defScope s_show_thing) (by decide +kernel)) (fun _ _ _ _ _ => (pg_name (i := 1) nd rfl (Or.inl rfl))) (fun _ _ _ _ _ => pts_nil) (fun _ _ _ _ _ => (pe_c cI r1 (pa_cons (pv 1) pa_nil))))))) pss_nil)
      (pss_cons (ps_if (pt_val (pe_callB call_isi (by rfl) mIs (by decide +kernel) (pa_cons (pv 0) (pa_cons (pe_bltn (v := .ty "tuple") (by rfl) mTu (by decide +kernel) rfl) pa_nil)))) (pss_one (ps_ret (pe_join pe_str (pe_lc (own := [("number", 1)]) (g := (gName 1)) (tt := tYes) (te := (tCall spShI [] E0 (tCons (tVar 1) tNil))) rfl nd (pi_tup (pv 0)) (blkOk_by (N := n_show_thing) (sc := defScope s_show_thing) (by decide +kernel)) (fun _ _ _ _ _ => (pg_name (i := 1) nd rfl (Or.inl rfl))) (fun _ _ _ _ _ => pts_nil) (fun _ _ _ _ _ => (pe_c cI r1 (pa_cons (pv 1) pa_nil))))))) pss_nil)
      (pss_one (ps_ret (pe_c cI r1 (pa_cons (pv 0) pa_nil)))))), ?_⟩
    cases t with
    | str x =>
      cases hv
      exact ⟨_, rfl, _, _, _, _, true, rfl, .ty "str", .base (.str x), kit_ty (by decide +kernel), true, rfl, if_t rfl ⟨_, rfl, k _ (Evl.Ex.refl _)⟩⟩
    | int n =>
      cases hv
      have okn : n.natAbs ≤ 999999999 := by have : Sm n := ok; unfold Sm at this; omega
      exact ⟨_, rfl, _, _, _, _, false, rfl, .ty "str", .base (.int n), kit_ty (by decide +kernel), false, rfl, if_f rfl ⟨_, rfl, _, _, _, _, false, rfl, .ty "list", .base (.int n), kit_ty (by decide +kernel), false, rfl, if_f rfl ⟨_, rfl, _, _, _, _, false, rfl, .ty "tuple", .base (.int n), kit_ty (by decide +kernel), false, rfl, if_f rfl ⟨_, rfl, n, rfl, okn, k⟩⟩⟩⟩
    | lst ks =>
      cases hv with
      | lst hl hA =>
        rename_i l xs
        have := dq_ints hA
        subst this
        refine ⟨_, rfl, _, _, _, _, false, rfl, .ty "str", .base (.lst hl), kit_ty (by decide +kernel), false, rfl, if_f rfl ⟨_, rfl, _, _, _, _, true, rfl, .ty "list", .base (.lst hl), kit_ty (by decide +kernel), true, rfl, if_t rfl ⟨⟨_, rfl⟩, ?_⟩⟩⟩
        refine ⟨_, rfl, l, rfl, ⟨_, SqL.of hl⟩, fun D hD => lc_list (xs := iV ks) (fun i H' => Evl.Ex H H' ∧ H' D = some (.lst (((ks.take i).map nT).map V.str))) ⟨Evl.Ex.new hD, upd_same⟩ (fun i H' _ q => SqL.of (q.1 _ _ hl)) ?_ ?_⟩
        · rintro i x H' hi ⟨e1, h1⟩
          obtain ⟨n, hn, rfl⟩ := iV_get hi
          have okn := ok.2 n (List.mem_of_getElem? hn)
          refine ⟨rfl, ?_⟩
          show tCall spShI [] E0 (tCons (tVar 1) tNil) _ _ _
          refine ⟨_, rfl, n, rfl, by unfold Sm at okn; omega, fun H2 e2 => ⟨_, e2 _ _ h1, ?_, Evl.Ex.mut (e1.trans e2) hD, ?_⟩⟩
          · rw [List.length_map, List.length_map, List.length_take]
            have := ok.1
            exact Nat.lt_of_le_of_lt (show min i ks.length ≤ 20 by omega) (by decide)
          · rw [upd_same, List.take_add_one, hn, List.map_append, List.map_append]
            rfl
        · rintro H1 ⟨e1, h1⟩
          rw [iV_len, List.take_length] at h1
          refine ⟨",", D, ks.map nT, rfl, rfl, .inl (SqL.of h1), ?_, k _ e1⟩
          have a1 := sum_nT ok.2
          have a2 := ok.1
          have a3 : (("," : Str)).length = 1 := rfl
          rw [List.length_map, a3]
          omega
    | fr p q =>
      obtain ⟨l, rfl, hf⟩ := dq_fr1 (f := (p, q)) hv
      · have hf : H l = some (.tup [.int p, .int q]) := hf
        refine ⟨_, rfl, _, _, _, _, false, rfl, .ty "str", .base (.tup hf), kit_ty (by decide +kernel), false, rfl, if_f rfl ⟨_, rfl, _, _, _, _, false, rfl, .ty "list", .base (.tup hf), kit_ty (by decide +kernel), false, rfl, if_f rfl ⟨_, rfl, _, _, _, _, true, rfl, .ty "tuple", .base (.tup hf), kit_ty (by decide +kernel), true, rfl, if_t rfl ⟨⟨_, rfl⟩, ?_⟩⟩⟩⟩
        refine ⟨_, rfl, l, rfl, ⟨_, SqT.of hf⟩, fun D hD => lc_tup (xs := iV [p, q]) (fun i H' => Evl.Ex H H' ∧ H' D = some (.lst ((([p, q].take i).map nT).map V.str))) ⟨Evl.Ex.new hD, upd_same⟩ (fun i H' _ q => SqT.of (q.1 _ _ hf)) ?_ ?_⟩
        · rintro i x H' hi ⟨e1, h1⟩
          obtain ⟨n, hn, rfl⟩ := iV_get hi
          have okn : Sm n := by
            have := List.mem_of_getElem? hn
            simp only [List.mem_cons, List.not_mem_nil, or_false] at this
            rcases this with rfl | rfl
            · exact ok.1
            · exact ok.2
          refine ⟨rfl, ?_⟩
          show tCall spShI [] E0 (tCons (tVar 1) tNil) _ _ _
          refine ⟨_, rfl, n, rfl, by unfold Sm at okn; omega, fun H2 e2 => ⟨_, e2 _ _ h1, ?_, Evl.Ex.mut (e1.trans e2) hD, ?_⟩⟩
          · rw [List.length_map, List.length_map, List.length_take]
            exact Nat.lt_of_le_of_lt (show min i 2 ≤ 2 by omega) (by decide)
          · rw [upd_same, List.take_add_one, hn, List.map_append, List.map_append]
            rfl
        · rintro H1 ⟨e1, h1⟩
          refine ⟨"/", D, [nT p, nT q], rfl, rfl, .inl (SqL.of h1), ?_, k _ e1⟩
          have a1 := nT_len (n := p) (by have := ok.1; unfold Sm at this; omega)
          have a2 := nT_len (n := q) (by have := ok.2; unfold Sm at this; omega)
          have a3 : (("/" : Str)).length = 1 := rfl
          show (nT p).length + ((nT q).length + 0) + 2 * (("/" : Str)).length ≤ 16777216
          omega
end
end V2


namespace V2
open PySem L2
open PySem.Spec PyProof.Rows
/-! ## first, *others = a list -/
theorem walks_tail {prog : Program} {w : World} {A : Around} {I : Addr} {fp wr : List Addr} {G : Array GenState → Array GenState → Prop} {n : Nat} {P : Nat → Value → Prop} {St : Nat → Shared → Prop} (W : WalksS prog w A I fp wr G (n + 1) P St) :
    WalksS prog w A I fp wr G n (fun i => P (i + 1)) (fun i => St (i + 1)) where
  sub := W.sub
  grefl := W.grefl
  gtrans := W.gtrans
  frame := fun i s h' tk st ht hk => W.frame (i + 1) s h' tk st ht hk
  item := fun i s Q E hi st hQ => W.item (i + 1) s Q E (Nat.succ_lt_succ hi) st hQ
  done := fun s Q E st hQ => W.done s Q E st hQ
  self := fun i s Q E st hQ => W.self (i + 1) s Q E st hQ
theorem items_star {prog : Program} {w : World} {A : Around} {E : Value → Shared → Prop} {s : Shared} {l : Addr} {x : Value} {xs : List Value} {Q : List Value → Shared → Prop} (hh : A.handled = none) (hl : s.heap.IsList l (x :: xs).toArray) (hz : xs.length ≤ sizeLine)
    (hQ : ∀ s', (∀ b o, s.heap.get? b = some o → s'.heap.get? b = some o) → s'.drawn = s.drawn → s'.os = s.os → s'.gens = s.gens → wpAny (model prog w) A (newList xs) (fun u s2 => Q [x, u] s2) E s') : wpAny (model prog w) A (unpackItems (.ref l) 2 (some 1)) Q E s := by
  have hlt : l ≠ s.heap.objs.size := by obtain ⟨o, ho, _⟩ := hl; exact Nat.ne_of_lt (Heap.lt_size ho)
  unfold unpackItems
  refine wpAny_bind ?_
  unfold notIterableAtAll
  refine wpAny_bind (wpAny_specialOf hl.typeIs slot_list_iter.lookup ?_)
  refine wpAny_pure ?_
  simp only [Bool.false_eq_true, if_false]
  refine wpAny_bind (wpAny_holding (wpAny_pyIter_list hl ?_))
  refine wpAny_bind (wpAny_holding (PySem.W.kun_draw hlt 1 0 _ _ ⟨_, Heap.get?_push_size _ rfl, rfl, rfl⟩ (hl.push _) (by simp) fun h₁ hit₁ hs₁ => ?_))
  have hall : List.take 1 (List.drop 0 (x :: xs).toArray.toList) = [x] := rfl
  rw [hall]
  have c1 : ¬ ([x].length < 1) := by simp
  simp only [c1, if_false]
  have hl₁ : h₁.IsList l (x :: xs).toArray := (hl.push _).extBut hs₁.extBut hlt
  have hsz1 : s.heap.objs.size < h₁.objs.size := by
    obtain ⟨o, ho, _⟩ := hit₁
    exact Heap.lt_size ho
  have W := walks_tail (Walks.list (prog := prog) (w := w) (A := A.in1) hh s.heap.objs.size l hlt (x :: xs).toArray).toS
  refine wpAny_bind (wpAny_holding (wpAny_collect_iter (T := "list_iterator") (.inr (.inr (.inl rfl))) W (fun i s' st => st.1.typeIs) ⟨hit₁, hl₁⟩ ?_ (by simp) (fun s' acc hm hi => ?_) hz))
  · intro b hb
    simp only [List.mem_cons, List.not_mem_nil, or_false] at hb
    rcases hb with rfl | rfl
    · exact hsz1
    · obtain ⟨o, ho, _⟩ := hl₁
      exact Heap.lt_size ho
  have hacc : acc.toList = xs := by
    obtain ⟨h1, h2⟩ := hi
    apply List.ext_getElem?
    intro j
    by_cases hj : j < acc.size
    · have e1 : acc[j]? = some acc[j] := by simp [hj]
      have e2 := h2 j _ e1
      simp only [List.getElem?_toArray, List.getElem?_cons_succ] at e2
      rw [e2, Array.getElem?_toList, e1]
    · have h1 : acc.size = xs.length := by simpa using h1
      rw [List.getElem?_eq_none (by simp; omega), List.getElem?_eq_none (by omega)]
  rw [hacc]
  have c2 : ¬ (xs.length < 2 - 1 - 1) := by simp
  simp only [c2, if_false]
  have t1 : xs.take (xs.length - (2 - 1 - 1)) = xs := by simp
  have t2 : xs.drop (xs.length - (2 - 1 - 1)) = [] := by simp
  rw [t1, t2]
  refine wpAny_bind (wpAny_mono (hQ s' (fun b o e => hm.heap b o (by
    simp only [List.mem_cons, List.not_mem_nil, or_false]
    exact Nat.ne_of_lt (Heap.lt_size e)) (hs₁.extBut b o (Nat.ne_of_lt (Heap.lt_size e)) (Heap.get?_push_of_some _ e))) hm.drawn hm.os hm.gens) (fun u s2 h => ?_) fun _ _ h => h)
  exact wpAny_pure h
def gStar (K : PySem.W.Frag) (t : TGs) : TG := fun v σ H Q => ∃ a x xs, v = .ref a ∧ SqL K H a (x :: xs) ∧ ∀ p, H p = none → t [x, .ref p] σ (upd H p (.lst xs)) Q
theorem pg_star {X : Cx} {pos p2 : Pos} {e1 e2 : Expr} {k : Nat} {t : TGs} (hc : X.calm = true) (h : PGs X [e1, e2] t)
    (hn : (assignEach [e1, .Starred e2 p2] X.env).length = 2 := by rfl) (hst : (assignEach [e1, .Starred e2 p2] X.env).findIdx? (·.1) = some 1 := by rfl) (hm : (assignEach [e1, .Starred e2 p2] X.env).map (·.2) = (assignEach [e1, e2] X.env).map (·.2) := by rfl) : PG X (.Tuple [e1, .Starred e2 p2] k pos) (gStar X.K t) := by
  refine ⟨fun pins s σ H v u Q I r hw => ?_⟩
  obtain ⟨a, x, xs, e1, hq, hw⟩ := hw
  subst e1
  cases r
  obtain ⟨its, rv, pl, hz⟩ := I.list hq
  cases rv with
  | cons r0 rr =>
    rename_i u0 us
    have hz' : us.length ≤ sizeLine := Nat.le_trans (Nat.le_succ _) (by have := rr.length; simp only [List.length_cons] at hz; omega)
    rw [PyProof.Rows.assign_Tuple]
    refine wpAny_bind (wpAny_standAt ?_)
    unfold unpack
    rw [hn, hst, hm]
    refine wpAny_bind (wpAny_holding (items_star (I.ok.hd hc) pl.isList hz' fun s' hk hd ho hg => wpAny_newList ?_ hz'))
    obtain ⟨h', g', d', t', o'⟩ := s'
    obtain ⟨h0, g0, d0, t0, o0⟩ := s
    cases hd; cases ho; cases hg
    have I1 := I.kept (t' := t') hk
    have hf : H h'.objs.size = none := I1.hok.fresh (Nat.le_refl _)
    have I2 := I1.laid (a := h'.objs.size) (o := .lst xs) (t' := t') (fun b u e => Heap.get?_push_of_some _ e) (Nat.le_refl _) ⟨by rw [rr.length]; exact hz', us, 0, rr, Heap.get?_push_size _ rfl⟩
    exact h.run pins _ σ _ _ _ Q I2 (.cons r0 (.cons (show L2.RelV (.ref h'.objs.size) (.ref h'.objs.size) from rfl) .nil)) (hw _ hf)
end V2


namespace V2
open PySem L2
open PySem.Spec PyProof.Rows
/-! ## comprehensions that make texts -/
abbrev rJoin (K : PySem.W.Frag) : V → List V → Hp → VK → Prop := fun x xs H Q => ∃ a p, ∃ ys : List Str, x = .str a ∧ xs = [.ref p] ∧ (SqL K H p (ys.map V.str) ∨ SqT K H p (ys.map V.str)) ∧ (ys.map (·.length)).sum + ys.length * a.length ≤ 16777216 ∧ Q (.str (Txt.join a ys)) H
theorem blkOk_none {N : List Str} {sc scope : Scope} {own : List (Str × Nat)} (sc0 : Scope) (h0 : sc0.names = []) (h : blkC N sc0 scope own = true) : BlkOk N sc scope own := by
  have b := blkOk_by h
  refine ⟨b.kind, b.uniq, b.ix, fun y hy e => ?_, b.own⟩
  have := b.free y hy e
  rw [h0] at this
  rcases this with h | h <;> cases h
theorem lc_strs {K : PySem.W.Frag} {a D : Addr} {xs : List V} {j : Nat} {te : TE} {σ : L2.St} {H1 : Hp} {Qd : Hp → Prop} (ys : List Str) (el : ys.length = xs.length) (sz : ys.length ≤ 100000) (hD : H1 D = none) (ha : H1 a = some (.lst xs))
    (hw : ∀ x : V, wipe ((wipe σ [j]).set j (some x)) [j] = wipe σ [j])
    (hs : ∀ (i : Nat) (x : V) (y : Str) (H' : Hp) (Q : VK), xs[i]? = some x → ys[i]? = some y → Evl.Ex H1 H' → (∀ H2, Evl.Ex H' H2 → Q (.str y) H2) → te ((wipe σ [j]).set j (some x)) H' Q)
    (hd : ∀ H', Evl.Ex H1 H' → H' D = some (.lst (ys.map V.str)) → Qd H') :
    ∃ W : Nat → Nat → Hp → Prop, (∃ m, W 0 m (upd H1 D (.lst []))) ∧ ∀ i m H, W i m H →
      ((Itl K a).stop i H ∧ Qd H) ∨ ((Itl K a).go i H ∧ ∃ Nx : Hp → Prop, (∀ H', Nx H' → ∃ m', m' < m ∧ W (i + 1) m' H') ∧ ∀ x H', (Itl K a).yld i H x H' → gName j x (wipe σ [j]) H' fun σ2 H2 => wipe σ2 [j] = wipe σ [j] ∧ tYes σ2 H2 fun b H3 =>
        if b = true then te σ2 H3 fun y H4 => ∃ acc, H4 D = some (.lst acc) ∧ acc.length < sizeLine ∧ Nx (upd H4 D (.lst (acc ++ [y]))) else Nx H3) := by
  refine lc_list (xs := xs) (fun i H' => Evl.Ex H1 H' ∧ H' D = some (.lst ((ys.take i).map V.str))) ⟨Evl.Ex.new hD, upd_same⟩ (fun i H' _ q => SqL.of (q.1 _ _ ha)) ?_ ?_
  · rintro i x H' hi ⟨e1, h1⟩
    refine ⟨hw x, ?_⟩
    have li : i < xs.length := by
      by_cases h : i < xs.length
      · exact h
      · rw [List.getElem?_eq_none (by omega)] at hi; cases hi
    obtain ⟨y, hy⟩ : ∃ y, ys[i]? = some y := ⟨_, List.getElem?_eq_getElem (by omega)⟩
    refine hs i x y H' _ hi hy e1 fun H2 e2 => ⟨_, e2 _ _ h1, ?_, Evl.Ex.mut (e1.trans e2) hD, ?_⟩
    · rw [List.length_map, List.length_take]
      exact Nat.lt_of_le_of_lt (show min i ys.length ≤ 100000 by omega) (by decide)
    · rw [upd_same, List.take_add_one, hy, List.map_append]
      rfl
  · rintro H' ⟨e1, h1⟩
    rw [← el, List.take_length] at h1
    exact hd H' e1 h1
theorem lc_strsT {K : PySem.W.Frag} {a D : Addr} {xs : List V} {j : Nat} {te : TE} {σ : L2.St} {H1 : Hp} {Qd : Hp → Prop} (ys : List Str) (el : ys.length = xs.length) (sz : ys.length ≤ 100000) (hD : H1 D = none) (ha : H1 a = some (.tup xs))
    (hw : ∀ x : V, wipe ((wipe σ [j]).set j (some x)) [j] = wipe σ [j])
    (hs : ∀ (i : Nat) (x : V) (y : Str) (H' : Hp) (Q : VK), xs[i]? = some x → ys[i]? = some y → Evl.Ex H1 H' → (∀ H2, Evl.Ex H' H2 → Q (.str y) H2) → te ((wipe σ [j]).set j (some x)) H' Q)
    (hd : ∀ H', Evl.Ex H1 H' → H' D = some (.lst (ys.map V.str)) → Qd H') :
    ∃ W : Nat → Nat → Hp → Prop, (∃ m, W 0 m (upd H1 D (.lst []))) ∧ ∀ i m H, W i m H →
      ((Itt K a).stop i H ∧ Qd H) ∨ ((Itt K a).go i H ∧ ∃ Nx : Hp → Prop, (∀ H', Nx H' → ∃ m', m' < m ∧ W (i + 1) m' H') ∧ ∀ x H', (Itt K a).yld i H x H' → gName j x (wipe σ [j]) H' fun σ2 H2 => wipe σ2 [j] = wipe σ [j] ∧ tYes σ2 H2 fun b H3 =>
        if b = true then te σ2 H3 fun y H4 => ∃ acc, H4 D = some (.lst acc) ∧ acc.length < sizeLine ∧ Nx (upd H4 D (.lst (acc ++ [y]))) else Nx H3) := by
  refine lc_tup (xs := xs) (fun i H' => Evl.Ex H1 H' ∧ H' D = some (.lst ((ys.take i).map V.str))) ⟨Evl.Ex.new hD, upd_same⟩ (fun i H' _ q => SqT.of (q.1 _ _ ha)) ?_ ?_
  · rintro i x H' hi ⟨e1, h1⟩
    refine ⟨hw x, ?_⟩
    have li : i < xs.length := by
      by_cases h : i < xs.length
      · exact h
      · rw [List.getElem?_eq_none (by omega)] at hi; cases hi
    obtain ⟨y, hy⟩ : ∃ y, ys[i]? = some y := ⟨_, List.getElem?_eq_getElem (by omega)⟩
    refine hs i x y H' _ hi hy e1 fun H2 e2 => ⟨_, e2 _ _ h1, ?_, Evl.Ex.mut (e1.trans e2) hD, ?_⟩
    · rw [List.length_map, List.length_take]
      exact Nat.lt_of_le_of_lt (show min i ys.length ≤ 100000 by omega) (by decide)
    · rw [upd_same, List.take_add_one, hy, List.map_append]
      rfl
  · rintro H' ⟨e1, h1⟩
    rw [← el, List.take_length] at h1
    exact hd H' e1 h1
/-! ## texts of steps and scripts -/
def dTh : Deed → List Thg
  | .op ks => [.str "open", .lst ks]
  | .po k a => [.str "pour", .int k, .int a]
  | .sc k p q => [.str "scoop", .int k, .fr p q]
  | .mv k m p q => [.str "move", .int k, .int m, .fr p q]
  | .un k m => [.str "unless", .int k, .int m]
def dT (d : Deed) : Str := Txt.join " " ((dTh d).map thT)
def tksT (ts : List Tk) : Str := Txt.join ", " (ts.map tkT)
def scT (ts : List Tk) (ds : List Deed) : Str := Txt.join "; " (tksT ts :: ds.map dT)
theorem dD_dTh (d : Deed) : dD d = .tuple ((dTh d).map thD) := by cases d <;> rfl
theorem len_app (x y : Str) : (x ++ y).length = x.length + y.length := by rw [TL.len_tl, TL.tl_append, List.length_append, ← TL.len_tl, ← TL.len_tl]
theorem joinL_len (y : List Nat) : ∀ ps : List (List Nat), (TL.joinL y ps).length ≤ (ps.map List.length).sum + ps.length * y.length
  | [] => Nat.zero_le _
  | [p] => by
    show p.length ≤ _
    simp only [List.map_cons, List.map_nil, List.sum_cons, List.sum_nil, List.length_cons, List.length_nil]
    omega
  | p :: q :: ps => by
    have ih := joinL_len y (q :: ps)
    show (p ++ (y ++ TL.joinL y (q :: ps))).length ≤ _
    rw [List.length_append, List.length_append]
    simp only [List.map_cons, List.sum_cons, List.length_cons] at ih ⊢
    have e : (ps.length + 1 + 1) * y.length = (ps.length + 1) * y.length + y.length := by rw [Nat.succ_mul]
    omega
theorem join_len (y : Str) (ps : List Str) : (Txt.join y ps).length ≤ (ps.map (·.length)).sum + ps.length * y.length := by
  rw [TL.join_eq, TL.len_tl, TL.tl_join]
  have := joinL_len (TL.tl y) (ps.map TL.tl)
  rw [List.length_map, List.map_map] at this
  have e : (ps.map (List.length ∘ TL.tl)) = ps.map (·.length) := List.map_congr_left fun p _ => (TL.len_tl p).symm
  rw [e, ← TL.len_tl] at this
  exact this
theorem sum_le {B : Nat} : ∀ {ps : List Str}, (∀ p ∈ ps, p.length ≤ B) → (ps.map (·.length)).sum ≤ ps.length * B
  | [], _ => Nat.zero_le _
  | p :: ps, h => by
    have h1 := sum_le (ps := ps) fun q hq => h q (List.mem_cons_of_mem _ hq)
    have h2 := h p List.mem_cons_self
    simp only [List.map_cons, List.sum_cons, List.length_cons]
    rw [Nat.succ_mul]
    omega
/-- numbers in bounds -/
def TkSm (t : Tk) : Prop := (∀ z, t.1 = some z → Sm z) ∧ Sm t.2
theorem tkT_len {t : Tk} (h : TkSm t) : (tkT t).length ≤ 24 := by
  obtain ⟨tw, ta⟩ := t
  have l1 : (nT ta).length ≤ 10 := nT_len (by have := h.2; unfold Sm at this; omega)
  have l2 : ((" in " : Str)).length = 4 := rfl
  have l3 : (("w" : Str)).length = 1 := rfl
  unfold tkT
  rw [len_app, len_app]
  cases tw with
  | none => show (nT ta).length + _ + (("w" : Str)).length ≤ 24; omega
  | some z =>
    have l4 : (nT z).length ≤ 10 := nT_len (by have := h.1 z rfl; unfold Sm at this; omega)
    show (nT ta).length + _ + (nT z).length ≤ 24
    omega
theorem thT_len {t : Thg} (h : OkTh t) : (thT t).length ≤ 220 := by
  cases t with
  | str x => have h : x.length ≤ 10 := h; show x.length ≤ 220; omega
  | int n => have := nT_len (n := n) (by have : Sm n := h; unfold Sm at this; omega); show (nT n).length ≤ 220; omega
  | fr p q =>
    have l1 := nT_len (n := p) (by have : Sm p := h.1; unfold Sm at this; omega)
    have l2 := nT_len (n := q) (by have : Sm q := h.2; unfold Sm at this; omega)
    have := join_len "/" [nT p, nT q]
    have l3 : (("/" : Str)).length = 1 := rfl
    show (Txt.join "/" [nT p, nT q]).length ≤ 220
    simp only [List.map_cons, List.map_nil, List.sum_cons, List.sum_nil, List.length_cons, List.length_nil] at this
    omega
  | lst ks =>
    have h1 := join_len "," (ks.map nT)
    have h2 := sum_nT h.2
    have h3 := h.1
    have l3 : (("," : Str)).length = 1 := rfl
    show (Txt.join "," (ks.map nT)).length ≤ 220
    rw [List.length_map, l3] at h1
    omega
def DSm (d : Deed) : Prop := ∀ t ∈ dTh d, OkTh t
theorem dTh_len (d : Deed) : (dTh d).length ≤ 4 := by cases d <;> simp [dTh]
theorem dT_len {d : Deed} (h : DSm d) : (dT d).length ≤ 900 := by
  have h1 := join_len " " ((dTh d).map thT)
  have h2 := sum_le (B := 220) (ps := (dTh d).map thT) (fun p hp => by
    obtain ⟨t, ht, rfl⟩ := List.mem_map.mp hp
    exact thT_len (h t ht))
  have h3 := dTh_len d
  have l3 : ((" " : Str)).length = 1 := rfl
  rw [List.length_map] at h1 h2
  have h4 : (dTh d).length * 220 ≤ 880 := Nat.le_trans (Nat.mul_le_mul_right 220 h3) (by decide)
  show (Txt.join " " ((dTh d).map thT)).length ≤ 900
  rw [l3] at h1
  omega
theorem tksT_len {ts : List Tk} (h : ∀ t ∈ ts, TkSm t) (h20 : ts.length ≤ 20) : (tksT ts).length ≤ 600 := by
  have h1 := join_len ", " (ts.map tkT)
  have h2 := sum_le (B := 24) (ps := ts.map tkT) (fun p hp => by
    obtain ⟨t, ht, rfl⟩ := List.mem_map.mp hp
    exact tkT_len (h t ht))
  have l3 : ((", " : Str)).length = 2 := rfl
  rw [List.length_map] at h1 h2
  show (Txt.join ", " (ts.map tkT)).length ≤ 600
  rw [l3] at h1
  omega
theorem sum_deeds {ds : List Deed} (h : ∀ d ∈ ds, DSm d) : ((ds.map dT).map (·.length)).sum ≤ ds.length * 900 := by
  have := sum_le (B := 900) (ps := ds.map dT) (fun p hp => by
    obtain ⟨t, ht, rfl⟩ := List.mem_map.mp hp
    exact dT_len (h t ht))
  rw [List.length_map] at this
  exact this
def spShSc (C : Addr) : Sp := fun vs H Q _ => ∃ (x : Addr) (ts : List Tk) (ds : List Deed), vs = [.ref x] ∧ ScAt H C x ts ds ∧ okS ts ds ∧ (∀ t ∈ ts, TkSm t) ∧ (∀ d ∈ ds, DSm d) ∧ Evl.RetV (.str (scT ts ds)) H Q
/-- the things of a step stand in its tuple -/
theorem dq_things {H : Hp} {v : V} {d : Deed} (h : Dq H v (dD d)) : ∃ a vs, v = .ref a ∧ H a = some (.tup vs) ∧ DqAll H vs ((dTh d).map thD) := by
  rw [dD_dTh] at h
  cases h with
  | tup hl hA => exact ⟨_, _, rfl, hl, hA⟩
theorem dqAll_get {H : Hp} : ∀ {vs : List V} {ds : List PyData} {i : Nat} {x : V}, DqAll H vs ds → vs[i]? = some x → ∃ d, ds[i]? = some d ∧ Dq H x d
  | [], _, i, x, _, h => by cases h
  | v :: vs, [], i, x, q, h => by cases q
  | v :: vs, d :: ds, 0, x, q, h => by cases h; cases q with | cons a b => exact ⟨_, rfl, a⟩
  | v :: vs, d :: ds, i + 1, x, q, h => by cases q with | cons a b => exact dqAll_get (i := i) b h
theorem dqAll_len {H : Hp} : ∀ {vs : List V} {ds : List PyData}, DqAll H vs ds → vs.length = ds.length
  | _, _, .nil => rfl
  | _, _, .cons a b => by rw [List.length_cons, List.length_cons, dqAll_len b]
section
variable {base : Heap} {mg : Str → Option Value} {K : PySem.W.Frag} {w : World} {P : Program} {C fI fT fS pT pS : Addr}
theorem ok_show_script {f : Addr} {fd fdT fdS : FuncData} (F : Fun K "show_script" "show_script" s_show_script f fd) (c : ScC K C fI fT fS pT pS) (FT : FnOk P w K mg base CX0 4 fT fdT p_Sc_tanks (spGet C 2 "_tanks")) (bT : Binds K fdT p_Sc_tanks []) (FS : FnOk P w K mg base CX0 5 fS fdS p_Sc_steps (spGet C 3 "_steps")) (bS : Binds K fdS p_Sc_steps []) (cT : Cal P w K mg base 2 "show_tank" p_show_tank spShT) (cH : Cal P w K mg base 2 "show_thing" p_show_thing spShTh) : FnOk P w K mg base CX0 7 f fd p_show_script (spShSc C) := by
  refine F.ok sc_show_script (fun vs H Q E h => ?_) (fun cdv A outer s H vs Q E hr h => ?_)
  · obtain ⟨x, ts, ds, rfl, _⟩ := h
    rfl
  · obtain ⟨x, ts, ds, rfl, ⟨dx, fs, v, u, hx, hv, hu, hdv, hdu, rfl⟩, ok, ts_, ds_, k⟩ := h
    have nd := sc_show_script.nd
    have r2 : Room 2 _ := hr.mono (by decide)
    have r5 : Room 5 _ := hr.mono (by decide)
    have r6 : Room 6 _ := hr.mono (by decide)
    refine ⟨_, pss_cons (ps_set (i := 1) nd rfl (Or.inl rfl) (pe_join pe_str (pe_lc (own := [("tank", 2)]) (g := gName 2) (tt := tYes) (te := tCall spShT [] E0 (tCons (tVar 2) tNil)) rfl nd (pi_list (pe_prop (pv 0) c.cls c.prT FT r5 bT .nil pass0 rfl)) (blkOk_by (N := n_show_script) (sc := defScope s_show_script) (by decide +kernel)) (fun _ _ _ _ _ => pg_name (i := 2) nd rfl (Or.inl rfl)) (fun _ _ _ _ _ => pts_nil) (fun _ _ _ _ _ => pe_c cT r2 (pa_cons (pv 2) pa_nil)))))
      (pss_one (ps_ret (pe_join pe_str (pe_op op_cat (pe_lst (pa_cons (pv 1) pa_nil)) (pe_lc (own := [("step", 3)]) (g := gName 3) (tt := tYes) (te := tM1 (rJoin K) (tC (.str " ")) (tLc (iTup K (tVar 3)) (gName 4) tYes (tCall spShTh [] E0 (tCons (tVar 4) tNil)) [4])) rfl nd (pi_list (pe_prop (pv 0) c.cls c.prS FS r6 bS .nil pass0 rfl)) (blkOk_by (N := n_show_script) (sc := defScope s_show_script) (by decide +kernel)) (fun _ _ _ _ _ => pg_name (i := 3) nd rfl (Or.inl rfl)) (fun _ _ _ _ _ => pts_nil)
        (fun _ _ _ _ _ => pe_join pe_str (pe_lc (own := [("thing", 4)]) (g := gName 4) (tt := tYes) (te := tCall spShTh [] E0 (tCons (tVar 4) tNil)) rfl nd (pi_tup (pv 3)) (blkOk_none (N := n_show_script) { kind := .function, names := [], isGenerator := false, isCoroutine := false, more := [] } rfl (by decide +kernel)) (fun _ _ _ _ _ => pg_name (i := 4) nd rfl (Or.inl rfl)) (fun _ _ _ _ _ => pts_nil) (fun _ _ _ _ _ => pe_c cH r2 (pa_cons (pv 4) pa_nil))))))))), ?_⟩
    have len := ok.2.1
    have lt20 := ok.1.1
    refine ⟨⟨_, rfl⟩, _, rfl, x, dx, _, rfl, hx, x, dx, _, v, _, rfl, hx, hv, hdv, cp_tks (Nat.le_trans lt20 (by decide)), fun v' H1 e1 d1 => ?_⟩
    obtain ⟨l, rfl, as, g1, g2, g3⟩ := (d1.go Nw.ex).tks
    refine ⟨l, rfl, ⟨_, SqL.of g1⟩, fun D hD => lc_strs (ts.map tkT) (by rw [List.length_map, List.length_map, g2]) (by rw [List.length_map]; omega) hD g1 (fun _ => rfl) (fun i y z H2 Q' hi hz e2 k' => ?_) (fun H2 e2 h2 => ?_)⟩
    · rw [List.getElem?_map] at hi hz
      cases ha : as[i]? with
      | none => rw [ha] at hi; cases hi
      | some a =>
        cases ht : ts[i]? with
        | none => rw [ht] at hz; cases hz
        | some t =>
          rw [ha] at hi; rw [ht] at hz
          cases hi; cases hz
          have tm := ts_ t (List.mem_of_getElem? ht)
          exact ⟨_, rfl, a, t, rfl, e2 _ _ (g3 i a t ha ht), tm.1, tm.2.1, tm.2.2, k'⟩
    have s1 := tksT_len ts_ lt20
    have q1 := join_len ", " (ts.map tkT)
    refine ⟨", ", D, ts.map tkT, rfl, rfl, .inl (SqL.of h2), ?_, ⟨_, rfl⟩, ?_⟩
    · have := sum_le (B := 24) (ps := ts.map tkT) (fun p hp => by
        obtain ⟨t, ht, rfl⟩ := List.mem_map.mp hp
        exact tkT_len (ts_ t ht))
      have l3 : ((", " : Str)).length = 2 := rfl
      rw [List.length_map] at this ⊢
      rw [l3]
      omega
    have e02 := e1.trans e2
    refine ⟨_, rfl, by show 1 ≤ sizeLine; decide, fun b hb => ?_⟩
    have e3 := Evl.Ex.new (o := .lst [.str (tksT ts)]) hb
    have g4 := upd_same (H := H2) (a := b) (o := .lst [.str (tksT ts)])
    show tLc _ _ _ _ _ _ (upd H2 b (.lst [.str (tksT ts)])) _
    generalize upd H2 b (.lst [.str (tksT ts)]) = H3 at e3 g4 ⊢
    have e03 := e02.trans e3
    have hx3 := e03 _ _ hx
    refine ⟨_, rfl, x, dx, _, rfl, hx3, x, dx, _, u, _, rfl, hx3, hu, hdu.go e03, cp_deeds ok.2.2 (Nat.le_trans len (by decide)), fun v'' H4 e4 d4 => ?_⟩
    have e04 := e03.trans e4
    have d4 := d4.go Nw.ex
    cases d4 with
    | lst k1 hA =>
      rename_i ls vs
      have kl := dqAll_len hA
      rw [List.length_map] at kl
      refine ⟨ls, rfl, ⟨_, SqL.of k1⟩, fun D2 hD2 => lc_strs (ds.map dT) (by rw [List.length_map, kl]) (by rw [List.length_map]; omega) hD2 k1 (fun _ => rfl) (fun i y z H5 Q' hi hz e5 k' => ?_) (fun H5 e5 h5 => ?_)⟩
      · obtain ⟨dd, hdd, hq⟩ := dqAll_get hA hi
        rw [List.getElem?_map] at hdd hz
        cases hd : ds[i]? with
        | none => rw [hd] at hdd; cases hdd
        | some d =>
          rw [hd] at hdd hz
          cases hdd; cases hz
          have hsm := ds_ d (List.mem_of_getElem? hd)
          obtain ⟨a, ws, rfl, ha, hW⟩ := dq_things (hq.go e5)
          have kw := dqAll_len hW
          rw [List.length_map] at kw
          have h4 := dTh_len d
          show tM1 (rJoin K) (tC (.str " ")) (tLc (iTup K (tVar 3)) (gName 4) tYes (tCall spShTh [] E0 (tCons (tVar 4) tNil)) [4]) _ _ _
          refine ⟨⟨_, rfl⟩, _, rfl, a, rfl, ⟨_, SqT.of ha⟩, fun D3 hD3 => lc_strsT ((dTh d).map thT) (by rw [List.length_map, kw]) (by rw [List.length_map]; omega) hD3 ha (fun _ => rfl) (fun i y z H6 Q6 hi hz e6 k6 => ?_) (fun H6 e6 h6 => ?_)⟩
          · obtain ⟨td, htd, hq6⟩ := dqAll_get hW hi
            rw [List.getElem?_map] at htd hz
            cases ht : (dTh d)[i]? with
            | none => rw [ht] at htd; cases htd
            | some t =>
              rw [ht] at htd hz
              cases htd; cases hz
              exact ⟨_, rfl, y, t, rfl, hq6.go e6, hsm t (List.mem_of_getElem? ht), k6⟩
          refine ⟨" ", D3, (dTh d).map thT, rfl, rfl, .inl (SqL.of h6), ?_, k' _ e6⟩
          have h2 := sum_le (B := 220) (ps := (dTh d).map thT) (fun p hp => by
            obtain ⟨t, ht, rfl⟩ := List.mem_map.mp hp
            exact thT_len (hsm t ht))
          have l3 : ((" " : Str)).length = 1 := rfl
          rw [List.length_map] at h2 ⊢
          rw [l3]
          have h4 : (dTh d).length * 220 ≤ 880 := Nat.le_trans (Nat.mul_le_mul_right 220 h4) (by decide)
          omega
      have e35 := e4.trans e5
      have e05 := e03.trans e35
      refine ⟨b, D2, _, _, rfl, rfl, e35 _ _ g4, h5, ?_, fun p hp => ?_⟩
      · rw [List.length_map, List.length_map]
        exact Nat.le_trans (show 1 + ds.length ≤ 61 by omega) (by decide)
      refine ⟨"; ", p, tksT ts :: ds.map dT, rfl, rfl, .inl (SqL.of upd_same), ?_, k _ (e05.trans (Evl.Ex.new hp))⟩
      have h2 := sum_deeds ds_
      have l3 : (("; " : Str)).length = 2 := rfl
      simp only [List.map_cons, List.sum_cons, List.length_cons]
      rw [List.length_map (as := ds), l3]
      omega
end
end V2


namespace V2
open PySem L2
open PySem.Spec PyProof.Rows
/-! ## the law's texts; a polynomial's text -/
abbrev rStr3 : TE := fun σ H Q => (tCons (tVar 3) tNil) σ H fun xs H1 => ∃ i : Int, xs = [.int i] ∧ i.natAbs.log2 < 1920 ∧ Q (.str (nT i)) H1
def pT (ns : List Int) : Str := if ns = [] then "0" else Txt.join " " (ns.map nT)
def spShP (K : PySem.W.Frag) : Sp := fun vs H Q _ => ∃ (a : Addr) (ns : List Int), vs = [.ref a] ∧ H a = some (.lst (iV ns)) ∧ ns.length ≤ 4000 ∧ (∀ n ∈ ns, n.natAbs ≤ 999999999) ∧ Evl.RetV (.str (pT ns)) H Q
def spStT : Sp := fun vs H Q _ => ∃ (a : Addr) (d : Deed), vs = [.ref a] ∧ Dq H (.ref a) (dD d) ∧ DSm d ∧ Evl.RetV (.str (dT d)) H Q
def spScT : Sp := fun vs H Q _ => ∃ (q a b : Addr) (ts : List Tk) (ds : List Deed), vs = [.ref q] ∧ H q = some (.tup [.ref a, .ref b]) ∧ Dq H (.ref a) (.list (ts.map tkD)) ∧ Dq H (.ref b) (.list (ds.map dD)) ∧ ts.length ≤ 100 ∧ ds.length ≤ 100 ∧ (∀ t ∈ ts, TkSm t) ∧ (∀ d ∈ ds, DSm d) ∧ Evl.RetV (.str (scT ts ds)) H Q
theorem dTh_hd (d : Deed) : ∃ x r, dTh d = .str x :: r ∧ (∀ t ∈ r, ∀ y, t ≠ .str y) ∧ r ≠ [] := by
  cases d <;> exact ⟨_, _, rfl, fun t ht y => by
    simp only [List.mem_cons, List.not_mem_nil, or_false] at ht
    rcases ht with rfl | ht <;> first | (intro h; cases h; done) | (rcases ht with rfl | ht <;> first | (intro h; cases h; done) | (rcases ht with rfl | ht <;> first | (intro h; cases h; done) | cases ht) | (subst ht; intro h; cases h)) | (subst ht; intro h; cases h), by simp⟩
theorem log_sm {n : Int} (h : n.natAbs ≤ 999999999) : n.natAbs.log2 < 1920 := by
  have h30 : n.natAbs < 2 ^ 30 := Nat.lt_of_le_of_lt h (by decide)
  exact Nat.lt_of_lt_of_le (PySem.Flt.log2_lt_of (by decide) h30) (by decide)
theorem sum_nT' : ∀ {ks : List Int}, (∀ k ∈ ks, k.natAbs ≤ 999999999) → ((ks.map nT).map (·.length)).sum ≤ 10 * ks.length
  | [], _ => Nat.zero_le _
  | k :: ks, h => by
    have h1 := sum_nT' fun x hx => h x (List.mem_cons_of_mem _ hx)
    have h2 := nT_len (n := k) (h k List.mem_cons_self)
    show (nT k).length + ((ks.map nT).map (·.length)).sum ≤ 10 * (ks.length + 1)
    omega
section
variable {base : Heap} {mg : Str → Option Value} {K : PySem.W.Frag} {w : World} {P : Program} {C fI fT fS pT pS : Addr}
theorem ok_show_polynomial {f : Addr} {fd : FuncData} (F : Fun K "show_polynomial" "show_polynomial" s_show_polynomial f fd) (cI : Cal P w K mg base 1 "show_integer" p_show_integer spShI) : FnOk P w K mg base CX0 2 f fd p_show_polynomial (spShP K) := by
  refine F.ok sc_show_polynomial (fun vs H Q E h => ?_) (fun cdv A outer s H vs Q E hr h => ?_)
  · obtain ⟨a, ns, rfl, _⟩ := h
    rfl
  · obtain ⟨a, ns, rfl, ha, len, sm, k⟩ := h
    have nd := sc_show_polynomial.nd
    have r1 : Room 1 _ := hr.mono (by decide)
    refine ⟨_, pss_one (ps_ret (pe_ifExp (pt_truth (pv 0) (by intro _; rfl)) (pe_join pe_str (pe_lc (own := [("number", 1)]) (g := gName 1) (tt := tYes) (te := (tCall spShI [] E0 (tCons (tVar 1) tNil))) rfl nd (pi_list (pv 0)) (blkOk_by (N := n_show_polynomial) (sc := defScope s_show_polynomial) (by decide +kernel)) (fun _ _ _ _ _ => pg_name (i := 1) nd rfl (Or.inl rfl)) (fun _ _ _ _ _ => pts_nil) (fun _ _ _ _ _ => pe_c cI r1 (pa_cons (pv 1) pa_nil)))) pe_str)), ?_⟩
    refine ⟨_, rfl, _, .inl ⟨_, SqL.of ha, rfl⟩, ?_⟩
    cases ns with
    | nil => exact if_f rfl (k _ (Evl.Ex.refl _))
    | cons n ns =>
      refine if_t rfl ⟨⟨_, rfl⟩, _, rfl, a, rfl, ⟨_, SqL.of ha⟩, fun D hD => lc_strs ((n :: ns).map nT) (by rw [List.length_map, iV_len]) (by rw [List.length_map]; omega) hD ha (fun _ => rfl) (fun i y z H2 Q' hi hz e2 k' => ?_) (fun H2 e2 h2 => ?_)⟩
      · obtain ⟨m, hm, rfl⟩ := iV_get hi
        rw [List.getElem?_map, hm] at hz
        cases hz
        exact ⟨_, rfl, m, rfl, sm m (List.mem_of_getElem? hm), k'⟩
      refine ⟨" ", D, (n :: ns).map nT, rfl, rfl, .inl (SqL.of h2), ?_, k _ e2⟩
      have h1 := sum_nT' sm
      have l3 : ((" " : Str)).length = 1 := rfl
      rw [List.length_map, l3]
      omega
theorem ok_l_step_text {f : Addr} {fd : FuncData} (F : Fun K "_law_step_text" "_law_step_text" s_l_step_text f fd) (mIs : mg "isinstance" = none) (mS : mg "str" = none) (mLs : mg "list" = none) (mTu : mg "tuple" = none) : FnOk P w K mg base CX0 1 f fd p_l_step_text spStT := by
  refine F.ok sc_l_step_text (fun vs H Q E h => ?_) (fun cdv A outer s H vs Q E hr h => ?_)
  · obtain ⟨a, d, rfl, _⟩ := h
    rfl
  · obtain ⟨a, d, rfl, hd, sm, k⟩ := h
    have nd := sc_l_step_text.nd
    refine ⟨_, pss_cons (ps_set (i := 1) nd rfl (Or.inl rfl) (pe_lst (pa_cons (pe_ix ix_tup (pv 0) pe_int (fun _ _ => rfl)) pa_nil)))
      (pss_cons (ps_for PassesOwn.never rfl (pi_tup (pe_slice sl_tup (pv 0) (po_some pe_int) po_none)) (pg_name (i := 2) nd rfl (Or.inl rfl)) (pss_one (ps_if (pt_val (pe_callB call_isi (by rfl) mIs (by decide +kernel) (pa_cons (pv 2) (pa_cons (pe_bltn (v := .ty "list") (by rfl) mLs (by decide +kernel) rfl) pa_nil)))) (pss_one (ps_expr (pe_bm PySem.F.plainAttrs_list PySem.F.slot_list_append PySem.F.type_list_append mt_append (pv 1) (pa_cons (pe_join pe_str (pe_lc (own := [("tank_here", 3)]) (g := gName 3) (tt := tYes) (te := rStr3) rfl nd (pi_list (pv 2)) (blkOk_by (N := n_l_step_text) (sc := defScope s_l_step_text) (by decide +kernel)) (fun _ _ _ _ _ => pg_name (i := 3) nd rfl (Or.inl rfl)) (fun _ _ _ _ _ => pts_nil) (fun _ _ _ _ _ => (pe_callTy call_str_int (by rfl) mS (by decide +kernel) (pa_cons (pv 3) pa_nil))))) pa_nil)))) (pss_one (ps_if (pt_val (pe_callB call_isi (by rfl) mIs (by decide +kernel) (pa_cons (pv 2) (pa_cons (pe_bltn (v := .ty "tuple") (by rfl) mTu (by decide +kernel) rfl) pa_nil)))) (pss_one (ps_expr (pe_bm PySem.F.plainAttrs_list PySem.F.slot_list_append PySem.F.type_list_append mt_append (pv 1) (pa_cons (pe_op op_add_str (pe_op op_add_str (pe_callTy call_str_int (by rfl) mS (by decide +kernel) (pa_cons (pe_ix ix_tup (pv 2) pe_int (fun _ _ => rfl)) pa_nil)) pe_str) (pe_callTy call_str_int (by rfl) mS (by decide +kernel) (pa_cons (pe_ix ix_tup (pv 2) pe_int (fun _ _ => rfl)) pa_nil))) pa_nil)))) (pss_one (ps_expr (pe_bm PySem.F.plainAttrs_list PySem.F.slot_list_append PySem.F.type_list_append mt_append (pv 1) (pa_cons (pe_callTy call_str_int (by rfl) mS (by decide +kernel) (pa_cons (pv 2) pa_nil)) pa_nil)))))))))
      (pss_one (ps_ret (pe_join pe_str (pv 1))))), ?_⟩
    obtain ⟨x, r, hx, hno, hne⟩ := dTh_hd d
    have h4 := dTh_len d
    have smr : ∀ t ∈ r, OkTh t := fun t ht => sm t (by rw [hx]; exact List.mem_cons_of_mem _ ht)
    have lr : r.length ≤ 3 := by rw [hx, List.length_cons] at h4; omega
    obtain ⟨a', vs, e, ha, hV⟩ := dq_things hd
    cases e
    rw [hx] at hV
    cases hV with
    | cons h1 hV =>
      cases h1
      rename_i vr
      have kr := dqAll_len hV
      rw [List.length_map] at kr
      have ner : vr ≠ [] := fun h => hne (by rw [h] at kr; exact List.eq_nil_of_length_eq_zero kr.symm)
      refine ⟨_, rfl, a, _, _, _, rfl, rfl, SqT.of ha, atI_nat (j := 0) rfl, by show 1 ≤ sizeLine; decide, fun D hD => ?_⟩
      have e1 := Evl.Ex.new (o := .lst [.str x]) hD
      have g1 := upd_same (H := H) (a := D) (o := .lst [.str x])
      generalize upd H D (.lst [.str x]) = H1 at e1 g1
      refine ⟨_, rfl, 1, rfl, a, _, rfl, SqT.of (e1 _ _ ha), ?_, fun p hp => ?_⟩
      · rintro ⟨h, _⟩
        have : HT.sIx (V.str x :: vr).length 0 (some ((1 : Nat) : Int)) = min 1 (V.str x :: vr).length := HT.sIx_nat ..
        have h : HT.sIx (V.str x :: vr).length 0 (some ((1 : Nat) : Int)) = 0 := h
        rw [this, List.length_cons] at h
        omega
      have hcut : cutV (V.str x :: vr) (some 1) none = vr := by
        show ((V.str x :: vr).drop (HT.sIx _ 0 (some ((1 : Nat) : Int)))).take _ = vr
        rw [HT.sIx_nat, HT.sIx_none, List.length_cons, Nat.min_eq_left (show 1 ≤ vr.length + 1 by omega)]
        show vr.take (vr.length + 1 - 1) = vr
        exact List.take_of_length_le (by omega)
      rw [hcut]
      have e2 := Evl.Ex.new (o := .tup vr) hp
      have g2 := upd_same (H := H1) (a := p) (o := .tup vr)
      have g12 := e2 _ _ g1
      generalize upd H1 p (.tup vr) = H2 at e2 g2 g12
      have e02 := e1.trans e2
      refine ⟨p, rfl, ⟨_, SqT.of g2⟩, for_tup (xs := vr) (fun i σ H' => ∃ v2, σ = [some (.ref a), some (.ref D), v2, none] ∧ Evl.Ex H H' ∧ H' p = some (.tup vr) ∧ H' D = some (.lst ((x :: (r.take i).map thT).map V.str))) ⟨none, rfl, e02, g2, g12⟩ (fun i σ H' _ q => by obtain ⟨_, _, _, q, _⟩ := q; exact SqT.of q) ?_ ?_⟩
      · rintro i y σ H3 hi ⟨v2, rfl, e3, gp, gD⟩
        obtain ⟨td, htd, hq⟩ := dqAll_get hV hi
        rw [List.getElem?_map] at htd
        cases ht : r[i]? with
        | none => rw [ht] at htd; cases htd
        | some t =>
          rw [ht] at htd
          cases htd
          have ot := smr t (List.mem_of_getElem? ht)
          have hy := hq.go e3
          have more : ∀ H4, Evl.Ex H3 H4 → Evl.Ex H (upd H4 D (.lst ((x :: (r.take i).map thT).map V.str ++ [.str (thT t)]))) ∧ upd H4 D (.lst ((x :: (r.take i).map thT).map V.str ++ [.str (thT t)])) p = some (.tup vr) ∧ upd H4 D (.lst ((x :: (r.take i).map thT).map V.str ++ [.str (thT t)])) D = some (.lst ((x :: (r.take (i + 1)).map thT).map V.str)) := fun H4 e4 => by
            refine ⟨Evl.Ex.mut (e3.trans e4) hD, ?_, ?_⟩
            · rw [upd_ne (fun h => by rw [h, gD] at gp; cases gp)]
              exact e4 _ _ gp
            · rw [upd_same, List.take_add_one, ht]
              simp
          have lenD : ((x :: (r.take i).map thT).map V.str).length < sizeLine := by
            rw [List.length_map, List.length_cons, List.length_map, List.length_take]
            exact Nat.lt_of_le_of_lt (show min i r.length + 1 ≤ 4 by omega) (by decide)
          cases t with
          | str z => exact absurd rfl (hno _ (List.mem_of_getElem? ht) z)
          | int n =>
            cases hy
            refine ⟨_, rfl, _, _, _, _, false, rfl, .ty "list", .base (.int n), kit_ty (by decide +kernel), false, rfl, if_f rfl ⟨_, rfl, _, _, _, _, false, rfl, .ty "tuple", .base (.int n), kit_ty (by decide +kernel), false, rfl, if_f rfl ?_⟩⟩
            have hn : n.natAbs ≤ 999999999 := by have : Sm n := ot; unfold Sm at this; omega
            obtain ⟨m1, m2, m3⟩ := more H3 (Evl.Ex.refl _)
            exact ⟨_, rfl, .inl ⟨rfl, _, SqL.of gD⟩, _, rfl, n, rfl, log_sm hn, D, _, _, rfl, rfl, gD, lenD, _, rfl, m1, m2, m3⟩
          | fr u b =>
            obtain ⟨l, rfl, hf⟩ := dq_fr1 (f := (u, b)) hy
            have hf : H3 l = some (.tup [.int u, .int b]) := hf
            have hu : u.natAbs ≤ 999999999 := by have : Sm u := ot.1; unfold Sm at this; omega
            have hb : b.natAbs ≤ 999999999 := by have : Sm b := ot.2; unfold Sm at this; omega
            refine ⟨_, rfl, _, _, _, _, false, rfl, .ty "list", .base (.tup hf), kit_ty (by decide +kernel), false, rfl, if_f rfl ⟨_, rfl, _, _, _, _, true, rfl, .ty "tuple", .base (.tup hf), kit_ty (by decide +kernel), true, rfl, if_t rfl ?_⟩⟩
            have lu := nT_len hu
            have lb := nT_len hb
            have l3 : (("/" : Str)).length = 1 := rfl
            obtain ⟨m1, m2, m3⟩ := more H3 (Evl.Ex.refl _)
            have ej : nT u ++ "/" ++ nT b = thT (.fr u b) := by
              refine tl_inj1 ?_
              show _ = TL.tl (Txt.join "/" [nT u, nT b])
              rw [TL.join_eq, TL.tl_join, TL.tl_append, TL.tl_append, List.append_assoc]
              rfl
            refine ⟨_, rfl, .inl ⟨rfl, _, SqL.of gD⟩, _, rfl, l, _, _, _, rfl, rfl, SqT.of hf, rfl, u, rfl, log_sm hu, _, _, rfl, rfl, Nat.le_trans (show (nT u).length + (("/" : Str)).length ≤ 20 by omega) (by decide), _, rfl, l, _, _, _, rfl, rfl, SqT.of hf, rfl, b, rfl, log_sm hb, _, _, rfl, rfl, ?_, D, _, _, rfl, rfl, gD, lenD, ?_⟩
            · rw [len_app]
              exact Nat.le_trans (show (nT u).length + (("/" : Str)).length + (nT b).length ≤ 30 by omega) (by decide)
            rw [← ej] at m1 m2 m3
            exact ⟨_, rfl, m1, m2, m3⟩
          | lst ks =>
            cases hy with
            | lst hl hA =>
              rename_i l xs
              have := dq_ints hA
              subst this
              refine ⟨_, rfl, _, _, _, _, true, rfl, .ty "list", .base (.lst hl), kit_ty (by decide +kernel), true, rfl, if_t rfl ⟨_, rfl, .inl ⟨rfl, _, SqL.of gD⟩, ⟨_, rfl⟩, ?_⟩⟩
              have ok1 := ot.1
              refine ⟨_, rfl, l, rfl, ⟨_, SqL.of hl⟩, fun D2 hD2 => lc_strs (ks.map nT) (by rw [List.length_map, iV_len]) (by rw [List.length_map]; omega) hD2 hl (fun _ => rfl) (fun i y z H5 Q' hi hz e5 k' => ?_) (fun H5 e5 h5 => ?_)⟩
              · obtain ⟨n, hn, rfl⟩ := iV_get hi
                rw [List.getElem?_map, hn] at hz
                cases hz
                have okn := ot.2 n (List.mem_of_getElem? hn)
                exact ⟨_, rfl, n, rfl, log_sm (by unfold Sm at okn; omega), k' _ (Evl.Ex.refl _)⟩
              obtain ⟨m1, m2, m3⟩ := more H5 e5
              refine ⟨",", D2, ks.map nT, rfl, rfl, .inl (SqL.of h5), ?_, D, _, _, rfl, rfl, e5 _ _ gD, lenD, _, rfl, m1, m2, m3⟩
              have a1 := sum_nT ot.2
              have a3 : (("," : Str)).length = 1 := rfl
              rw [List.length_map, a3]
              omega
      · rintro σ H3 ⟨v2, rfl, e3, gp, gD⟩
        rw [kr, List.take_length] at gD
        refine ⟨⟨_, rfl⟩, _, rfl, " ", D, x :: r.map thT, rfl, rfl, .inl (SqL.of gD), ?_, ?_⟩
        · have hs := sum_le (B := 220) (ps := (dTh d).map thT) (fun p hp => by
            obtain ⟨t, ht, rfl⟩ := List.mem_map.mp hp
            exact thT_len (sm t ht))
          have l3 : ((" " : Str)).length = 1 := rfl
          rw [hx] at hs
          have hs : ((x :: r.map thT).map (·.length)).sum ≤ ((x :: r.map thT)).length * 220 := hs
          have hl : (x :: r.map thT).length ≤ 4 := by rw [List.length_cons, List.length_map]; omega
          have h8 : (x :: r.map thT).length * 220 ≤ 880 := Nat.le_trans (Nat.mul_le_mul_right 220 hl) (by decide)
          rw [l3]
          omega
        have : dT d = Txt.join " " (x :: r.map thT) := by unfold dT; rw [hx]; rfl
        rw [← this]
        exact k _ e3
theorem ok_l_script_text {f : Addr} {fd : FuncData} (F : Fun K "_law_script_text" "_law_script_text" s_l_script_text f fd) (mS : mg "str" = none) (cSt : Cal P w K mg base 1 "_law_step_text" p_l_step_text spStT) : FnOk P w K mg base CX0 2 f fd p_l_script_text spScT := by
  refine F.ok sc_l_script_text (fun vs H Q E h => ?_) (fun cdv A outer s H vs Q E hr h => ?_)
  · obtain ⟨q, a, b, ts, ds, rfl, _⟩ := h
    rfl
  · obtain ⟨q, a, b, ts, ds, rfl, hq, ha, hb, l1, l2, tsm, dsm, k⟩ := h
    have nd := sc_l_script_text.nd
    have r1 : Room 1 _ := hr.mono (by decide)
    refine ⟨_, pss_cons (ps_set (i := 1) nd rfl (Or.inl rfl) (pe_lst pa_nil))
      (pss_cons (ps_for PassesOwn.never rfl (pi_list (pe_ix ix_tup (pv 0) pe_int (fun _ _ => rfl))) (pg_tup rfl (pgs_cons (pg_name (i := 2) nd rfl (Or.inl rfl)) (pgs_cons (pg_name (i := 3) nd rfl (Or.inl rfl)) pgs_nil))) (pss_cons (ps_set (i := 4) nd rfl (Or.inl rfl) (pe_ifExp (pt_cmp (pc_isN (pv 2))) pe_str (pe_callTy call_str_int (by rfl) mS (by decide +kernel) (pa_cons (pv 2) pa_nil))))
      (pss_one (ps_expr (pe_bm PySem.F.plainAttrs_list PySem.F.slot_list_append PySem.F.type_list_append mt_append (pv 1) (pa_cons (pe_op op_add_str (pe_op op_add_str (pe_callTy call_str_int (by rfl) mS (by decide +kernel) (pa_cons (pv 3) pa_nil)) pe_str) (pv 4)) pa_nil))))))
      (pss_cons (ps_setLc (i := 5) (own := [("step", 6)]) (g := (gName 6)) (tt := tYes) (te := (tCall spStT [] E0 (tCons (tVar 6) tNil))) rfl nd rfl rfl (sw_true rfl rfl rfl (by decide +kernel)) (pi_list (pe_ix ix_tup (pv 0) pe_int (fun _ _ => rfl))) (blkOk_by (N := n_l_script_text) (sc := defScope s_l_script_text) (by decide +kernel)) (fun _ _ _ _ _ => (pg_name (i := 6) nd rfl (Or.inl rfl))) (fun _ _ _ _ _ => pts_nil) (fun _ _ _ _ _ => (pe_c cSt r1 (pa_cons (pv 6) pa_nil))))
      (pss_one (ps_ret (pe_join pe_str (pe_op op_cat (pe_lst (pa_cons (pe_join pe_str (pv 1)) pa_nil)) (pv 5))))))), ?_⟩
    obtain ⟨a', e, as, g1, g2, g3⟩ := ha.tks
    cases e
    refine ⟨Nat.zero_le _, fun D hD => ?_⟩
    have e1 := Evl.Ex.new (o := .lst []) hD
    have gD1 := upd_same (H := H) (a := D) (o := .lst [])
    generalize upd H D (.lst []) = H1 at e1 gD1
    refine ⟨_, rfl, q, _, _, _, rfl, rfl, SqT.of (e1 _ _ hq), atI_nat (j := 0) rfl, a, rfl, ⟨_, SqL.of (e1 _ _ g1)⟩, for_list (xs := as.map V.ref) (fun i σ H' => ∃ v2 v3 v4, σ = [some (.ref q), some (.ref D), v2, v3, v4, none, none] ∧ Evl.Ex H H' ∧ H' D = some (.lst (((ts.take i).map tkT).map V.str))) ⟨none, none, none, rfl, e1, gD1⟩ (fun i σ H' _ q => by obtain ⟨_, _, _, _, q, _⟩ := q; exact SqL.of (q _ _ g1)) ?_ ?_⟩
    · rintro i y σ H2 hi ⟨v2, v3, v4, rfl, e2, gD⟩
      rw [List.getElem?_map] at hi
      cases hai : as[i]? with
      | none => rw [hai] at hi; cases hi
      | some x =>
        rw [hai] at hi
        cases hi
        have li : i < ts.length := by
          rw [← g2]
          by_cases h : i < as.length
          · exact h
          · rw [List.getElem?_eq_none (by omega)] at hai; cases hai
        have ht : ts[i]? = some ts[i] := List.getElem?_eq_getElem li
        generalize ts[i] = t at ht
        have hx := e2 _ _ (g3 i x t hai ht)
        obtain ⟨tw, ta⟩ := t
        have tm := tsm _ (List.mem_of_getElem? ht)
        have ta9 : ta.natAbs ≤ 999999999 := by have := tm.2; unfold Sm at this; omega
        have l1 := nT_len ta9
        have l2 : ((" in " : Str)).length = 4 := rfl
        have lenD : (((ts.take i).map tkT).map V.str).length < sizeLine := by
          rw [List.length_map, List.length_map, List.length_take]
          exact Nat.lt_of_le_of_lt (show min i ts.length ≤ 100 by omega) (by decide)
        refine ⟨x, _, rfl, SqT.of hx, rfl, _, _, rfl, _, _, rfl, rfl, ?_⟩
        have fin : upd H2 D (.lst (((ts.take i).map tkT).map V.str ++ [.str (tkT (tw, ta))])) D = some (.lst (((ts.take (i + 1)).map tkT).map V.str)) := by
          rw [upd_same, List.take_add_one, ht]
          simp
        have fin2 : Evl.Ex H (upd H2 D (.lst (((ts.take i).map tkT).map V.str ++ [.str (tkT (tw, ta))]))) := Evl.Ex.mut e2 hD
        cases tw with
        | none =>
          have l3 : (("w" : Str)).length = 1 := rfl
          refine ⟨_, rfl, _, rfl, if_t rfl ⟨_, rfl, .inl ⟨rfl, _, SqL.of gD⟩, _, rfl, ta, rfl, log_sm ta9, _, _, rfl, rfl, Nat.le_trans (show (nT ta).length + ((" in " : Str)).length ≤ 20 by omega) (by decide), _, rfl, _, _, rfl, rfl, ?_, D, _, _, rfl, rfl, gD, lenD, _, _, _, rfl, fin2, fin⟩⟩
          rw [len_app]
          exact Nat.le_trans (show (nT ta).length + ((" in " : Str)).length + (("w" : Str)).length ≤ 30 by omega) (by decide)
        | some z =>
          have z9 : z.natAbs ≤ 999999999 := by have := tm.1 z rfl; unfold Sm at this; omega
          have l3 := nT_len z9
          refine ⟨_, rfl, _, rfl, if_f rfl ⟨_, rfl, z, rfl, log_sm z9, _, rfl, .inl ⟨rfl, _, SqL.of gD⟩, _, rfl, ta, rfl, log_sm ta9, _, _, rfl, rfl, Nat.le_trans (show (nT ta).length + ((" in " : Str)).length ≤ 20 by omega) (by decide), _, rfl, _, _, rfl, rfl, ?_, D, _, _, rfl, rfl, gD, lenD, _, _, _, rfl, fin2, fin⟩⟩
          rw [len_app]
          exact Nat.le_trans (show (nT ta).length + ((" in " : Str)).length + (nT z).length ≤ 30 by omega) (by decide)
    · rintro σ H2 ⟨v2, v3, v4, rfl, e2, gD⟩
      rw [List.length_map, g2, List.take_length] at gD
      have hb2 := hb.go e2
      cases hb2 with
      | lst k1 hA =>
        rename_i vs
        have kl := dqAll_len hA
        rw [List.length_map] at kl
        refine ⟨_, rfl, q, _, _, _, rfl, rfl, SqT.of (e2 _ _ hq), atI_nat (j := 1) rfl, b, rfl, ⟨_, SqL.of k1⟩, fun D2 hD2 => lc_strs (ds.map dT) (by rw [List.length_map, kl]) (by rw [List.length_map]; omega) hD2 k1 (fun _ => rfl) (fun i y z H5 Q' hi hz e5 k' => ?_) (fun H5 e5 h5 => ?_)⟩
        · obtain ⟨dd, hdd, hq'⟩ := dqAll_get hA hi
          rw [List.getElem?_map] at hdd hz
          cases hd : ds[i]? with
          | none => rw [hd] at hdd; cases hdd
          | some d =>
            rw [hd] at hdd hz
            cases hdd; cases hz
            obtain ⟨x, ws, rfl, _, _⟩ := dq_things hq'
            exact ⟨_, rfl, x, d, rfl, hq'.go e5, dsm d (List.mem_of_getElem? hd), k'⟩
        have gD5 := e5 _ _ gD
        have l3 : ((", " : Str)).length = 2 := rfl
        have h24 := sum_le (B := 24) (ps := ts.map tkT) (fun p hp => by
          obtain ⟨t, ht, rfl⟩ := List.mem_map.mp hp
          exact tkT_len (tsm t ht))
        rw [List.length_map] at h24
        refine ⟨⟨_, rfl⟩, ⟨_, rfl⟩, _, rfl, ", ", D, ts.map tkT, rfl, rfl, .inl (SqL.of gD5), ?_, by show 1 ≤ sizeLine; decide, fun p hp => ?_⟩
        · rw [List.length_map (as := ts), l3]
          omega
        have e6 := Evl.Ex.new (o := .lst [.str (tksT ts)]) hp
        have g6 := upd_same (H := H5) (a := p) (o := .lst [.str (tksT ts)])
        have g5 := e6 _ _ h5
        refine ⟨_, rfl, p, D2, _, _, rfl, rfl, g6, g5, ?_, fun p3 hp3 => ?_⟩
        · rw [List.length_map, List.length_map]
          exact Nat.le_trans (show 1 + ds.length ≤ 101 by omega) (by decide)
        refine ⟨"; ", p3, tksT ts :: ds.map dT, rfl, rfl, .inl (SqL.of upd_same), ?_, k _ (((e2.trans e5).trans e6).trans (Evl.Ex.new hp3))⟩
        have h2 := sum_deeds dsm
        have l4 : (("; " : Str)).length = 2 := rfl
        have l5 := join_len ", " (ts.map tkT)
        simp only [List.map_cons, List.sum_cons, List.length_cons]
        rw [List.length_map (as := ds), l4]
        rw [List.length_map (as := ts), l3] at l5
        have l6 : (tksT ts).length ≤ 3000 := by show (Txt.join ", " (ts.map tkT)).length ≤ 3000; omega
        omega
end
end V2


namespace V2
open PySem L2
open PySem.Spec PyProof.Rows
/-! ## texts that are numbers -/
theorem tl_size (x : Str) : x.cps.size = (TL.tl x).length := by rw [← TL.len_tl]; rfl
theorem starts1 (x : Str) (c : Nat) : Txt.startswith x ⟨#[c]⟩ = decide ((TL.tl x).head? = some c) := by
  have h := PySem.StrLaws.subAt_one x c 0
  have e : Txt.startswith x ⟨#[c]⟩ = true ↔ x.cps.toList[0]? = some c := by
    rw [← h]
    unfold Txt.startswith
    rw [Bool.and_eq_true, decide_eq_true_eq]
  have e2 : (TL.tl x).head? = x.cps.toList[0]? := by rw [List.head?_eq_getElem?]
  rw [e2]
  by_cases hc : x.cps.toList[0]? = some c
  · rw [decide_eq_true hc, e.mpr hc]
  · rw [decide_eq_false hc]
    cases hs : Txt.startswith x ⟨#[c]⟩ with
    | false => rfl
    | true => exact absurd (e.mp hs) hc
theorem cut1_tl (x : Str) : TL.tl (cutS x (some 1) none) = (TL.tl x).drop 1 := by
  show ((x.cps.toList.drop (HT.sIx x.length 0 (some ((1 : Nat) : Int)))).take (HT.sIx x.length x.length none - HT.sIx x.length 0 (some ((1 : Nat) : Int)))) = (TL.tl x).drop 1
  rw [HT.sIx_nat, HT.sIx_none]
  have hl : x.length = x.cps.toList.length := by rw [Array.length_toList]; rfl
  show (x.cps.toList.drop (min 1 x.length)).take (x.length - min 1 x.length) = x.cps.toList.drop 1
  by_cases h : 1 ≤ x.length
  · rw [Nat.min_eq_left h]
    exact List.take_of_length_le (by rw [List.length_drop, hl]; exact Nat.le_refl _)
  · have : x.cps.toList = [] := List.eq_nil_of_length_eq_zero (by omega)
    rw [this]; simp
/-- the digits of a number's text, its sign left out -/
def dgs (x : Str) : List Nat := if (TL.tl x).head? = some 45 then (TL.tl x).drop 1 else TL.tl x
def NumB (x : Str) : Bool := decide (dgs x ≠ []) && decide ((dgs x).length ≤ 9) && (dgs x).all (fun c => decide (48 ≤ c ∧ c ≤ 57)) && (decide ((dgs x).head? ≠ some 48) || decide (TL.tl x = [48]))
theorem numL_val_inv {l : List Nat} (h : NumText.AllDigits l) (h0 : l ≠ []) (hz : l.head? ≠ some 48 ∨ l = [48]) : TL.numL (NumText.digitsVal l) = l := by
  have hh : l.length - 1 = 0 ∨ ∃ c r, l = c :: r ∧ 49 ≤ c := by
    cases l with
    | nil => exact absurd rfl h0
    | cons c r =>
      rcases hz with hz | hz
      · refine .inr ⟨c, r, rfl, ?_⟩
        have := h.head
        have : c ≠ 48 := fun e => hz (by rw [e]; rfl)
        omega
      · rw [hz]; exact .inl rfl
  have hlen : l.length = (l.length - 1) + 1 := by
    have : l.length ≠ 0 := fun e => h0 (List.eq_nil_of_length_eq_zero e)
    omega
  have := NumText.toDigits_digitsVal (l.length - 1) l hlen h hh
  unfold TL.numL
  rw [this, List.map_map]
  have e : ∀ c ∈ l, (Char.toNat ∘ Char.ofNat) c = c := fun c hc => by
    have := h c hc
    have key : ∀ d : Fin 58, (Char.ofNat d.1).toNat = d.1 := by decide
    exact key ⟨c, by omega⟩
  exact (List.map_congr_left e).trans (List.map_id' _)
theorem val_lt {l : List Nat} : ∀ (h : NumText.AllDigits l), NumText.digitsVal l < 10 ^ l.length := by
  intro h
  by_cases h0 : l = []
  · rw [h0]; decide
  · rcases List.eq_nil_or_concat l with e | ⟨r, c, e⟩
    · exact absurd e h0
    · subst e
      rw [List.concat_eq_append] at h ⊢
      rw [NumText.digitsVal_snoc, List.length_append]
      have ih := val_lt (l := r) fun d hd => h d (List.mem_append_left _ hd)
      have hc := h c (List.mem_append_right _ List.mem_cons_self)
      show _ < 10 ^ (r.length + 1)
      rw [Nat.pow_succ]
      omega
termination_by l.length
decreasing_by simp [e]
theorem numB_iff {x : Str} : NumB x = true ↔ ∃ n : Int, x = nT n ∧ n.natAbs ≤ 999999999 := by
  unfold NumB
  simp only [Bool.and_eq_true, Bool.or_eq_true, decide_eq_true_eq, List.all_eq_true]
  constructor
  · rintro ⟨⟨⟨h0, h9⟩, hd⟩, hz⟩
    have hd : NumText.AllDigits (dgs x) := fun c hc => hd c hc
    have hv := val_lt hd
    have h10 : (10 : Nat) ^ (dgs x).length ≤ 10 ^ 9 := Nat.pow_le_pow_right (by decide) h9
    have e9 : (10 : Nat) ^ 9 = 1000000000 := by decide
    have hz' : (dgs x).head? ≠ some 48 ∨ dgs x = [48] := by
      rcases hz with h | h
      · exact .inl h
      · refine .inr ?_
        unfold dgs
        rw [h]; rfl
    have inv := numL_val_inv hd h0 hz'
    by_cases hs : (TL.tl x).head? = some 45
    · have ed : dgs x = (TL.tl x).drop 1 := if_pos hs
      have ex : TL.tl x = 45 :: dgs x := by
        rw [ed]
        cases hx : TL.tl x with
        | nil => rw [hx] at hs; cases hs
        | cons c r => rw [hx] at hs; cases hs; rfl
      have hpos : 1 ≤ NumText.digitsVal (dgs x) := by
        rcases hz' with h | h
        · cases hx : dgs x with
          | nil => exact absurd hx h0
          | cons c r =>
            rw [hx] at h hd
            have := hd.head
            have : c ≠ 48 := fun e => h (by rw [e]; rfl)
            exact NumText.digitsVal_pos (by omega)
        · rcases hz with h1 | h1
          · rw [h] at h1; exact absurd rfl h1
          · rw [h1] at hs; cases hs
      refine ⟨Int.negSucc (NumText.digitsVal (dgs x) - 1), tl_inj1 ?_, ?_⟩
      · rw [tl_nT_neg, Nat.sub_add_cancel hpos, inv, ex]
      · show NumText.digitsVal (dgs x) - 1 + 1 ≤ 999999999
        omega
    · have ed : dgs x = TL.tl x := if_neg hs
      refine ⟨(NumText.digitsVal (dgs x) : Int), tl_inj1 ?_, ?_⟩
      · rw [tl_nT_nat, inv, ed]
      · show NumText.digitsVal (dgs x) ≤ 999999999
        omega
  · rintro ⟨n, rfl, hn⟩
    have e9 : (10 : Nat) ^ 9 = 1000000000 := by decide
    have no45 : ∀ k, (TL.numL k).head? ≠ some 45 := fun k h => by
      cases hk : TL.numL k with
      | nil => exact TL.numL_ne k hk
      | cons c r =>
        have := TL.numL_digits k
        rw [hk] at h this
        cases h
        have := this.head
        omega
    have z48 : ∀ k, (TL.numL k).head? = some 48 → k = 0 := fun k h => by
      cases hk : TL.numL k with
      | nil => exact absurd hk (TL.numL_ne k)
      | cons c r =>
        rw [hk] at h
        cases h
        by_cases hr : r = []
        · have := TL.numL_val k
          rw [hk, hr] at this
          exact this.symm
        · exfalso
          have hv := TL.numL_val k
          rw [hk] at hv
          have hv2 : NumText.digitsVal r = k := hv
          have hd := TL.numL_digits k
          rw [hk] at hd
          -- the same value, one digit less
          have h1 := val_lt hd.tail
          have : 10 ^ r.length ≤ k := by
            have e1 : (TL.numL k).length ≤ r.length ∨ 10 ^ r.length ≤ k := by
              by_cases hlt : k < 10 ^ r.length
              · exact .inl (TL.numL_len (List.length_pos_iff.mpr hr) hlt)
              · exact .inr (by omega)
            rcases e1 with e1 | e1
            · rw [hk, List.length_cons] at e1; omega
            · exact e1
          omega
    cases n with
    | ofNat k =>
      have hn : k ≤ 999999999 := hn
      have ex : TL.tl (nT (Int.ofNat k)) = TL.numL k := tl_nT_nat k
      have ed : dgs (nT (Int.ofNat k)) = TL.numL k := by
        unfold dgs
        rw [ex, if_neg (no45 k)]
      rw [ed, ex]
      refine ⟨⟨⟨TL.numL_ne k, TL.numL_len (by decide) (by omega)⟩, fun c hc => TL.numL_digits k c hc⟩, ?_⟩
      by_cases h : (TL.numL k).head? = some 48
      · right
        rw [z48 k h]
        rfl
      · exact .inl h
    | negSucc k =>
      have hn : k + 1 ≤ 999999999 := hn
      have ex : TL.tl (nT (Int.negSucc k)) = 45 :: TL.numL (k + 1) := tl_nT_neg k
      have ed : dgs (nT (Int.negSucc k)) = TL.numL (k + 1) := by
        unfold dgs
        rw [ex]
        exact if_pos rfl
      rw [ed]
      refine ⟨⟨⟨TL.numL_ne _, TL.numL_len (by decide) (by omega)⟩, fun c hc => TL.numL_digits _ c hc⟩, .inl fun h => ?_⟩
      have := z48 _ h
      omega
theorem nT_reads {n : Int} (h : n.natAbs ≤ 999999999) : intText? (nT n) = some n := by
  have hl := nT_len h
  cases n with
  | ofNat k =>
    have ex : (nT (Int.ofNat k)).cps.toList = TL.numL k := tl_nT_nat k
    have e := PySem.intText_digits (x := nT (Int.ofNat k)) (by rw [ex]; exact TL.numL_digits k) (by rw [ex]; exact TL.numL_ne k) (by omega)
    rw [ex, TL.numL_val] at e
    exact e
  | negSucc k =>
    have ex : (nT (Int.negSucc k)).cps.toList = 45 :: TL.numL (k + 1) := tl_nT_neg k
    have e := PySem.intText_neg (x := nT (Int.negSucc k)) ex (TL.numL_digits _) (TL.numL_ne _) (by omega)
    rw [TL.numL_val] at e
    exact e
theorem nT_inj {m n : Int} (h : nT m = nT n) (hm : m.natAbs ≤ 999999999) (hn : n.natAbs ≤ 999999999) : m = n := by
  have e1 := nT_reads hm
  rw [h, nT_reads hn] at e1
  cases e1
  rfl
end V2


namespace V2
open PySem L2
open PySem.Spec PyProof.Rows
/-! ## a number is read -/
def rInSign : V → V → Hp → VK → Prop := fun x y H Q => ∃ (c : Nat) (z : Str), x = .str ⟨#[c]⟩ ∧ y = .str z ∧ Q (.bl (decide (c ∈ z.cps.toList))) H
/-- over a text -/
theorem lc_str {x : Str} {g : TG} {tt : TT} {te : TE} {vs : List Nat} {σ : L2.St} {H1 : Hp} {D : Addr} {Qd : Hp → Prop} (Pv : Nat → Hp → Prop) (h0 : Pv 0 (upd H1 D (.lst [])))
    (hs : ∀ (i c : Nat) H, (TL.tl x)[i]? = some c → Pv i H → g (.str ⟨#[c]⟩) (wipe σ vs) H fun σ2 H2 => wipe σ2 vs = wipe σ vs ∧ tt σ2 H2 fun b H3 =>
      if b = true then te σ2 H3 fun y H4 => ∃ acc, H4 D = some (.lst acc) ∧ acc.length < sizeLine ∧ Pv (i + 1) (upd H4 D (.lst (acc ++ [y]))) else Pv (i + 1) H3) (hd : ∀ H, Pv (TL.tl x).length H → Qd H) :
    ∃ W : Nat → Nat → Hp → Prop, (∃ m, W 0 m (upd H1 D (.lst []))) ∧ ∀ i m H, W i m H →
      ((Its x).stop i H ∧ Qd H) ∨ ((Its x).go i H ∧ ∃ Nx : Hp → Prop, (∀ H', Nx H' → ∃ m', m' < m ∧ W (i + 1) m' H') ∧ ∀ z H', (Its x).yld i H z H' → g z (wipe σ vs) H' fun σ2 H2 => wipe σ2 vs = wipe σ vs ∧ tt σ2 H2 fun b H3 =>
        if b = true then te σ2 H3 fun y H4 => ∃ acc, H4 D = some (.lst acc) ∧ acc.length < sizeLine ∧ Nx (upd H4 D (.lst (acc ++ [y]))) else Nx H3) := by
  have hl : x.cps.size = (TL.tl x).length := tl_size x
  refine ⟨fun i m H => m = (TL.tl x).length - i ∧ i ≤ (TL.tl x).length ∧ Pv i H, ⟨(TL.tl x).length, by simp, Nat.zero_le _, h0⟩, ?_⟩
  rintro i m H ⟨rfl, hi, p⟩
  by_cases hlt : i < (TL.tl x).length
  · refine .inr ⟨by show i < x.cps.size; omega, Pv (i + 1), fun H' p' => ⟨(TL.tl x).length - (i + 1), by omega, rfl, hlt, p'⟩, fun z H' y => ?_⟩
    obtain ⟨e, c, hc, hv⟩ := y
    subst e hv
    exact hs i c _ (by rw [← hc]; exact Array.getElem?_toList ..) p
  · have e : i = (TL.tl x).length := by omega
    subst e
    exact .inl ⟨by show x.cps.size ≤ _; omega, hd H p⟩
/-- a number's text, or none -/
def spRdI (CU : Addr) : Sp := fun vs H Q E => ∃ x : Str, vs = [.str x] ∧ x.length ≤ 4000 ∧ (∀ n : Int, x = nT n → n.natAbs ≤ 999999999 → Evl.RetV (.int n) H Q) ∧ (NumB x = false → ∀ H1, Evl.Ex H H1 → Rz CU H1 (.str x) E)
theorem dig10 (c : Nat) : decide (c ∈ (("0123456789" : Str)).cps.toList) = decide (48 ≤ c ∧ c ≤ 57) := by
  have e : (("0123456789" : Str)).cps.toList = [48, 49, 50, 51, 52, 53, 54, 55, 56, 57] := by decide +kernel
  rw [e]
  by_cases h : 48 ≤ c ∧ c ≤ 57
  · rw [decide_eq_true h, decide_eq_true]
    simp only [List.mem_cons, List.not_mem_nil, or_false]
    omega
  · rw [decide_eq_false h, decide_eq_false]
    simp only [List.mem_cons, List.not_mem_nil, or_false]
    omega
section
variable {base : Heap} {mg : Str → Option Value} {K : PySem.W.Frag} {w : World} {P : Program} {CU eI0 : Addr}
theorem ok_read_integer {f : Addr} {fd fdI : FuncData} (F : Fun K "read_integer" "read_integer" s_read_integer f fd) (mL : mg "len" = none) (mAl : mg "all" = none) (mIn : mg "int" = none) (TU : EC K CU eI0) (G : EG K eI0) (mE : mg "Unreadable" = some (.ref CU)) (FI : FnOk P w K mg base CX0 1 eI0 fdI ["self", "value"] (spInit K)) (bI : Binds K fdI ["self", "value"] []) : FnOk P w K mg base (L2.CX P w) 3 f fd p_read_integer (spRdI CU) := by
  refine F.okX sc_read_integer (fun vs H Q E h => ?_) (fun cdv A outer s H vs Q E hr h => ?_)
  · obtain ⟨x, rfl, _⟩ := h
    rfl
  · obtain ⟨x, rfl, lx, k, kx⟩ := h
    have nd := sc_read_integer.nd
    have r2 : Room (1 + 1) _ := hr.mono (by decide)
    refine ⟨_, Evl.pss_cut (ps_set (i := 1) nd rfl (Or.inl rfl) (pe_ifExp (pt_val (pe_m1 PySem.F.slot_str_startswith PySem.F.type_str_startswith mt_startswith (pv 0) pe_str)) (pe_slice sl_str (pv 0) (po_some pe_int) po_none) (pv 0)))
      (pss_cons (ps_if (PW.pt (pw_or (pt_not (pt_truth (pv 1) (by intro _; rfl))) (pw_or (pt_cmpR op_gt (pe_callB call_len_str (by rfl) mL PySem.boot_len (pa_cons (pv 1) pa_nil)) pe_int (nomark _)) (pw_or1 (pt_not (pt_val (pe_callB (cr_all rfl) (by rfl) mAl (by decide +kernel) (pa_cons (pe_lc (own := [("sign", 2)]) (g := gName 2) (tt := tYes) (te := tOp rInSign (tVar 2) (tC (.str "0123456789"))) rfl nd (pi_str (pv 1)) (blkOk_by (N := n_read_integer) (sc := defScope s_read_integer) (by decide +kernel)) (fun _ _ _ _ _ => pg_name (i := 2) nd rfl (Or.inl rfl)) (fun _ _ _ _ _ => pts_nil) (fun _ _ _ _ _ => pe_cmpR op_in_sign (pv 2) pe_str (by rfl))) pa_nil)))))))) (pss_one (ps_raise rfl (takes_of rfl rfl rfl rfl) (pmk_oex (k := 1) TU.ox TU.iC G.tI FI r2 bI .nil pass0 (by rfl) mE (pa_cons (pv 0) pa_nil)))) pss_nil)
      (pss_cons (ps_if (PW.pt (pw_and (pt_val (pe_m1 PySem.F.slot_str_startswith PySem.F.type_str_startswith mt_startswith (pv 1) pe_str)) (pw_and1 (pt_cmpR op_ne (pv 0) pe_str (nomark _))))) (pss_one (ps_raise rfl (takes_of rfl rfl rfl rfl) (pmk_oex (k := 1) TU.ox TU.iC G.tI FI r2 bI .nil pass0 (by rfl) mE (pa_cons (pv 0) pa_nil)))) pss_nil)
      (pss_one (ps_ret (pe_callTy call_int_str (by rfl) mIn (by decide +kernel) (pa_cons (pv 0) pa_nil)))))), ?_⟩
    have l45 : (("-" : Str)) = ⟨#[45]⟩ := by decide +kernel
    have l48 : (("0" : Str)) = ⟨#[48]⟩ := by decide +kernel
    have szx : x.length ≤ sizeLine := Nat.le_trans lx (by decide)
    refine ⟨fun σ H' => H' = H ∧ ∃ y : Str, σ = [some (.str x), some (.str y), none] ∧ TL.tl y = dgs x, ?_, ?_⟩
    · refine ⟨_, rfl, ⟨_, rfl⟩, x, _, rfl, rfl, _, rfl, ?_⟩
      rw [l45, starts1]
      by_cases h45 : (TL.tl x).head? = some 45
      · refine if_t (decide_eq_true h45) ⟨_, rfl, 1, rfl, x, rfl, szx, rfl, _, rfl, ?_⟩
        rw [cut1_tl]
        unfold dgs
        rw [if_pos h45]
      · refine if_f (decide_eq_false h45) ⟨_, rfl, rfl, x, rfl, ?_⟩
        unfold dgs
        rw [if_neg h45]
    rintro σ H' ⟨rfl, y, rfl, hy⟩
    have ly : y.length = (dgs x).length := by rw [TL.len_tl, hy]
    have lyx : y.length ≤ 4000 := by
      rw [ly]
      have : (dgs x).length ≤ (TL.tl x).length := by
        unfold dgs
        split
        · rw [List.length_drop]; omega
        · exact Nat.le_refl _
      rw [← TL.len_tl] at this
      omega
    have szy : y.length ≤ sizeLine := Nat.le_trans lyx (by decide)
    have bad : ∀ {H1 : Hp}, Evl.Ex H' H1 → NumB x = false → [V.str x].length ≤ 1000 ∧ ∀ a, H1 a = none → spInit K (.ref a :: ([V.str x] ++ [])) (upd H1 a (exo a CU none)) (fun v G2 => v = .non ∧ ∃ (d : Addr) (fs : List (Str × V)), G2 a = some (exo a CU (some d)) ∧ G2 d = some (exd d fs) ∧ H1 d = none ∧ E (.ref CU) (some d) (upd (del G2 a) d (.xd fs))) (fun _ _ _ => False) := fun {H1} e1 hb => raise_in TU fun e G' he ee hx => kx hb H1 e1 e G' he ee hx
    have hNB : NumB x = (decide (dgs x ≠ []) && decide ((dgs x).length ≤ 9) && (dgs x).all (fun c => decide (48 ≤ c ∧ c ≤ 57)) && (decide ((dgs x).head? ≠ some 48) || decide (TL.tl x = [48]))) := rfl
    by_cases h0 : dgs x = []
    · refine ⟨_, rfl, _, ⟨szy, rfl⟩, if_t ?_ (if_t rfl ⟨_, rfl, bad (Evl.Ex.refl _) ?_⟩)⟩
      · rw [ly, h0]; rfl
      · rw [hNB, decide_eq_false (fun h => h h0)]; rfl
    have y0 : 0 < y.length := by
      rw [ly]; exact List.length_pos_iff.mpr h0
    refine ⟨_, rfl, _, ⟨szy, rfl⟩, if_f ?_ ?_⟩
    · have : ((y.length : Int) != 0) = true := bne_iff_ne.mpr (by omega)
      rw [this]; rfl
    by_cases h9 : ¬ (dgs x).length ≤ 9
    · refine ⟨_, rfl, y, rfl, szy, _, _, rfl, rfl, _, rfl, if_t (decide_eq_true (by omega)) (if_t rfl ⟨_, rfl, bad (Evl.Ex.refl _) ?_⟩)⟩
      rw [hNB, decide_eq_false h9, Bool.and_false]; rfl
    have h9 := Decidable.not_not.mp h9
    refine ⟨_, rfl, y, rfl, szy, _, _, rfl, rfl, _, rfl, if_f (decide_eq_false (by omega)) ?_⟩
    refine ⟨_, rfl, y, rfl, fun D hD => lc_str (fun i H2 => Evl.Ex H' H2 ∧ H2 D = some (.lst ((((dgs x).take i).map fun c => decide (48 ≤ c ∧ c ≤ 57)).map V.bl))) ⟨Evl.Ex.new hD, upd_same⟩ ?_ ?_⟩
    · rintro i c H2 hc ⟨e2, g2⟩
      rw [hy] at hc
      refine ⟨rfl, ?_⟩
      show tOp rInSign (tVar 2) (tC (.str "0123456789")) _ _ _
      refine ⟨_, rfl, c, _, rfl, rfl, _, g2, ?_, Evl.Ex.mut e2 hD, ?_⟩
      · rw [List.length_map, List.length_map, List.length_take]
        exact Nat.lt_of_le_of_lt (show min i (dgs x).length ≤ 9 by omega) (by decide)
      · rw [upd_same, dig10, List.take_add_one, hc, List.map_append, List.map_append]
        rfl
    rintro H2 ⟨e2, g2⟩
    rw [hy, List.take_length] at g2
    refine ⟨D, _, rfl, SqL.of g2, _, rfl, ?_⟩
    have eall : (((dgs x).map fun c => decide (48 ≤ c ∧ c ≤ 57)).all id) = (dgs x).all (fun c => decide (48 ≤ c ∧ c ≤ 57)) := by rw [List.all_map]; rfl
    rw [eall]
    by_cases ha : (dgs x).all (fun c => decide (48 ≤ c ∧ c ≤ 57)) = false
    · rw [ha]
      refine if_t rfl ⟨_, rfl, bad e2 ?_⟩
      rw [hNB, ha, Bool.and_false]; rfl
    have ha := Bool.not_eq_false _ |>.mp ha
    rw [ha]
    refine if_f rfl ⟨_, rfl, ⟨_, rfl⟩, y, _, rfl, rfl, _, rfl, ?_⟩
    rw [l48, starts1, hy]
    have fin : NumB x = true → ∃ n : Int, x = nT n ∧ intText? x = some n ∧ x.length ≤ 640 ∧ Q (.int n) H2 := fun hb => by
      obtain ⟨n, rfl, hn⟩ := numB_iff.mp hb
      exact ⟨n, rfl, nT_reads hn, Nat.le_trans (nT_len hn) (by decide), k n rfl hn _ e2⟩
    have n0 : decide (dgs x ≠ []) = true := decide_eq_true h0
    have n9 : decide ((dgs x).length ≤ 9) = true := decide_eq_true h9
    rw [n0, n9, ha] at hNB
    by_cases hh : (dgs x).head? = some 48
    · rw [decide_eq_true hh]
      refine if_t rfl ⟨_, rfl, rfl, ?_⟩
      by_cases hx : TL.tl x = [48]
      · have ex : x = ("0" : Str) := tl_inj1 (by rw [l48]; exact hx)
        obtain ⟨n, _, h1, h2, h3⟩ := fin (by rw [hNB, decide_eq_true hx, Bool.or_true]; rfl)
        exact ⟨_, rfl, if_f (by rw [ex]; rfl) ⟨_, rfl, x, n, rfl, h1, h2, h3⟩⟩
      · have ex : V.str x ≠ V.str ("0" : Str) := fun h => by
          injection h with h
          exact hx (by rw [h, l48])
        refine ⟨_, rfl, if_t (by rw [l48] at ex; rw [decide_eq_false ex]; rfl) ⟨_, rfl, bad e2 ?_⟩⟩
        rw [hNB, decide_eq_false hx, decide_eq_false (fun h => h hh)]; rfl
    · rw [decide_eq_false hh]
      obtain ⟨n, _, h1, h2, h3⟩ := fin (by rw [hNB, decide_eq_true hh]; rfl)
      exact if_f rfl ⟨_, rfl, x, n, rfl, h1, h2, h3⟩
end
end V2


namespace V2
open PySem L2
open PySem.Spec PyProof.Rows
/-! ## right texts are read -/
theorem calm_fn {P : Program} {w : World} {K : PySem.W.Frag} {mg : Str → Option Value} {base : Heap} {k : Nat} {f : Addr} {fd : FuncData} {ps : List Str} {sp : Sp} (F : FnOk P w K mg base (L2.CX P w) k f fd ps sp) : FnOk P w K mg base CX0 k f fd ps (fun vs H Q _ => sp vs H Q E0) := by
  refine ⟨fun vs H Q E q => F.len vs H Q E0 q, fun A outer s H args us vs Q E hr he hb hv hs => codeAny_mono (F.run A outer s H args us vs Q E0 hr he hb hv hs) fun r s' h => ?_⟩
  match r, h with
  | .error e, h =>
    obtain ⟨_, _, _, _, _, _, _, _, _, _, _, _, z⟩ := h
    exact z.elim
  | .ok (.ret u), h => exact h
  | .ok .next, h => exact h
  | .ok .brk, h => exact h
  | .ok .cont, h => exact h
theorem calm_cal {P : Program} {w : World} {K : PySem.W.Frag} {mg : Str → Option Value} {base : Heap} {k : Nat} {x : Str} {ps : List Str} {sp : Sp} (c : CalX P w K mg base k x ps sp) : Cal P w K mg base k x ps (fun vs H Q _ => sp vs H Q E0) := by
  obtain ⟨f, fd, F, a⟩ := c
  exact ⟨f, fd, calm_fn F, a⟩
theorem cal_imp {P : Program} {w : World} {K : PySem.W.Frag} {mg : Str → Option Value} {base : Heap} {k : Nat} {x : Str} {ps : List Str} {sp sp' : Sp} (c : Cal P w K mg base k x ps sp) (h : ∀ vs H Q E, sp' vs H Q E → sp vs H Q E) : Cal P w K mg base k x ps sp' := by
  obtain ⟨f, fd, F, a⟩ := c
  exact ⟨f, fd, F.imp h, a⟩
/-- what a comprehension of data makes -/
theorem lc_dq {K : PySem.W.Frag} {a D : Addr} {xs : List V} {j : Nat} {te : TE} {σ : L2.St} {H1 : Hp} {Qd : Hp → Prop} (ds : List PyData) (el : ds.length = xs.length) (sz : ds.length ≤ 100000) (hD : H1 D = none) (ha : H1 a = some (.lst xs))
    (hw : ∀ x : V, wipe ((wipe σ [j]).set j (some x)) [j] = wipe σ [j])
    (hs : ∀ (i : Nat) (x : V) (d : PyData) (H' : Hp) (Q : VK), xs[i]? = some x → ds[i]? = some d → Evl.Ex H1 H' → (∀ v H2, Evl.Ex H' H2 → Dq (Nw H' H2) v d → Q v H2) → te ((wipe σ [j]).set j (some x)) H' Q)
    (hd : ∀ (vs : List V) (H' : Hp), Evl.Ex H1 H' → H' D = some (.lst vs) → DqAll (wo D (Nw H1 H')) vs ds → Qd H') :
    ∃ W : Nat → Nat → Hp → Prop, (∃ m, W 0 m (upd H1 D (.lst []))) ∧ ∀ i m H, W i m H →
      ((Itl K a).stop i H ∧ Qd H) ∨ ((Itl K a).go i H ∧ ∃ Nx : Hp → Prop, (∀ H', Nx H' → ∃ m', m' < m ∧ W (i + 1) m' H') ∧ ∀ x H', (Itl K a).yld i H x H' → gName j x (wipe σ [j]) H' fun σ2 H2 => wipe σ2 [j] = wipe σ [j] ∧ tYes σ2 H2 fun b H3 =>
        if b = true then te σ2 H3 fun y H4 => ∃ acc, H4 D = some (.lst acc) ∧ acc.length < sizeLine ∧ Nx (upd H4 D (.lst (acc ++ [y]))) else Nx H3) := by
  refine lc_list (xs := xs) (fun i H' => Evl.Ex H1 H' ∧ ∃ vs, H' D = some (.lst vs) ∧ DqAll (wo D (Nw H1 H')) vs (ds.take i)) ⟨Evl.Ex.new hD, [], upd_same, .nil⟩ (fun i H' _ q => SqL.of (q.1 _ _ ha)) ?_ ?_
  · rintro i x H' hi ⟨e1, vs, h1, q1⟩
    refine ⟨hw x, ?_⟩
    have li : i < xs.length := by
      by_cases h : i < xs.length
      · exact h
      · rw [List.getElem?_eq_none (by omega)] at hi; cases hi
    obtain ⟨d, hd⟩ : ∃ d, ds[i]? = some d := ⟨_, List.getElem?_eq_getElem (by omega)⟩
    refine hs i x d H' _ hi hd e1 fun v H2 e2 hv => ⟨vs, e2 _ _ h1, ?_, Evl.Ex.mut (e1.trans e2) hD, vs ++ [v], upd_same, ?_⟩
    · have := q1.len
      rw [this, List.length_take]
      exact Nat.lt_of_le_of_lt (show min i ds.length ≤ 100000 by omega) (by decide)
    · rw [ds_take hd]
      refine (q1.go fun b o h => ?_).snoc (hv.go fun b o h => ?_)
      · have hb : b ≠ D := fun z => by
          rw [z] at h
          unfold wo at h
          rw [if_pos rfl] at h
          cases h
        have h' := wo_ex _ _ h
        refine wo_at hb (nw_at (nw_none h') ?_)
        rw [upd_ne hb]
        exact e2 _ _ (Nw.ex _ _ h')
      · have hb : b ≠ D := fun z => by
          rw [z] at h
          have := nw_none h
          rw [h1] at this
          cases this
        refine wo_at hb (nw_at (Evl.fresh_back e1 (nw_none h)) ?_)
        rw [upd_ne hb]
        exact Nw.ex _ _ h
  · rintro H' ⟨e1, vs, h1, q1⟩
    rw [← el, List.take_length] at q1
    exact hd vs H' e1 h1 q1
def spRdJ : Sp := fun vs H Q _ => ∃ n : Int, vs = [.str (nT n)] ∧ n.natAbs ≤ 999999999 ∧ Evl.RetV (.int n) H Q
theorem rdJ_of {CU : Addr} {vs : List V} {H : Hp} {Q : VK} {E : XK} (h : spRdJ vs H Q E) : spRdI CU vs H Q E0 := by
  obtain ⟨n, rfl, hn, k⟩ := h
  refine ⟨nT n, rfl, Nat.le_trans (nT_len hn) (by decide), fun m e hm => ?_, fun hb => ?_⟩
  · cases nT_inj e hn hm
    exact k
  · rw [numB_iff.mpr ⟨n, rfl, hn⟩] at hb
    cases hb
abbrev rSpl : V → List V → Hp → VK → Prop := fun x xs H Q => ∃ a b, x = .str a ∧ xs = [.str b] ∧ (b.length == 0) = false ∧ a.length + 2 ≤ sizeLine ∧ rNewStrs (Txt.split a b) H Q
/-- things, not words -/
def ThNo : Thg → Prop
  | .str _ => False
  | .lst ks => 2 ≤ ks.length
  | _ => True
def spRdTh : Sp := fun vs H Q _ => ∃ t : Thg, vs = [.str (thT t)] ∧ ThNo t ∧ OkTh t ∧ ∀ v H', Evl.Ex H H' → Dq (Nw H H') v (thD t) → Q v H'
def spRdTk : Sp := fun vs H Q _ => ∃ t : Tk, vs = [.str (tkT t)] ∧ TkSm t ∧ ∀ v H', Evl.Ex H H' → Dq (Nw H H') v (tkD t) → Q v H'
def spRdSt : Sp := fun vs H Q _ => ∃ d : Deed, vs = [.str (dT d)] ∧ DSm d ∧ (∀ t ∈ (dTh d).drop 1, ThNo t) ∧ ∀ v H', Evl.Ex H H' → Dq (Nw H H') v (dD d) → Q v H'
def spRdSc (C : Addr) : Sp := fun vs H Q _ => ∃ (ts : List Tk) (ds : List Deed), vs = [.str (scT ts ds)] ∧ okS ts ds ∧ (∀ t ∈ ts, TkSm t) ∧ (∀ d ∈ ds, DSm d) ∧ ∀ (y : Addr) (H' : Hp), H y = none → Evl.Ex H H' → ScAt (Nw H H') C y ts ds → Q (.ref y) H'
/-- signs of the texts -/
theorem nT_free {n : Int} {s : Nat} (h : s < 48 ∨ 57 < s) (h45 : s ≠ 45) : s ∉ TL.tl (nT n) := by
  cases n with
  | ofNat k => rw [show TL.tl (nT (Int.ofNat k)) = TL.numL k from tl_nT_nat k]; exact TL.numL_free h
  | negSucc k =>
    rw [tl_nT_neg]
    intro hm
    rcases List.mem_cons.mp hm with e | e
    · exact h45 e
    · exact TL.numL_free h e
theorem joinL_mem {y : List Nat} {s : Nat} : ∀ {ps : List (List Nat)}, s ∈ TL.joinL y ps → s ∈ y ∨ ∃ p ∈ ps, s ∈ p
  | [], h => by cases h
  | [p], h => .inr ⟨p, List.mem_cons_self, h⟩
  | p :: q :: ps, h => by
    have h : s ∈ p ++ (y ++ TL.joinL y (q :: ps)) := h
    rcases List.mem_append.mp h with h | h
    · exact .inr ⟨p, List.mem_cons_self, h⟩
    · rcases List.mem_append.mp h with h | h
      · exact .inl h
      · rcases joinL_mem h with h | ⟨p, hp, h⟩
        · exact .inl h
        · exact .inr ⟨p, List.mem_cons_of_mem _ hp, h⟩
theorem join_free {y : Str} {s : Nat} {ps : List Str} (hy : s ∉ TL.tl y) (hp : ∀ p ∈ ps, s ∉ TL.tl p) : s ∉ TL.tl (Txt.join y ps) := by
  rw [TL.join_eq, TL.tl_join]
  intro h
  rcases joinL_mem h with h | ⟨p, hq, h⟩
  · exact hy h
  · obtain ⟨z, hz, rfl⟩ := List.mem_map.mp hq
    exact hp z hz h
def wT : Option Int → Str
  | none => "w"
  | some z => nT z
theorem tkT_join (t : Tk) : tkT t = Txt.join " " [nT t.2, "in", wT t.1] := by
  refine tl_inj1 ?_
  rw [TL.join_eq, TL.tl_join]
  unfold tkT
  rw [TL.tl_append, TL.tl_append]
  cases t.1 <;> (show _ ++ _ ++ _ = TL.tl (nT t.2) ++ (TL.tl " " ++ (TL.tl "in" ++ (TL.tl " " ++ _))); rw [List.append_assoc]; rfl)
theorem thT_32 {t : Thg} (h : ∀ x, t ≠ .str x) : 32 ∉ TL.tl (thT t) := by
  cases t with
  | str x => exact absurd rfl (h x)
  | int n => exact nT_free (by omega) (by omega)
  | fr p q => exact join_free (by decide +kernel) (fun z hz => by
      simp only [List.mem_cons, List.not_mem_nil, or_false] at hz
      rcases hz with rfl | rfl <;> exact nT_free (by omega) (by omega))
  | lst ks => exact join_free (by decide +kernel) (fun z hz => by
      obtain ⟨n, hn, rfl⟩ := List.mem_map.mp hz
      exact nT_free (by omega) (by omega))
theorem dT_split (d : Deed) : Txt.split (dT d) " " = (dTh d).map thT := by
  refine TL.split_join (y := " ") (s := 32) (S := []) (by decide +kernel) (by decide +kernel) (fun h => ?_) (fun z hz => ?_)
  · have := List.map_eq_nil_iff.mp h
    cases d <;> cases this
  · obtain ⟨t, ht, rfl⟩ := List.mem_map.mp hz
    obtain ⟨x, r, hx, hno, _⟩ := dTh_hd d
    by_cases h : ∃ y, t = .str y
    · obtain ⟨y, rfl⟩ := h
      have hw : y = x := by
        rw [hx] at ht
        rcases List.mem_cons.mp ht with e | e
        · injection e
        · exact absurd rfl (hno _ e y)
      subst hw
      show 32 ∉ TL.tl y
      cases d <;> (cases hx; decide +kernel)
    · exact thT_32 fun y e => h ⟨y, e⟩
theorem free59 (d : Deed) {s : Nat} (h : s = 59) : s ∉ TL.tl (dT d) := by
  subst h
  refine join_free (by decide +kernel) (fun z hz => ?_)
  obtain ⟨t, ht, rfl⟩ := List.mem_map.mp hz
  cases t with
  | str y =>
    show 59 ∉ TL.tl y
    cases d <;> (simp only [dTh, List.mem_cons, List.not_mem_nil, or_false] at ht; rcases ht with h | h <;> first | (cases h; decide +kernel) | (rcases h with h | h <;> first | (cases h; done) | (rcases h with h | h <;> cases h)) | (cases h; done))
  | int n => exact nT_free (by omega) (by omega)
  | fr p q => exact join_free (by decide +kernel) (fun z hz => by
      simp only [List.mem_cons, List.not_mem_nil, or_false] at hz
      rcases hz with rfl | rfl <;> exact nT_free (by omega) (by omega))
  | lst ks => exact join_free (by decide +kernel) (fun z hz => by
      obtain ⟨n, hn, rfl⟩ := List.mem_map.mp hz
      exact nT_free (by omega) (by omega))
theorem tkT_free {t : Tk} {s : Nat} (h : s = 59 ∨ s = 44) : s ∉ TL.tl (tkT t) := by
  rw [tkT_join]
  refine join_free (by rcases h with rfl | rfl <;> decide +kernel) (fun z hz => ?_)
  simp only [List.mem_cons, List.not_mem_nil, or_false] at hz
  rcases hz with rfl | rfl | rfl
  · exact nT_free (by omega) (by omega)
  · rcases h with rfl | rfl <;> decide +kernel
  · cases t.1 with
    | none => rcases h with rfl | rfl <;> decide +kernel
    | some z => exact nT_free (by omega) (by omega)
theorem scT_split (ts : List Tk) (ds : List Deed) : Txt.split (scT ts ds) "; " = tksT ts :: ds.map dT := by
  refine TL.split_join (y := "; ") (s := 59) (S := [32]) (by decide +kernel) (by decide +kernel) (List.cons_ne_nil _ _) (fun z hz => ?_)
  rcases List.mem_cons.mp hz with rfl | hz
  · refine join_free (by decide +kernel) (fun z hz => ?_)
    obtain ⟨t, _, rfl⟩ := List.mem_map.mp hz
    exact tkT_free (.inl rfl)
  · obtain ⟨d, _, rfl⟩ := List.mem_map.mp hz
    exact free59 d rfl
theorem tksT_split {ts : List Tk} (h : ts ≠ []) : Txt.split (tksT ts) ", " = ts.map tkT := by
  refine TL.split_join (y := ", ") (s := 44) (S := [32]) (by decide +kernel) (by decide +kernel) (fun e => h (List.map_eq_nil_iff.mp e)) (fun z hz => ?_)
  obtain ⟨t, _, rfl⟩ := List.mem_map.mp hz
  exact tkT_free (.inr rfl)
theorem scT_len {ts : List Tk} {ds : List Deed} (h : ∀ t ∈ ts, TkSm t) (h20 : ts.length ≤ 20) (hd : ∀ d ∈ ds, DSm d) (h60 : ds.length ≤ 60) : (scT ts ds).length ≤ 60000 := by
  have h1 := join_len "; " (tksT ts :: ds.map dT)
  have h2 := sum_deeds hd
  have h3 := tksT_len h h20
  have l4 : (("; " : Str)).length = 2 := rfl
  show (Txt.join "; " (tksT ts :: ds.map dT)).length ≤ 60000
  simp only [List.map_cons, List.sum_cons, List.length_cons] at h1
  rw [List.length_map (as := ds), l4] at h1
  omega
section
variable {base : Heap} {mg : Str → Option Value} {K : PySem.W.Frag} {w : World} {P : Program} {C CT fI fT fS pT pS : Addr}
theorem ok_read_thing {f : Addr} {fd : FuncData} (F : Fun K "read_thing" "read_thing" s_read_thing f fd) (mTu : mg "tuple" = none) (cJ : Cal P w K mg base 3 "read_integer" p_read_integer spRdJ) : FnOk P w K mg base CX0 4 f fd p_read_thing spRdTh := by
  refine F.ok sc_read_thing (fun vs H Q E h => ?_) (fun cdv A outer s H vs Q E hr h => ?_)
  · obtain ⟨t, rfl, _⟩ := h
    rfl
  · obtain ⟨t, rfl, no, ok, k⟩ := h
    have nd := sc_read_thing.nd
    have r3 : Room 3 _ := hr.mono (by decide)
    refine ⟨_, pss_cons (ps_if (pt_cmpR op_in_sign pe_str (pv 0) (by rfl)) (pss_one (ps_ret (pe_lc (own := [("part", 1)]) (g := gName 1) (tt := tYes) (te := tCall spRdJ [] E0 (tCons (tVar 1) tNil)) rfl nd (pi_list (pe_split (pv 0) pe_str)) (blkOk_by (N := n_read_thing) (sc := defScope s_read_thing) (by decide +kernel)) (fun _ _ _ _ _ => pg_name (i := 1) nd rfl (Or.inl rfl)) (fun _ _ _ _ _ => pts_nil) (fun _ _ _ _ _ => pe_c cJ r3 (pa_cons (pv 1) pa_nil))))) pss_nil)
      (pss_cons (ps_if (pt_cmpR op_in_sign pe_str (pv 0) (by rfl)) (pss_one (ps_ret (pe_callTy call_tuple_of (by rfl) mTu (by decide +kernel) (pa_cons (pe_lc (own := [("part", 1)]) (g := gName 1) (tt := tYes) (te := tCall spRdJ [] E0 (tCons (tVar 1) tNil)) rfl nd (pi_list (pe_split (pv 0) pe_str)) (blkOk_by (N := n_read_thing) (sc := defScope s_read_thing) (by decide +kernel)) (fun _ _ _ _ _ => pg_name (i := 1) nd rfl (Or.inl rfl)) (fun _ _ _ _ _ => pts_nil) (fun _ _ _ _ _ => pe_c cJ r3 (pa_cons (pv 1) pa_nil))) pa_nil)))) pss_nil)
      (pss_one (ps_ret (pe_c cJ r3 (pa_cons (pv 0) pa_nil))))), ?_⟩
    have wn : ∀ n, Sm n → n.natAbs ≤ 999999999 := fun n h => by unfold Sm at h; omega
    have l44 : (("," : Str)) = ⟨#[44]⟩ := by decide +kernel
    have l47 : (("/" : Str)) = ⟨#[47]⟩ := by decide +kernel
    have szt : (thT t).length + 2 ≤ sizeLine := Nat.le_trans (Nat.add_le_add_right (thT_len ok) 2) (by decide)
    cases t with
    | str x => exact no.elim
    | int n =>
      have hn := wn n ok
      refine ⟨_, rfl, 44, _, rfl, rfl, _, rfl, if_f (decide_eq_false (nT_free (s := 44) (by omega) (by omega))) ?_⟩
      refine ⟨_, rfl, 47, _, rfl, rfl, _, rfl, if_f (decide_eq_false (nT_free (s := 47) (by omega) (by omega))) ?_⟩
      exact ⟨_, rfl, n, rfl, hn, fun H1 e1 => k _ _ e1 (.int n)⟩
    | fr p q =>
      have hp := wn p ok.1
      have hq := wn q ok.2
      have f44 : 44 ∉ TL.tl (thT (.fr p q)) := join_free (by rw [l47]; decide) (fun z hz => by
        simp only [List.mem_cons, List.not_mem_nil, or_false] at hz
        rcases hz with rfl | rfl <;> exact nT_free (by omega) (by omega))
      have f47 : 47 ∈ TL.tl (thT (.fr p q)) := by
        show 47 ∈ TL.tl (Txt.join "/" [nT p, nT q])
        rw [TL.join_eq, TL.tl_join]
        exact List.mem_append_right _ (List.mem_append_left _ (by rw [l47]; exact List.mem_cons_self))
      have hsp : Txt.split (thT (.fr p q)) "/" = [p, q].map nT := TL.split_join (y := "/") (s := 47) (S := []) (by rw [l47]) (by decide +kernel) (by simp) (fun z hz => by
        simp only [List.map_cons, List.map_nil, List.mem_cons, List.not_mem_nil, or_false] at hz
        rcases hz with rfl | rfl <;> exact nT_free (by omega) (by omega))
      refine ⟨_, rfl, 44, _, rfl, rfl, _, rfl, if_f (decide_eq_false f44) ?_⟩
      refine ⟨_, rfl, 47, _, rfl, rfl, _, rfl, if_t (decide_eq_true f47) ?_⟩
      refine ⟨_, rfl, ⟨_, rfl⟩, _, _, rfl, rfl, by rw [l47]; rfl, szt, fun L hL => ?_⟩
      rw [hsp]
      have e1 := Evl.Ex.new (o := .lst (([p, q].map nT).map V.str)) hL
      refine ⟨L, rfl, ⟨_, SqL.of upd_same⟩, fun D hD => lc_dq [.int p, .int q] rfl (by show 2 ≤ 100000; decide) hD upd_same (fun _ => rfl) (fun i x d H2 Q' hi hd e2 k' => ?_) (fun vs H2 e2 g2 q2 => ?_)⟩
      · match i, hi, hd with
        | 0, hi, hd => cases hi; cases hd; exact ⟨_, rfl, p, rfl, hp, fun H3 e3 => k' _ _ e3 (.int p)⟩
        | 1, hi, hd => cases hi; cases hd; exact ⟨_, rfl, q, rfl, hq, fun H3 e3 => k' _ _ e3 (.int q)⟩
        | i + 2, hi, hd => cases hi
      have := dq_ints (ks := [p, q]) q2
      subst this
      refine ⟨D, _, rfl, .inl ⟨SqL.of g2, fun r hr => ?_⟩⟩
      have e3 := Evl.Ex.new (o := .tup (iV [p, q])) hr
      exact k _ _ ((e1.trans e2).trans e3) (.tup (nw_at (Evl.fresh_back (e1.trans e2) hr) upd_same) (.cons (.int p) (.cons (.int q) .nil)))
    | lst ks =>
      have no : 2 ≤ ks.length := no
      have okn : ∀ n ∈ ks, n.natAbs ≤ 999999999 := fun n h => wn n (ok.2 n h)
      have l20 := ok.1
      have hsp : Txt.split (thT (.lst ks)) "," = ks.map nT := TL.split_join (y := ",") (s := 44) (S := []) (by rw [l44]) (by decide +kernel) (fun h => by rw [List.map_eq_nil_iff.mp h] at no; exact absurd no (by decide)) (fun z hz => by
        obtain ⟨n, hn, rfl⟩ := List.mem_map.mp hz
        exact nT_free (by omega) (by omega))
      have f44 : 44 ∈ TL.tl (thT (.lst ks)) := by
        show 44 ∈ TL.tl (Txt.join "," (ks.map nT))
        match ks, no with
        | a :: b :: r, _ =>
          rw [TL.join_eq, TL.tl_join]
          exact List.mem_append_right _ (List.mem_append_left _ (by rw [l44]; exact List.mem_cons_self))
      refine ⟨_, rfl, 44, _, rfl, rfl, _, rfl, if_t (decide_eq_true f44) ?_⟩
      refine ⟨_, rfl, ⟨_, rfl⟩, _, _, rfl, rfl, by rw [l44]; rfl, szt, fun L hL => ?_⟩
      rw [hsp]
      have e1 := Evl.Ex.new (o := .lst ((ks.map nT).map V.str)) hL
      refine ⟨L, rfl, ⟨_, SqL.of upd_same⟩, fun D hD => lc_dq (ks.map .int) (by rw [List.length_map, List.length_map, List.length_map]) (by rw [List.length_map]; omega) hD upd_same (fun _ => rfl) (fun i x d H2 Q' hi hd e2 k' => ?_) (fun vs H2 e2 g2 q2 => ?_)⟩
      · rw [List.getElem?_map, List.getElem?_map] at hi
        rw [List.getElem?_map] at hd
        cases hn : ks[i]? with
        | none => rw [hn] at hi; cases hi
        | some n =>
          rw [hn] at hi hd
          cases hi; cases hd
          exact ⟨_, rfl, n, rfl, okn n (List.mem_of_getElem? hn), fun H3 e3 => k' _ _ e3 (.int n)⟩
      exact k _ _ (e1.trans e2) (.lst (nw_at (Evl.fresh_back e1 hD) g2) (q2.go fun b o h => by
        have h' := wo_ex _ _ h
        exact nw_at (Evl.fresh_back e1 (nw_none h')) (Nw.ex _ _ h')))
theorem ok_read_tank {f : Addr} {fd : FuncData} (F : Fun K "read_tank" "read_tank" s_read_tank f fd) (mL : mg "len" = none) (cJ : Cal P w K mg base 3 "read_integer" p_read_integer spRdJ) : FnOk P w K mg base CX0 4 f fd p_read_tank spRdTk := by
  refine F.ok sc_read_tank (fun vs H Q E h => ?_) (fun cdv A outer s H vs Q E hr h => ?_)
  · obtain ⟨t, rfl, _⟩ := h
    rfl
  · obtain ⟨t, rfl, sm, k⟩ := h
    have nd := sc_read_tank.nd
    have r3 : Room 3 _ := hr.mono (by decide)
    refine ⟨_, pss_cons (ps_set (i := 1) nd rfl (Or.inl rfl) (pe_split (pv 0) pe_str))
      (pss_cons (ps_if (PW.pt (pw_or (pt_cmpR op_ne (pe_callB call_len_seq (by rfl) mL PySem.boot_len (pa_cons (pv 1) pa_nil)) pe_int (nomark _)) (pw_or1 (pt_cmpR op_ne (pe_ix ix_list (pv 1) pe_int (fun _ _ => rfl)) pe_str (nomark _))))) (pss_one ps_never) pss_nil)
      (pss_cons (ps_set (i := 2) nd rfl (Or.inl rfl) (pe_ifExp (pt_cmpR op_eq (pe_ix ix_list (pv 1) pe_int (fun _ _ => rfl)) pe_str (nomark _)) pe_non (pe_c cJ r3 (pa_cons (pe_ix ix_list (pv 1) pe_int (fun _ _ => rfl)) pa_nil))))
      (pss_one (ps_ret (pe_tup (pa_cons (pv 2) (pa_cons (pe_c cJ r3 (pa_cons (pe_ix ix_list (pv 1) pe_int (fun _ _ => rfl)) pa_nil)) pa_nil))))))), ?_⟩
    obtain ⟨tw, ta⟩ := t
    have l32 : ((" " : Str)) = ⟨#[32]⟩ := by decide +kernel
    have ta9 : ta.natAbs ≤ 999999999 := by have := sm.2; unfold Sm at this; omega
    have z9 : ∀ z, tw = some z → z.natAbs ≤ 999999999 := fun z h => by have := sm.1 z h; unfold Sm at this; omega
    have lt : (tkT (tw, ta)).length + 2 ≤ sizeLine := Nat.le_trans (Nat.add_le_add_right (tkT_len sm) 2) (by decide)
    have hsp : Txt.split (tkT (tw, ta)) " " = [nT ta, "in", wT tw] := by
      rw [tkT_join]
      refine TL.split_join (y := " ") (s := 32) (S := []) (by rw [l32]) (by decide +kernel) (List.cons_ne_nil _ _) (fun z hz => ?_)
      simp only [List.mem_cons, List.not_mem_nil, or_false] at hz
      rcases hz with rfl | rfl | rfl
      · exact nT_free (by omega) (by omega)
      · decide +kernel
      · cases tw with
        | none => decide +kernel
        | some z => exact nT_free (by omega) (by omega)
    refine ⟨_, rfl, ⟨_, rfl⟩, _, _, rfl, rfl, by rw [l32]; rfl, lt, fun L hL => ?_⟩
    rw [hsp]
    obtain ⟨wt, hwt⟩ : ∃ wt : Str, wt = wT tw := ⟨_, rfl⟩
    rw [← hwt]
    have e1 := Evl.Ex.new (o := .lst (([nT ta, "in", wt] : List Str).map V.str)) hL
    have g1 := upd_same (H := H) (a := L) (o := .lst (([nT ta, "in", wt] : List Str).map V.str))
    generalize upd H L (.lst (([nT ta, "in", wt] : List Str).map V.str)) = H1 at e1 g1
    have two : 2 ≤ sizeLine := by show 2 ≤ sizeLine; decide
    refine ⟨_, rfl, L, _, rfl, .inl (SqL.of g1), rfl, _, rfl, if_f rfl ?_⟩
    refine ⟨_, rfl, L, _, _, _, rfl, rfl, SqL.of g1, atI_nat (j := 1) rfl, rfl, _, rfl, if_f (by decide +kernel) ?_⟩
    refine ⟨_, rfl, L, _, _, _, rfl, rfl, SqL.of g1, atI_nat (j := 2) rfl, rfl, _, rfl, ?_⟩
    have fin : ∀ H2, Evl.Ex H1 H2 → ∀ q, H2 q = none → Q (.ref q) (upd H2 q (.tup [wV tw, .int ta])) := fun H2 e2 q hq => by
      have hq0 := Evl.fresh_back (e1.trans e2) hq
      refine k _ _ ((e1.trans e2).trans (Evl.Ex.new hq)) (.tup (nw_at hq0 upd_same) (.cons ?_ (.cons (.int ta) .nil)))
      cases tw with
      | none => exact .non
      | some z => exact .int z
    cases tw with
    | none =>
      subst hwt
      refine if_t (by decide +kernel) ⟨_, rfl, _, rfl, L, _, _, _, rfl, rfl, SqL.of g1, atI_nat (j := 0) rfl, ta, rfl, ta9, fun H2 e2 => ⟨two, fun q hq => fin H2 e2 q hq⟩⟩
    | some z =>
      have hne : V.str wt ≠ V.str ("w" : Str) := fun h => by
        injection h with h
        have : 119 ∉ TL.tl wt := by rw [hwt]; exact nT_free (by omega) (by omega)
        rw [h] at this
        exact this (by decide +kernel)
      have hwt : wt = nT z := hwt
      refine if_f (decide_eq_false hne) ⟨_, rfl, L, _, _, _, rfl, rfl, SqL.of g1, atI_nat (j := 2) rfl, z, by rw [hwt]; rfl, z9 z rfl, fun H2 e2 => ?_⟩
      exact ⟨_, rfl, _, rfl, L, _, _, _, rfl, rfl, SqL.of (e2 _ _ g1), atI_nat (j := 0) rfl, ta, rfl, ta9, fun H3 e3 => ⟨two, fun q hq => fin H3 (e2.trans e3) q hq⟩⟩
theorem ok_read_step {f : Addr} {fd : FuncData} (F : Fun K "read_step" "read_step" s_read_step f fd) (mTu : mg "tuple" = none) (cTh : Cal P w K mg base 4 "read_thing" p_read_thing spRdTh) : FnOk P w K mg base CX0 5 f fd p_read_step spRdSt := by
  refine F.ok sc_read_step (fun vs H Q E h => ?_) (fun cdv A outer s H vs Q E hr h => ?_)
  · obtain ⟨t, rfl, _⟩ := h
    rfl
  · obtain ⟨d, rfl, sm, no, k⟩ := h
    have nd := sc_read_step.nd
    have r4 : Room 4 _ := hr.mono (by decide)
    refine ⟨_, pss_cons (ps_asg (pe_split (pv 0) pe_str) (pg_star rfl (pgs_cons (pg_name (i := 1) nd rfl (Or.inl rfl)) (pgs_cons (pg_name (i := 2) nd rfl (Or.inl rfl)) pgs_nil))))
      (pss_one (ps_ret (pe_callTy call_tuple_of (by rfl) mTu (by decide +kernel) (pa_cons (pe_op op_cat (pe_lst (pa_cons (pv 1) pa_nil)) (pe_lc (own := [("part", 3)]) (g := gName 3) (tt := tYes) (te := tCall spRdTh [] E0 (tCons (tVar 3) tNil)) rfl nd (pi_list (pv 2)) (blkOk_by (N := n_read_step) (sc := defScope s_read_step) (by decide +kernel)) (fun _ _ _ _ _ => pg_name (i := 3) nd rfl (Or.inl rfl)) (fun _ _ _ _ _ => pts_nil) (fun _ _ _ _ _ => pe_c cTh r4 (pa_cons (pv 3) pa_nil)))) pa_nil)))), ?_⟩
    obtain ⟨x, r, hx, hno, hne⟩ := dTh_hd d
    have h4 := dTh_len d
    have smr : ∀ t ∈ r, OkTh t := fun t ht => sm t (by rw [hx]; exact List.mem_cons_of_mem _ ht)
    have nor : ∀ t ∈ r, ThNo t := fun t ht => no t (by rw [hx]; exact ht)
    have lr : r.length ≤ 3 := by rw [hx, List.length_cons] at h4; omega
    have ld : (dT d).length + 2 ≤ sizeLine := Nat.le_trans (Nat.add_le_add_right (dT_len sm) 2) (by decide)
    refine ⟨_, rfl, ⟨_, rfl⟩, _, _, rfl, rfl, rfl, ld, fun L hL => ?_⟩
    rw [dT_split, hx]
    have e1 := Evl.Ex.new (o := .lst (((Thg.str x :: r).map thT).map V.str)) hL
    refine ⟨L, .str x, (r.map thT).map V.str, rfl, SqL.of upd_same, fun p hp => ⟨_, _, rfl, _, _, rfl, rfl, ?_⟩⟩
    have e2 := Evl.Ex.new (o := .lst ((r.map thT).map V.str)) hp
    have g2 := upd_same (H := upd H L (.lst (((Thg.str x :: r).map thT).map V.str))) (a := p) (o := .lst ((r.map thT).map V.str))
    generalize upd (upd H L (.lst (((Thg.str x :: r).map thT).map V.str))) p (.lst ((r.map thT).map V.str)) = H2 at e2 g2
    have e02 := e1.trans e2
    refine ⟨_, rfl, by show 1 ≤ sizeLine; decide, fun b hb => ?_⟩
    have e3 := Evl.Ex.new (o := .lst [.str x]) hb
    have g3 := upd_same (H := H2) (a := b) (o := .lst [.str x])
    refine ⟨_, rfl, p, rfl, ⟨_, SqL.of (e3 _ _ g2)⟩, fun D hD => lc_dq (r.map thD) (by rw [List.length_map, List.length_map, List.length_map]) (by rw [List.length_map]; omega) hD (e3 _ _ g2) (fun _ => rfl) (fun i y z H4 Q' hi hz e4 k' => ?_) (fun vs H4 e4 g4 q4 => ?_)⟩
    · rw [List.getElem?_map, List.getElem?_map] at hi
      rw [List.getElem?_map] at hz
      cases ht : r[i]? with
      | none => rw [ht] at hi; cases hi
      | some t =>
        rw [ht] at hi hz
        cases hi; cases hz
        have mt := List.mem_of_getElem? ht
        exact ⟨_, rfl, t, rfl, nor t mt, smr t mt, k'⟩
    have kl := q4.len
    rw [List.length_map] at kl
    refine ⟨b, D, _, _, rfl, rfl, e4 _ _ g3, g4, ?_, fun p3 hp3 => ?_⟩
    · rw [kl]
      exact Nat.le_trans (show 1 + r.length ≤ 4 by omega) (by decide)
    have e5 := Evl.Ex.new (o := .lst ([V.str x] ++ vs)) hp3
    refine ⟨p3, _, rfl, .inl ⟨SqL.of upd_same, fun q hq => ?_⟩⟩
    have e6 := Evl.Ex.new (o := .tup ([V.str x] ++ vs)) hq
    have e06 := (((e02.trans e3).trans e4).trans e5)
    refine k _ _ (e06.trans e6) ?_
    rw [dD_dTh, hx]
    refine .tup (nw_at (Evl.fresh_back e06 hq) upd_same) (.cons (.str x) (q4.go fun c o h => ?_))
    have h' := wo_ex _ _ h
    exact nw_at (Evl.fresh_back (e02.trans e3) (nw_none h')) (e6 _ _ (e5 _ _ (Nw.ex _ _ h')))
theorem ok_read_script {f : Addr} {fd fdI : FuncData} (F : Fun K "read_script" "read_script" s_read_script f fd) (mTE : mg "TankError" = some (.ref CT)) (mC : mg "Script" = some (.ref C)) (c : ScC K C fI fT fS pT pS) (FI : FnOk P w K mg base CX0 5 fI fdI p_Sc_init (spScI C)) (bI : Binds K fdI p_Sc_init []) (cTk : Cal P w K mg base 4 "read_tank" p_read_tank spRdTk) (cSt : Cal P w K mg base 5 "read_step" p_read_step spRdSt) : FnOk P w K mg base CX0 7 f fd p_read_script (spRdSc C) := by
  refine F.ok sc_read_script (fun vs H Q E h => ?_) (fun cdv A outer s H vs Q E hr h => ?_)
  · obtain ⟨ts, ds, rfl, _⟩ := h
    rfl
  · obtain ⟨ts, ds, rfl, ok, tsm, dsm, k⟩ := h
    have nd := sc_read_script.nd
    have r4 : Room 4 _ := hr.mono (by decide)
    have r5 : Room 5 _ := hr.mono (by decide)
    have r6 : Room 6 _ := hr.mono (by decide)
    refine ⟨_, pss_cons (ps_asg (pe_split (pv 0) pe_str) (pg_star rfl (pgs_cons (pg_name (i := 1) nd rfl (Or.inl rfl)) (pgs_cons (pg_name (i := 2) nd rfl (Or.inl rfl)) pgs_nil))))
      (pss_one (ps_try_only (tb := fun W => tSeq (tAsg (tLc (iList K (tM1 rSpl (tVar 1) (tC (.str ", ")))) (gName 4) tYes (tCall spRdTk [] E0 (tCons (tVar 4) tNil)) [4]) (gName 3)) (tRet (tMake C (spScI C) [] E0 (tCons (tVar 3) (tCons (tLc (iList K (tVar 2)) (gName 4) tYes (tCall spRdSt [] E0 (tCons (tVar 4) tNil)) [4]) tNil))))) (ts := fun _ _ _ => tNever) (c := .ref CT) (Wout := fun _ _ _ _ => False) rfl rfl ⟨rfl, by decide, .inl mTE⟩ takes0 (fun W pn xe tk po => pss_cons (ps_setLc (i := 3) (own := [("part", 4)]) (g := gName 4) (tt := tYes) (te := tCall spRdTk [] E0 (tCons (tVar 4) tNil)) rfl nd rfl rfl (sw_true rfl rfl rfl (by decide +kernel)) (pi_list (pe_split (pv 1) pe_str)) (blkOk_by (N := n_read_script) (sc := defScope s_read_script) (by decide +kernel)) (fun _ _ _ _ _ => pg_name (i := 4) nd rfl (Or.inl rfl)) (fun _ _ _ _ _ => pts_nil) (fun _ _ _ _ _ => pe_c cTk r4 (pa_cons (pv 4) pa_nil)))
        (pss_one (ps_ret (pe_make c.mkI FI r6 (by rfl) mC bI .nil pass0 (pa_cons (pv 3) (pa_cons (pe_lc (own := [("part", 4)]) (g := gName 4) (tt := tYes) (te := tCall spRdSt [] E0 (tCons (tVar 4) tNil)) rfl nd (pi_list (pv 2)) (blkOk_by (N := n_read_script) (sc := defScope s_read_script) (by decide +kernel)) (fun _ _ _ _ _ => pg_name (i := 4) nd rfl (Or.inl rfl)) (fun _ _ _ _ _ => pts_nil) (fun _ _ _ _ _ => pe_c cSt r5 (pa_cons (pv 4) pa_nil))) pa_nil)))))) (fun _ _ _ _ _ _ _ => pss_one ps_never))), ?_⟩
    have l20 := ok.1.1
    have l60 := ok.2.1
    have ne : ts ≠ [] := fun h => by
      have := ok.1.2.2
      rw [h] at this
      cases this
    have nos : ∀ d ∈ ds, ∀ t ∈ (dTh d).drop 1, ThNo t := fun d hd t ht => by
      have o := ok.2.2 d hd
      cases d with
      | op ks =>
        simp only [dTh, List.drop_succ_cons, List.drop_zero, List.mem_cons, List.not_mem_nil, or_false] at ht
        subst ht
        exact o.1
      | po a b => simp only [dTh, List.drop_succ_cons, List.drop_zero, List.mem_cons, List.not_mem_nil, or_false] at ht; rcases ht with rfl | rfl <;> trivial
      | sc a b c => simp only [dTh, List.drop_succ_cons, List.drop_zero, List.mem_cons, List.not_mem_nil, or_false] at ht; rcases ht with rfl | rfl <;> trivial
      | mv a b c e => simp only [dTh, List.drop_succ_cons, List.drop_zero, List.mem_cons, List.not_mem_nil, or_false] at ht; rcases ht with rfl | rfl | rfl <;> trivial
      | un a b => simp only [dTh, List.drop_succ_cons, List.drop_zero, List.mem_cons, List.not_mem_nil, or_false] at ht; rcases ht with rfl | rfl <;> trivial
    have ls : (scT ts ds).length + 2 ≤ sizeLine := Nat.le_trans (Nat.add_le_add_right (scT_len tsm l20 dsm l60) 2) (by decide)
    have lt : (tksT ts).length + 2 ≤ sizeLine := Nat.le_trans (Nat.add_le_add_right (tksT_len tsm l20) 2) (by decide)
    refine ⟨_, rfl, ⟨_, rfl⟩, _, _, rfl, rfl, rfl, ls, fun L hL => ?_⟩
    rw [scT_split]
    have e1 := Evl.Ex.new (o := .lst ((tksT ts :: ds.map dT).map V.str)) hL
    refine ⟨L, .str (tksT ts), (ds.map dT).map V.str, rfl, SqL.of upd_same, fun p hp => ⟨_, _, rfl, _, _, rfl, rfl, ?_⟩⟩
    have e2 := Evl.Ex.new (o := .lst ((ds.map dT).map V.str)) hp
    have g2 := upd_same (H := upd H L (.lst ((tksT ts :: ds.map dT).map V.str))) (a := p) (o := .lst ((ds.map dT).map V.str))
    generalize upd (upd H L (.lst ((tksT ts :: ds.map dT).map V.str))) p (.lst ((ds.map dT).map V.str)) = H2 at e2 g2
    have e02 := e1.trans e2
    refine ⟨_, rfl, ⟨_, rfl⟩, _, _, rfl, rfl, rfl, lt, fun M hM => ?_⟩
    rw [tksT_split ne]
    have e3 := Evl.Ex.new (o := .lst ((ts.map tkT).map V.str)) hM
    have g3 := upd_same (H := H2) (a := M) (o := .lst ((ts.map tkT).map V.str))
    refine ⟨M, rfl, ⟨_, SqL.of g3⟩, fun D hD => lc_dq (ts.map tkD) (by rw [List.length_map, List.length_map, List.length_map]) (by rw [List.length_map]; omega) hD g3 (fun _ => rfl) (fun i y z H4 Q' hi hz e4 k' => ?_) (fun vs H4 e4 g4 q4 => ?_)⟩
    · rw [List.getElem?_map, List.getElem?_map] at hi
      rw [List.getElem?_map] at hz
      cases ht : ts[i]? with
      | none => rw [ht] at hi; cases hi
      | some t =>
        rw [ht] at hi hz
        cases hi; cases hz
        have mt := List.mem_of_getElem? ht
        exact ⟨_, rfl, t, rfl, tsm t mt, k'⟩
    have e04 := (e02.trans e3).trans e4
    have g24 := e4 _ _ (e3 _ _ g2)
    refine ⟨_, rfl, _, rfl, p, rfl, ⟨_, SqL.of g24⟩, fun D2 hD2 => lc_dq (ds.map dD) (by rw [List.length_map, List.length_map, List.length_map]) (by rw [List.length_map]; omega) hD2 g24 (fun _ => rfl) (fun i y z H5 Q' hi hz e5 k' => ?_) (fun us H5 e5 g5 q5 => ?_)⟩
    · rw [List.getElem?_map, List.getElem?_map] at hi
      rw [List.getElem?_map] at hz
      cases ht : ds[i]? with
      | none => rw [ht] at hi; cases hi
      | some t =>
        rw [ht] at hi hz
        cases hi; cases hz
        have mt := List.mem_of_getElem? ht
        exact ⟨_, rfl, t, rfl, dsm t mt, nos t mt, k'⟩
    have e05 := e04.trans e5
    intro y' dy hy' hdy' hne
    have e6 : Evl.Ex H5 (upd (upd H5 dy (.own y')) y' (.ins C dy [])) := fun b o h => Eq.trans (upd_ne (ne_of_none' h hy')) (Eq.trans (upd_ne (ne_of_none' h hdy')) h)
    have d1 : Dq H5 (.ref D) (.list (ts.map tkD)) := .lst (e5 _ _ g4) (q4.go fun c o h => e5 _ _ (Nw.ex _ _ (wo_ex _ _ h)))
    have d2 : Dq H5 (.ref D2) (.list (ds.map dD)) := .lst g5 (q5.go fun c o h => Nw.ex _ _ (wo_ex _ _ h))
    refine ⟨y', dy, .ref D, .ref D2, ts, ds, rfl, upd_same, d1.go e6, d2.go e6, ok, fun v' u' fs' H' b hyy g1' g2' d1' d2' g0 => ⟨rfl, ?_⟩⟩
    have hyH := Evl.fresh_back e05 hy'
    have em : Evl.Ex (Nw (upd (upd H5 dy (.own y')) y' (.ins C dy [])) H') (Nw H H') := fun c o h => nw_at (Evl.fresh_back (e05.trans e6) (nw_none h)) (Nw.ex _ _ h)
    refine k y' H' hyH (fun cc o h => ?_) ⟨dy, fs', v', u', nw_at hyH hyy, g1', g2', d1'.go em, d2'.go em, g0⟩
    have h5 := e05 _ _ h
    exact b _ _ (ne_of_none' h5 hy') (e6 _ _ h5)
end
end V2


namespace V2
open PySem L2
open PySem.Spec PyProof.Rows
/-! ## draws of the purse laws -/
def spSh4 : Sp := fun vs H Q _ => ∃ x y : Int, vs = [.int x, .int y] ∧ x.natAbs < 2 ^ 190 ∧ y.natAbs < 2 ^ 190 ∧ Evl.RetV (.int (Int.gcd x y : Int)) H Q
def spRa4 : Sp := fun vs H Q _ => ∃ x y : Int, vs = [.int x, .int y] ∧ x.natAbs < 2 ^ 190 ∧ y.natAbs < 2 ^ 190 ∧ 0 < y ∧ RetU [.int (fr x y).1, .int (fr x y).2] H Q
theorem bn190 {y : Int} (y0 : 0 ≤ y) (y1 : y ≤ 1000000000000000) : y.natAbs < 2 ^ 190 :=
  Nat.lt_of_lt_of_le (m := 2 ^ 50) (Nat.lt_of_le_of_lt (show y.natAbs ≤ 1000000000000000 by omega) (by decide)) (Nat.pow_le_pow_right (by decide) (by decide))
def spPt4 : Sp := fun vs H Q _ => ∃ (s : Addr) (m : Int) (n : Nat), vs = [.ref s, .int m] ∧ 0 < m ∧ m ≤ 1000 ∧ Sk H s n ∧ n ≤ 90000 ∧ ∀ (t : Addr) (p q : Int) (H' : Hp), But s H H' → Sk H' s (n + 2) → H t = none → H' t = some (.tup [.int p, .int q]) → Pt p q → q ≤ 1001 → Q (.ref t) H'
def spScr (C : Addr) : Sp := fun vs H Q _ => ∃ (t : Addr) (ts : List Tk) (ds : List Deed), vs = [.ref t] ∧ ShAt H t ts ds ∧ okS ts ds ∧ ∀ (y : Addr) (H' : Hp), H y = none → Evl.Ex H H' → ScAt (Nw H H') C y ts ds → Q (.ref y) H'
section
variable {base : Heap} {mg : Str → Option Value} {K : PySem.W.Frag} {w : World} {P : Program} {C fI fT fS pT pS : Addr}
theorem ok_shared4 {f : Addr} {fd : FuncData} (F : Fun K "_law_shared" "_law_shared" s_l_shared f fd) (T : T0 mg) (mR : mg "range" = none) : FnOk P w K mg base CX0 1 f fd p_l_shared spSh4 := by
  refine F.ok sc_l_shared (fun vs H Q E h => ?_) (fun cdv A outer s H vs Q E hr h => ?_)
  · obtain ⟨x, y, rfl, _⟩ := h
    rfl
  · obtain ⟨x, y, rfl, hx, hy, k⟩ := h
    have nd := sc_l_shared.nd
    refine ⟨_, pss_cons (ps_par (i := 0) (j := 1) rfl nd rfl rfl (by decide) rfl rfl (pa_cons (pe_callB call_abs (by rfl) T.abs (by decide +kernel) (pa_cons (pv 0) pa_nil)) (pa_cons (pe_callB call_abs (by rfl) T.abs (by decide +kernel) (pa_cons (pv 1) pa_nil)) pa_nil)) (by rfl))
      (pss_cons (ps_for PassesOwn.never rfl (pi_range1 (by rfl) mR (pa_cons pe_int pa_nil)) (pg_name (i := 2) nd rfl (Or.inl rfl))
        (pss_cons (ps_if (pt_cmpR op_eq (pv 1) pe_int (nomark _)) (pss_one (ps_ret (pv 0))) pss_nil)
        (pss_one (ps_par (i := 0) (j := 1) rfl nd rfl rfl (by decide) rfl rfl (pa_cons (pv 1) (pa_cons (pe_op op_mod (pe_callTy call_int1 (by rfl) T.int (by decide +kernel) (pa_cons (pv 0) pa_nil)) (pe_callTy call_int1 (by rfl) T.int (by decide +kernel) (pa_cons (pv 1) pa_nil))) pa_nil)) (by rfl)))))
      (pss_one (ps_ret (pv 0)))), ?_⟩
    have ab : ∀ z : Int, (if z < 0 then -z else z) = (z.natAbs : Int) := fun z => by split <;> omega
    refine ⟨_, rfl, _, rfl, _, rfl, _, rfl, _, _, rfl, ?_⟩
    rw [ab, ab]
    refine ⟨400, rfl, by decide, by decide, for_range (n := 400) (fun i σ H' => H' = H ∧ ∃ (l r : Nat) (v : Option V), σ = [some (.int l), some (.int r), v] ∧ Euc 190 x.natAbs y.natAbs i l r)
      ⟨rfl, _, _, none, rfl, euc_0 hx hy⟩ ?_ ?_⟩
    · rintro i σ H' hi ⟨rfl, l, r, v, rfl, he⟩
      (refine ⟨_, rfl, rfl, _, rfl, ?_⟩)
      refine ite2 (fun q => ?_) (fun q => ?_)
      · have q1 : r = 0 := by
          have := of_decide_eq_true q
          injection this with h1
          omega
        subst q1
        refine ⟨_, rfl, ?_⟩
        have e : (l : Int) = (Int.gcd x y : Int) := by rw [euc_val he]; rfl
        rw [e]
        exact k _ (Evl.Ex.refl _)
      · have q1 : 0 < r := by
          rcases Nat.eq_zero_or_pos r with e | e
          · subst e; exact absurd (by decide) q
          · exact e
        refine ⟨_, rfl, _, rfl, .inl ⟨_, rfl, _, rfl, .inl ⟨_, rfl, _, _, rfl, rfl, (by show (0 : Int) < (r : Int); omega), _, _, rfl, ?_⟩⟩⟩
        exact ⟨rfl, r, l % r, _, rfl, euc_s he q1⟩
    · rintro σ H' ⟨rfl, l, r, v, rfl, he⟩
      have := euc_end he (by decide)
      subst this
      refine ⟨_, rfl, ?_⟩
      have e : (l : Int) = (Int.gcd x y : Int) := by rw [euc_val he]; rfl
      rw [e]
      exact k _ (Evl.Ex.refl _)
theorem ok_ratio4 {f : Addr} {fd : FuncData} (F : Fun K "_law_ratio" "_law_ratio" s_l_ratio f fd) (T : T0 mg) (cS : Cal P w K mg base 1 "_law_shared" p_l_shared spSh4) : FnOk P w K mg base CX0 2 f fd p_l_ratio spRa4 := by
  refine F.ok sc_l_ratio (fun vs H Q E h => ?_) (fun cdv A outer s H vs Q E hr h => ?_)
  · obtain ⟨x, y, rfl, _⟩ := h
    rfl
  · obtain ⟨x, y, rfl, hx, hy, y0, k⟩ := h
    have nd := sc_l_ratio.nd
    refine ⟨_, pss_cons (ps_set (i := 2) nd rfl (Or.inl rfl) (pe_op op_mul (pe_c cS hr (pa_cons (pv 0) (pa_cons (pv 1) pa_nil))) (pe_op op_sub pe_int (pe_op op_mul pe_int (pe_callTy call_int1 (by rfl) T.int (by decide +kernel) (pa_cons (pe_cmpR op_lt (pv 1) pe_int (nomark _)) pa_nil))))))
      (pss_one (ps_ret (pe_tup (pa_cons (pe_op op_fdivW (pv 0) (pv 2)) (pa_cons (pe_op op_fdivW (pv 1) (pv 2)) pa_nil))))), ?_⟩
    have e0 : (1 - 2 * (if decide (y < 0) = true then (1 : Int) else 0)) = 1 := by rw [decide_eq_false (by omega)]; rfl
    have g := gcd_pos (u := x) y0
    have gb : (Int.gcd x y : Int).natAbs < 2 ^ 190 := by
      rw [Int.natAbs_natCast]
      exact Nat.lt_of_le_of_lt (Nat.gcd_le_right _ (by omega)) hy
    have eG : (Int.gcd x y : Int) * (1 - 2 * (if decide (y < 0) = true then (1 : Int) else 0)) = (Int.gcd x y : Int) := by rw [e0, Int.mul_one]
    have cD : CDivW x ((Int.gcd x y : Int) * (1 - 2 * (if decide (y < 0) = true then (1 : Int) else 0))) := by rw [eG]; exact wide_div g gb (by decide) (by decide)
    refine ⟨_, rfl, _, rfl, x, y, rfl, hx, hy, fun H2 e2 => ?_⟩
    refine ⟨_, rfl, _, _, rfl, rfl, .inr ⟨_, rfl, 2, _, rfl, rfl, .inl ⟨by decide, by decide⟩, 1, _, rfl, rfl, _, _, rfl, rfl, .inr ⟨by rw [e0]; decide, by rw [e0]; decide⟩, ?_⟩⟩
    refine ⟨_, rfl, _, rfl, _, _, rfl, rfl, cD, _, rfl, _, rfl, _, _, rfl, rfl, cD, (by show 2 ≤ sizeLine; decide), fun p hp => ?_⟩
    refine k p _ (Evl.fresh_back e2 hp) (e2.trans (Evl.Ex.new hp)) ?_
    rw [upd_same]
    show some (HO.tup [V.int (x / ((Int.gcd x y : Int) * (1 - 2 * (if decide (y < 0) = true then (1 : Int) else 0)))), V.int (y / ((Int.gcd x y : Int) * (1 - 2 * (if decide (y < 0) = true then (1 : Int) else 0))))]) = _
    rw [eG]
    rfl
theorem ok_part4 {f : Addr} {fd : FuncData} (F : Fun K "_law_drawn_part" "_law_drawn_part" s_l_drawn_part f fd) (cC : Cal P w K mg base 1 "_law_coin" p_l_coin spCoin) (cR : Cal P w K mg base 2 "_law_ratio" p_l_ratio spRa4) : FnOk P w K mg base CX0 3 f fd p_l_drawn_part spPt4 := by
  refine F.ok sc_l_drawn_part (fun vs H Q E h => ?_) (fun cdv A outer s H vs Q E hr h => ?_)
  · obtain ⟨s, m, n, rfl, _⟩ := h
    rfl
  · obtain ⟨sk, m, n, rfl, m0, m1, hS, hn, k⟩ := h
    have nd := sc_l_drawn_part.nd
    have r1 : Room 1 _ := hr.mono (by decide)
    refine ⟨_, pss_cons (ps_set (i := 2) nd rfl (Or.inl rfl) (pe_op op_add pe_int (pe_c cC r1 (pa_cons (pv 0) (pa_cons (pv 1) pa_nil)))))
      (pss_one (ps_ret (pe_c cR hr (pa_cons (pe_c cC r1 (pa_cons (pv 0) (pa_cons (pe_op op_add (pv 2) pe_int) pa_nil))) (pa_cons (pv 2) pa_nil))))), ?_⟩
    have n200 : (2 : Nat) ^ 200 = 1606938044258990275541962092341162602522202993782792835301376 := by decide
    refine ⟨_, rfl, _, rfl, sk, m, n, rfl, hS, by omega, m0, by rw [n200]; omega, fun r H1 r0 r1' b1 s1 z1 => ⟨_, _, rfl, rfl, ?_⟩⟩
    refine ⟨_, rfl, _, rfl, _, _, rfl, rfl, sk, 1 + r + 1, n + 1, rfl, s1, by omega, by omega, by rw [n200]; omega, fun x H2 x0 x1 b2 s2 z2 => ⟨_, rfl, x, 1 + r, rfl, ?_, ?_, by omega, fun t H3 ht e3 h3 => ?_⟩⟩
    · exact Nat.lt_of_le_of_lt (show x.natAbs ≤ 1001 by omega) (Nat.lt_of_lt_of_le (show 1001 < 2 ^ 10 by decide) (Nat.pow_le_pow_right (by decide) (by decide)))
    · exact Nat.lt_of_le_of_lt (show (1 + r).natAbs ≤ 1000 by omega) (Nat.lt_of_lt_of_le (show 1000 < 2 ^ 10 by decide) (Nat.pow_le_pow_right (by decide) (by decide)))
    · have tn : H t = none := by
        cases e : H t with
        | none => rfl
        | some o =>
          have h1 := b1 t o (sk_ne s2 ht) e
          have h2 := b2 t o (sk_ne s2 ht) h1
          rw [ht] at h2
          cases h2
      exact k t _ _ H3 ((b1.trans b2).trans (But.of_ex e3)) (s2.ex e3) tn h3 (fr_part (by omega) x0 (by omega) (by omega)) (by have := fr_abs2 (a := x) (b := 1 + r) (by omega); omega)
theorem ok_pair4 {f : Addr} {fd : FuncData} (F : Fun K "_law_pair" "_law_pair" s_l_pair f fd) (T : T0 mg) (cC : Cal P w K mg base 1 "_law_coin" p_l_coin spCoin) : FnOk P w K mg base CX0 2 f fd p_l_pair spTwo2 := by
  refine F.ok sc_l_pair (fun vs H Q E h => ?_) (fun cdv A outer s H vs Q E hr h => ?_)
  · obtain ⟨s, m, n, rfl, _⟩ := h
    rfl
  · obtain ⟨sk, m, n, rfl, m0, m1, hS, hn, k⟩ := h
    have nd := sc_l_pair.nd
    have two : 2 ≤ sizeLine := by show 2 ≤ sizeLine; decide
    refine ⟨_, pss_cons (ps_set (i := 2) nd rfl (Or.inl rfl) (pe_c cC hr (pa_cons (pv 0) (pa_cons (pv 1) pa_nil))))
      (pss_one (ps_ret (pe_tup (pa_cons (pv 2) (pa_cons (pe_op op_mod (pe_callTy call_int1 (by rfl) T.int (by decide +kernel) (pa_cons (pe_op op_add (pe_op op_add (pv 2) pe_int) (pe_c cC hr (pa_cons (pv 0) (pa_cons (pe_op op_sub (pv 1) pe_int) pa_nil)))) pa_nil)) (pv 1)) pa_nil))))), ?_⟩
    have n200 := n200e
    refine ⟨_, rfl, _, rfl, sk, m, n, rfl, hS, by omega, by omega, by rw [n200]; omega, fun x H1 x0 x1 b1 s1 z1 => ?_⟩
    refine ⟨_, rfl, _, rfl, _, _, rfl, rfl, _, rfl, _, rfl, _, _, rfl, rfl, ?_⟩
    refine ⟨sk, m - 1, n + 1, rfl, s1, by omega, by omega, by rw [n200]; omega, fun c H2 c0 c1 b2 s2 z2 => ⟨_, _, rfl, rfl, .inl ⟨_, rfl, _, rfl, _, _, rfl, rfl, by omega, two, fun t ht => ?_⟩⟩⟩
    have tn : H t = none := by
      cases e : H t with
      | none => rfl
      | some o =>
        have h1 := b1 t o (sk_ne s2 ht) e
        have h2 := b2 t o (sk_ne s2 ht) h1
        rw [ht] at h2
        cases h2
    refine k t x ((x + 1 + c) % m) _ ((b1.trans b2).trans (But.of_ex (Evl.Ex.new ht))) (s2.ex (Evl.Ex.new ht)) tn upd_same x0 x1 (Int.emod_nonneg _ (by omega)) (Int.emod_lt_of_pos _ (by omega)) ?_
    intro z
    by_cases hh : x + 1 + c < m
    · rw [Int.emod_eq_of_lt (by omega) hh] at z
      omega
    · have e : (x + 1 + c) % m = x + 1 + c - m := by
        rw [← Int.sub_emod_right, Int.emod_eq_of_lt (by omega) (by omega)]
      rw [e] at z
      omega
theorem ok_width4 {f : Addr} {fd : FuncData} (F : Fun K "_law_drawn_width" "_law_drawn_width" s_l_drawn_width f fd) (cC : Cal P w K mg base 1 "_law_coin" p_l_coin spCoin) (cR : Cal P w K mg base 2 "_law_ratio" p_l_ratio spRa4) : FnOk P w K mg base CX0 3 f fd p_l_drawn_width (spWid 90000 4) := by
  refine F.ok sc_l_drawn_width (fun vs H Q E h => ?_) (fun cdv A outer s H vs Q E hr h => ?_)
  · obtain ⟨s, n, rfl, _⟩ := h
    rfl
  · obtain ⟨sk, n, rfl, hS, hn, k⟩ := h
    have nd := sc_l_drawn_width.nd
    have n200 := n200e
    have r1 : Room 1 _ := hr.mono (by decide)
    have r2 : Room 2 _ := hr.mono (by decide)
    refine ⟨_, pss_cons (ps_set (i := 1) nd rfl (Or.inl rfl) (pe_op op_add pe_int (pe_c cC r1 (pa_cons (pv 0) (pa_cons (pe_ix ix_list (pe_lst (pa_cons pe_int (pa_cons pe_int (pa_cons pe_int pa_nil)))) (pe_c cC r1 (pa_cons (pv 0) (pa_cons pe_int pa_nil))) (fun _ _ => rfl)) pa_nil)))))
      (pss_one (ps_ret (pe_c cR r2 (pa_cons (pe_op op_add pe_int (pe_c cC r1 (pa_cons (pv 0) (pa_cons (pe_ix ix_list (pe_lst (pa_cons pe_int (pa_cons pe_int (pa_cons pe_int pa_nil)))) (pe_c cC r1 (pa_cons (pv 0) (pa_cons pe_int pa_nil))) (fun _ _ => rfl)) pa_nil)))) (pa_cons (pv 1) pa_nil))))), ?_⟩
    refine ⟨_, rfl, ?_⟩
    show tOp (rIxL _) (tLst _) (tCall spCoin [] E0 _) _ _ _
    refine pick_read (xs := [.int 1, .int 6, .int 40]) rfl (by decide) (by decide) rfl hS (by omega) (fun _ _ q => q) fun v H1 hv b1 s1 => ?_
    obtain ⟨x, rfl, hx⟩ : ∃ x, v = .int x ∧ (0 < x ∧ x ≤ 1000) := by
      simp only [List.mem_cons, List.not_mem_nil, or_false] at hv
      rcases hv with rfl | rfl | rfl <;> exact ⟨_, rfl, by decide, by decide⟩
    refine ⟨sk, x, n + 1, rfl, s1, by omega, hx.1, by rw [n200]; omega, fun y H2 y0 y1 b2 s2 z2 => ⟨_, _, rfl, rfl, ?_⟩⟩
    refine ⟨_, rfl, ?_⟩
    show tOp (rIxL _) (tLst _) (tCall spCoin [] E0 _) _ _ _
    refine pick_read (xs := [.int 4, .int 30, .int 1000]) rfl (by decide) (by decide) rfl s2 (by omega) (fun _ _ q => q) fun v H3 hv b3 s3 => ?_
    obtain ⟨u, rfl, hu⟩ : ∃ x, v = .int x ∧ (0 < x ∧ x ≤ 1000) := by
      simp only [List.mem_cons, List.not_mem_nil, or_false] at hv
      rcases hv with rfl | rfl | rfl <;> exact ⟨_, rfl, by decide, by decide⟩
    refine ⟨sk, u, n + 3, rfl, s3, by omega, hu.1, by rw [n200]; omega, fun z H4 z0 z1 b4 s4 z4 => ⟨_, _, rfl, rfl, _, rfl, 1 + z, 1 + y, rfl, bn190 (by omega) (by omega), bn190 (by omega) (by omega), by omega, fun t H5 ht e5 h5 => ?_⟩⟩
    have b14 := ((b1.trans b2).trans b3).trans b4
    obtain ⟨q1, q2⟩ := qn_fr y0 (by omega) z0 (by omega)
    exact k t _ _ H5 (b14.trans (But.of_ex e5)) ((s4.ex e5).le (by omega)) (but_none b14 s4 ht) (wo_at (sk_ne s4 ht) h5) q1 q2
theorem ok_lcop0 {f : Addr} {fd : FuncData} (F : Fun K "_law_copied" "_law_copied" s_l_copied f fd) (T : T5 mg) : FnOk P w K mg base CX0 1 f fd p_l_copied (spCp 0) := by
  refine F.ok sc_l_copied (fun vs H Q E h => ?_) (fun cdv A outer s H vs Q E hr h => ?_)
  · obtain ⟨v, d, rfl, _⟩ := h
    rfl
  · obtain ⟨v, d, rfl, hd, hc, k⟩ := h
    refine ⟨_, pss_cons (ps_if (pt_val (pe_callB call_isi (by rfl) T.isi (by decide +kernel) (pa_cons (pv 0) (pa_cons (pe_bltn (v := .ty "list") (by rfl) T.lst (by decide +kernel) rfl) pa_nil)))) (pss_one ps_never) pss_nil)
      (pss_cons (ps_if (pt_val (pe_callB call_isi (by rfl) T.isi (by decide +kernel) (pa_cons (pv 0) (pa_cons (pe_bltn (v := .ty "tuple") (by rfl) T.tup (by decide +kernel) rfl) pa_nil)))) (pss_one ps_never) pss_nil)
      (pss_one (ps_ret (pv 0)))), ?_⟩
    cases hc with
    | non =>
      cases hd
      exact ⟨_, rfl, _, _, _, _, false, rfl, .ty "list", .base .non, kit_ty (by decide +kernel), false, rfl, if_f rfl ⟨_, rfl, _, _, _, _, false, rfl, .ty "tuple", .base .non, kit_ty (by decide +kernel), false, rfl, if_f rfl ⟨_, rfl, k _ _ (Evl.Ex.refl _) .non⟩⟩⟩
    | bl b =>
      cases hd
      exact ⟨_, rfl, _, _, _, _, false, rfl, .ty "list", .base (.bl b), kit_ty (by decide +kernel), false, rfl, if_f rfl ⟨_, rfl, _, _, _, _, false, rfl, .ty "tuple", .base (.bl b), kit_ty (by decide +kernel), false, rfl, if_f rfl ⟨_, rfl, k _ _ (Evl.Ex.refl _) (.bl b)⟩⟩⟩
    | int i =>
      cases hd
      exact ⟨_, rfl, _, _, _, _, false, rfl, .ty "list", .base (.int i), kit_ty (by decide +kernel), false, rfl, if_f rfl ⟨_, rfl, _, _, _, _, false, rfl, .ty "tuple", .base (.int i), kit_ty (by decide +kernel), false, rfl, if_f rfl ⟨_, rfl, k _ _ (Evl.Ex.refl _) (.int i)⟩⟩⟩
    | str x =>
      cases hd
      exact ⟨_, rfl, _, _, _, _, false, rfl, .ty "list", .base (.str x), kit_ty (by decide +kernel), false, rfl, if_f rfl ⟨_, rfl, _, _, _, _, false, rfl, .ty "tuple", .base (.str x), kit_ty (by decide +kernel), false, rfl, if_f rfl ⟨_, rfl, k _ _ (Evl.Ex.refl _) (.str x)⟩⟩⟩
theorem ok_lcopS {n k : Nat} {f : Addr} {fd : FuncData} (F : Fun K "_law_copied" "_law_copied" s_l_copied f fd) (T : T5 mg) (c0 : Cal P w K mg base k "_law_copied" p_l_copied (spCp n)) : FnOk P w K mg base CX0 (k + 1) f fd p_l_copied (spCp (n + 1)) := by
  refine F.ok sc_l_copied (fun vs H Q E h => ?_) (fun cdv A outer s H vs Q E hr h => ?_)
  · obtain ⟨v, d, rfl, _⟩ := h
    rfl
  · obtain ⟨v, d, rfl, hd, hc, kk⟩ := h
    have nd := sc_l_copied.nd
    cases hc with
    | non =>
      cases hd
      refine ⟨_, pss_cons (ps_if (pt_val (pe_callB call_isi (by rfl) T.isi (by decide +kernel) (pa_cons (pv 0) (pa_cons (pe_bltn (v := .ty "list") (by rfl) T.lst (by decide +kernel) rfl) pa_nil)))) (pss_one ps_never) pss_nil)
        (pss_cons (ps_if (pt_val (pe_callB call_isi (by rfl) T.isi (by decide +kernel) (pa_cons (pv 0) (pa_cons (pe_bltn (v := .ty "tuple") (by rfl) T.tup (by decide +kernel) rfl) pa_nil)))) (pss_one ps_never) pss_nil)
        (pss_one (ps_ret (pv 0)))), ?_⟩
      exact ⟨_, rfl, _, _, _, _, false, rfl, .ty "list", .base .non, kit_ty (by decide +kernel), false, rfl, if_f rfl ⟨_, rfl, _, _, _, _, false, rfl, .ty "tuple", .base .non, kit_ty (by decide +kernel), false, rfl, if_f rfl ⟨_, rfl, kk _ _ (Evl.Ex.refl _) .non⟩⟩⟩
    | bl b =>
      cases hd
      refine ⟨_, pss_cons (ps_if (pt_val (pe_callB call_isi (by rfl) T.isi (by decide +kernel) (pa_cons (pv 0) (pa_cons (pe_bltn (v := .ty "list") (by rfl) T.lst (by decide +kernel) rfl) pa_nil)))) (pss_one ps_never) pss_nil)
        (pss_cons (ps_if (pt_val (pe_callB call_isi (by rfl) T.isi (by decide +kernel) (pa_cons (pv 0) (pa_cons (pe_bltn (v := .ty "tuple") (by rfl) T.tup (by decide +kernel) rfl) pa_nil)))) (pss_one ps_never) pss_nil)
        (pss_one (ps_ret (pv 0)))), ?_⟩
      exact ⟨_, rfl, _, _, _, _, false, rfl, .ty "list", .base (.bl b), kit_ty (by decide +kernel), false, rfl, if_f rfl ⟨_, rfl, _, _, _, _, false, rfl, .ty "tuple", .base (.bl b), kit_ty (by decide +kernel), false, rfl, if_f rfl ⟨_, rfl, kk _ _ (Evl.Ex.refl _) (.bl b)⟩⟩⟩
    | int i =>
      cases hd
      refine ⟨_, pss_cons (ps_if (pt_val (pe_callB call_isi (by rfl) T.isi (by decide +kernel) (pa_cons (pv 0) (pa_cons (pe_bltn (v := .ty "list") (by rfl) T.lst (by decide +kernel) rfl) pa_nil)))) (pss_one ps_never) pss_nil)
        (pss_cons (ps_if (pt_val (pe_callB call_isi (by rfl) T.isi (by decide +kernel) (pa_cons (pv 0) (pa_cons (pe_bltn (v := .ty "tuple") (by rfl) T.tup (by decide +kernel) rfl) pa_nil)))) (pss_one ps_never) pss_nil)
        (pss_one (ps_ret (pv 0)))), ?_⟩
      exact ⟨_, rfl, _, _, _, _, false, rfl, .ty "list", .base (.int i), kit_ty (by decide +kernel), false, rfl, if_f rfl ⟨_, rfl, _, _, _, _, false, rfl, .ty "tuple", .base (.int i), kit_ty (by decide +kernel), false, rfl, if_f rfl ⟨_, rfl, kk _ _ (Evl.Ex.refl _) (.int i)⟩⟩⟩
    | str x =>
      cases hd
      refine ⟨_, pss_cons (ps_if (pt_val (pe_callB call_isi (by rfl) T.isi (by decide +kernel) (pa_cons (pv 0) (pa_cons (pe_bltn (v := .ty "list") (by rfl) T.lst (by decide +kernel) rfl) pa_nil)))) (pss_one ps_never) pss_nil)
        (pss_cons (ps_if (pt_val (pe_callB call_isi (by rfl) T.isi (by decide +kernel) (pa_cons (pv 0) (pa_cons (pe_bltn (v := .ty "tuple") (by rfl) T.tup (by decide +kernel) rfl) pa_nil)))) (pss_one ps_never) pss_nil)
        (pss_one (ps_ret (pv 0)))), ?_⟩
      exact ⟨_, rfl, _, _, _, _, false, rfl, .ty "list", .base (.str x), kit_ty (by decide +kernel), false, rfl, if_f rfl ⟨_, rfl, _, _, _, _, false, rfl, .ty "tuple", .base (.str x), kit_ty (by decide +kernel), false, rfl, if_f rfl ⟨_, rfl, kk _ _ (Evl.Ex.refl _) (.str x)⟩⟩⟩
    | @lst _ ds hl hcs =>
      cases hd with
      | @lst a xs _ ha hds =>
      refine ⟨_, pss_cons (ps_if (pt_val (pe_callB call_isi (by rfl) T.isi (by decide +kernel) (pa_cons (pv 0) (pa_cons (pe_bltn (v := .ty "list") (by rfl) T.lst (by decide +kernel) rfl) pa_nil))))
          (pss_one (ps_ret (pe_lc (own := [("one", 1)]) (g := gName 1) (tt := tYes) (te := tCall (spCp n) [] E0 (tCons (tVar 1) tNil)) rfl nd (pi_list (pv 0)) (blkOk_by (N := n_l_copied) (sc := defScope s_l_copied) (by decide +kernel)) (fun _ _ _ _ _ => pg_name (i := 1) nd rfl (Or.inl rfl)) (fun _ _ _ _ _ => pts_nil)
            (fun _ _ _ _ _ => pe_c c0 hr (pa_cons (pv 1) pa_nil))))) pss_nil)
        (pss_cons ps_never (pss_one ps_never)), ?_⟩
      refine ⟨_, rfl, _, _, _, _, true, rfl, .ty "list", .base (.lst ha), kit_ty (by decide +kernel), true, rfl, if_t rfl ?_⟩
      have hlen := hds.len
      refine ⟨_, rfl, a, rfl, ⟨_, SqL.of ha⟩, fun D hD => lc_list (xs := xs) (fun i H' => Evl.Ex H H' ∧ ∃ acc, H' D = some (.lst acc) ∧ DqAll (Nw H (fun b => if b = D then none else H' b)) acc (ds.take i)) ⟨Evl.Ex.new hD, [], upd_same, .nil⟩ (fun i H' _ q => SqL.of (q.1 _ _ ha)) ?_ ?_⟩
      · rintro i x H2 hi ⟨e2, acc, hD2, hacc⟩
        obtain ⟨d, hdi, hdx⟩ := hds.get hi
        refine ⟨rfl, ?_⟩
        show tCall (spCp n) [] E0 (tCons (tVar 1) tNil) _ _ _
        refine ⟨_, rfl, x, d, rfl, hdx.go e2, hcs d (List.mem_of_getElem? hdi), fun v' H3 e3 hv' => ⟨acc, e3 _ _ hD2, ?_, Evl.Ex.mut (e2.trans e3) hD, _, upd_same, ?_⟩⟩
        · have h1 := hacc.len
          rw [List.length_take] at h1
          exact Nat.lt_of_le_of_lt (show acc.length ≤ 100 by omega) (by decide)
        · rw [ds_take hdi]
          exact cp_turns hD (Evl.Ex.refl _) e2 hD2 hacc e3 hv'
      · rintro H2 ⟨e2, acc, hD2, hacc⟩
        rw [hlen, List.take_length] at hacc
        refine kk _ _ e2 (.lst (nw_at hD hD2) (hacc.go fun b o h => nw_at (nw_none h) ?_))
        have z := Nw.ex _ _ h
        by_cases hb : b = D
        · rw [if_pos hb] at z
          cases z
        · rw [if_neg hb] at z
          exact z
    | @tup _ ds hl hcs =>
      cases hd with
      | @tup a xs _ ha hds =>
      refine ⟨_, pss_cons (ps_if (pt_val (pe_callB call_isi (by rfl) T.isi (by decide +kernel) (pa_cons (pv 0) (pa_cons (pe_bltn (v := .ty "list") (by rfl) T.lst (by decide +kernel) rfl) pa_nil)))) (pss_one ps_never) pss_nil)
        (pss_cons (ps_if (pt_val (pe_callB call_isi (by rfl) T.isi (by decide +kernel) (pa_cons (pv 0) (pa_cons (pe_bltn (v := .ty "tuple") (by rfl) T.tup (by decide +kernel) rfl) pa_nil))))
          (pss_one (ps_ret (pe_callTy call_tuple_of (by rfl) T.tup (by decide +kernel) (pa_cons (pe_lc (own := [("one", 1)]) (g := gName 1) (tt := tYes) (te := tCall (spCp n) [] E0 (tCons (tVar 1) tNil)) rfl nd (pi_tup (pv 0)) (blkOk_by (N := n_l_copied) (sc := defScope s_l_copied) (by decide +kernel)) (fun _ _ _ _ _ => pg_name (i := 1) nd rfl (Or.inl rfl)) (fun _ _ _ _ _ => pts_nil)
            (fun _ _ _ _ _ => pe_c c0 hr (pa_cons (pv 1) pa_nil))) pa_nil)))) pss_nil)
        (pss_one ps_never)), ?_⟩
      refine ⟨_, rfl, _, _, _, _, false, rfl, .ty "list", .base (.tup ha), kit_ty (by decide +kernel), false, rfl, if_f rfl ?_⟩
      refine ⟨_, rfl, _, _, _, _, true, rfl, .ty "tuple", .base (.tup ha), kit_ty (by decide +kernel), true, rfl, if_t rfl ?_⟩
      have hlen := hds.len
      refine ⟨_, rfl, a, rfl, ⟨_, SqT.of ha⟩, fun D hD => lc_tup (xs := xs) (fun i H' => Evl.Ex H H' ∧ ∃ acc, H' D = some (.lst acc) ∧ DqAll (Nw H (fun b => if b = D then none else H' b)) acc (ds.take i)) ⟨Evl.Ex.new hD, [], upd_same, .nil⟩ (fun i H' _ q => SqT.of (q.1 _ _ ha)) ?_ ?_⟩
      · rintro i x H2 hi ⟨e2, acc, hD2, hacc⟩
        obtain ⟨d, hdi, hdx⟩ := hds.get hi
        refine ⟨rfl, ?_⟩
        show tCall (spCp n) [] E0 (tCons (tVar 1) tNil) _ _ _
        refine ⟨_, rfl, x, d, rfl, hdx.go e2, hcs d (List.mem_of_getElem? hdi), fun v' H3 e3 hv' => ⟨acc, e3 _ _ hD2, ?_, Evl.Ex.mut (e2.trans e3) hD, _, upd_same, ?_⟩⟩
        · have h1 := hacc.len
          rw [List.length_take] at h1
          exact Nat.lt_of_le_of_lt (show acc.length ≤ 100 by omega) (by decide)
        · rw [ds_take hdi]
          exact cp_turns hD (Evl.Ex.refl _) e2 hD2 hacc e3 hv'
      · rintro H2 ⟨e2, acc, hD2, hacc⟩
        rw [hlen, List.take_length] at hacc
        refine ⟨D, _, rfl, .inl ⟨SqL.of hD2, fun l hl2 => ?_⟩⟩
        have e3 := Evl.Ex.new (o := .tup acc) hl2
        refine kk _ _ (e2.trans e3) (.tup (nw_at (Evl.fresh_back e2 hl2) upd_same) (hacc.go fun b o h => nw_at (nw_none h) (e3 _ _ ?_)))
        have z := Nw.ex _ _ h
        by_cases hb : b = D
        · rw [if_pos hb] at z
          cases z
        · rw [if_neg hb] at z
          exact z
theorem ok_made4 {f : Addr} {fd fdI : FuncData} (F : Fun K "_law_made" "_law_made" s_l_made f fd) (mC : mg "Script" = some (.ref C)) (c : ScC K C fI fT fS pT pS) (FI : FnOk P w K mg base CX0 5 fI fdI p_Sc_init (spScI C)) (bI : Binds K fdI p_Sc_init []) (l2 : Cal P w K mg base 3 "_law_copied" p_l_copied (spCp 2)) (l3 : Cal P w K mg base 4 "_law_copied" p_l_copied (spCp 3)) : FnOk P w K mg base CX0 7 f fd p_l_made (spScr C) := by
  refine F.ok sc_l_made (fun vs H Q E h => ?_) (fun cdv A outer s H vs Q E hr h => ?_)
  · obtain ⟨t, ts, ds, rfl, _⟩ := h
    rfl
  · obtain ⟨t, ts, ds, rfl, ⟨lv, ld, ht, hT, hD⟩, hok, k⟩ := h
    have r3 : Room 3 _ := hr.mono (by decide)
    have r4 : Room 4 _ := hr.mono (by decide)
    refine ⟨_, pss_one (ps_ret (pe_make c.mkI FI hr (by rfl) mC bI .nil pass0 (pa_cons (pe_c l2 r3 (pa_cons (pe_ix ix_tup (pv 0) pe_int (fun _ _ => rfl)) pa_nil)) (pa_cons (pe_c l3 r4 (pa_cons (pe_ix ix_tup (pv 0) pe_int (fun _ _ => rfl)) pa_nil)) pa_nil)))), ?_⟩
    refine ⟨_, rfl, t, _, _, _, rfl, rfl, SqT.of ht, rfl, _, _, rfl, hT.dq, cp_tks (Nat.le_trans hok.1.1 (by decide)), fun v H1 e1 hv => ?_⟩
    refine ⟨_, rfl, t, _, _, _, rfl, rfl, SqT.of (e1 _ _ ht), rfl, _, _, rfl, (hD.ex e1).dq, cp_deeds hok.2.2 (Nat.le_trans hok.2.1 (by decide)), fun u H2 e2 hu => ?_⟩
    intro y dy hy hdy hne
    have e12 := e1.trans e2
    have e5 : Evl.Ex H2 (upd (upd H2 dy (.own y)) y (.ins C dy [])) := fun b o h => Eq.trans (upd_ne (ne_of_none' h hy)) (Eq.trans (upd_ne (ne_of_none' h hdy)) h)
    refine ⟨y, dy, v, u, ts, ds, rfl, upd_same, ((Dq.go hv Nw.ex).go e2).go e5, (Dq.go hu Nw.ex).go e5, hok, fun v' u' fs H' b hyy g1 g2 d1 d2 g0 => ⟨rfl, ?_⟩⟩
    have hyH := Evl.fresh_back e12 hy
    have e5' : Evl.Ex H2 H' := fun c o h => b _ _ (ne_of_none' h hy) (e5 _ _ h)
    have em : Evl.Ex (Nw (upd (upd H2 dy (.own y)) y (.ins C dy [])) H') (Nw H H') := fun c o h => nw_at (Evl.fresh_back (e12.trans e5) (nw_none h)) (Nw.ex _ _ h)
    exact k y H' hyH (e12.trans e5') ⟨dy, fs, v', u', nw_at hyH hyy, g1, g2, d1.go em, d2.go em, g0⟩
theorem ok_tanks4 {f : Addr} {fd : FuncData} (F : Fun K "_law_drawn_tanks" "_law_drawn_tanks" s_l_drawn_tanks f fd) (mR : mg "range" = none) (cC : Cal P w K mg base 1 "_law_coin" p_l_coin spCoin) : FnOk P w K mg base CX0 2 f fd p_l_drawn_tanks spVats := by
  refine F.ok sc_l_drawn_tanks (fun vs H Q E h => ?_) (fun cdv A outer s H vs Q E hr h => ?_)
  · obtain ⟨s, m, o, n, rfl, _⟩ := h
    rfl
  · obtain ⟨sk, m, o, n, rfl, m0, m1, o0, o1, hS, hn, k⟩ := h
    have nd := sc_l_drawn_tanks.nd
    have two : 2 ≤ sizeLine := by show 2 ≤ sizeLine; decide
    have n200 := n200e
    refine ⟨_, pss_cons (ps_par (i := 3) (j := 4) rfl nd rfl rfl (by decide) rfl rfl (pa_cons (pe_c cC hr (pa_cons (pv 0) (pa_cons (pv 1) pa_nil))) (pa_cons (pe_lst pa_nil) pa_nil)) (by rfl))
      (pss_cons (ps_for PassesOwn.never rfl (pi_range1 (by rfl) mR (pa_cons (pv 1) pa_nil)) (pg_name (i := 5) nd rfl (Or.inl rfl)) (pss_cons (ps_set (i := 6) nd rfl (Or.inl rfl) (pe_c cC hr (pa_cons (pv 0) (pa_cons (pe_op op_add (pv 2) pe_int) pa_nil))))
      (Evl.pss_cut (ps_if (pt_cmpR op_eq (pe_c cC hr (pa_cons (pv 0) (pa_cons pe_int pa_nil))) pe_int (nomark _)) (pss_one (ps_set (i := 6) nd rfl (Or.inl rfl) pe_int)) pss_nil)
      (pss_cons (ps_set (i := 7) nd rfl (Or.inl rfl) (pe_op op_add pe_int (pe_c cC hr (pa_cons (pv 0) (pa_cons (pv 2) pa_nil)))))
      (pss_one (ps_expr (pe_bm PySem.F.plainAttrs_list PySem.F.slot_list_append PySem.F.type_list_append mt_append (pv 4) (pa_cons (pe_tup (pa_cons (pe_ifExp (pt_cmpR op_eq (pv 5) (pv 3) (nomark _)) pe_non (pv 7)) (pa_cons (pv 6) pa_nil))) pa_nil))))))))
      (pss_one (ps_ret (pv 4)))), ?_⟩
    refine ⟨_, rfl, _, rfl, sk, m, n, rfl, hS, by omega, m0, by rw [n200]; omega, fun rk H1 rk0 rk1 b1 s1 z1 => ⟨Nat.zero_le _, fun l hl => ⟨_, _, rfl, ?_⟩⟩⟩
    have lsk : l ≠ sk := sk_ne s1 hl
    have lH : H l = none := but_none b1 s1 hl
    have e1 := Evl.Ex.new (o := .lst []) hl
    refine ⟨_, rfl, m, rfl, by omega, by omega, for_range (n := m.toNat) (fun i σ H' => ∃ (ts : List Tk) (v5 v6 v7 : Option V), σ = [some (.ref sk), some (.int m), some (.int o), some (.int rk), some (.ref l), v5, v6, v7] ∧ But sk H H' ∧ Sk H' sk (n + 1 + 3 * i) ∧ TksAt (wo sk H') l ts ∧ ts.length = i ∧ (∀ t ∈ ts, ((∀ z, t.1 = some z → 1 ≤ z) ∧ 0 ≤ t.2) ∧ (∀ z, t.1 = some z → z ≤ 1000) ∧ t.2 ≤ 1000) ∧ ts.countP (fun t => t.1.isNone) = if rk < (i : Int) then 1 else 0)
      ⟨[], none, none, none, rfl, b1.trans (But.of_ex e1), s1.ex e1, ⟨[], wo_at lsk upd_same, rfl, fun i a t h => (by cases h)⟩, rfl, (fun t h => by cases h), by rw [if_neg (by omega)]; rfl⟩ ?_ ?_⟩
    · rintro i σ H2 hi ⟨ts, v5, v6, v7, rfl, b2, s2, hT, hl2, hb, hc⟩
      rw [Int.zero_add]
      have hi20 : i < 20 := by omega
      have fin : ∀ (H5 : Hp) (x : Tk) (t : Addr), But sk H2 H5 → Sk H5 sk (n + 1 + 3 * (i + 1)) → H5 t = none → ((∀ z, x.1 = some z → 1 ≤ z) ∧ 0 ≤ x.2) ∧ (∀ z, x.1 = some z → z ≤ 1000) ∧ x.2 ≤ 1000 → (x.1 = none ↔ rk = (i : Int)) →
          ∃ acc, upd H5 t (.tup [wV x.1, .int x.2]) l = some (.lst acc) ∧ acc.length < sizeLine ∧ ∃ (ts : List Tk), But sk H (upd (upd H5 t (.tup [wV x.1, .int x.2])) l (.lst (acc ++ [.ref t]))) ∧ Sk (upd (upd H5 t (.tup [wV x.1, .int x.2])) l (.lst (acc ++ [.ref t]))) sk (n + 1 + 3 * (i + 1)) ∧ TksAt (wo sk (upd (upd H5 t (.tup [wV x.1, .int x.2])) l (.lst (acc ++ [.ref t])))) l ts ∧ ts.length = i + 1 ∧ (∀ t ∈ ts, ((∀ z, t.1 = some z → 1 ≤ z) ∧ 0 ≤ t.2) ∧ (∀ z, t.1 = some z → z ≤ 1000) ∧ t.2 ≤ 1000) ∧ ts.countP (fun t => t.1.isNone) = if rk < ((i + 1 : Nat) : Int) then 1 else 0 := by
        intro H5 x t b5 s5 ht hx hn
        have ex := Evl.Ex.new (o := .tup [wV x.1, .int x.2]) ht
        have b26 := b5.trans (But.of_ex (p := sk) ex)
        have s6 := s5.ex ex
        have h6 : upd H5 t (.tup [wV x.1, .int x.2]) t = some (.tup [wV x.1, .int x.2]) := upd_same
        generalize upd H5 t (.tup [wV x.1, .int x.2]) = H6 at ex b26 s6 h6
        obtain ⟨acc, q1, q2, q3⟩ := tks_more (x := x) (hT.ex b26.wo) (sk_ne s5 ht) h6
        refine ⟨acc, q1, ?_, ts ++ [x], ?_, ?_, q3, by rw [List.length_append, hl2]; rfl, ?_, cnt_more hc hn⟩
        · rw [q2, hl2]
          exact Nat.lt_of_lt_of_le hi20 (by decide)
        · exact fun c o nc e => Eq.trans (upd_ne (ne_of_none' e lH)) ((b2.trans b26) c o nc e)
        · exact s6.upd lsk
        · intro t' ht'
          rcases List.mem_append.mp ht' with h | h
          · exact hb _ h
          · rw [List.mem_singleton.mp h]
            exact hx
      refine ⟨_, rfl, _, rfl, _, _, rfl, rfl, sk, o + 1, _, rfl, s2, by omega, by omega, by rw [n200]; omega, fun a H3 a0 a1 b3 s3 z3 => ?_⟩
      refine ⟨fun σ H' => ∃ (e : Int), σ = [some (.ref sk), some (.int m), some (.int o), some (.int rk), some (.ref l), some (.int (i : Int)), some (.int e), v7] ∧ 0 ≤ e ∧ e ≤ 1000 ∧ But sk H3 H' ∧ Sk H' sk (n + 1 + 3 * i + 2), ?_, ?_⟩
      · refine ⟨_, rfl, sk, 4, _, rfl, s3, by omega, by decide, by decide, fun y H4 y0 y1 b4 s4 z4 => ⟨rfl, _, rfl, ?_⟩⟩
        by_cases hy : y = 0
        · exact if_t (by rw [hy]; exact decide_eq_true rfl) ⟨0, rfl, by decide, by decide, b4, s4⟩
        · exact if_f (decide_eq_false fun z => hy (by cases z; rfl)) ⟨a, rfl, by omega, by omega, b4, s4⟩
      rintro σ H4 ⟨e, rfl, e0, e1', b4, s4⟩
      refine ⟨_, rfl, _, rfl, sk, o, _, rfl, s4, by omega, by omega, by rw [n200]; omega, fun z H5 z0 z1 b5 s5 z5 => ⟨_, _, rfl, rfl, ?_⟩⟩
      have b25 := (b3.trans b4).trans b5
      have hT5 := hT.ex b25.wo
      refine ⟨_, rfl, .inl ⟨rfl, _, SqL.of (wo_ex _ _ hT5.choose_spec.1)⟩, ?_⟩
      refine ⟨_, rfl, _, rfl, rfl, _, rfl, ?_⟩
      by_cases hr : rk = (i : Int)
      · refine if_t (decide_eq_true (by rw [hr])) ⟨_, rfl, two, fun t ht => ?_⟩
        obtain ⟨acc, q1, q2, ts', q3, q4⟩ := fin H5 (none, e) t b25 (s5.le (by omega)) ht ⟨⟨fun z h => (by cases h), e0⟩, fun z h => (by cases h), e1'⟩ ⟨fun _ => hr, fun _ => rfl⟩
        exact ⟨l, acc, _, rfl, rfl, q1, q2, ts', _, _, _, rfl, q3, q4⟩
      · refine if_f (decide_eq_false fun q => hr (by injection q with q; exact q.symm)) ⟨_, rfl, _, rfl, two, fun t ht => ?_⟩
        obtain ⟨acc, q1, q2, ts', q3, q4⟩ := fin H5 (some (1 + z), e) t b25 (s5.le (by omega)) ht ⟨⟨fun z' h => (by cases h; omega), e0⟩, fun z' h => (by cases h; omega), e1'⟩ ⟨fun h => (by cases h), fun h => absurd h hr⟩
        exact ⟨l, acc, _, rfl, rfl, q1, q2, ts', _, _, _, rfl, q3, q4⟩
    · rintro σ H2 ⟨ts, v5, v6, v7, rfl, b2, s2, hT, hl2, hb, hc⟩
      refine ⟨_, rfl, k l ts H2 b2 s2 lH hT ⟨by omega, fun t ht => (hb t ht).1, ?_⟩ (by omega) fun t ht => (hb t ht).2⟩
      rw [hc, if_pos (by omega)]
end
end V2


namespace V2
open PySem L2
open PySem.Spec PyProof.Rows
/-! ## a drawn step -/
theorem inV_iV (i : Int) : ∀ ks : List Int, inV (.int i) (iV ks) = true ↔ i ∈ ks
  | [] => by simp [inV, iV]
  | k :: ks => by
    have ih := inV_iV i ks
    have e : inV (.int i) (iV (k :: ks)) = (eqV (.int k) (.int i) || inV (.int i) (iV ks)) := rfl
    rw [e, Bool.or_eq_true, ih, List.mem_cons]
    have : eqV (.int k) (.int i) = true ↔ i = k := by simp [eqV]; exact eq_comm
    rw [this]
theorem flat_iV : ∀ ks : List Int, (iV ks).all flatV = true
  | [] => rfl
  | k :: ks => by
    have e : (iV (k :: ks)).all flatV = (flatV (.int k) && (iV ks).all flatV) := rfl
    rw [e, flat_iV ks]
    rfl
theorem asc_len {hi : Int} : ∀ {ks : List Int} {lo : Int}, ks.Pairwise (· < ·) → (∀ z ∈ ks, lo ≤ z ∧ z < hi) → ks ≠ [] → (ks.length : Int) ≤ hi - lo
  | [z], lo, _, h, _ => by
    have := h z List.mem_cons_self
    show ((1 : Nat) : Int) ≤ _
    omega
  | z :: y :: ks, lo, hp, h, _ => by
    have hp := List.pairwise_cons.mp hp
    have h0 := h z List.mem_cons_self
    have ih := asc_len (hi := hi) (ks := y :: ks) (lo := z + 1) hp.2 (fun u hu => by
      have h1 := hp.1 u hu
      have h2 := h u (List.mem_cons_of_mem _ hu)
      omega) (List.cons_ne_nil _ _)
    have e : ((z :: y :: ks).length : Int) = ((y :: ks).length : Int) + 1 := by simp
    rw [e]
    omega
/-- numbers that are gathered: two first ones, then unlike ones below i -/
structure NdI (x y : Int) (ks : List Int) (i : Nat) : Prop where
  hd : ∃ r, ks = x :: y :: r
  nd : ks.Nodup
  bd : ∀ z ∈ ks, z = x ∨ z = y ∨ (0 ≤ z ∧ z < (i : Int))
  len : ks.length ≤ i + 2
theorem NdI.start {x y : Int} (h : x ≠ y) : NdI x y [x, y] 0 := ⟨⟨[], rfl⟩, by simp [h], fun z hz => by
  simp only [List.mem_cons, List.not_mem_nil, or_false] at hz
  rcases hz with rfl | rfl
  · exact .inl rfl
  · exact .inr (.inl rfl), by simp⟩
theorem NdI.skip {x y : Int} {ks : List Int} {i : Nat} (h : NdI x y ks i) : NdI x y ks (i + 1) := ⟨h.hd, h.nd, fun z hz => by
  rcases h.bd z hz with e | e | e
  · exact .inl e
  · exact .inr (.inl e)
  · exact .inr (.inr (by omega)), by have := h.len; omega⟩
theorem NdI.more {x y : Int} {ks : List Int} {i : Nat} (h : NdI x y ks i) (n : (i : Int) ∉ ks) : NdI x y (ks ++ [(i : Int)]) (i + 1) := by
  obtain ⟨r, hr⟩ := h.hd
  refine ⟨⟨r ++ [(i : Int)], by rw [hr]; rfl⟩, ?_, fun z hz => ?_, by rw [List.length_append]; have := h.len; simp only [List.length_cons, List.length_nil]; omega⟩
  · rw [List.nodup_append]
    refine ⟨h.nd, by simp, fun a ha b hb => ?_⟩
    rw [List.mem_singleton.mp hb]
    exact fun e => n (e ▸ ha)
  · rcases List.mem_append.mp hz with hz | hz
    · rcases h.bd z hz with e | e | e
      · exact .inl e
      · exact .inr (.inl e)
      · exact .inr (.inr (by omega))
    · rw [List.mem_singleton.mp hz]
      exact .inr (.inr (by omega))
theorem NdI.fine {x y m : Int} {ks ns : List Int} {i : Nat} (h : NdI x y ks i) (hn : ns.Perm ks) (hs : ns.Pairwise (· ≤ ·)) (em : (i : Int) = m) (x0 : 0 ≤ x) (x1 : x < m) (y0 : 0 ≤ y) (y1 : y < m) (m20 : m ≤ 20) : okD m (.op ns) := by
  obtain ⟨r, hr⟩ := h.hd
  have hl : ns.length = r.length + 2 := by rw [hn.length_eq, hr]; simp
  have hb : ∀ z ∈ ns, 0 ≤ z ∧ z < m := fun z hz => by
    rcases h.bd z (hn.mem_iff.mp hz) with e | e | e <;> omega
  have nd : ns.Nodup := hn.nodup_iff.mpr h.nd
  have st : ns.Pairwise (· < ·) := by
    have := hs.and nd
    exact this.imp fun ⟨a, b⟩ => by omega
  have hlen := asc_len (hi := m) (lo := 0) st hb (fun e => by rw [e] at hl; simp at hl)
  refine ⟨by omega, by omega, fun j u v hu hv => ?_, hb⟩
  have h1 : j < ns.length := (List.getElem?_eq_some_iff.mp hu).1
  have h2 : j + 1 < ns.length := (List.getElem?_eq_some_iff.mp hv).1
  have := List.pairwise_iff_getElem.mp st j (j + 1) h1 h2 (by omega)
  rw [List.getElem?_eq_getElem h1] at hu
  rw [List.getElem?_eq_getElem h2] at hv
  cases hu; cases hv
  exact this
def spDeed4 : Sp := fun vs H Q _ => ∃ (s lk : Addr) (m o : Int) (xs : List Str) (n : Nat), vs = [.ref s, .int m, .int o, .ref lk] ∧ 0 < m ∧ m ≤ 20 ∧ 0 < o ∧ o ≤ 1000 ∧ H lk = some (.lst (xs.map V.str)) ∧ xs ≠ [] ∧ xs.length ≤ 10 ∧ (∀ x ∈ xs, Word x) ∧ Sk H s n ∧ n ≤ 80000 ∧
  ∀ (t : Addr) (d : Deed) (H' : Hp), But s H H' → Sk H' s (n + 24) → DAt (Nw H H') t d → okD m d → (∀ k a, d = .po k a → a ≤ 1000) → (∀ p q, partD d = some (p, q) → q ≤ 1001) → Q (.ref t) H'
section
variable {base : Heap} {mg : Str → Option Value} {K : PySem.W.Frag} {w : World} {P : Program}
theorem ok_step4 {f : Addr} {fd : FuncData} (F : Fun K "_law_drawn_step" "_law_drawn_step" s_l_drawn_step f fd) (mR : mg "range" = none) (mL : mg "len" = none) (mIn : mg "int" = none) (mSo : mg "sorted" = none) (cC : Cal P w K mg base 1 "_law_coin" p_l_coin spCoin) (cP : Cal P w K mg base 3 "_law_drawn_part" p_l_drawn_part spPt4) (cT : Cal P w K mg base 2 "_law_pair" p_l_pair spTwo2) : FnOk P w K mg base CX0 4 f fd p_l_drawn_step spDeed4 := by
  refine F.ok sc_l_drawn_step (fun vs H Q E h => ?_) (fun cdv A outer s H vs Q E hr h => ?_)
  · obtain ⟨s, lk, m, o, xs, n, rfl, _⟩ := h
    rfl
  · obtain ⟨sk, lk, m, o, xs, n, rfl, m0, m1, o0, o1, hlk, hx0, hx10, hxw, hS, hn, k⟩ := h
    have nd := sc_l_drawn_step.nd
    have r1 : Room 1 _ := hr.mono (by decide)
    have r2 : Room 2 _ := hr.mono (by decide)
    have two : 2 ≤ sizeLine := by show 2 ≤ sizeLine; decide
    have three : 3 ≤ sizeLine := by show 3 ≤ sizeLine; decide
    have four : 4 ≤ sizeLine := by show 4 ≤ sizeLine; decide
    have n200 := n200e
    refine ⟨_, pss_cons (ps_set (i := 4) nd rfl (Or.inl rfl) (pe_ix ix_list (pv 3) (pe_c cC r1 (pa_cons (pv 0) (pa_cons (pe_callB call_len_seq (by rfl) mL PySem.boot_len (pa_cons (pv 3) pa_nil)) pa_nil))) (fun _ _ => rfl)))
      (Evl.pss_cut (ps_if (PW.pt (pw_and (pt_cmpR op_lt (pv 1) pe_int (nomark _)) (pw_and1 (pt_cmpR op_notIn_seq (pv 4) (pe_tup (pa_cons pe_str (pa_cons pe_str pa_nil))) (by rfl))))) (pss_one (ps_set (i := 4) nd rfl (Or.inl rfl) pe_str)) pss_nil)
      (pss_cons (ps_if (pt_cmpR op_eq (pv 4) pe_str (nomark _)) (pss_one (ps_ret (pe_tup (pa_cons pe_str (pa_cons (pe_c cC r1 (pa_cons (pv 0) (pa_cons (pv 1) pa_nil))) (pa_cons (pe_c cC r1 (pa_cons (pv 0) (pa_cons (pe_op op_add (pv 2) pe_int) pa_nil))) pa_nil)))))) pss_nil)
      (pss_cons (ps_if (pt_cmpR op_eq (pv 4) pe_str (nomark _)) (pss_one (ps_ret (pe_tup (pa_cons pe_str (pa_cons (pe_c cC r1 (pa_cons (pv 0) (pa_cons (pv 1) pa_nil))) (pa_cons (pe_c cP hr (pa_cons (pv 0) (pa_cons (pe_ix ix_list (pe_lst (pa_cons pe_int (pa_cons pe_int pa_nil))) (pe_callTy call_int1 (by rfl) mIn (by decide +kernel) (pa_cons (pe_cmpR op_gt (pv 2) pe_int (nomark _)) pa_nil)) (fun _ _ => rfl)) pa_nil))) pa_nil)))))) pss_nil)
      (pss_cons (ps_asg (pe_c cT r2 (pa_cons (pv 0) (pa_cons (pv 1) pa_nil))) (pg_tup rfl (pgs_cons (pg_name (i := 5) nd rfl (Or.inl rfl)) (pgs_cons (pg_name (i := 6) nd rfl (Or.inl rfl)) pgs_nil))))
      (pss_cons (ps_if (pt_cmpR op_eq (pv 4) pe_str (nomark _)) (pss_one (ps_ret (pe_tup (pa_cons pe_str (pa_cons (pv 5) (pa_cons (pv 6) (pa_cons (pe_c cP hr (pa_cons (pv 0) (pa_cons (pe_ix ix_list (pe_lst (pa_cons pe_int (pa_cons pe_int pa_nil))) (pe_callTy call_int1 (by rfl) mIn (by decide +kernel) (pa_cons (pe_cmpR op_gt (pv 2) pe_int (nomark _)) pa_nil)) (fun _ _ => rfl)) pa_nil))) pa_nil))))))) pss_nil)
      (pss_cons (ps_if (pt_cmpR op_eq (pv 4) pe_str (nomark _)) (pss_one (ps_ret (pe_tup (pa_cons pe_str (pa_cons (pv 5) (pa_cons (pv 6) pa_nil)))))) pss_nil)
      (pss_cons (ps_set (i := 7) nd rfl (Or.inl rfl) (pe_lst (pa_cons (pv 5) (pa_cons (pv 6) pa_nil))))
      (pss_cons (ps_for PassesOwn.never rfl (pi_range1 (by rfl) mR (pa_cons (pv 1) pa_nil)) (pg_name (i := 8) nd rfl (Or.inl rfl)) (pss_one (ps_if (PW.pt (pw_and (pt_cmpR op_notIn_seq (pv 8) (pv 7) (by rfl)) (pw_and1 (pt_cmpR op_eq (pe_c cC r1 (pa_cons (pv 0) (pa_cons pe_int pa_nil))) pe_int (nomark _))))) (pss_one (ps_expr (pe_bm PySem.F.plainAttrs_list PySem.F.slot_list_append PySem.F.type_list_append mt_append (pv 7) (pa_cons (pv 8) pa_nil)))) pss_nil)))
      (pss_one (ps_ret (pe_tup (pa_cons pe_str (pa_cons (pe_callB cr_sorted (by rfl) mSo (by decide +kernel) (pa_cons (pv 7) pa_nil)) pa_nil))))))))))))), ?_⟩
    have lks := strs_ne hlk hS
    have xl : 0 < xs.length := List.length_pos_iff.mpr hx0
    refine ⟨_, rfl, _, rfl, _, rfl, lk, _, rfl, .inl (SqL.of hlk), sk, ((xs.map V.str).length : Int), n, rfl, hS, by omega, by rw [List.length_map]; omega, by rw [n200, List.length_map]; omega, fun r H0 r0 r1' b0 s0 z0 => ?_⟩
    rw [List.length_map] at r1'
    obtain ⟨j, rfl⟩ : ∃ j : Nat, r = (j : Int) := ⟨r.toNat, by omega⟩
    have hj : j < xs.length := by omega
    have hxj : (xs.map V.str)[j]? = some (.str xs[j]) := by rw [List.getElem?_map, List.getElem?_eq_getElem hj]; rfl
    have hW := hxw _ (List.getElem_mem hj)
    generalize xs[j] = x0 at hxj hW
    refine ⟨lk, _, _, _, rfl, rfl, SqL.of (b0 _ _ lks hlk), atI_nat hxj, ?_⟩
    refine ⟨fun σ H' => Evl.Ex H0 H' ∧ ∃ x : Str, σ = [some (.ref sk), some (.int m), some (.int o), some (.ref lk), some (.str x), none, none, none, none] ∧ Word x ∧ (m < 2 → x = "pour" ∨ x = "scoop"), ?_, ?_⟩
    · refine ⟨_, rfl, _, _, rfl, rfl, _, rfl, ?_⟩
      by_cases hm : m < 2
      · refine if_t (decide_eq_true hm) ⟨_, rfl, two, fun tq htq => ⟨tq, _, rfl, .inr (SqT.of upd_same), rfl, rfl, _, rfl, ?_⟩⟩
        rcases hW with rfl | rfl | rfl | rfl | rfl
        · exact if_f (by decide) ⟨Evl.Ex.new htq, _, rfl, .inl rfl, fun _ => .inl rfl⟩
        · exact if_f (by decide) ⟨Evl.Ex.new htq, _, rfl, .inr (.inl rfl), fun _ => .inr rfl⟩
        · exact if_t (by decide) ⟨Evl.Ex.new htq, _, rfl, .inl rfl, fun _ => .inl rfl⟩
        · exact if_t (by decide) ⟨Evl.Ex.new htq, _, rfl, .inl rfl, fun _ => .inl rfl⟩
        · exact if_t (by decide) ⟨Evl.Ex.new htq, _, rfl, .inl rfl, fun _ => .inl rfl⟩
      · exact if_f (decide_eq_false hm) (if_f rfl ⟨Evl.Ex.refl _, _, rfl, hW, fun z => absurd z hm⟩)
    · rintro σ H0' ⟨e0, x, rfl, hWx, hm2⟩
      have b0' := b0.trans (But.of_ex e0)
      have s0' := s0.ex e0
      rcases hWx with rfl | rfl | rfl | rfl | rfl
      · skip
        refine ⟨_, rfl, rfl, _, rfl, if_t (by decide) ?_⟩
        refine ⟨_, rfl, _, rfl, sk, m, n + 1, rfl, s0', by omega, m0, by rw [n200]; omega, fun k1 H1 k0 k1' b1 s1 z1 => ?_⟩
        refine ⟨_, rfl, _, rfl, _, _, rfl, rfl, sk, o + 1, n + 2, rfl, s1, by omega, by omega, by rw [n200]; omega, fun a H2 a0 a1 b2 s2 z2 => ⟨three, fun t ht => ?_⟩⟩
        exact k t (.po k1 a) _ ((b0'.trans (b1.trans b2)).trans (But.of_ex (Evl.Ex.new ht))) ((s2.ex (Evl.Ex.new ht)).le (by omega)) (nw_at (but_none (b0'.trans (b1.trans b2)) s2 ht) upd_same) ⟨⟨k0, k1'⟩, a0⟩ (fun _ _ e => by cases e; omega) (fun _ _ e => by cases e)
      · skip
        refine ⟨_, rfl, rfl, _, rfl, if_f (by decide) ?_⟩
        refine ⟨_, rfl, rfl, _, rfl, if_t (by decide) ?_⟩
        refine ⟨_, rfl, _, rfl, sk, m, n + 1, rfl, s0', by omega, m0, by rw [n200]; omega, fun k1 H1 k0 k1' b1 s1 z1 => ?_⟩
        refine ⟨_, rfl, two, fun q hq => ?_⟩
        have e1' := Evl.Ex.new (o := .lst [.int 6, .int 1000]) hq
        have b1' := b1.trans (But.of_ex (p := sk) e1')
        have s1' := s1.ex e1'
        have q1 := upd_same (H := H1) (a := q) (o := .lst [.int 6, .int 1000])
        generalize upd H1 q (.lst [.int 6, .int 1000]) = H1' at e1' b1' s1' q1
        refine ⟨_, rfl, _, _, rfl, rfl, .inr ⟨_, rfl, ?_⟩⟩
        by_cases h12 : 12 < o
        · rw [decide_eq_true h12]
          refine ⟨q, _, _, _, rfl, rfl, SqL.of q1, atI_nat (j := 1) rfl, sk, 1000, n + 2, rfl, by decide, by decide, s1', by omega, fun g p q H2 b2 s2 hg hgt hP hq4 => ⟨three, fun t ht => ?_⟩⟩
          exact k t (.sc k1 p q) _ ((b0'.trans (b1'.trans b2)).trans (But.of_ex (Evl.Ex.new ht))) ((s2.ex (Evl.Ex.new ht)).le (by omega)) ⟨g, nw_at (but_none (b0'.trans (b1'.trans b2)) s2 ht) upd_same, nw_at (but_none (b0'.trans b1') s1' hg) (Eq.trans (upd_ne (ne_of_none hgt ht)) hgt)⟩ ⟨⟨k0, k1'⟩, hP⟩ (fun _ _ e => by cases e) (fun _ _ e => by cases e; exact hq4)
        · rw [decide_eq_false h12]
          refine ⟨q, _, _, _, rfl, rfl, SqL.of q1, atI_nat (j := 0) rfl, sk, 6, n + 2, rfl, by decide, by decide, s1', by omega, fun g p q H2 b2 s2 hg hgt hP hq4 => ⟨three, fun t ht => ?_⟩⟩
          exact k t (.sc k1 p q) _ ((b0'.trans (b1'.trans b2)).trans (But.of_ex (Evl.Ex.new ht))) ((s2.ex (Evl.Ex.new ht)).le (by omega)) ⟨g, nw_at (but_none (b0'.trans (b1'.trans b2)) s2 ht) upd_same, nw_at (but_none (b0'.trans b1') s1' hg) (Eq.trans (upd_ne (ne_of_none hgt ht)) hgt)⟩ ⟨⟨k0, k1'⟩, hP⟩ (fun _ _ e => by cases e) (fun _ _ e => by cases e; exact hq4)
      · skip
        have hm2' : 2 ≤ m := by
          refine Int.not_lt.mp fun z => ?_
          rcases hm2 z with h | h <;> exact absurd h (by decide)
        refine ⟨_, rfl, rfl, _, rfl, if_f (by decide) ?_⟩
        refine ⟨_, rfl, rfl, _, rfl, if_f (by decide) ?_⟩
        refine ⟨_, rfl, _, rfl, sk, m, n + 1, rfl, hm2', m1, s0', by omega, fun t1 x y H1 b1 s1 ht1 h1 x0 x1 y0 y1 xyn => ⟨t1, _, rfl, SqT.of h1, rfl, _, _, rfl, _, _, rfl, rfl, ?_⟩⟩
        have xy := xyn
        refine ⟨_, rfl, rfl, _, rfl, if_t (by decide) ?_⟩
        refine ⟨_, rfl, _, rfl, _, rfl, two, fun q hq => ?_⟩
        have e1' := Evl.Ex.new (o := .lst [.int 6, .int 1000]) hq
        have b1' := b1.trans (But.of_ex (p := sk) e1')
        have s1' := s1.ex e1'
        have q1 := upd_same (H := H1) (a := q) (o := .lst [.int 6, .int 1000])
        generalize upd H1 q (.lst [.int 6, .int 1000]) = H1' at e1' b1' s1' q1
        refine ⟨_, rfl, _, _, rfl, rfl, .inr ⟨_, rfl, ?_⟩⟩
        by_cases h12 : 12 < o
        · rw [decide_eq_true h12]
          refine ⟨q, _, _, _, rfl, rfl, SqL.of q1, atI_nat (j := 1) rfl, sk, 1000, n + 3, rfl, by decide, by decide, s1', by omega, fun g p q H2 b2 s2 hg hgt hP hq4 => ⟨four, fun t ht => ?_⟩⟩
          exact k t (.mv x y p q) _ ((b0'.trans (b1'.trans b2)).trans (But.of_ex (Evl.Ex.new ht))) ((s2.ex (Evl.Ex.new ht)).le (by omega)) ⟨g, nw_at (but_none (b0'.trans (b1'.trans b2)) s2 ht) upd_same, nw_at (but_none (b0'.trans b1') s1' hg) (Eq.trans (upd_ne (ne_of_none hgt ht)) hgt)⟩ ⟨⟨x0, x1⟩, ⟨y0, y1⟩, xy, hP⟩ (fun _ _ e => by cases e) (fun _ _ e => by cases e; exact hq4)
        · rw [decide_eq_false h12]
          refine ⟨q, _, _, _, rfl, rfl, SqL.of q1, atI_nat (j := 0) rfl, sk, 6, n + 3, rfl, by decide, by decide, s1', by omega, fun g p q H2 b2 s2 hg hgt hP hq4 => ⟨four, fun t ht => ?_⟩⟩
          exact k t (.mv x y p q) _ ((b0'.trans (b1'.trans b2)).trans (But.of_ex (Evl.Ex.new ht))) ((s2.ex (Evl.Ex.new ht)).le (by omega)) ⟨g, nw_at (but_none (b0'.trans (b1'.trans b2)) s2 ht) upd_same, nw_at (but_none (b0'.trans b1') s1' hg) (Eq.trans (upd_ne (ne_of_none hgt ht)) hgt)⟩ ⟨⟨x0, x1⟩, ⟨y0, y1⟩, xy, hP⟩ (fun _ _ e => by cases e) (fun _ _ e => by cases e; exact hq4)
      · skip
        have hm2' : 2 ≤ m := by
          refine Int.not_lt.mp fun z => ?_
          rcases hm2 z with h | h <;> exact absurd h (by decide)
        refine ⟨_, rfl, rfl, _, rfl, if_f (by decide) ?_⟩
        refine ⟨_, rfl, rfl, _, rfl, if_f (by decide) ?_⟩
        refine ⟨_, rfl, _, rfl, sk, m, n + 1, rfl, hm2', m1, s0', by omega, fun t1 x y H1 b1 s1 ht1 h1 x0 x1 y0 y1 xyn => ⟨t1, _, rfl, SqT.of h1, rfl, _, _, rfl, _, _, rfl, rfl, ?_⟩⟩
        have xy := xyn
        refine ⟨_, rfl, rfl, _, rfl, if_f (by decide) ?_⟩
        refine ⟨_, rfl, rfl, _, rfl, if_f (by decide) ?_⟩
        refine ⟨_, rfl, _, rfl, two, fun D hD => ?_⟩
        have e2 := Evl.Ex.new (o := .lst [.int x, .int y]) hD
        have D1 := sk_ne s1 hD
        have b2 := But.of_ex (p := sk) e2
        have s2 := s1.ex e2
        have g2 : Li (upd H1 D (.lst [.int x, .int y])) D [x, y] := upd_same
        generalize upd H1 D (.lst [.int x, .int y]) = H2 at e2 b2 s2 g2
        refine ⟨_, rfl, m, rfl, by omega, by omega, for_range (n := m.toNat) (fun i σ H' => ∃ (ks : List Int) (v8 : Option V), σ = [some (.ref sk), some (.int m), some (.int o), some (.ref lk), some (.str "open"), some (.int x), some (.int y), some (.ref D), v8] ∧ But sk H1 H' ∧ Sk H' sk (n + 3 + i) ∧ Li H' D ks ∧ NdI x y ks i) ⟨_, none, rfl, b2, s2, g2, NdI.start xy⟩ ?_ ?_⟩
        · rintro i σ H3 hi ⟨ks, v8, rfl, b3, s3, hL, hN⟩
          rw [Int.zero_add]
          refine ⟨_, rfl, _, rfl, D, _, rfl, .inl (SqL.of hL), rfl, flat_iV ks, _, rfl, ?_⟩
          by_cases hin : (i : Int) ∈ ks
          · exact if_f (by rw [(inV_iV _ _).mpr hin]; rfl) (if_f rfl ⟨ks, _, rfl, b3, s3.le (by omega), hL, hN.skip⟩)
          · refine if_t (by cases hb : inV (.int (i : Int)) (iV ks) with | false => rfl | true => exact absurd ((inV_iV _ _).mp hb) hin) ?_
            refine ⟨_, rfl, sk, 3, n + 3 + i, rfl, s3, by omega, by decide, by decide, fun c H4 c0 c1 b4 s4 z4 => ⟨rfl, _, rfl, ?_⟩⟩
            have hL4 := b4 _ _ D1 hL
            by_cases hc : c = 0
            · refine if_t (by rw [hc]; rfl) ?_
              refine ⟨_, rfl, .inl ⟨rfl, _, SqL.of hL4⟩, _, rfl, D, _, _, rfl, rfl, hL4, ?_, ks ++ [(i : Int)], _, rfl, ?_, s4.upd D1, ?_, hN.more hin⟩
              · rw [iV_len]
                exact Nat.lt_of_le_of_lt hN.len (Nat.lt_of_lt_of_le (show i + 2 < 22 by omega) (by decide))
              · exact fun c o nc e => Eq.trans (upd_ne (ne_of_none' e hD)) ((b3.trans b4) c o nc e)
              · exact Eq.trans upd_same (by unfold iV; rw [List.map_append]; rfl)
            · exact if_f (decide_eq_false fun q => hc (by injection q)) ⟨ks, _, rfl, b3.trans b4, s4, hL4, hN.skip⟩
        · rintro σ H3 ⟨ks, v8, rfl, b3, s3, hL, hN⟩
          have em : ((m.toNat : Nat) : Int) = m := by omega
          have hlen := hN.len
          refine ⟨_, rfl, D, ks, rfl, SqL.of hL, by omega, fun ns p hn hs hp => ⟨two, fun t ht => ?_⟩⟩
          have e4 := Evl.Ex.new (o := .lst (ns.map V.int)) hp
          have e5 := Evl.Ex.new (o := .tup [.str "open", .ref p]) ht
          have bb := (b0'.trans (b1.trans b3)).trans (But.of_ex (e4.trans e5))
          have s5 := s3.ex (e4.trans e5)
          have ph : H p = none := but_none (b0'.trans (b1.trans b3)) s3 hp
          have th : H t = none := but_none ((b0'.trans (b1.trans b3)).trans (But.of_ex e4)) (s3.ex e4) ht
          exact k t (.op ns) _ bb (s5.le (by omega)) ⟨p, nw_at th upd_same, nw_at ph (e5 _ _ upd_same)⟩ (hN.fine hn hs em x0 x1 y0 y1 (by omega)) (fun _ _ e => by cases e) (fun _ _ e => by cases e)
      · skip
        have hm2' : 2 ≤ m := by
          refine Int.not_lt.mp fun z => ?_
          rcases hm2 z with h | h <;> exact absurd h (by decide)
        refine ⟨_, rfl, rfl, _, rfl, if_f (by decide) ?_⟩
        refine ⟨_, rfl, rfl, _, rfl, if_f (by decide) ?_⟩
        refine ⟨_, rfl, _, rfl, sk, m, n + 1, rfl, hm2', m1, s0', by omega, fun t1 x y H1 b1 s1 ht1 h1 x0 x1 y0 y1 xyn => ⟨t1, _, rfl, SqT.of h1, rfl, _, _, rfl, _, _, rfl, rfl, ?_⟩⟩
        have xy := xyn
        refine ⟨_, rfl, rfl, _, rfl, if_f (by decide) ?_⟩
        refine ⟨_, rfl, rfl, _, rfl, if_t (by decide) ?_⟩
        refine ⟨_, rfl, _, rfl, three, fun t ht => ?_⟩
        exact k t (.un x y) _ ((b0'.trans b1).trans (But.of_ex (Evl.Ex.new ht))) ((s1.ex (Evl.Ex.new ht)).le (by omega)) (nw_at (but_none (b0'.trans b1) s1 ht) upd_same) ⟨⟨x0, x1⟩, ⟨y0, y1⟩, xy⟩ (fun _ _ e => by cases e) (fun _ _ e => by cases e)
end
end V2


namespace V2
open PySem L2
open PySem.Spec PyProof.Rows
/-! ## drawn plans -/
def DsJ (H : Hp) (sk ld : Addr) (m : Int) (ds : List Deed) (H' : Hp) : Prop := But sk H H' ∧ DsAt (wo sk H') ld ds ∧ (∀ d ∈ ds, okD m d) ∧ ∀ k a, Deed.po k a ∈ ds → a ≤ 1000
theorem DsJ.more {H H1 H2 : Hp} {sk ld t : Addr} {m : Int} {ds : List Deed} {d : Deed} {n i : Nat} (h : DsJ H sk ld m ds H1) (lH : H ld = none) (s : Sk H1 sk n) (b : But sk H1 H2) (hd : DAt (Nw H1 H2) t d) (ok : okD m d) (hp : ∀ k a, d = .po k a → a ≤ 1000) (hl : ds.length = i) (hi : i ≤ 100) :
    ∃ acc, H2 ld = some (.lst acc) ∧ acc.length < sizeLine ∧ DsJ H sk ld m (ds ++ [d]) (upd H2 ld (.lst (acc ++ [.ref t]))) := by
  obtain ⟨h1, h2, h3, h4⟩ := h
  have hD7 := h2.ex b.wo
  obtain ⟨acc, q1, q2⟩ := ds_list hD7
  have q1 := wo_ex _ _ q1
  have q3 := ds_more hD7 h3 (hd.ex (nw_wo s)) ok (wo_upd (x := .lst (acc ++ [.ref t]))) (wo_app q1)
  refine ⟨acc, q1, ?_, ?_, q3, ?_, ?_⟩
  · rw [q2, hl]
    exact Nat.lt_of_le_of_lt hi (by decide)
  · exact fun c o nc e => Eq.trans (upd_ne (ne_of_none' e lH)) ((h1.trans b) c o nc e)
  · intro d' h'
    rcases List.mem_append.mp h' with h | h
    · exact h3 _ h
    · rw [List.mem_singleton.mp h]
      exact ok
  · intro k' a' h'
    rcases List.mem_append.mp h' with h | h
    · exact h4 _ _ h
    · exact hp k' a' (List.mem_singleton.mp h).symm

theorem w_five : ∀ x ∈ (["pour", "scoop", "move", "open", "unless"] : List Str), Word x := fun x hx => by
  simp only [List.mem_cons, List.not_mem_nil, or_false] at hx
  rcases hx with rfl | rfl | rfl | rfl | rfl <;> (unfold Word; decide)
def PqB (ds : List Deed) : Prop := ∀ d ∈ ds, ∀ p q, partD d = some (p, q) → q ≤ 1001
theorem PqB.more {ds : List Deed} {d : Deed} (h : PqB ds) (k : ∀ p q, partD d = some (p, q) → q ≤ 1001) : PqB (ds ++ [d]) := fun e he => by
  rcases List.mem_append.mp he with h1 | h1
  · exact h e h1
  · rw [List.mem_singleton.mp h1]
    exact k
def spShape4 : Sp := fun vs H Q _ => ∃ (s : Addr) (n : Nat), vs = [.ref s] ∧ Sk H s n ∧ n ≤ 70000 ∧
  ∀ (t : Addr) (ts : List Tk) (ds : List Deed) (H' : Hp), But s H H' → Sk H' s (n + 3000) → ShAt (wo s H') t ts ds → ShW ts ds → PqB ds → Q (.ref t) H'
section
variable {base : Heap} {mg : Str → Option Value} {K : PySem.W.Frag} {w : World} {P : Program}
theorem ok_great4 {f : Addr} {fd : FuncData} (F : Fun K "_law_great_plan" "_law_great_plan" s_l_great_plan f fd) (mR : mg "range" = none) (cC : Cal P w K mg base 1 "_law_coin" p_l_coin spCoin) (cV : Cal P w K mg base 2 "_law_drawn_tanks" p_l_drawn_tanks spVats) (cD : Cal P w K mg base 4 "_law_drawn_step" p_l_drawn_step spDeed4) : FnOk P w K mg base CX0 5 f fd p_l_great_plan spShape4 := by
  refine F.ok sc_l_great_plan (fun vs H Q E h => ?_) (fun cdv A outer s H vs Q E hr h => ?_)
  · obtain ⟨s, n, rfl, _⟩ := h
    rfl
  · obtain ⟨sk, n, rfl, hS, hn, k⟩ := h
    have nd := sc_l_great_plan.nd
    have n200 := n200e
    have two : 2 ≤ sizeLine := by show 2 ≤ sizeLine; decide
    have five : 5 ≤ sizeLine := by show 5 ≤ sizeLine; decide
    have r1 : Room 1 _ := hr.mono (by decide)
    have r2 : Room 2 _ := hr.mono (by decide)
    have r4 : Room 4 _ := hr.mono (by decide)
    refine ⟨_, pss_cons (ps_set (i := 1) nd rfl (Or.inl rfl) (pe_op op_add pe_int (pe_c cC r1 (pa_cons (pv 0) (pa_cons pe_int pa_nil)))))
      (pss_cons (ps_par (i := 2) (j := 3) rfl nd rfl rfl (by decide) rfl rfl (pa_cons (pe_lst (pa_cons pe_str (pa_cons pe_str (pa_cons pe_str (pa_cons pe_str (pa_cons pe_str pa_nil)))))) (pa_cons (pe_lst pa_nil) pa_nil)) (by rfl))
      (pss_cons (ps_for PassesOwn.never rfl (pi_range1 (by rfl) mR (pa_cons (pe_c cC r1 (pa_cons (pv 0) (pa_cons (pe_ix ix_list (pe_lst (pa_cons pe_int (pa_cons pe_int pa_nil))) (pe_c cC r1 (pa_cons (pv 0) (pa_cons pe_int pa_nil))) (fun _ _ => rfl)) pa_nil))) pa_nil)) (pg_name (i := 4) nd rfl (Or.inl rfl)) (pss_one (ps_expr (pe_bm PySem.F.plainAttrs_list PySem.F.slot_list_append PySem.F.type_list_append mt_append (pv 3) (pa_cons (pe_c cD r4 (pa_cons (pv 0) (pa_cons (pv 1) (pa_cons pe_int (pa_cons (pv 2) pa_nil))))) pa_nil)))))
      (pss_one (ps_ret (pe_tup (pa_cons (pe_c cV r2 (pa_cons (pv 0) (pa_cons (pv 1) (pa_cons pe_int pa_nil)))) (pa_cons (pv 3) pa_nil))))))), ?_⟩
    refine ⟨_, rfl, sk, 20, n, rfl, hS, by omega, by decide, by decide, fun c H1 c0 c1 b1 s1 z1 => ⟨_, _, rfl, rfl, five, fun lw hlw => ?_⟩⟩
    have ew := Evl.Ex.new (o := .lst [.str "pour", .str "scoop", .str "move", .str "open", .str "unless"]) hlw
    have gw : upd H1 lw (.lst [.str "pour", .str "scoop", .str "move", .str "open", .str "unless"]) lw = some (.lst ((["pour", "scoop", "move", "open", "unless"] : List Str).map V.str)) := upd_same
    have b1' := b1.trans (But.of_ex (p := sk) ew)
    have s1' := s1.ex ew
    have wsk := sk_ne s1 hlw
    refine ⟨Nat.zero_le _, fun ld hld => ⟨_, _, rfl, ?_⟩⟩
    have lH : H ld = none := but_none b1' s1' hld
    have lsk := sk_ne s1' hld
    have e2 := Evl.Ex.new (o := .lst []) hld
    have hD2 : DsJ H sk ld (1 + c) [] (upd (upd H1 lw (.lst [.str "pour", .str "scoop", .str "move", .str "open", .str "unless"])) ld (.lst [])) := ⟨b1'.trans (But.of_ex e2), ⟨[], wo_at lsk upd_same, rfl, fun i a t h => (by cases h)⟩, (fun d h => by cases h), fun k a h => by cases h⟩
    have s2 := s1'.ex e2
    have gw2 := e2 _ _ gw
    have nwl : lw ≠ ld := fun h => by rw [← h, gw] at hld; cases hld
    generalize upd (upd H1 lw (.lst [.str "pour", .str "scoop", .str "move", .str "open", .str "unless"])) ld (.lst []) = H2 at e2 hD2 s2 gw2
    refine ⟨_, rfl, ?_⟩
    show tOp (rIxL _) (tLst _) (tCall spCoin [] E0 _) _ _ _
    refine pick_read (xs := [.int 9, .int 61]) rfl (by decide) (by decide) rfl s2 (by omega) (fun _ _ q => q) fun v H3 hv b3 s3 => ?_
    obtain ⟨x, rfl, x0, x1⟩ : ∃ x, v = .int x ∧ 0 < x ∧ x ≤ 61 := by
      simp only [List.mem_cons, List.not_mem_nil, or_false] at hv
      rcases hv with rfl | rfl <;> exact ⟨_, rfl, by decide, by decide⟩
    refine ⟨sk, x, n + 2, rfl, s3, by omega, x0, by rw [n200]; omega, fun y H4 y0 y1 b4 s4 z4 => ⟨y, rfl, by omega, by omega, ?_⟩⟩
    have hD4 : DsJ H sk ld (1 + c) [] H4 := ⟨(hD2.1.trans b3).trans b4, (hD2.2.1.ex b3.wo).ex b4.wo, hD2.2.2⟩
    refine for_range (n := y.toNat) (fun i σ H' => ∃ (ds : List Deed) (v4 : Option V), σ = [some (.ref sk), some (.int (1 + c)), some (.ref lw), some (.ref ld), v4] ∧ Sk H' sk (n + 3 + 25 * i) ∧ ds.length = i ∧ DsJ H sk ld (1 + c) ds H' ∧ PqB ds ∧ H' lw = some (.lst ((["pour", "scoop", "move", "open", "unless"] : List Str).map V.str)))
      ⟨[], none, rfl, s4, rfl, hD4, (fun d h => by cases h), b4 _ _ wsk (b3 _ _ wsk gw2)⟩ ?_ ?_
    · rintro i σ H5 hi ⟨ds, v4, rfl, s5, hl, hD5, hQ5, gw5⟩
      rw [Int.zero_add]
      obtain ⟨acc0, p1, p2⟩ := ds_list hD5.2.1
      refine ⟨_, rfl, .inl ⟨rfl, _, SqL.of (wo_ex _ _ p1)⟩, ?_⟩
      refine ⟨_, rfl, _, rfl, _, rfl, sk, lw, 1 + c, 1000, _, n + 3 + 25 * i, rfl, by omega, by omega, by decide, by decide, gw5, List.cons_ne_nil _ _, by decide, w_five, s5, by omega, fun t d H7 b7 s7 hd hdo hdp hdq => ?_⟩
      obtain ⟨acc, q1, q2, q3⟩ := hD5.more lH s5 b7 hd hdo hdp hl (by omega)
      exact ⟨ld, acc, _, rfl, rfl, q1, q2, ds ++ [d], _, rfl, (s7.upd lsk).le (by omega), by rw [List.length_append, hl]; rfl, q3, hQ5.more hdq, Eq.trans (upd_ne nwl) (b7 _ _ wsk gw5)⟩
    · rintro σ H5 ⟨ds, v4, rfl, s5, hl, hD5, hQ5, gw5⟩
      refine ⟨_, rfl, _, rfl, sk, 1 + c, 1000, _, rfl, by omega, by omega, by decide, by decide, s5, by omega, fun lv ts H6 b6 s6 lvn hT hok2 hlen hsz => ?_⟩
      refine ⟨_, rfl, two, fun t ht => ?_⟩
      have e7 := Evl.Ex.new (o := .tup [.ref lv, .ref ld]) ht
      have b7 := But.of_ex (p := sk) e7
      refine k t ts ds _ ((hD5.1.trans b6).trans b7) ((s6.ex e7).le (by omega)) ⟨lv, ld, wo_at (sk_ne s6 ht) upd_same, hT.ex b7.wo, (hD5.2.1.ex b6.wo).ex b7.wo⟩ ⟨⟨hok2, by omega, ?_⟩, hsz, hD5.2.2.2⟩ hQ5
      rw [hlen]
      exact hD5.2.2.1
theorem ok_plan4 {f : Addr} {fd : FuncData} (F : Fun K "_law_drawn_plan" "_law_drawn_plan" s_l_drawn_plan f fd) (mR : mg "range" = none) (mL : mg "len" = none) (mIn : mg "int" = none) (cC : Cal P w K mg base 1 "_law_coin" p_l_coin spCoin) (cV : Cal P w K mg base 2 "_law_drawn_tanks" p_l_drawn_tanks spVats) (cD : Cal P w K mg base 4 "_law_drawn_step" p_l_drawn_step spDeed4) : FnOk P w K mg base CX0 5 f fd p_l_drawn_plan spShape4 := by
  refine F.ok sc_l_drawn_plan (fun vs H Q E h => ?_) (fun cdv A outer s H vs Q E hr h => ?_)
  · obtain ⟨s, n, rfl, _⟩ := h
    rfl
  · obtain ⟨sk, n, rfl, hS, hn, k⟩ := h
    have nd := sc_l_drawn_plan.nd
    have n200 := n200e
    have two : 2 ≤ sizeLine := by show 2 ≤ sizeLine; decide
    have six : 6 ≤ sizeLine := by show 6 ≤ sizeLine; decide
    have r1 : Room 1 _ := hr.mono (by decide)
    have r2 : Room 2 _ := hr.mono (by decide)
    have r4 : Room 4 _ := hr.mono (by decide)
    refine ⟨_, pss_cons (ps_set (i := 1) nd rfl (Or.inl rfl) (pe_ix ix_list (pe_lst (pa_cons pe_int (pa_cons pe_int pa_nil))) (pe_c cC r1 (pa_cons (pv 0) (pa_cons pe_int pa_nil))) (fun _ _ => rfl)))
      (pss_cons (ps_set (i := 2) nd rfl (Or.inl rfl) (pe_c cV r2 (pa_cons (pv 0) (pa_cons (pe_op op_add pe_int (pe_c cC r1 (pa_cons (pv 0) (pa_cons pe_int pa_nil)))) (pa_cons (pv 1) pa_nil)))))
      (pss_cons (ps_par3 (i := 3) (j := 4) (l := 5) rfl nd rfl rfl rfl (by decide) (by decide) (by decide) rfl rfl rfl (pa_cons (pe_lst pa_nil) (pa_cons pe_int (pa_cons pe_int pa_nil))) (by rfl))
      (pss_cons (ps_for PassesOwn.never rfl (pi_range1 (by rfl) mR (pa_cons (pe_c cC r1 (pa_cons (pv 0) (pa_cons pe_int pa_nil))) pa_nil)) (pg_name (i := 6) nd rfl (Or.inl rfl)) (pss_cons (ps_set (i := 7) nd rfl (Or.inl rfl) (pe_lst (pa_cons pe_str (pa_cons pe_str (pa_cons pe_str (pa_cons pe_str (pa_cons pe_str (pa_cons pe_str pa_nil))))))))
      (Evl.pss_cut (ps_if (pt_cmpR op_gt (pv 4) pe_int (nomark _)) (pss_one (ps_set (i := 7) nd rfl (Or.inl rfl) (pe_op op_cat (pe_slice sl_list (pv 7) po_none (po_some pe_int)) (pe_slice sl_list (pv 7) (po_some pe_int) po_none)))) pss_nil)
      (Evl.pss_cut (ps_if (pt_cmpR op_gt (pv 5) pe_int (nomark _)) (pss_one (ps_setLc (i := 7) (own := [("word", 9)]) (g := (gName 9)) (tt := (tTest (tOp rNe (tVar 9) (tC (.str "unless"))))) (te := (tVar 9)) rfl nd rfl rfl (sw_true rfl rfl rfl (by decide +kernel)) (pi_list (pv 7)) (blkOk_by (N := n_l_drawn_plan) (sc := defScope s_l_drawn_plan) (by decide +kernel)) (fun _ _ _ _ _ => (pg_name (i := 9) nd rfl (Or.inl rfl))) (fun _ _ _ _ _ => pts_one (pt_cmpR op_ne (pv 9) pe_str (nomark _))) (fun _ _ _ _ _ => (pv 9)))) pss_nil)
      (pss_cons (ps_set (i := 8) nd rfl (Or.inl rfl) (pe_c cD r4 (pa_cons (pv 0) (pa_cons (pe_callB call_len_seq (by rfl) mL PySem.boot_len (pa_cons (pv 2) pa_nil)) (pa_cons (pv 1) (pa_cons (pv 7) pa_nil))))))
      (pss_cons (ps_set (i := 4) nd rfl (Or.inl rfl) (pe_op op_add (pv 4) (pe_callTy call_int1 (by rfl) mIn (by decide +kernel) (pa_cons (pe_cmpR op_eq (pe_ix ix_tup (pv 8) pe_int (fun _ _ => rfl)) pe_str (nomark _)) pa_nil))))
      (pss_cons (ps_set (i := 5) nd rfl (Or.inl rfl) (pe_op op_add (pv 5) (pe_callTy call_int1 (by rfl) mIn (by decide +kernel) (pa_cons (pe_cmpR op_eq (pe_ix ix_tup (pv 8) pe_int (fun _ _ => rfl)) pe_str (nomark _)) pa_nil))))
      (pss_one (ps_expr (pe_bm PySem.F.plainAttrs_list PySem.F.slot_list_append PySem.F.type_list_append mt_append (pv 3) (pa_cons (pv 8) pa_nil)))))))))))
      (pss_one (ps_ret (pe_tup (pa_cons (pv 2) (pa_cons (pv 3) pa_nil)))))))), ?_⟩
    show tOp (rIxL _) (tLst _) (tCall spCoin [] E0 _) _ _ _
    refine pick_read (xs := [.int 3, .int 12]) rfl (by decide) (by decide) rfl hS (by omega) (fun _ _ q => q) fun v H1 hv b1 s1 => ?_
    obtain ⟨o, rfl, o0, o1⟩ : ∃ x, v = .int x ∧ 0 < x ∧ x ≤ 12 := by
      simp only [List.mem_cons, List.not_mem_nil, or_false] at hv
      rcases hv with rfl | rfl <;> exact ⟨_, rfl, by decide, by decide⟩
    refine ⟨_, rfl, _, rfl, sk, 3, n + 1, rfl, s1, by omega, by decide, by decide, fun c H2 c0 c1 b2 s2 z2 => ⟨_, _, rfl, rfl, _, rfl, sk, 2 + c, o, n + 2, rfl, by omega, by omega, o0, by omega, s2, by omega, fun lv ts Hv bv sv lvn hT hok2 hlen hsz => ?_⟩⟩
    have bv' := (b1.trans b2).trans bv
    obtain ⟨asT, tk1, tk2, tk3⟩ := id hT
    refine ⟨Nat.zero_le _, fun ld hld => ⟨_, _, _, rfl, ?_⟩⟩
    have lH : H ld = none := but_none bv' sv hld
    have lsk := sk_ne sv hld
    have e3 := Evl.Ex.new (o := .lst []) hld
    have nlv : lv ≠ ld := fun h => by
      have := wo_ex _ _ tk1
      rw [h, hld] at this
      cases this
    have hd3 : DsAt (wo sk (upd Hv ld (.lst []))) ld [] := ⟨[], wo_at lsk upd_same, rfl, fun i a t h => (by cases h)⟩
    have hT3 : TksAt (wo sk (upd Hv ld (.lst []))) lv ts := hT.ex (ex_wo e3)
    have b3 := bv'.trans (But.of_ex (p := sk) e3)
    have s3 := sv.ex e3
    generalize upd Hv ld (.lst []) = H3 at e3 hd3 b3 s3 hT3
    refine ⟨_, rfl, sk, 7, _, rfl, s3, by omega, by decide, by decide, fun y H4 y0 y1 b4 s4 z4 => ⟨y, rfl, by omega, by omega, ?_⟩⟩
    obtain ⟨N, hN⟩ : ∃ N, N = n + 3 + (1 + 3 * (2 + c).toNat) := ⟨_, rfl⟩
    have hN100 : N ≤ n + 30 := by omega
    have s4 : Sk H4 sk (N + 1) := s4.le (by omega)
    refine for_range (n := y.toNat) (fun i σ H' => ∃ (ds : List Deed) (va ha : Int) (v6 v7 v8 : Option V), σ = [some (.ref sk), some (.int o), some (.ref lv), some (.ref ld), some (.int va), some (.int ha), v6, v7, v8, none] ∧ But sk H H' ∧ Sk H' sk (N + 1 + 30 * i) ∧ DsAt (wo sk H') ld ds ∧ ds.length = i ∧ (∀ d ∈ ds, okD (2 + c) d) ∧ (∀ k a, Deed.po k a ∈ ds → a ≤ 1000) ∧ TksAt (wo sk H') lv ts ∧ PqB ds)
      ⟨[], 0, 0, none, none, none, rfl, b3.trans b4, s4, hd3.ex b4.wo, rfl, (fun d h => by cases h), (fun k a h => by cases h), hT3.ex b4.wo, fun d h => by cases h⟩ ?_ ?_
    · rintro i σ H5 hi ⟨ds, va, ha, v6, v7, v8, rfl, b5, s5, hD, hl, hok, hp, hT5, hQ5⟩
      rw [Int.zero_add]
      refine ⟨six, fun lk hlk => ?_⟩
      have e6 := Evl.Ex.new (o := .lst [.str "pour", .str "scoop", .str "move", .str "open", .str "open", .str "unless"]) hlk
      have hk6 : upd H5 lk (.lst [.str "pour", .str "scoop", .str "move", .str "open", .str "open", .str "unless"]) lk = some (.lst ((["pour", "scoop", "move", "open", "open", "unless"] : List Str).map V.str)) := upd_same
      have wd6 : ∀ x ∈ (["pour", "scoop", "move", "open", "open", "unless"] : List Str), Word x := fun z hz => by
        simp only [List.mem_cons, List.not_mem_nil, or_false] at hz
        rcases hz with rfl | rfl | rfl | rfl | rfl | rfl <;> (unfold Word; decide)
      generalize upd H5 lk (.lst [.str "pour", .str "scoop", .str "move", .str "open", .str "open", .str "unless"]) = H6 at e6 hk6
      refine ⟨fun σ H' => ∃ (lk : Addr) (xs : List Str), σ = [some (.ref sk), some (.int o), some (.ref lv), some (.ref ld), some (.int va), some (.int ha), some (.int (i : Int)), some (.ref lk), v8, none] ∧ Evl.Ex H5 H' ∧ H' lk = some (.lst (xs.map V.str)) ∧ ("pour" : Str) ∈ xs ∧ xs.length ≤ 6 ∧ ∀ x ∈ xs, Word x, ?_, ?_⟩
      · refine ⟨_, rfl, _, _, rfl, rfl, _, rfl, ite2 (fun _ => ?_) (fun _ => ⟨_, _, rfl, e6, hk6, List.mem_cons_self, by decide, wd6⟩)⟩
        refine ⟨_, rfl, 3, rfl, lk, _, rfl, SqL.of hk6, fun p2 hp2 => ?_⟩
        have e7 := Evl.Ex.new (o := .lst (cutV ((["pour", "scoop", "move", "open", "open", "unless"] : List Str).map V.str) none (some 3))) hp2
        have g7 : upd H6 p2 (.lst (cutV ((["pour", "scoop", "move", "open", "open", "unless"] : List Str).map V.str) none (some 3))) p2 = some (.lst [.str "pour", .str "scoop", .str "move"]) := Eq.trans upd_same rfl
        refine ⟨_, rfl, 5, rfl, lk, _, rfl, SqL.of (e7 _ _ hk6), fun p3 hp3 => ?_⟩
        have e8 := Evl.Ex.new (o := .lst (cutV ((["pour", "scoop", "move", "open", "open", "unless"] : List Str).map V.str) (some 5) none)) hp3
        have g8 : upd (upd H6 p2 (.lst (cutV ((["pour", "scoop", "move", "open", "open", "unless"] : List Str).map V.str) none (some 3)))) p3 (.lst (cutV ((["pour", "scoop", "move", "open", "open", "unless"] : List Str).map V.str) (some 5) none)) p3 = some (.lst [.str "unless"]) := Eq.trans upd_same rfl
        refine ⟨p2, p3, _, _, rfl, rfl, e8 _ _ g7, g8, by show 4 ≤ sizeLine; decide, fun p4 hp4 => ⟨p4, (["pour", "scoop", "move", "unless"] : List Str), rfl, ((e6.trans e7).trans e8).trans (Evl.Ex.new hp4), Eq.trans upd_same rfl, List.mem_cons_self, by decide, fun z hz => ?_⟩⟩
        simp only [List.mem_cons, List.not_mem_nil, or_false] at hz
        rcases hz with rfl | rfl | rfl | rfl <;> (unfold Word; decide)
      rintro σ H7 ⟨lk, xs, rfl, e7, hk7, x0, x6, wd7⟩
      refine ⟨fun σ H' => ∃ (lk : Addr) (xs : List Str), σ = [some (.ref sk), some (.int o), some (.ref lv), some (.ref ld), some (.int va), some (.int ha), some (.int (i : Int)), some (.ref lk), v8, none] ∧ Evl.Ex H5 H' ∧ H' lk = some (.lst (xs.map V.str)) ∧ ("pour" : Str) ∈ xs ∧ xs.length ≤ 6 ∧ ∀ x ∈ xs, Word x, ?_, ?_⟩
      · refine ⟨_, rfl, _, _, rfl, rfl, _, rfl, ite2 (fun _ => ?_) (fun _ => ⟨_, _, rfl, e7, hk7, x0, x6, wd7⟩)⟩
        refine ⟨_, rfl, lk, rfl, ⟨_, SqL.of hk7⟩, fun D hD => lc_list (xs := xs.map V.str) (fun j H' => Evl.Ex H7 H' ∧ H' D = some (.lst (((xs.take j).filter (fun z => !decide (V.str z = V.str "unless"))).map V.str))) ⟨Evl.Ex.new hD, upd_same⟩ (fun j H' _ q => SqL.of (q.1 _ _ hk7)) ?_ ?_⟩
        · rintro j z H8 hj ⟨e8, g8⟩
          rw [List.getElem?_map] at hj
          cases hxj : xs[j]? with
          | none => rw [hxj] at hj; cases hj
          | some xj =>
            rw [hxj] at hj
            cases hj
            refine ⟨rfl, ?_⟩
            show tTest (tOp rNe (tVar 9) (tC (.str "unless"))) _ _ _
            refine ⟨_, rfl, rfl, _, rfl, ?_⟩
            have tk : (xs.take (j + 1)).filter (fun z => !decide (V.str z = V.str "unless")) = (xs.take j).filter (fun z => !decide (V.str z = V.str "unless")) ++ (if (!decide (V.str xj = V.str "unless")) = true then [xj] else []) := by
              rw [List.take_add_one, hxj, List.filter_append]
              congr 1
              show List.filter _ [xj] = _
              rw [List.filter_cons, List.filter_nil]
            have lf : (((xs.take j).filter (fun z => !decide (V.str z = V.str "unless"))).map V.str).length < sizeLine := by
              rw [List.length_map]
              have h1 := List.length_filter_le (fun z => !decide (V.str z = V.str "unless")) (xs.take j)
              rw [List.length_take] at h1
              exact Nat.lt_of_le_of_lt (show _ ≤ 6 by omega) (by decide)
            refine ite2 (fun hq => ?_) (fun hq => ⟨e8, ?_⟩)
            · refine ⟨_, rfl, _, g8, lf, Evl.Ex.mut e8 hD, ?_⟩
              rw [upd_same, tk, if_pos hq, List.map_append]
              rfl
            · rw [g8, tk, if_neg hq, List.append_nil]
        · rintro H8 ⟨e8, g8⟩
          rw [List.length_map, List.take_length] at g8
          refine ⟨D, _, rfl, e7.trans e8, g8, List.mem_filter.mpr ⟨x0, by decide +kernel⟩, Nat.le_trans (List.length_filter_le _ _) x6, fun z hz => wd7 z (List.mem_filter.mp hz).1⟩
      rintro σ H8 ⟨lk, xs, rfl, e8, hk8, x0, x6, wd8⟩
      have s8 := s5.ex e8
      have b8 := b5.trans (But.of_ex (p := sk) e8)
      have hD8 := hD.ex (ex_wo e8)
      have hT8 := hT5.ex (ex_wo e8)
      have x0' : xs ≠ [] := fun h => by rw [h] at x0; cases x0
      have gT8 := wo_ex _ _ hT8.choose_spec.1
      have lT8 : ((hT8.choose.map V.ref).length : Int) = 2 + c := by
        rw [List.length_map, hT8.choose_spec.2.1]
        exact hlen
      refine ⟨_, rfl, _, rfl, lv, _, rfl, .inl (SqL.of gT8), _, rfl, _, rfl, sk, lk, _, o, xs, N + 1 + 30 * i, rfl, by omega, by omega, o0, by omega, hk8, x0', by omega, wd8, s8, by omega, fun t d H9 b9 s9 hd hdo hdp hdq => ?_⟩
      rw [lT8] at hdo
      have hD9 := hD8.ex b9.wo
      obtain ⟨acc, q1, q2⟩ := ds_list hD9
      have q1 := wo_ex _ _ q1
      obtain ⟨wx, rs, hwx⟩ := dat_word (hd.ex Nw.ex)
      refine ⟨_, rfl, _, rfl, t, _, _, _, rfl, rfl, SqT.of hwx, (by exact atI_nat (j := 0) rfl), rfl, .inr ⟨_, rfl, _, _, rfl, rfl, ?_⟩⟩
      refine ⟨_, rfl, _, rfl, t, _, _, _, rfl, rfl, SqT.of hwx, (by exact atI_nat (j := 0) rfl), rfl, .inr ⟨_, rfl, _, _, rfl, rfl, ?_⟩⟩
      refine ⟨_, rfl, .inl ⟨rfl, _, SqL.of q1⟩, _, rfl, ?_⟩
      have q3 := ds_more hD9 hok (hd.ex (nw_wo s8)) hdo (wo_upd (x := .lst (acc ++ [.ref t]))) (wo_app q1)
      refine ⟨ld, acc, _, rfl, rfl, q1, ?_, ds ++ [d], _, _, _, _, _, rfl, ?_, (s9.upd lsk).le (by omega), q3, by rw [List.length_append, hl]; rfl, ?_, ?_, ?_, hQ5.more hdq⟩
      · rw [q2, hl]
        exact Nat.lt_of_lt_of_le (show i < 100 by omega) (by decide)
      · exact fun c o nc e => Eq.trans (upd_ne (ne_of_none' e lH)) ((b8.trans b9) c o nc e)
      · intro d' h'
        rcases List.mem_append.mp h' with h | h
        · exact hok _ h
        · rw [List.mem_singleton.mp h]
          exact hdo
      · intro k' a' h'
        rcases List.mem_append.mp h' with h | h
        · exact hp _ _ h
        · exact hdp k' a' (List.mem_singleton.mp h).symm
      · obtain ⟨as, w1, w2, w3⟩ := hT8.ex b9.wo
        refine ⟨as, ?_, w2, fun i a t ha ht => ?_⟩
        · exact wo_at (wo_ne w1) (Eq.trans (upd_ne nlv) (wo_ex _ _ w1))
        · have w := w3 i a t ha ht
          refine wo_at (wo_ne w) (Eq.trans (upd_ne (fun h => ?_)) (wo_ex _ _ w))
          rw [h] at w
          have := wo_ex _ _ w
          rw [q1] at this
          cases this
    · rintro σ H5 ⟨ds, va, ha, v6, v7, v8, rfl, b5, s5, hD, hl, hok, hp, hT5, hQ5⟩
      refine ⟨_, rfl, _, rfl, two, fun t ht => ?_⟩
      have e7 := Evl.Ex.new (o := .tup [.ref lv, .ref ld]) ht
      have b7 := But.of_ex (p := sk) e7
      refine k t ts ds _ (b5.trans b7) ((s5.ex e7).le (by omega)) ⟨lv, ld, wo_at (sk_ne s5 ht) upd_same, hT5.ex b7.wo, hD.ex b7.wo⟩ ⟨⟨hok2, by omega, ?_⟩, hsz, hp⟩ hQ5
      rw [hlen]
      exact hok
end
end V2


namespace V2
open PySem L2
open PySem.Spec PyProof.Rows
/-! ## polynomials' texts, both ways -/
abbrev rStr5 : TE := fun σ H Q => (tCons (tVar 5) tNil) σ H fun xs H1 => ∃ i : Int, xs = [.int i] ∧ i.natAbs.log2 < 1920 ∧ Q (.str (nT i)) H1
def Sp8 (ns : List Int) : Prop := Pol ns ∧ ns.length ≤ 8 ∧ ∀ n ∈ ns, n.natAbs ≤ 1000000
def spRdP : Sp := fun vs H Q _ => ∃ ns : List Int, vs = [.str (pT ns)] ∧ Sp8 ns ∧ Evl.RetL (iV ns) H Q
def spPrR : Sp := fun vs H Q _ => ∃ (p : Addr) (m : Nat), vs = [.ref p] ∧ Sk H p m ∧ m ≤ 90000 ∧ ∀ H', But p H H' → Sk H' p (m + 12) → Q (.bl true) H'
theorem Sp8.pn {ns : List Int} (h : Sp8 ns) : Pn ns := by
  obtain ⟨h1, h2, h3⟩ := h
  have e : (2 : Int) ^ 64 = 18446744073709551616 := by decide
  exact ⟨h1, by omega, fun x hx => by
    have := h3 x hx
    rw [e]
    omega⟩
theorem pT_len {ns : List Int} (h : ∀ n ∈ ns, n.natAbs ≤ 999999999) (l : ns.length ≤ 4000) : (pT ns).length ≤ 50000 := by
  unfold pT
  split
  · show (("0" : Str)).length ≤ 50000
    decide
  · have h1 := join_len " " (ns.map nT)
    have h2 := sum_nT' h
    have l3 : ((" " : Str)).length = 1 := rfl
    rw [List.length_map, l3] at h1
    omega
theorem pT_ne {ns : List Int} (h : Pol ns) (n0 : ns ≠ []) (hs : ∀ n ∈ ns, n.natAbs ≤ 999999999) : pT ns ≠ ("0" : Str) := by
  unfold pT
  rw [if_neg n0]
  intro e
  have e0 : nT 0 = ("0" : Str) := by decide +kernel
  match ns, n0 with
  | [n], _ =>
    have e1 : Txt.join " " ([n].map nT) = nT n := by rw [TL.join_eq]; rfl
    rw [e1, ← e0] at e
    have := nT_inj e (hs n List.mem_cons_self) (by decide)
    exact h n rfl this
  | a :: b :: r, _ =>
    have h32 : 32 ∈ TL.tl (Txt.join " " ((a :: b :: r).map nT)) := by
      rw [TL.join_eq, TL.tl_join]
      exact List.mem_append_right _ (List.mem_append_left _ (by decide +kernel))
    rw [e] at h32
    exact absurd h32 (by decide +kernel)
theorem pT_split {ns : List Int} (n0 : ns ≠ []) : Txt.split (pT ns) " " = ns.map nT := by
  unfold pT
  rw [if_neg n0]
  refine TL.split_join (y := " ") (s := 32) (S := []) (by decide +kernel) (by decide +kernel) (fun e => n0 (List.map_eq_nil_iff.mp e)) (fun z hz => ?_)
  obtain ⟨n, _, rfl⟩ := List.mem_map.mp hz
  exact nT_free (by omega) (by omega)
theorem eqv_nilI (ns : List Int) : PyData.eqv (.list (ns.map .int)) (.list []) = decide (ns = []) := by
  cases ns with
  | nil => rfl
  | cons n ns => simp [PyData.eqv, PyData.eqvAll]
theorem dpI' {K : PySem.W.Frag} {H : Hp} : ∀ ns : List Int, DpAll K H (iV ns) (ns.map .int)
  | [] => .nil
  | n :: r => .cons (.int n) (dpI' r)
theorem shI (ns : List Int) : SeqAt.shaped (.list (ns.map .int)) = true := shaped_ints ns
section
variable {base : Heap} {mg : Str → Option Value} {K : PySem.W.Frag} {w : World} {P : Program} {C CT fI fT fS pT_ pS : Addr}
theorem ok_is_polynomial {f : Addr} {fd : FuncData} (F : Fun K "is_polynomial" "is_polynomial" s_is_polynomial f fd) (T : T3 mg) (cI : Cal P w K mg base 1 "is_integer" p_is_integer spInt) : FnOk P w K mg base CX0 2 f fd p_is_polynomial spPol := by
  refine F.ok sc_is_polynomial (fun vs H Q E h => ?_) (fun cdv A outer s H vs Q E hr h => ?_)
  · obtain ⟨a, ns, rfl, _⟩ := h
    rfl
  · obtain ⟨a, ns, rfl, ha, hp, k⟩ := h
    have nd := sc_is_polynomial.nd
    refine ⟨_, pss_cons (ps_if (PW.pt (pw_or (pt_not (pt_val (pe_callB call_isi (by rfl) T.isi (by decide +kernel) (pa_cons (pv 0) (pa_cons (pe_bltn (v := .ty "list") (by rfl) T.lst (by decide +kernel) rfl) pa_nil)))))
        (pw_or1 (pt_not (pt_val (pe_callB (cr_all rfl) (by rfl) T.all (by decide +kernel) (pa_cons (pe_lc (own := [("number", 1)]) (g := gName 1) (tt := tYes) (te := tCall spInt [] E0 (tCons (tVar 1) tNil)) rfl nd (pi_list (pv 0)) (blkOk_by (N := n_is_polynomial) (sc := defScope s_is_polynomial) (by decide +kernel)) (fun _ _ _ _ _ => pg_name (i := 1) nd rfl (Or.inl rfl)) (fun _ _ _ _ _ => pts_nil)
          (fun _ _ _ _ _ => pe_c cI hr (pa_cons (pv 1) pa_nil))) pa_nil))))))) (pss_one (ps_ret pe_bl)) pss_nil)
      (pss_one (ps_ret (pe_or (pe_notT (pv 0)) (pe_one (pe_cmpR op_ne (pe_ix ix_list (pv 0) (pe_un un_neg pe_int) (fun _ _ => rfl)) pe_int (nomark _)))))), ?_⟩
    obtain ⟨p1, p2, p3⟩ := hp
    refine ⟨_, rfl, _, _, _, _, true, rfl, .ty "list", .base (.lst ha), kit_ty (by decide +kernel), true, rfl, if_f rfl ?_⟩
    refine ⟨_, rfl, a, rfl, ⟨_, ha.sq⟩, fun D hD => lc_list (xs := iV ns) (fun i H' => Evl.Ex H H' ∧ H' D = some (.lst (List.replicate i (.bl true)))) ⟨Evl.Ex.new hD, upd_same⟩ (fun i H' _ q => SqL.of (q.1 _ _ ha)) ?_ ?_⟩
    · rintro i x H' hi ⟨e1, h1⟩
      obtain ⟨n, hn, rfl⟩ := iV_get hi
      have hl : i < ns.length := (List.getElem?_eq_some_iff.mp hn).1
      refine ⟨rfl, ?_⟩
      show tCall spInt [] E0 (tCons (tVar 1) tNil) _ _ _
      refine ⟨_, rfl, n, rfl, fun H2 e2 => ⟨_, e2 _ _ h1, ?_, ?_, ?_⟩⟩
      · rw [List.length_replicate]; exact Nat.lt_of_lt_of_le (show i < 100 by omega) (by decide)
      · exact Evl.Ex.mut (e1.trans e2) hD
      · rw [upd_same, rep_snoc]
    · rintro H' ⟨e1, h1⟩
      rw [iV_len] at h1
      refine ⟨D, List.replicate ns.length true, rfl, SqL.of (by rw [h1, List.map_replicate]), true, by simp, ?_⟩
      refine if_f rfl ?_
      by_cases h0 : ns = []
      · refine ⟨_, rfl, false, .inl ⟨_, SqL.of (e1 _ _ ha), by rw [h0]; rfl⟩, _, rfl, if_t rfl ?_⟩
        exact k _ e1
      · obtain ⟨x, hx, hx2⟩ := atI_end h0
        refine ⟨_, rfl, true, .inl ⟨_, SqL.of (e1 _ _ ha), by cases ns with | nil => exact absurd rfl h0 | cons _ _ => rfl⟩, _, rfl, if_f rfl ?_⟩
        refine ⟨_, rfl, _, rfl, a, _, _, _, rfl, rfl, SqL.of (e1 _ _ ha), hx2, rfl, ?_⟩
        have e : (!decide (V.int x = V.int 0)) = true := by
          rw [decide_eq_false fun z => p1 x hx (by injection z)]; rfl
        show Q (.bl (!decide (V.int x = V.int 0))) H'
        rw [e]
        exact k _ e1
theorem ok_read_polynomial {f : Addr} {fd : FuncData} (F : Fun K "read_polynomial" "read_polynomial" s_read_polynomial f fd) (mTE : mg "TankError" = some (.ref CT)) (cJ : Cal P w K mg base 3 "read_integer" p_read_integer spRdJ) (cP : Cal P w K mg base 2 "is_polynomial" p_is_polynomial spPol) : FnOk P w K mg base CX0 4 f fd p_read_polynomial spRdP := by
  refine F.ok sc_read_polynomial (fun vs H Q E h => ?_) (fun cdv A outer s H vs Q E hr h => ?_)
  · obtain ⟨ns, rfl, _⟩ := h
    rfl
  · obtain ⟨ns, rfl, hS, k⟩ := h
    have nd := sc_read_polynomial.nd
    have r2 : Room 2 _ := hr.mono (by decide)
    have r3 : Room 3 _ := hr.mono (by decide)
    have hs9 : ∀ n ∈ ns, n.natAbs ≤ 999999999 := fun n hn => by have := hS.2.2 n hn; omega
    have l8 := hS.2.1
    refine ⟨_, pss_cons (ps_if (pt_cmpR op_eq (pv 0) pe_str (nomark _)) (pss_one (ps_ret (pe_lst pa_nil))) pss_nil)
      (pss_cons (ps_try_only (tb := fun W => tAsg (tLc (iList K (tM1 rSpl (tVar 0) (tC (.str " ")))) (gName 2) tYes (tCall spRdJ [] E0 (tCons (tVar 2) tNil)) [2]) (gName 1)) (ts := fun _ _ _ => tNever) (c := .ref CT) (Wout := fun _ _ _ _ => False) rfl rfl ⟨rfl, by decide, .inl mTE⟩ takes0 (fun W pn xe tk po => pss_one (ps_setLc (i := 1) (own := [("part", 2)]) (g := gName 2) (tt := tYes) (te := tCall spRdJ [] E0 (tCons (tVar 2) tNil)) rfl nd rfl rfl (sw_true rfl rfl rfl (by decide +kernel)) (pi_list (pe_split (pv 0) pe_str)) (blkOk_by (N := n_read_polynomial) (sc := defScope s_read_polynomial) (by decide +kernel)) (fun _ _ _ _ _ => pg_name (i := 2) nd rfl (Or.inl rfl)) (fun _ _ _ _ _ => pts_nil) (fun _ _ _ _ _ => pe_c cJ r3 (pa_cons (pv 2) pa_nil)))) (fun _ _ _ _ _ _ _ => pss_one ps_never))
      (pss_cons (ps_if (pt_not (pt_val (pe_c cP r2 (pa_cons (pv 1) pa_nil)))) (pss_one ps_never) pss_nil)
      (pss_one (ps_ret (pv 1))))), ?_⟩
    refine ⟨_, rfl, rfl, _, rfl, ?_⟩
    by_cases n0 : ns = []
    · subst n0
      refine if_t (by decide +kernel) ⟨Nat.zero_le _, fun p hp => k p _ hp (Evl.Ex.new hp) upd_same⟩
    · have hne : V.str (pT ns) ≠ V.str "0" := fun h => by
        injection h with h
        exact pT_ne hS.1 n0 hs9 h
      refine if_f (decide_eq_false hne) ?_
      refine ⟨_, rfl, ⟨_, rfl⟩, _, _, rfl, rfl, rfl, Nat.le_trans (Nat.add_le_add_right (pT_len hs9 (by omega)) 2) (by decide), fun L hL => ?_⟩
      rw [pT_split n0]
      have e1 := Evl.Ex.new (o := .lst ((ns.map nT).map V.str)) hL
      refine ⟨L, rfl, ⟨_, SqL.of upd_same⟩, fun D hD => lc_dq (ns.map .int) (by rw [List.length_map, List.length_map, List.length_map]) (by rw [List.length_map]; omega) hD upd_same (fun _ => rfl) (fun i x d H2 Q' hi hd e2 k' => ?_) (fun vs H2 e2 g2 q2 => ?_)⟩
      · rw [List.getElem?_map, List.getElem?_map] at hi
        rw [List.getElem?_map] at hd
        cases hn : ns[i]? with
        | none => rw [hn] at hi; cases hi
        | some n =>
          rw [hn] at hi hd
          cases hi; cases hd
          exact ⟨_, rfl, n, rfl, hs9 n (List.mem_of_getElem? hn), fun H3 e3 => k' _ _ e3 (.int n)⟩
      have := dq_ints (ks := ns) q2
      subst this
      refine ⟨_, rfl, D, ns, rfl, g2, hS.pn, fun H3 e3 => ⟨_, rfl, if_f rfl ⟨_, rfl, k D H3 (Evl.fresh_back e1 hD) ((e1.trans e2).trans e3) (e3 _ _ g2)⟩⟩⟩
theorem ok_l_polynomials_right {f : Addr} {fd : FuncData} (F : Fun K "_law_polynomials_right" "_law_polynomials_right" s_l_polynomials_right f fd) (mR : mg "range" = none) (mS : mg "str" = none) (cC : Cal P w K mg base 1 "_law_coin" p_l_coin spCoin) (cSP : Cal P w K mg base 2 "show_polynomial" p_show_polynomial (spShP K)) (cSPk : CalK P w K mg base 2 "show_polynomial" p_show_polynomial ["one"] (fun zs => zs) (spShP K)) (cRP : Cal P w K mg base 4 "read_polynomial" p_read_polynomial spRdP) (cRPk : CalK P w K mg base 4 "read_polynomial" p_read_polynomial ["text"] (fun zs => zs) spRdP) : FnOk P w K mg base CX0 5 f fd p_l_polynomials_right spPrR := by
  refine F.ok sc_l_polynomials_right (fun vs H Q E h => ?_) (fun cdv A outer s H vs Q E hr h => ?_)
  · obtain ⟨p, m, rfl, _⟩ := h
    rfl
  · obtain ⟨sk, m, rfl, hS, hm, k⟩ := h
    have nd := sc_l_polynomials_right.nd
    have n200 := n200e
    have r1 : Room 1 _ := hr.mono (by decide)
    have r2 : Room 2 _ := hr.mono (by decide)
    have r4 : Room 4 _ := hr.mono (by decide)
    refine ⟨_, pss_cons (ps_set (i := 1) nd rfl (Or.inr rfl) (pe_ix ix_list (pe_lst (pa_cons pe_int (pa_cons pe_int (pa_cons (pe_op op_powX pe_int pe_int) pa_nil)))) (pe_c cC r1 (pa_cons (pv 0) (pa_cons pe_int pa_nil))) (fun _ _ => rfl)))
      (pss_cons (ps_setLc (i := 2) (own := [("turn", 4)]) (g := (gName 4)) (tt := tYes) (te := (tOp (rI0 fun i j => .int (i - j)) (tCall spCoin [] E0 (tCons (tVar 0) (tCons (tOp (rI0 fun i j => .int (i + j)) (tOp (rI CMul fun i j => .int (i * j)) (tC (.int 2)) (tVar 1)) (tC (.int 1))) tNil))) (tVar 1))) rfl nd rfl rfl (sw_true rfl rfl rfl (by decide +kernel)) (pi_range1 (by rfl) mR (pa_cons (pe_c cC r1 (pa_cons (pv 0) (pa_cons pe_int pa_nil))) pa_nil)) (blkOk_by (N := n_l_polynomials_right) (sc := defScope s_l_polynomials_right) (by decide +kernel)) (fun _ _ _ _ _ => (pg_name (i := 4) nd rfl (Or.inl rfl))) (fun _ _ _ _ _ => pts_nil) (fun _ _ _ _ _ => (pe_op op_sub (pe_c cC r1 (pa_cons (pv 0) (pa_cons (pe_op op_add (pe_op op_mul pe_int (pv 1)) pe_int) pa_nil))) (pv 1))))
      (Evl.pss_cut (ps_if (PW.pt (pw_and (pt_cmpR (op_neD hr.units) (pv 2) (pe_lst pa_nil) (nomark _)) (pw_and1 (pt_cmpR op_eq (pe_ix ix_list (pv 2) (pe_un un_neg pe_int) (fun _ _ => rfl)) pe_int (nomark _))))) (pss_one (ps_asg pe_int (pg_sub (pv 2) (pe_un un_neg pe_int) set_list))) pss_nil)
      (pss_cons (ps_set (i := 3) nd rfl (Or.inl rfl) (pe_join pe_str (pe_lc (own := [("piece", 5)]) (g := gName 5) (tt := tYes) (te := rStr5) rfl nd (pi_list (pv 2)) (blkOk_by (N := n_l_polynomials_right) (sc := defScope s_l_polynomials_right) (by decide +kernel)) (fun _ _ _ _ _ => pg_name (i := 5) nd rfl (Or.inl rfl)) (fun _ _ _ _ _ => pts_nil) (fun _ _ _ _ _ => (pe_callTy call_str_int (by rfl) mS (by decide +kernel) (pa_cons (pv 5) pa_nil))))))
      (Evl.pss_cut (ps_if (pt_cmpR (op_eqD hr.units) (pv 2) (pe_lst pa_nil) (nomark _)) (pss_one (ps_set (i := 3) nd rfl (Or.inl rfl) pe_str)) pss_nil)
      (pss_cons (ps_if (pt_cmpR op_ne (pe_c cSP r2 (pa_cons (pv 2) pa_nil)) (pv 3) (nomark _)) (pss_one (ps_ret pe_bl)) pss_nil)
      (pss_cons (ps_if (pt_cmpR op_ne (pe_ck cSPk r2 (pk_cons (pv 2) pk_nil)) (pv 3) (nomark _)) (pss_one (ps_ret pe_bl)) pss_nil)
      (pss_cons (ps_if (pt_cmpR (op_neD hr.units) (pe_c cRP r4 (pa_cons (pv 3) pa_nil)) (pv 2) (nomark _)) (pss_one (ps_ret pe_bl)) pss_nil)
      (pss_one (ps_ret (pe_cmpR (op_eqD hr.units) (pe_ck cRPk r4 (pk_cons (pv 3) pk_nil)) (pv 2) (nomark _))))))))))), ?_⟩
    have w6 : CPowX 10 6 := pow_ok (k := 4) (n := 6) (by decide) (by decide)
    have e6 : (10 : Int) ^ (6 : Int).toNat = 1000000 := by decide
    show tOp (rIxL _) (tLst _) (tCall spCoin [] E0 _) _ _ _
    refine pick_read (xs := [.int 3, .int 12, .int (10 ^ (6 : Int).toNat)]) rfl (by decide) (by decide) rfl hS (by omega) (fun _ _ q => ⟨10, 6, rfl, rfl, w6, q⟩) fun v H1 hv b1 s1 => ?_
    obtain ⟨top, rfl, t0, t1⟩ : ∃ x, v = .int x ∧ 0 < x ∧ x ≤ 1000000 := by
      simp only [List.mem_cons, List.not_mem_nil, or_false] at hv
      rcases hv with rfl | rfl | rfl <;> exact ⟨_, rfl, by decide, by decide⟩
    refine ⟨_, rfl, sk, 8, m + 1, rfl, s1, by omega, by decide, by decide, fun y H2 y0 y1 b2 s2 z2 => ⟨y, rfl, by omega, by omega, fun D hD => ?_⟩⟩
    have D2 := sk_ne s2 hD
    have DH : H D = none := but_none (b1.trans b2) s2 hD
    refine lc_range (n := y.toNat) (fun i H' => ∃ ns : List Int, But sk H H' ∧ Sk H' sk (m + 2 + i) ∧ Li H' D ns ∧ ns.length = i ∧ ∀ z ∈ ns, z.natAbs ≤ 1000000)
      ⟨[], (b1.trans b2).trans (But.of_ex (Evl.Ex.new hD)), s2.ex (Evl.Ex.new hD), upd_same, rfl, fun z h => (by cases h)⟩ ?_ ?_
    · rintro i H3 hi ⟨ns, b3, s3, hL, hl, hb⟩
      refine ⟨rfl, ?_⟩
      unfold tYes
      refine if_t rfl ?_
      refine ⟨_, rfl, _, rfl, 2, top, rfl, rfl, .inl ⟨by decide, by decide⟩, _, _, rfl, rfl, sk, 2 * top + 1, m + 2 + i, rfl, s3, by omega, by omega, by rw [n200]; omega, fun r H4 r0 r1 b4 s4 z4 => ⟨_, rfl, _, _, rfl, rfl, ?_⟩⟩
      refine ⟨_, b4 _ _ D2 hL, ?_, ns ++ [r - top], ?_, s4.upd D2, ?_, by rw [List.length_append, hl]; rfl, fun z hz => ?_⟩
      · rw [iV_len, hl]
        exact Nat.lt_of_lt_of_le (show i < 100 by omega) (by decide)
      · exact fun c o nc e => Eq.trans (upd_ne (ne_of_none' e DH)) ((b3.trans b4) c o nc e)
      · exact Eq.trans upd_same (by unfold iV; rw [List.map_append]; rfl)
      · rcases List.mem_append.mp hz with h | h
        · exact hb z h
        · rw [List.mem_singleton.mp h]
          omega
    rintro H3 ⟨ns, b3, s3, hL, hl, hb⟩
    have l8 : ns.length ≤ 8 := by omega
    have s3 : Sk H3 sk (m + 10) := s3.le (by omega)
    refine ⟨fun σ H' => ∃ ns : List Int, σ = [some (.ref sk), some (.int top), some (.ref D), none, none, none] ∧ But sk H H' ∧ Sk H' sk (m + 10) ∧ Li H' D ns ∧ Sp8 ns, ?_, ?_⟩
    · refine ⟨_, rfl, Nat.zero_le _, fun p hp => ?_⟩
      have e4 := Evl.Ex.new (o := .lst []) hp
      have hL4 := e4 _ _ hL
      have b4 := b3.trans (But.of_ex (p := sk) e4)
      have s4 := s3.ex e4
      refine ⟨.list (ns.map .int), .list [], .lst (SqL.of hL4) (dpI' ns), .lst (SqL.of upd_same) .nil, shI ns, rfl, _, rfl, ?_⟩
      rw [eqv_nilI]
      by_cases n0 : ns = []
      · refine if_f (by rw [decide_eq_true n0]; rfl) (if_f rfl ⟨ns, rfl, b4, s4, hL4, ?_⟩)
        rw [n0]
        exact ⟨fun x h => (by cases h), by decide, fun z h => (by cases h)⟩
      refine if_t (by rw [decide_eq_false n0]; rfl) ?_
      obtain ⟨x, hx, hx2⟩ := atI_end n0
      refine ⟨_, rfl, _, rfl, D, _, _, _, rfl, rfl, SqL.of hL4, hx2, rfl, _, rfl, ?_⟩
      by_cases hx0 : x = 0
      · have lpos : 0 < ns.length := List.length_pos_iff.mpr n0
        refine if_t (by rw [hx0]; rfl) ⟨_, rfl, _, rfl, D, iV ns, -1, ns.length - 1, rfl, rfl, hL4, ?_, ns.set (ns.length - 1) 1, rfl, ?_, s4.upd D2, ?_, ?_⟩
        · rw [iV_len]
          unfold ixN
          rw [if_neg (by omega), if_pos (by omega)]
          congr 1
          omega
        · exact fun c o nc e => Eq.trans (upd_ne (ne_of_none' e DH)) (b4 c o nc e)
        · exact Eq.trans upd_same (by rw [iV_set])
        · refine ⟨fun z hz => ?_, by rw [List.length_set]; exact l8, fun z hz => ?_⟩
          · rw [List.length_set, List.getElem?_set_self (by omega)] at hz
            cases hz
            decide
          · rcases List.mem_or_eq_of_mem_set hz with h | h
            · exact hb z h
            · rw [h]; decide
      · refine if_f (decide_eq_false fun h => hx0 (by injection h)) ⟨ns, rfl, b4, s4, hL4, fun z hz => ?_, l8, hb⟩
        rw [hx] at hz
        cases hz
        exact hx0
    rintro σ H4 ⟨ns, rfl, b4, s4, hL4, hS8⟩
    have hs9 : ∀ n ∈ ns, n.natAbs ≤ 999999999 := fun n hn => by have := hS8.2.2 n hn; omega
    have l8 := hS8.2.1
    refine ⟨⟨_, rfl⟩, _, rfl, D, rfl, ⟨_, SqL.of hL4⟩, fun D3 hD3 => lc_strs (ns.map nT) (by rw [List.length_map, iV_len]) (by rw [List.length_map]; omega) hD3 hL4 (fun _ => rfl) (fun i y z H5 Q' hi hz e5 k' => ?_) (fun H5 e5 h5 => ?_)⟩
    · obtain ⟨n, hn, rfl⟩ := iV_get hi
      rw [List.getElem?_map, hn] at hz
      cases hz
      exact ⟨_, rfl, n, rfl, log_sm (hs9 n (List.mem_of_getElem? hn)), k' _ (Evl.Ex.refl _)⟩
    refine ⟨" ", D3, ns.map nT, rfl, rfl, .inl (SqL.of h5), ?_, ?_⟩
    · have h1 := sum_nT' hs9
      have l3 : ((" " : Str)).length = 1 := rfl
      rw [List.length_map, l3]
      omega
    have hL5 := e5 _ _ hL4
    refine ⟨fun σ H' => Evl.Ex H4 H' ∧ σ = [some (.ref sk), some (.int top), some (.ref D), some (.str (pT ns)), none, none], ?_, ?_⟩
    · refine ⟨_, rfl, Nat.zero_le _, fun p hp => ?_⟩
      have e6 := Evl.Ex.new (o := .lst []) hp
      refine ⟨.list (ns.map .int), .list [], .lst (SqL.of (e6 _ _ hL5)) (dpI' ns), .lst (SqL.of upd_same) .nil, shI ns, rfl, _, rfl, ?_⟩
      rw [eqv_nilI]
      by_cases n0 : ns = []
      · refine if_t (decide_eq_true n0) ⟨e5.trans e6, ?_⟩
        rw [n0]
        rfl
      · refine if_f (decide_eq_false n0) ⟨e5.trans e6, ?_⟩
        unfold pT
        rw [if_neg n0]
        rfl
    rintro σ H6 ⟨e6, rfl⟩
    have hL6 := e6 _ _ hL4
    refine ⟨_, rfl, D, ns, rfl, hL6, by omega, hs9, fun H7 e7 => ⟨_, rfl, rfl, _, rfl, if_f (by rw [decide_eq_true rfl]; rfl) ?_⟩⟩
    refine ⟨_, rfl, rfl, D, ns, rfl, e7 _ _ hL6, by omega, hs9, fun H8 e8 => ⟨_, rfl, rfl, _, rfl, if_f (by rw [decide_eq_true rfl]; rfl) ?_⟩⟩
    have e48 := (e6.trans e7).trans e8
    refine ⟨_, rfl, ns, rfl, hS8, fun p H9 hp e9 g9 => ⟨_, rfl, .list (ns.map .int), .list (ns.map .int), .lst (SqL.of g9) (dpI' ns), .lst (SqL.of (e9 _ _ (e48 _ _ hL4))) (dpI' ns), shI ns, shI ns, _, rfl, ?_⟩⟩
    rw [eqv_same (shI ns)]
    refine if_f rfl ?_
    refine ⟨_, rfl, rfl, ns, rfl, hS8, fun q H10 hq e10 g10 => ⟨_, rfl, .list (ns.map .int), .list (ns.map .int), .lst (SqL.of g10) (dpI' ns), .lst (SqL.of (e10 _ _ (e9 _ _ (e48 _ _ hL4)))) (dpI' ns), shI ns, shI ns, ?_⟩⟩
    rw [eqv_same (shI ns)]
    have ee := (e48.trans e9).trans e10
    exact k _ (b4.trans (But.of_ex ee)) ((s4.ex ee).le (by omega))
end
end V2


namespace V2
open PySem L2
open PySem.Spec PyProof.Rows
section
variable {base : Heap} {mg : Str → Option Value} {K : PySem.W.Frag} {w : World} {P : Program}
theorem ok_coinL {f : Addr} {fd : FuncData} (F : Fun K "_law_coin" "_law_coin" s_l_coin f fd) (T : T0 mg) : FnOk P w K mg base CX0 1 f fd p_l_coin spCoin := by
  refine F.ok sc_l_coin (fun vs H Q E h => ?_) (fun cdv A outer s H vs Q E hr h => ?_)
  · obtain ⟨p, many, m, rfl, _⟩ := h
    rfl
  · obtain ⟨p, many, m, rfl, ⟨a, b, c, hp, ha, hb, hb2, hc, hc2⟩, hm, h0, h200, k⟩ := h
    have nd := sc_l_coin.nd
    refine ⟨_, pss_cons (ps_if (pt_cmpR op_gt (pe_ix ix_list (pv 0) pe_int (fun _ _ => rfl)) pe_int (nomark _))
        (pss_cons (ps_set (i := 2) nd rfl (Or.inl rfl) (pe_op op_mod (pe_callTy call_int1 (by rfl) T.int (by decide +kernel) (pa_cons (pe_ix ix_list (pv 0) pe_int (fun _ _ => rfl)) pa_nil)) (pv 1)))
        (pss_cons (ps_asg (pe_op op_fdivW (pe_ix ix_list (pv 0) pe_int (fun _ _ => rfl)) (pv 1)) (pg_sub (pv 0) pe_int set_list))
        (pss_one (ps_ret (pv 2))))) pss_nil)
      (pss_cons (ps_asg (pe_op op_add (pe_ix ix_list (pv 0) pe_int (fun _ _ => rfl)) pe_int) (pg_sub (pv 0) pe_int set_list))
      (pss_cons (ps_set (i := 3) nd rfl (Or.inl rfl) (pe_op op_mod (pe_op op_powX (pe_callTy call_int1 (by rfl) T.int (by decide +kernel) (pa_cons (pe_op op_add (pe_ix ix_list (pv 0) pe_int (fun _ _ => rfl)) (pe_op op_mul pe_int (pe_ix ix_list (pv 0) pe_int (fun _ _ => rfl)))) pa_nil)) pe_int) (pe_op op_add (pe_op op_powX pe_int pe_int) pe_int)))
      (pss_cons (ps_set (i := 3) nd rfl (Or.inl rfl) (pe_op op_mod (pe_op op_powX (pe_callTy call_int1 (by rfl) T.int (by decide +kernel) (pa_cons (pe_op op_add (pv 3) (pe_op op_mul pe_int (pe_ix ix_list (pv 0) pe_int (fun _ _ => rfl)))) pa_nil)) pe_int) (pe_op op_add (pe_op op_powX pe_int pe_int) pe_int)))
      (pss_one (ps_ret (pe_op op_mod (pe_callTy call_int1 (by rfl) T.int (by decide +kernel) (pa_cons (pe_op op_fdivW (pv 3) pe_int) pa_nil)) (pv 1))))))), ?_⟩
    refine ⟨_, rfl, p, _, _, _, rfl, rfl, SqL.of hp, at0, _, _, rfl, rfl, _, rfl, ?_⟩
    refine ite2 (fun q => ?_) (fun _ => ?_)
    · have q0 : 0 < a := by simpa using q
      refine ⟨_, rfl, p, _, _, _, rfl, rfl, SqL.of hp, at0, .inl ⟨_, rfl, _, rfl, _, _, rfl, rfl, h0, ?_⟩⟩
      refine ⟨_, rfl, p, _, _, _, rfl, rfl, SqL.of hp, at0, _, rfl, _, _, rfl, rfl, wide_div h0 h200 (by decide) (by decide), _, rfl, p, _, 0, 0, rfl, rfl, hp, ixN3 0 (by decide), ?_⟩
      refine ⟨_, rfl, k _ _ (Int.emod_nonneg _ (by omega)) (Int.emod_lt_of_pos _ h0) But.upd ⟨a / many, b, c, upd_same, Int.ediv_nonneg ha (by omega), hb, hb2, hc, by omega⟩ (fun q hq => ?_)⟩
      rw [upd_ne (fun z => by rw [z, hp] at hq; cases hq)]; exact hq
    · have e24 : ((10 : Int) ^ (24 : Int).toNat + 7) = 1000000000000000000000007 := by decide
      have e25 : ((10 : Int) ^ (25 : Int).toNat + 13) = 10000000000000000000000013 := by decide
      have p80 : (2 : Int) ^ 80 = 1208925819614629174706176 := by decide
      have n82 : (2 : Nat) ^ 82 = 4835703278458516698824704 := by decide
      have n85 : (2 : Nat) ^ 85 = 38685626227668133590597632 := by decide
      rw [p80] at hb2
      have w1 : CPowX (b + 2038074743 * (c + 1)) 3 := pow_ok (k := 82) (n := 3) (by rw [n82]; omega) (by decide)
      have w25 : CPowX 10 25 := pow_ok (k := 4) (n := 25) (by decide) (by decide)
      have w24 : CPowX 10 24 := pow_ok (k := 4) (n := 24) (by decide) (by decide)
      have hp2 : upd H p (.lst [.int a, .int b, .int (c + 1)]) p = some (.lst [.int a, .int b, .int (c + 1)]) := upd_same
      refine ⟨_, rfl, p, _, _, _, rfl, rfl, SqL.of hp, at2, _, _, rfl, rfl, _, rfl, p, _, 2, 2, rfl, rfl, hp, ixN3 2 (by decide), ?_⟩
      refine ⟨_, rfl, p, _, _, _, rfl, rfl, SqL.of hp2, at1, _, rfl, p, _, _, _, rfl, rfl, SqL.of hp2, at2, _, _, rfl, rfl, .inl ⟨by decide, by decide⟩, _, _, rfl, rfl, .inl ⟨_, rfl, ?_⟩⟩
      have g25 : (0 : Int) < 10 ^ (25 : Int).toNat + 13 := by rw [e25]; decide
      have g24 : (0 : Int) < 10 ^ (24 : Int).toNat + 7 := by rw [e24]; decide
      refine ⟨_, 3, rfl, rfl, w1, 10, 25, rfl, rfl, w25, _, 13, rfl, rfl, _, _, rfl, rfl, g25, ?_⟩
      have x0 : 0 ≤ (b + 2038074743 * (c + 1)) ^ (3 : Int).toNat % (10 ^ (25 : Int).toNat + 13) := Int.emod_nonneg _ (by omega)
      have x1 : (b + 2038074743 * (c + 1)) ^ (3 : Int).toNat % (10 ^ (25 : Int).toNat + 13) < 10000000000000000000000013 := by rw [← e25]; exact Int.emod_lt_of_pos _ g25
      have w2 : CPowX ((b + 2038074743 * (c + 1)) ^ (3 : Int).toNat % (10 ^ (25 : Int).toNat + 13) + 982451653 * (c + 1)) 2 := pow_ok (k := 85) (n := 2) (by rw [n85]; omega) (by decide)
      refine ⟨_, rfl, _, rfl, p, _, _, _, rfl, rfl, SqL.of hp2, at2, _, _, rfl, rfl, .inl ⟨by decide, by decide⟩, _, _, rfl, rfl, .inl ⟨_, rfl, ?_⟩⟩
      refine ⟨_, 2, rfl, rfl, w2, 10, 24, rfl, rfl, w24, _, 7, rfl, rfl, _, _, rfl, rfl, g24, ?_⟩
      refine ⟨_, rfl, _, 1024, rfl, rfl, wide_div (b := 11) (by decide) (by decide) (by decide) (by decide), .inl ⟨_, rfl, _, rfl, _, _, rfl, rfl, h0, ?_⟩⟩
      refine k _ _ (Int.emod_nonneg _ (by omega)) (Int.emod_lt_of_pos _ h0) But.upd ⟨a, b, c + 1, hp2, ha, hb, by rw [p80]; exact hb2, by omega, by omega⟩ (fun q hq => ?_)
      rw [upd_ne (fun z => by rw [z, hp] at hq; cases hq)]; exact hq
theorem ok_purse {f : Addr} {fd : FuncData} (F : Fun K "_law_purse" "_law_purse" s_l_purse f fd) (T : T0 mg) : FnOk P w K mg base CX0 1 f fd p_l_purse (spSack K) := by
  refine F.ok sc_l_purse (fun vs H Q E h => ?_) (fun cdv A outer s H vs Q E hr h => ?_)
  · obtain ⟨a, ns, r, rfl, _⟩ := h
    rfl
  · obtain ⟨a, ns, r, rfl, hS, hl, hr63, k⟩ := h
    have nd := sc_l_purse.nd
    refine ⟨_, pss_cons (ps_set (i := 2) nd rfl (Or.inl rfl) (pe_ifExp (pt_cmpR op_lt (pv 1) (pe_callB call_len_seq (by rfl) T.len PySem.boot_len (pa_cons (pv 0) pa_nil)) (nomark _)) (pe_ix ix_list (pv 0) (pv 1) (fun _ _ => rfl)) pe_int))
      (pss_one (ps_ret (pe_lst (pa_cons (pe_callB (call_max2 rfl) (by rfl) T.max (by decide +kernel) (pa_cons pe_int (pa_cons (pe_op op_sub (pe_callB call_abs (by rfl) T.abs (by decide +kernel) (pa_cons (pv 2) pa_nil)) (pe_op op_powX pe_int pe_int)) pa_nil)))
        (pa_cons (pe_op op_mod (pe_callTy call_int1 (by rfl) T.int (by decide +kernel) (pa_cons (pe_op op_add (pe_op op_add (pe_op op_mul (pv 2) pe_int) (pe_op op_mul (pv 1) pe_int)) pe_int) pa_nil)) (pe_op op_add (pe_op op_powX pe_int pe_int) pe_int))
        (pa_cons pe_int pa_nil)))))), ?_⟩
    have w18 : CPowX 10 18 := pow_ok (k := 4) (n := 18) (by decide) (by decide)
    have w24 : CPowX 10 24 := pow_ok (k := 4) (n := 24) (by decide) (by decide)
    have e24 : ((10 : Int) ^ (24 : Int).toNat + 7) = 1000000000000000000000007 := by decide
    have g24 : (0 : Int) < 10 ^ (24 : Int).toNat + 7 := by rw [e24]; decide
    have p80 : (2 : Int) ^ 80 = 1208925819614629174706176 := by decide
    (refine ⟨_, rfl, _, rfl, a, _, rfl, .inl hS, _, _, rfl, rfl, _, rfl, ?_⟩)
    refine ite2 (fun q => ?_) (fun _ => ?_)
    · have q2 : r < ns.length := by
        have q1 := of_decide_eq_true q
        rw [iV_len] at q1
        omega
      refine ⟨_, rfl, _, rfl, a, _, _, _, rfl, rfl, hS, atI_nat (iV_at (List.getElem?_eq_getElem q2)), ?_⟩
      refine ⟨_, rfl, _, rfl, 10, 18, rfl, rfl, w18, _, _, rfl, rfl, _, _, rfl, ?_⟩
      refine ⟨_, rfl, _, 30011, rfl, rfl, .inr ⟨by decide, by decide⟩, _, rfl, _, 7368787, rfl, rfl, .inr ⟨by decide, by decide⟩, _, _, rfl, rfl, _, _, rfl, rfl, .inl ⟨_, rfl, ?_⟩⟩
      refine ⟨10, 24, rfl, rfl, w24, _, 7, rfl, rfl, _, _, rfl, rfl, g24, ?_⟩
      refine ⟨by show 3 ≤ sizeLine; decide, fun q hq => ?_⟩
      refine k q _ hq (Evl.Ex.new hq) ⟨_, _, _, upd_same, ?_, Int.emod_nonneg _ (by omega), Int.lt_trans (Int.emod_lt_of_pos _ g24) (by rw [e24, p80]; decide), Int.le_refl _, Int.le_refl _⟩
      split <;> omega
    · refine ⟨_, rfl, _, rfl, 10, 18, rfl, rfl, w18, _, _, rfl, rfl, _, _, rfl, ?_⟩
      refine ⟨_, rfl, _, 30011, rfl, rfl, .inr ⟨by decide, by decide⟩, _, rfl, _, 7368787, rfl, rfl, .inr ⟨by decide, by decide⟩, _, _, rfl, rfl, _, _, rfl, rfl, .inl ⟨_, rfl, ?_⟩⟩
      refine ⟨10, 24, rfl, rfl, w24, _, 7, rfl, rfl, _, _, rfl, rfl, g24, ?_⟩
      refine ⟨by show 3 ≤ sizeLine; decide, fun q hq => ?_⟩
      refine k q _ hq (Evl.Ex.new hq) ⟨_, _, _, upd_same, ?_, Int.emod_nonneg _ (by omega), Int.lt_trans (Int.emod_lt_of_pos _ g24) (by rw [e24, p80]; decide), Int.le_refl _, Int.le_refl _⟩
      split <;> omega
end
end V2


namespace V2
open PySem L2
open PySem.Spec PyProof.Rows
theorem CsAt.set {H H' : Hp} {l q : Addr} {ns : List Int} {z : Int} {j : Nat} (h : CsAt H l ns) (ql : q ≠ l) (hq : Li H q (cp z)) (he : ∀ c o, c ≠ l → H c = some o → H' c = some o) (hl : ∀ xs : List V, H l = some (.lst xs) → H' l = some (.lst (xs.set j (.ref q)))) : CsAt H' l (ns.set j z) := by
  obtain ⟨as, h1, h2, h3⟩ := h
  refine ⟨as.set j q, by rw [hl _ h1, List.map_set], by rw [List.length_set, List.length_set, h2], fun i a n ha hn => ?_⟩
  rw [List.getElem?_set] at ha hn
  split at ha
  · rename_i c
    rw [if_pos c] at hn
    split at ha
    · split at hn
      · cases ha
        cases hn
        exact he _ _ ql hq
      · cases hn
    · cases ha
  · rename_i c
    rw [if_neg c] at hn
    have := h3 i a n ha hn
    exact he _ _ (cs_ne h1 ha this) this
/-- the state of the other law: what stands in the tanks, by a number, and the widths -/
def LSt (H : Hp) (t lw : Addr) (A : List Int) (W : Int) : Prop := ∃ lt lf, H t = some (.tup [.ref lt, .ref lf, .ref lw]) ∧ CsAt H lt A ∧ Li H lf (cp W)
theorem LSt.ex {H H' : Hp} {t lw : Addr} {A : List Int} {W : Int} (h : LSt H t lw A W) (e : Evl.Ex H H') : LSt H' t lw A W := by
  obtain ⟨lt, lf, h1, h2, h3⟩ := h
  exact ⟨lt, lf, e _ _ h1, h2.ex e, e _ _ h3⟩
section
variable {base : Heap} {mg : Str → Option Value} {K : PySem.W.Frag} {w : World} {P : Program}
end
end V2


namespace V2
open PySem L2
open PySem.Spec PyProof.Rows
/-- a list of new objects, being built -/
def ObN {β : Type} (g : β → HO) (H : Hp) (D : Addr) (fs : List β) (i : Nat) : Prop := ∃ as : List Addr, H D = some (.lst (as.map V.ref)) ∧ as.length = i ∧ ∀ (j : Nat) (a : Addr) (f : β), as[j]? = some a → fs[j]? = some f → a ≠ D ∧ H a = some (g f)
theorem ObN.start {β : Type} {g : β → HO} {H : Hp} {D : Addr} {fs : List β} (h : H D = some (.lst [])) : ObN g H D fs 0 := ⟨[], h, rfl, fun j a n h => by cases h⟩
theorem ObN.more {β : Type} {g : β → HO} {H2 H3 : Hp} {D r : Addr} {fs : List β} {i : Nat} {n : β} (h : ObN g H2 D fs i) (e : Evl.Ex H2 H3) (hr : r ≠ D) (h3 : H3 r = some (g n)) (hn : fs[i]? = some n) (hi : i ≤ 100) :
    ∃ acc, H3 D = some (.lst acc) ∧ acc.length < sizeLine ∧ ObN g (upd H3 D (.lst (acc ++ [.ref r]))) D fs (i + 1) := by
  obtain ⟨as, h1, h2, h4⟩ := h
  refine ⟨_, e _ _ h1, ?_, as ++ [r], ?_, ?_, fun j a m ha hm => ?_⟩
  · rw [List.length_map, h2]
    exact Nat.lt_of_le_of_lt hi (by decide)
  · rw [upd_same, List.map_append]
    rfl
  · rw [List.length_append, h2]
    rfl
  · rcases get_app ha with ⟨h5, _⟩ | ⟨h5, rfl⟩
    · obtain ⟨n1, n2⟩ := h4 j a m h5 hm
      exact ⟨n1, Eq.trans (upd_ne n1) (e _ _ n2)⟩
    · rw [h5, h2, hn] at hm
      cases hm
      exact ⟨hr, Eq.trans (upd_ne hr) h3⟩
theorem ObN.ne {β : Type} {g : β → HO} {H : Hp} {D r : Addr} {fs : List β} {i : Nat} (h : ObN g H D fs i) (hr : H r = none) : r ≠ D := fun z => by
  obtain ⟨as, q, _⟩ := h
  rw [z, q] at hr
  cases hr
def stW (t : Tk) : List Int := match t.1 with
  | none => [0, 1]
  | some z => [z]
def StWs (H : Hp) (l : Addr) (ts : List Tk) : Prop := ∃ as : List Addr, H l = some (.lst (as.map V.ref)) ∧ as.length = ts.length ∧ ∀ (j : Nat) (a : Addr) (t : Tk), as[j]? = some a → ts[j]? = some t → H a = some (.lst (iV (stW t)))
theorem StWs.ex {H H' : Hp} {l : Addr} {ts : List Tk} (h : StWs H l ts) (e : Evl.Ex H H') : StWs H' l ts := by
  obtain ⟨as, h1, h2, h3⟩ := h
  exact ⟨as, e _ _ h1, h2, fun i a t x y => e _ _ (h3 i a t x y)⟩
theorem EndsAt.uniq {ts : List Tk} {ds : List Deed} {u b : Int} {n m : Nat} {e f : V} (h : EndsAt ts ds u b n e) (k : EndsAt ts ds u b m f) : n = m ∧ e = f := by
  have one : ∀ {n m : Nat} {e f : V}, EndsAt ts ds u b n e → EndsAt ts ds u b m f → ¬ n < m := fun {n m e f} h k hn => by
    have hm := k.le
    rcases h.at_ with ⟨h1, _⟩ | ⟨d, h1, h2, _⟩
    · omega
    · rw [k.no n d hn h1] at h2
      cases h2
  have e1 : n = m := by
    have := one h k
    have := one k h
    omega
  subst e1
  refine ⟨rfl, ?_⟩
  rcases h.at_ with ⟨h1, h2⟩ | ⟨d, h1, h2, h3⟩
  · rcases k.at_ with ⟨k1, k2⟩ | ⟨d', k1, k2, k3⟩
    · rw [h2, k2]
    · have := (List.getElem?_eq_some_iff.mp k1).1
      omega
  · rcases k.at_ with ⟨k1, k2⟩ | ⟨d', k1, k2, k3⟩
    · have := (List.getElem?_eq_some_iff.mp h1).1
      omega
    · rw [h3, k3]
section
variable {base : Heap} {mg : Str → Option Value} {K : PySem.W.Frag} {w : World} {P : Program}
end
end V2


namespace V2
open PySem L2
open PySem.Spec PyProof.Rows
theorem cut_drop (xs : List V) (k : Nat) : cutV xs (some (k : Int)) none = xs.drop k := by
  unfold cutV
  rw [sIx_pos]
  have e : HT.sIx xs.length xs.length none = xs.length := rfl
  rw [e]
  by_cases h : k ≤ xs.length
  · rw [Nat.min_eq_left h]
    exact List.take_of_length_le (by rw [List.length_drop]; omega)
  · rw [Nat.min_eq_right (by omega), List.drop_of_length_le (by omega), List.drop_of_length_le (by omega)]
    simp
theorem ds_parts {H : Hp} {as : List Addr} {ds : List Deed} (hl : as.length = ds.length) (h : ∀ (i : Nat) (a : Addr) (d : Deed), as[i]? = some a → ds[i]? = some d → DAt H a d) (k m : Nat) :
    (as.take k ++ as.drop m).length = (ds.take k ++ ds.drop m).length ∧ ∀ (i : Nat) (a : Addr) (d : Deed), (as.take k ++ as.drop m)[i]? = some a → (ds.take k ++ ds.drop m)[i]? = some d → DAt H a d := by
  have l1 : (as.take k).length = (ds.take k).length := by rw [List.length_take, List.length_take, hl]
  refine ⟨by rw [List.length_append, List.length_append, l1, List.length_drop, List.length_drop, hl], fun i a d ha hd => ?_⟩
  by_cases c : i < (as.take k).length
  · rw [List.getElem?_append_left c] at ha
    rw [List.getElem?_append_left (by omega)] at hd
    rw [List.getElem?_take] at ha hd
    split at ha
    · rename_i c2
      rw [if_pos c2] at hd
      exact h i a d ha hd
    · cases ha
  · rw [List.getElem?_append_right (by omega), List.getElem?_drop] at ha
    rw [List.getElem?_append_right (by omega), List.getElem?_drop] at hd
    rw [← l1] at hd
    exact h _ a d ha hd
section
variable {base : Heap} {mg : Str → Option Value} {K : PySem.W.Frag} {w : World} {P : Program} {C fI fT fS pT pS : Addr}
end
end V2


namespace V2
open PySem L2
open PySem.Spec PyProof.Rows
def OwD (H : Hp) (D : Addr) (m : Nat) (H' : Hp) (a : Addr) : Deed → Prop
  | .op ks => ∃ l zs, H l = none ∧ l ≠ D ∧ H' a = some (.tup [.str "open", .ref l]) ∧ H' l = some (.lst (iV zs)) ∧ zs.length ≤ ks.length + m ∧ (m = 0 → zs = ks)
  | d => DAt H' a d
def NoL (H H' : Hp) : Prop := ∀ c o, (∀ xs, o ≠ .lst xs) → H c = some o → H' c = some o
theorem DAt.noL {H H' : Hp} {a : Addr} {d : Deed} (h : DAt H a d) (e : NoL H H') (n : ∀ ks, d ≠ .op ks) : DAt H' a d := by
  cases d with
  | op ks => exact absurd rfl (n ks)
  | po k x => exact e _ _ (fun xs q => by cases q) h
  | sc k p q =>
    obtain ⟨f, h1, h2⟩ := h
    exact ⟨f, e _ _ (fun xs q => by cases q) h1, e _ _ (fun xs q => by cases q) h2⟩
  | mv k m p q =>
    obtain ⟨f, h1, h2⟩ := h
    exact ⟨f, e _ _ (fun xs q => by cases q) h1, e _ _ (fun xs q => by cases q) h2⟩
  | un k m => exact e _ _ (fun xs q => by cases q) h
theorem OwD.keep {H H' H'' : Hp} {D a : Addr} {m m' : Nat} {d : Deed} (h : OwD H D m H' a d) (e : NoL H' H'') (hm : m' = 0 → m = 0)
    (hl : ∀ l zs, l ≠ D → H l = none → H' l = some (.lst (iV zs)) → ∃ zs', H'' l = some (.lst (iV zs')) ∧ zs'.length + m ≤ zs.length + m' ∧ (m' = 0 → zs' = zs)) : OwD H D m' H'' a d := by
  cases d with
  | op ks =>
    obtain ⟨l, zs, h1, h2, h3, h4, h5, h6⟩ := h
    obtain ⟨zs', k1, k2, k3⟩ := hl l zs h2 h1 h4
    exact ⟨l, zs', h1, h2, e _ _ (fun xs q => by cases q) h3, k1, by omega, fun q => (k3 q).trans (h6 (hm q))⟩
  | po k x => exact DAt.noL (d := .po k x) h e (fun ks q => by cases q)
  | sc k p q => exact DAt.noL (d := .sc k p q) h e (fun ks q => by cases q)
  | mv k m p q => exact DAt.noL (d := .mv k m p q) h e (fun ks q => by cases q)
  | un k m => exact DAt.noL (d := .un k m) h e (fun ks q => by cases q)
theorem OwD.ex {H H' H'' : Hp} {D a : Addr} {m : Nat} {d : Deed} (h : OwD H D m H' a d) (e : Evl.Ex H' H'') : OwD H D m H'' a d :=
  h.keep (fun c o _ q => e _ _ q) id fun l zs _ _ q => ⟨zs, e _ _ q, Nat.le_refl _, fun _ => rfl⟩
section
variable {base : Heap} {mg : Str → Option Value} {K : PySem.W.Frag} {w : World} {P : Program} {C fI fT fS pT pS : Addr}
end
end V2


namespace V2
open PySem L2
open PySem.Spec PyProof.Rows
def Sts (H G : Hp) (l : Addr) (ts : List Tk) (es : List Deed) (u b : Int) (e : V) : Prop := ∃ qs : List Addr, H l = some (.lst (qs.map V.ref)) ∧ qs.length = es.length + 1 ∧ ∀ (j : Nat) (q : Addr), qs[j]? = some q → StAt G q (es.take j) (wAt ts es u b j).1 (wAt ts es u b j).2 (if j = es.length then e else .non)
theorem Sts.mv {H G H' G' : Hp} {l : Addr} {ts : List Tk} {es : List Deed} {u b : Int} {e : V} (h : Sts H G l ts es u b e) (k : ∀ o, H l = some o → H' l = some o) (x : Evl.Ex G G') : Sts H' G' l ts es u b e := by
  obtain ⟨qs, h1, h2, h3⟩ := h
  exact ⟨qs, k _ h1, h2, fun j q z => (h3 j q z).ex x⟩
theorem Sts.last {H G : Hp} {l : Addr} {ts : List Tk} {es : List Deed} {u b : Int} {e : V} (h : Sts H G l ts es u b e) : ∃ (ys : List V) (q : Addr), H l = some (.lst (ys ++ [.ref q])) ∧ ys.length = es.length ∧ StAt G q es (wEnd ts es u b).1 (wEnd ts es u b).2 e := by
  obtain ⟨qs, h1, h2, h3⟩ := h
  obtain ⟨ys, q, rfl⟩ : ∃ a c, qs = a ++ [c] := last_split (by omega)
  rw [List.length_append] at h2
  have h2 : ys.length = es.length := Nat.succ.inj h2
  have z := h3 es.length q (by rw [← h2, List.getElem?_append_right (Nat.le_refl _), Nat.sub_self]; rfl)
  rw [if_pos rfl, List.take_length] at z
  exact ⟨ys.map V.ref, q, by rw [h1, List.map_append]; rfl, by rw [List.length_map]; exact h2, z⟩
theorem Sts.push {H G H' G' : Hp} {l q : Addr} {ts : List Tk} {es : List Deed} {d : Deed} {u b : Int} {v : V} {xs : List V} (h : Sts H G l ts es u b .non) (hx : H l = some (.lst xs)) (x : Evl.Ex G G') (hl : H' l = some (.lst (xs ++ [.ref q])))
    (hq : StAt G' q (es ++ [d]) (wEnd ts (es ++ [d]) u b).1 (wEnd ts (es ++ [d]) u b).2 v) : Sts H' G' l ts (es ++ [d]) u b v := by
  obtain ⟨qs, h1, h2, h3⟩ := h
  rw [hx] at h1
  injection h1 with h1
  injection h1 with h1
  subst h1
  have ln : (es ++ [d]).length = es.length + 1 := by rw [List.length_append]; rfl
  refine ⟨qs ++ [q], by rw [hl, List.map_append]; rfl, by rw [List.length_append, h2, ln]; rfl, fun j p z => ?_⟩
  rcases get_app z with ⟨h4, h5⟩ | ⟨h4, rfl⟩
  · have hj : j ≤ es.length := by omega
    have y := (h3 j p h4).ex x
    have e1 : (if j = es.length then V.non else V.non) = V.non := by split <;> rfl
    rw [e1] at y
    rw [if_neg (by omega), wAt_pre hj, List.take_append_of_le_length hj]
    exact y
  · have hj : j = (es ++ [d]).length := by omega
    rw [if_pos hj, hj, List.take_length]
    exact hq
theorem Sts.one {H G : Hp} {l q : Addr} {ts : List Tk} {u b : Int} (hl : H l = some (.lst [.ref q])) (hq : StAt G q [] (ts.map (·.2)) 1 .non) : Sts H G l ts [] u b .non := by
  refine ⟨[q], hl, rfl, fun j p z => ?_⟩
  match j, z with
  | 0, z =>
    cases z
    exact hq
  | j + 1, z => cases z
end V2


namespace V2
open PySem L2
open PySem.Spec PyProof.Rows
/-- a bench and its states, the list of states at l -/
abbrev BLr (B sk l : Addr) (H : Hp) (x ls lt : Addr) (ts : List Tk) (es : List Deed) (u b : Int) (e : V) : Prop := BnAt B sk (woL [l] H) x ls lt ts es (hist ts es u b) (wEnd ts es u b).1 (ts.map (wid u b)) (wEnd ts es u b).2 u b e
/-- what ended is told by the last step -/
def eV (ts : List Tk) (es : List Deed) (u b : Int) : V := match es.getLast? with
  | none => .non
  | some d => if endB (ts.map (wid u b)) (wAt ts es u b (es.length - 1)).1 d = true then .int ((es.length - 1 : Nat) : Int) else .non
/-- no step but the last one ends -/
def Led (ts : List Tk) (es : List Deed) (u b : Int) : Prop := ∀ (j : Nat) (d : Deed), j + 1 < es.length → es[j]? = some d → endB (ts.map (wid u b)) (wAt ts es u b j).1 d = false
structure Bd (B sk l : Addr) (H : Hp) (x ls lt : Addr) (ts : List Tk) (es : List Deed) (u b : Int) : Prop where
  bn : BLr B sk l H x ls lt ts es u b (eV ts es u b)
  st : Sts H (woL [sk, x, ls, lt, l] H) l ts es u b (eV ts es u b)
  led : Led ts es u b
  ns : l ≠ sk
theorem Bd.ex {B sk l : Addr} {H H' : Hp} {x ls lt : Addr} {ts : List Tk} {es : List Deed} {u b : Int} (h : Bd B sk l H x ls lt ts es u b) (e : Evl.Ex H H') : Bd B sk l H' x ls lt ts es u b :=
  ⟨h.bn.go (woL_go e), h.st.mv (e _) (woL_go e), h.led, h.ns⟩
theorem Bd.coin {B sk l : Addr} {H H' : Hp} {x ls lt : Addr} {ts : List Tk} {es : List Deed} {u b : Int} (h : Bd B sk l H x ls lt ts es u b) (k : But sk H H') : Bd B sk l H' x ls lt ts es u b :=
  ⟨h.bn.sep fun p o z => woL_at (woL_ne z) (woL_at (woL_ne (woL_ex _ _ z)) (k _ _ (fun y => woL_ne z (List.mem_singleton.mpr y)) (woL_ex _ _ (woL_ex _ _ z)))), h.st.mv (k _ · h.ns) ((ButL.of_but k List.mem_cons_self).wo fun _ h => h), h.led, h.ns⟩
theorem Bd.ln {B sk l : Addr} {H : Hp} {x ls lt : Addr} {ts : List Tk} {es : List Deed} {u b : Int} (h : Bd B sk l H x ls lt ts es u b) : l ∉ [x, ls, lt] ∧ (∃ dx fs, H x = some (.ins B dx fs) ∧ fs = fs) ∧ sk ∉ [x, ls, lt, l] := by
  obtain ⟨⟨dx, lq, g, lw, tw, as, bs, hx, hls, _, hlt, _, _⟩, ⟨n1, n2, n3, n4⟩, _, _⟩ := h.bn
  have hm2 : l ∈ [l] := List.mem_singleton.mpr rfl
  refine ⟨fun hm => ?_, ⟨_, _, woL_ex _ _ hx, rfl⟩, ?_⟩
  · simp only [List.mem_cons, List.not_mem_nil, or_false] at hm
    rcases hm with h | h | h
    · rw [← h] at hx
      exact woL_ne hx hm2
    · rw [← h] at hls
      exact woL_ne hls hm2
    · rw [← h] at hlt
      exact woL_ne hlt hm2
  · simp only [List.mem_cons, List.not_mem_nil, or_false, not_or]
    exact ⟨n4.symm, n2.symm, n3.symm, h.ns.symm⟩
end V2


namespace V2
open PySem L2
open PySem.Spec PyProof.Rows
/-- deeds so far, in a list that grows -/
def DsI (H : Hp) (sk ld : Addr) (m : Int) (ds : List Deed) (H' : Hp) : Prop := But sk H H' ∧ DsAt (wo sk H') ld ds ∧ (∀ d ∈ ds, okD m d) ∧ ∀ k a, Deed.po k a ∈ ds → a ≤ 1000
theorem DsI.more {H H1 H2 : Hp} {sk ld t : Addr} {m : Int} {ds : List Deed} {d : Deed} {n i : Nat} (h : DsI H sk ld m ds H1) (lH : H ld = none) (s : Sk H1 sk n) (b : But sk H1 H2) (hd : DAt (Nw H1 H2) t d) (ok : okD m d) (hp : ∀ k a, d = .po k a → a ≤ 1000) (hl : ds.length = i) (hi : i ≤ 100) :
    ∃ acc, H2 ld = some (.lst acc) ∧ acc.length < sizeLine ∧ DsI H sk ld m (ds ++ [d]) (upd H2 ld (.lst (acc ++ [.ref t]))) := by
  obtain ⟨h1, h2, h3, h4⟩ := h
  have hD7 := h2.ex b.wo
  obtain ⟨acc, q1, q2⟩ := ds_list hD7
  have q1 := wo_ex _ _ q1
  have q3 := ds_more hD7 h3 (hd.ex (nw_wo s)) ok (wo_upd (x := .lst (acc ++ [.ref t]))) (wo_app q1)
  refine ⟨acc, q1, ?_, ?_, q3, ?_, ?_⟩
  · rw [q2, hl]
    exact Nat.lt_of_le_of_lt hi (by decide)
  · exact fun c o nc e => Eq.trans (upd_ne (ne_of_none' e lH)) ((h1.trans b) c o nc e)
  · intro d' h'
    rcases List.mem_append.mp h' with h | h
    · exact h3 _ h
    · rw [List.mem_singleton.mp h]
      exact ok
  · intro k' a' h'
    rcases List.mem_append.mp h' with h | h
    · exact h4 _ _ h
    · exact hp k' a' (List.mem_singleton.mp h).symm
section
variable {base : Heap} {mg : Str → Option Value} {K : PySem.W.Frag} {w : World} {P : Program}
end
end V2


namespace V2
open PySem L2
open PySem.Spec PyProof.Rows
/-- a test that reads only: both answers -/
def Rd (t : TT) (σ : L2.St) (H : Hp) : Prop := ∀ R : Bool → Hp → Prop, R true H → R false H → t σ H R
theorem Rd.and {t u : TT} {σ : L2.St} {H : Hp} (ht : Rd t σ H) (hu : Rd u σ H) : Rd (tAnd t u) σ H := fun R h1 h2 => ht _ (if_t rfl (hu R h1 h2)) (if_f (by decide) h2)
theorem Rd.or {t u : TT} {σ : L2.St} {H : Hp} (ht : Rd t σ H) (hu : Rd u σ H) : Rd (tOr t u) σ H := fun R h1 h2 => ht _ (if_t rfl h1) (if_f (by decide) (hu R h1 h2))
/-- what is drawn so far -/
structure PI (H : Hp) (sk ld lv ll : Addr) (ts : List Tk) (m : Int) (ds : List Deed) (H' : Hp) : Prop where
  but : But sk H H'
  dsk : ld ≠ sk
  lsk : ll ≠ sk
  dH : H ld = none
  dv : ld ≠ lv
  dl : ld ≠ ll
  li : ∃ a b : Int, Li H' ll [a, b]
  lH : H ll = none
  da : DsAt (wo ll (wo sk H')) ld ds
  ta : TksAt (wo ll (wo sk H')) lv ts
  ok : ∀ d ∈ ds, okD m d
  po : ∀ k a, Deed.po k a ∈ ds → a ≤ 1000
theorem PI.go {H H1 H2 : Hp} {sk ld lv ll : Addr} {ts : List Tk} {m : Int} {ds : List Deed} (h : PI H sk ld lv ll ts m ds H1) (b : But sk H1 H2) : PI H sk ld lv ll ts m ds H2 := by
  obtain ⟨x, y, hl⟩ := h.li
  exact ⟨h.but.trans b, h.dsk, h.lsk, h.dH, h.dv, h.dl, ⟨x, y, b _ _ h.lsk hl⟩, h.lH, h.da.ex (ex_wo b.wo), h.ta.ex (ex_wo b.wo), h.ok, h.po⟩
theorem PI.more {H H1 H2 : Hp} {sk ld lv ll t : Addr} {ts : List Tk} {m : Int} {ds : List Deed} {d : Deed} (h : PI H sk ld lv ll ts m ds H1) (b : But sk H1 H2) (hd : DAt (wo ll (wo sk H2)) t d) (ok : okD m d) (hp : ∀ k a, d = .po k a → a ≤ 1000) (hl : ds.length ≤ 100) :
    ∃ acc, H2 ld = some (.lst acc) ∧ acc.length < sizeLine ∧ PI H sk ld lv ll ts m (ds ++ [d]) (upd H2 ld (.lst (acc ++ [.ref t]))) ∧ acc.length = ds.length ∧ DAt (upd H2 ld (.lst (acc ++ [.ref t]))) t d := by
  have h2 := h.go b
  obtain ⟨acc, q1, q2⟩ := ds_list h2.da
  have q1 := wo_ex _ _ (wo_ex _ _ q1)
  have q3 := ds_more h2.da h2.ok hd ok (wo_upd2 (x := .lst (acc ++ [.ref t]))) (wo_app2 q1)
  obtain ⟨x, y, hli⟩ := h2.li
  refine ⟨acc, q1, ?_, ⟨?_, h2.dsk, h2.lsk, h2.dH, h2.dv, h2.dl, ⟨x, y, Eq.trans (upd_ne (Ne.symm h2.dl)) hli⟩, h2.lH, q3, ?_, ?_, ?_⟩, q2, dat_keep' hd ok h2.da (fun c o nc q => Eq.trans (upd_ne nc) (wo_ex _ _ (wo_ex _ _ q)))⟩
  · rw [q2]
    exact Nat.lt_of_le_of_lt hl (by decide)
  · exact fun c o nc e => Eq.trans (upd_ne (ne_of_none' e h2.dH)) (h2.but c o nc e)
  · exact tks_keep h2.ta (wo_at h2.dl (wo_at h2.dsk q1)) (Ne.symm h2.dv) (wo_upd2 (x := .lst (acc ++ [.ref t])))
  · intro d' h'
    rcases List.mem_append.mp h' with h | h
    · exact h2.ok _ h
    · rw [List.mem_singleton.mp h]
      exact ok
  · intro k' a' h'
    rcases List.mem_append.mp h' with h | h
    · exact h2.po _ _ h
    · exact hp k' a' (List.mem_singleton.mp h).symm
theorem wo_wo_upd {q p : Addr} {H : Hp} {x : HO} : Evl.Ex (wo q (wo p H)) (wo q (wo p (upd H q x))) := fun b o h => wo_at (wo_ne h) (wo_at (wo_ne (wo_ex _ _ h)) (Eq.trans (upd_ne (wo_ne h)) (wo_ex _ _ (wo_ex _ _ h))))
theorem PI.set {H H1 : Hp} {sk ld lv ll : Addr} {ts : List Tk} {m : Int} {ds : List Deed} {a b : Int} (h : PI H sk ld lv ll ts m ds H1) : PI H sk ld lv ll ts m ds (upd H1 ll (.lst (iV [a, b]))) :=
  ⟨fun c o nc e => Eq.trans (upd_ne (ne_of_none' e h.lH)) (h.but c o nc e), h.dsk, h.lsk, h.dH, h.dv, h.dl, ⟨a, b, upd_same⟩, h.lH, h.da.ex wo_wo_upd, h.ta.ex wo_wo_upd, h.ok, h.po⟩
theorem PI.new {H H1 : Hp} {sk ld lv ll l2 : Addr} {ts : List Tk} {m : Int} {ds : List Deed} {a b : Int} {n : Nat} (h : PI H sk ld lv ll ts m ds H1) (s : Sk H1 sk n) (hl : H1 l2 = none) : PI H sk ld lv l2 ts m ds (upd H1 l2 (.lst (iV [a, b]))) := by
  have e := Evl.Ex.new (o := .lst (iV [a, b])) hl
  have ex : Evl.Ex (wo ll (wo sk H1)) (wo l2 (wo sk (upd H1 l2 (.lst (iV [a, b]))))) := fun c o q => by
    have q1 := wo_ex _ _ q
    exact wo_at (ne_of_none' (wo_ex _ _ q1) hl) (wo_at (wo_ne q1) (e _ _ (wo_ex _ _ q1)))
  obtain ⟨as, w, _⟩ := h.da
  exact ⟨h.but.trans (But.of_ex e), h.dsk, sk_ne s hl, h.dH, h.dv, ne_of_none' (wo_ex _ _ (wo_ex _ _ w)) hl, ⟨a, b, upd_same⟩, but_none h.but s hl, h.da.ex ex, h.ta.ex ex, h.ok, h.po⟩
section
variable {base : Heap} {mg : Str → Option Value} {K : PySem.W.Frag} {w : World} {P : Program}
end
end V2


namespace V2
open PySem L2
open PySem.Spec PyProof.Rows
def spWoN (C : Addr) : Sp := fun vs H Q _ => ∃ (x : Addr) (i : Nat) (ts : List Tk) (ds : List Deed), vs = [.ref x, .int (i : Int)] ∧ ScAt H C x ts ds ∧ okS ts ds ∧ i < ds.length ∧ ∀ (y : Addr) (H' : Hp), H y = none → Evl.Ex H H' → ScAt (Nw H H') C y ts (ds.take i ++ ds.drop (i + 1)) → Q (.ref y) H'
section
variable {base : Heap} {mg : Str → Option Value} {K : PySem.W.Frag} {w : World} {P : Program} {C fI fT fS pT pS : Addr}
theorem ok_Sc_withoutN {f : Addr} {fd fdI : FuncData} (F : Fun K "without" "Script.without" s_Sc_without f fd) (mL : mg "len" = none) (mC : mg "Script" = some (.ref C)) (c : ScC K C fI fT fS pT pS) (FI : FnOk P w K mg base CX0 5 fI fdI p_Sc_init (spScI C)) (bI : Binds K fdI p_Sc_init []) (cI : Cal P w K mg base 3 "check_index" p_check_index spCi) : FnOk P w K mg base CX0 7 f fd p_Sc_without (spWoN C) := by
  refine F.ok sc_Sc_without (fun vs H Q E h => ?_) (fun cdv A outer s H vs Q E hr h => ?_)
  · obtain ⟨x, i, ts, ds, rfl, _⟩ := h
    rfl
  · obtain ⟨x, i, ts, ds, rfl, ⟨dx, fs, v, y, hx, hv, hy, hdv, hdy, _⟩, hok, hi, k⟩ := h
    have r3 : Room 3 _ := hr.mono (by decide)
    obtain ⟨lt, rfl, hlt⟩ := hdv.tks
    obtain ⟨ls, rfl, hls⟩ := hdy.deeds
    obtain ⟨as, h1, h2, h3⟩ := id hls
    refine ⟨_, pss_cons (ps_expr (pe_c cI r3 (pa_cons (pv 1) (pa_cons (pe_callB call_len_seq (by rfl) mL PySem.boot_len (pa_cons (pe_fld (pv 0) rfl) pa_nil)) pa_nil))))
      (pss_one (ps_ret (pe_make c.mkI FI hr (by rfl) mC bI .nil pass0 (pa_cons (pe_fld (pv 0) rfl) (pa_cons (pe_op op_cat (pe_slice sl_list (pe_fld (pv 0) rfl) po_none (po_some (pv 1))) (pe_slice sl_list (pe_fld (pv 0) rfl) (po_some (pe_op op_add (pv 1) pe_int)) po_none)) pa_nil))))), ?_⟩
    refine ⟨_, rfl, _, rfl, x, C, dx, fs, _, rfl, hx, c.cls, c.na2, hy, ls, _, rfl, .inl (SqL.of h1), _, _, rfl, by omega, by rw [List.length_map, h2]; omega, fun H1 e1 => ?_⟩
    have hx1 := e1 _ _ hx
    have g1 := e1 _ _ h1
    refine ⟨_, rfl, x, C, dx, fs, _, rfl, hx1, c.cls, c.na1, hv, _, rfl, x, C, dx, fs, _, rfl, hx1, c.cls, c.na2, hy, ?_⟩
    have len := hok.2.1
    refine ⟨_, rfl, (i : Int), rfl, ls, _, rfl, SqL.of g1, fun p1 hp1 => ?_⟩
    have e2 := Evl.Ex.new (o := .lst (cutV (as.map V.ref) none (some (i : Int)))) hp1
    have q1 : upd H1 p1 (.lst (cutV (as.map V.ref) none (some (i : Int)))) p1 = some (.lst ((as.take i).map V.ref)) := Eq.trans upd_same (by rw [cut_min, List.map_take])
    generalize upd H1 p1 (.lst (cutV (as.map V.ref) none (some (i : Int)))) = H2 at e2 q1
    refine ⟨_, rfl, x, C, dx, fs, _, rfl, e2 _ _ hx1, c.cls, c.na2, hy, _, rfl, _, _, rfl, rfl, ((i + 1 : Nat) : Int), rfl, ls, _, rfl, SqL.of (e2 _ _ g1), fun p2 hp2 => ?_⟩
    have e3 := Evl.Ex.new (o := .lst (cutV (as.map V.ref) (some ((i + 1 : Nat) : Int)) none)) hp2
    have q2 : upd H2 p2 (.lst (cutV (as.map V.ref) (some ((i + 1 : Nat) : Int)) none)) p2 = some (.lst ((as.drop (i + 1)).map V.ref)) := Eq.trans upd_same (by rw [cut_drop, List.map_drop])
    generalize upd H2 p2 (.lst (cutV (as.map V.ref) (some ((i + 1 : Nat) : Int)) none)) = H3 at e3 q2
    refine ⟨p1, p2, _, _, rfl, rfl, e3 _ _ q1, q2, ?_, fun p3 hp3 => ?_⟩
    · rw [List.length_map, List.length_map, List.length_take, List.length_drop]
      exact Nat.le_trans (show min i as.length + (as.length - (i + 1)) ≤ 120 by omega) (by decide)
    have e4 := Evl.Ex.new (o := .lst ((as.take i).map V.ref ++ (as.drop (i + 1)).map V.ref)) hp3
    have q3 : upd H3 p3 (.lst ((as.take i).map V.ref ++ (as.drop (i + 1)).map V.ref)) p3 = some (.lst ((as.take i ++ as.drop (i + 1)).map V.ref)) := Eq.trans upd_same (by rw [List.map_append])
    generalize upd H3 p3 (.lst ((as.take i).map V.ref ++ (as.drop (i + 1)).map V.ref)) = H4 at e4 q3
    have e04 := ((e1.trans e2).trans e3).trans e4
    obtain ⟨pl, pd⟩ := ds_parts h2 h3 i (i + 1)
    have hDs : DsAt H4 p3 (ds.take i ++ ds.drop (i + 1)) := ⟨_, q3, pl, fun j a d u1 u2 => (pd j a d u1 u2).ex e04⟩
    intro y' dy hy' hdy' hne
    have e5 : Evl.Ex H4 (upd (upd H4 dy (.own y')) y' (.ins C dy [])) := fun b o h => Eq.trans (upd_ne (ne_of_none' h hy')) (Eq.trans (upd_ne (ne_of_none' h hdy')) h)
    have ok' : okS ts (ds.take i ++ ds.drop (i + 1)) := ⟨hok.1, by rw [List.length_append, List.length_take, List.length_drop]; omega, fun d hd => by
      rcases List.mem_append.mp hd with h | h
      · exact hok.2.2 d (List.mem_of_mem_take h)
      · exact hok.2.2 d (List.mem_of_mem_drop h)⟩
    refine ⟨y', dy, .ref lt, .ref p3, ts, _, rfl, upd_same, (hlt.ex (e04.trans e5)).dq, (hDs.ex e5).dq, ok', fun v' u' fs' H' b hyy g1 g2 d1 d2 g0 => ⟨rfl, ?_⟩⟩
    have e06 := e04
    have hyH := Evl.fresh_back e06 hy'
    have em : Evl.Ex (Nw (upd (upd H4 dy (.own y')) y' (.ins C dy [])) H') (Nw H H') := fun c o h => nw_at (Evl.fresh_back (e06.trans e5) (nw_none h)) (Nw.ex _ _ h)
    refine k y' H' hyH (fun cc o h => ?_) ⟨dy, fs', v', u', nw_at hyH hyy, g1, g2, d1.go em, d2.go em, g0⟩
    have h5 := e06 _ _ h
    exact b _ _ (ne_of_none' h5 hy') (e5 _ _ h5)

end
end V2


namespace V2
open PySem L2
open PySem.Spec PyProof.Rows
def lone (ts : List Tk) : Nat := ts.findIdx fun t => t.1.isNone
def spUnk (C : Addr) : Sp := fun vs H Q _ => ∃ (x : Addr) (ts : List Tk) (ds : List Deed), vs = [.ref x] ∧ ScAt H C x ts ds ∧ okS ts ds ∧ ∀ H', Evl.Ex H H' → Q (.int (lone ts : Nat)) H'
def spLenS (C : Addr) : Sp := fun vs H Q _ => ∃ (x : Addr) (ts : List Tk) (ds : List Deed), vs = [.ref x] ∧ ScAt H C x ts ds ∧ okS ts ds ∧ Q (.int (ds.length : Nat)) H
def eqB (ts : List Tk) (ds : List Deed) (ts' : List Tk) (ds' : List Deed) : Bool := PyData.eqv (.list (ts.map tkD)) (.list (ts'.map tkD)) && PyData.eqv (.list (ds.map dD)) (.list (ds'.map dD))
/-- whether a script is equal to something -/
def spEqS (K : PySem.W.Frag) (C : Addr) : Sp := fun vs H Q _ => ∃ (x : Addr) (y : V) (ts : List Tk) (ds : List Deed), vs = [.ref x, y] ∧ ScAt H C x ts ds ∧
  ((∃ (b : Addr) (ts' : List Tk) (ds' : List Deed), y = .ref b ∧ ScAt H C b ts' ds' ∧ Q (.bl (eqB ts ds ts' ds')) H) ∨ (∃ T : String, TyX K H y (.type T) ∧ PySem.W.kitOne K (.type T) (.ref C) = some false ∧ Q (.bl false) H))
theorem lone_at {ts : List Tk} (h : ts.countP (fun t => t.1.isNone) = 1) : ∃ t, ts[lone ts]? = some t ∧ t.1 = none ∧ lone ts < ts.length ∧ ∀ (j : Nat) (z : Tk), j < lone ts → ts[j]? = some z → ∃ w, z.1 = some w := by
  have hx : lone ts < ts.length := by
    unfold lone
    refine List.findIdx_lt_length_of_exists ?_
    have : 0 < ts.countP (fun t => t.1.isNone) := by omega
    obtain ⟨t, h1, h2⟩ := List.countP_pos_iff.mp this
    exact ⟨t, h1, h2⟩
  refine ⟨ts[lone ts], List.getElem?_eq_getElem hx, ?_, hx, fun j z hj hz => ?_⟩
  · have := List.findIdx_getElem (xs := ts) (p := fun t : Tk => t.1.isNone) (w := hx)
    have h2 : (ts[lone ts]).1.isNone = true := this
    exact Option.isNone_iff_eq_none.mp h2
  · have := List.not_of_lt_findIdx (xs := ts) (p := fun t : Tk => t.1.isNone) (i := j) hj
    have hj' : j < ts.length := by omega
    rw [List.getElem?_eq_getElem hj'] at hz
    cases hz
    cases e : (ts[j]).1 with
    | none =>
      rw [e] at this
      cases this
    | some w => exact ⟨w, rfl⟩
section
variable {base : Heap} {mg : Str → Option Value} {K : PySem.W.Frag} {w : World} {P : Program} {C CU fI fT fS pT pS eI0 : Addr}
theorem ok_Sc_len {f : Addr} {fd : FuncData} (F : Fun K "__len__" "Script.__len__" s_Sc_len f fd) (mL : mg "len" = none) (c : ScC K C fI fT fS pT pS) : FnOk P w K mg base CX0 1 f fd p_Sc_len (spLenS C) := by
  refine F.ok sc_Sc_len (fun vs H Q E h => ?_) (fun cdv A outer s H vs Q E hr h => ?_)
  · obtain ⟨x, ts, ds, rfl, _⟩ := h
    rfl
  · obtain ⟨x, ts, ds, rfl, ⟨dx, fs, v, y, hx, hv, hy, hdv, hdy, _⟩, hok, k⟩ := h
    obtain ⟨ls, rfl, hls⟩ := hdy.deeds
    obtain ⟨as, h1, h2, h3⟩ := id hls
    refine ⟨_, pss_one (ps_ret (pe_callB call_len_seq (by rfl) mL PySem.boot_len (pa_cons (pe_fld (pv 0) rfl) pa_nil))), ?_⟩
    refine ⟨_, rfl, x, C, dx, fs, _, rfl, hx, c.cls, c.na2, hy, ls, _, rfl, .inl (SqL.of h1), ?_⟩
    rw [List.length_map, h2]
    exact k
theorem ok_Sc_unknown {f : Addr} {fd : FuncData} (F : Fun K "unknown" "Script.unknown" s_Sc_unknown f fd) (c : ScC K C fI fT fS pT pS) : FnOk P w K mg base CX0 1 f fd p_Sc_unknown (spUnk C) := by
  refine F.ok sc_Sc_unknown (fun vs H Q E h => ?_) (fun cdv A outer s H vs Q E hr h => ?_)
  · obtain ⟨x, ts, ds, rfl, _⟩ := h
    rfl
  · obtain ⟨x, ts, ds, rfl, ⟨dx, fs, v, y, hx, hv, hy, hdv, hdy, _⟩, hok, k⟩ := h
    have nd := sc_Sc_unknown.nd
    obtain ⟨lt, rfl, hlt⟩ := hdv.tks
    obtain ⟨as, h1, h2, h3⟩ := id hlt
    refine ⟨_, pss_one (ps_ret (pe_bm PySem.F.plainAttrs_list PySem.F.slot_list_index PySem.F.type_list_index mt_index (pe_lc (own := [("width", 1), ("_", 2)]) (g := gTup K 2 (gCons (gName 1) (gCons (gName 2) gNil))) (tt := tYes) (te := tVar 1) rfl nd (pi_list (pe_fld (pv 0) rfl)) (blkOk_by (N := n_Sc_unknown) (sc := defScope s_Sc_unknown) (by decide +kernel)) (fun _ _ _ _ _ => pg_tup rfl (pgs_cons (pg_name (i := 1) nd rfl (Or.inl rfl)) (pgs_cons (pg_name (i := 2) nd rfl (Or.inl rfl)) pgs_nil))) (fun _ _ _ _ _ => pts_nil) (fun _ _ _ _ _ => pv 1)) (pa_cons pe_non pa_nil))), ?_⟩
    refine ⟨_, rfl, x, C, dx, fs, _, rfl, hx, c.cls, c.na1, hv, lt, rfl, ⟨_, SqL.of h1⟩, fun D hD => lc_list (xs := as.map V.ref) (fun i H' => Evl.Ex H H' ∧ H' D = some (.lst ((ts.take i).map fun t => wV t.1))) ⟨Evl.Ex.new hD, upd_same⟩ (fun i H' _ q => SqL.of (q.1 _ _ h1)) ?_ ?_⟩
    · rintro i z H2 hi ⟨e2, hD2⟩
      rw [List.getElem?_map] at hi
      obtain ⟨a, ha, rfl⟩ := Option.map_eq_some_iff.mp hi
      have hil : i < ts.length := by
        have := (List.getElem?_eq_some_iff.mp ha).1
        omega
      have ht := List.getElem?_eq_getElem hil
      have hat := h3 i a _ ha ht
      generalize ts[i] = t at ht hat
      refine ⟨a, _, rfl, SqT.of (e2 _ _ hat), rfl, ?_⟩
      refine ⟨_, _, rfl, _, _, rfl, rfl, rfl, ?_⟩
      unfold tYes
      refine if_t rfl ?_
      show tVar 1 _ _ _
      refine ⟨_, rfl, _, hD2, ?_, Evl.Ex.mut e2 hD, ?_⟩
      · rw [List.length_map, List.length_take]
        have := hok.1.1
        exact Nat.lt_of_le_of_lt (show min i ts.length ≤ 20 by omega) (by decide)
      · rw [upd_same, List.take_add_one, ht]
        simp
    · rintro H2 ⟨e2, hD2⟩
      rw [List.length_map, h2, List.take_length] at hD2
      obtain ⟨t, ht, tn, hl, hb⟩ := lone_at hok.1.2.2
      refine ⟨.inl ⟨rfl, _, SqL.of hD2⟩, D, _, .non, lone ts, .non, rfl, rfl, SqL.of hD2, rfl, ?_, ?_, rfl, fun m z' hm hz => ?_, k _ e2⟩
      · rw [List.all_eq_true]
        intro z hz
        obtain ⟨t', _, rfl⟩ := List.mem_map.mp hz
        cases t'.1 <;> rfl
      · rw [List.getElem?_map, ht]
        show some (wV t.1) = _
        rw [tn]
        rfl
      · rw [List.getElem?_map] at hz
        obtain ⟨t', h5, rfl⟩ := Option.map_eq_some_iff.mp hz
        obtain ⟨w', hw⟩ := hb m t' hm h5
        show eqV (wV t'.1) .non = false
        rw [hw]
        rfl
theorem ok_Sc_eq {f : Addr} {fd : FuncData} (F : Fun K "__eq__" "Script.__eq__" s_Sc_eq f fd) (c : ScC K C fI fT fS pT pS) (mI : mg "isinstance" = none) (mC : mg "Script" = some (.ref C)) (ty : ∀ {H : Hp} {a dx : Addr} {fs : List (Str × V)}, H a = some (.ins C dx fs) → TyX K H (.ref a) (.ref C)) : FnOk P w K mg base CX0 1 f fd p_Sc_eq (spEqS K C) := by
  refine F.ok sc_Sc_eq (fun vs H Q E h => ?_) (fun cdv A outer s H vs Q E hr h => ?_)
  · obtain ⟨x, y, ts, ds, rfl, _⟩ := h
    rfl
  · obtain ⟨x, y, ts, ds, rfl, ⟨dx, fs, v, u, hx, hv, hu, hdv, hdu, _⟩, h⟩ := h
    have nd := sc_Sc_eq.nd
    refine ⟨_, pss_one (ps_ret (pe_and (pe_callB call_isi (by rfl) mI (by decide +kernel) (pa_cons (pv 1) (pa_cons (pe_glob (v := .ref C) (by rfl) mC rfl) pa_nil))) (pe_and (pe_cmpR (op_eqD hr.units) (pe_fld (pv 0) rfl) (pe_fld (pv 1) rfl) (nomark _)) (pe_one (pe_cmpR (op_eqD hr.units) (pe_fld (pv 0) rfl) (pe_fld (pv 1) rfl) (nomark _)))))), ?_⟩
    rcases h with ⟨b, ts', ds', rfl, ⟨dy, fs', v', u', hy, hv', hu', hdv', hdu', _⟩, k⟩ | ⟨T, hT, hk, k⟩
    · have kt : PySem.W.kitOne K (.ref C) (.ref C) = some true := by
        unfold PySem.W.kitOne
        rw [if_pos (by simp)]
      obtain ⟨lt, rfl, hlt⟩ := hdv.tks
      obtain ⟨ls, rfl, hls⟩ := hdu.deeds
      obtain ⟨lt', rfl, hlt'⟩ := hdv'.tks
      obtain ⟨ls', rfl, hls'⟩ := hdu'.deeds
      refine ⟨_, rfl, .ref b, .ref C, _, _, true, rfl, .own C, ty hy, kt, _, rfl, if_t rfl ?_⟩
      refine ⟨_, rfl, x, C, dx, fs, _, rfl, hx, c.cls, c.na1, hv, _, rfl, b, C, dy, fs', _, rfl, hy, c.cls, c.na1, hv', _, _, dp_tks hlt, dp_tks hlt', shp_tks ts, shp_tks ts', ?_⟩
      unfold eqB at k
      refine ⟨_, rfl, ?_⟩
      cases e1 : PyData.eqv (.list (ts.map tkD)) (.list (ts'.map tkD)) with
      | false =>
        rw [e1] at k
        exact if_f rfl k
      | true =>
        rw [e1] at k
        refine if_t rfl ?_
        exact ⟨_, rfl, x, C, dx, fs, _, rfl, hx, c.cls, c.na2, hu, _, rfl, b, C, dy, fs', _, rfl, hy, c.cls, c.na2, hu', _, _, dp_ds hls, dp_ds hls', shp_ds ds, shp_ds ds', k⟩
    · exact ⟨_, rfl, y, .ref C, _, _, false, rfl, .own C, hT, hk, _, rfl, if_f rfl k⟩
end
end V2




namespace V2
open PySem L2
open PySem.Spec PyProof.Rows
/-! ## the law's one turn -/
theorem dsm_of {n : Int} {d : Deed} (h : okD n d) (n20 : n ≤ 20) (hp : ∀ k a, d = .po k a → a ≤ 1000) (hq : ∀ p q, partD d = some (p, q) → q ≤ 1001) : DSm d := by
  intro t ht
  cases d with
  | op ks =>
    simp only [dTh, List.mem_cons, List.not_mem_nil, or_false] at ht
    rcases ht with rfl | rfl
    · show ("open" : Str).length ≤ 10
      decide
    · exact ⟨h.2.1, fun k hk => by have := h.2.2.2 k hk; unfold Sm; omega⟩
  | po k a =>
    simp only [dTh, List.mem_cons, List.not_mem_nil, or_false] at ht
    obtain ⟨⟨h1, h2⟩, h3⟩ := h
    have h4 := hp k a rfl
    rcases ht with rfl | rfl | rfl
    · show ("pour" : Str).length ≤ 10
      decide
    · show Sm k
      unfold Sm; omega
    · show Sm a
      unfold Sm; omega
  | sc k p q =>
    simp only [dTh, List.mem_cons, List.not_mem_nil, or_false] at ht
    obtain ⟨⟨h1, h2⟩, h3, h4, h5⟩ := h
    have h6 := hq p q rfl
    rcases ht with rfl | rfl | rfl
    · show ("scoop" : Str).length ≤ 10
      decide
    · show Sm k
      unfold Sm; omega
    · show Sm p ∧ Sm q
      unfold Sm; omega
  | mv k m p q =>
    simp only [dTh, List.mem_cons, List.not_mem_nil, or_false] at ht
    obtain ⟨⟨h1, h2⟩, ⟨h1', h2'⟩, _, h3, h4, h5⟩ := h
    have h6 := hq p q rfl
    rcases ht with rfl | rfl | rfl | rfl
    · show ("move" : Str).length ≤ 10
      decide
    · show Sm k
      unfold Sm; omega
    · show Sm m
      unfold Sm; omega
    · show Sm p ∧ Sm q
      unfold Sm; omega
  | un k m =>
    simp only [dTh, List.mem_cons, List.not_mem_nil, or_false] at ht
    obtain ⟨⟨h1, h2⟩, ⟨h1', h2'⟩, _⟩ := h
    rcases ht with rfl | rfl | rfl
    · show ("unless" : Str).length ≤ 10
      decide
    · show Sm k
      unfold Sm; omega
    · show Sm m
      unfold Sm; omega
theorem shw_sm {ts : List Tk} {ds : List Deed} (h : ShW ts ds) (q : PqB ds) : (∀ t ∈ ts, TkSm t) ∧ ∀ d ∈ ds, DSm d := by
  refine ⟨fun t ht => ?_, fun d hd => ?_⟩
  · have h1 := h.ok.1.2.1 t ht
    have h2 := h.w1000 t ht
    refine ⟨fun z hz => ?_, ?_⟩
    · have := h1.1 z hz
      have := h2.1 z hz
      unfold Sm; omega
    · have := h1.2
      have := h2.2
      unfold Sm; omega
  · have l20 := h.ok.1.1
    exact dsm_of (h.ok.2.2 d hd) (by omega) (fun k a e => h.p1000 k a (e ▸ hd)) (q d hd)
def spRight53 : Sp := fun vs H Q _ => ∃ (p : Addr) (m : Nat), vs = [.ref p] ∧ Sk H p m ∧ m ≤ 60000 ∧ ∀ H', But p H H' → Sk H' p (m + 3100) → Q (.bl true) H'
/-- a pair of shaped data -/
theorem shp_two {d e : PyData} (hd : SeqAt.shaped d = true) (he : SeqAt.shaped e = true) (d1 : d.depth ≤ 60) (e1 : e.depth ≤ 60) : SeqAt.shaped (.tuple [d, e]) = true := by
  unfold SeqAt.shaped at hd he ⊢
  have h1 := (Bool.and_eq_true_iff.mp hd).1
  have h2 := (Bool.and_eq_true_iff.mp he).1
  simp [PyData.canLay0, PyData.canLayAll0, PyData.depth, PyData.depthAll, h1, h2]
  omega
theorem dep_tks (ts : List Tk) : (PyData.list (ts.map tkD)).depth ≤ 60 := by
  have := (lay_tks ts).2
  simp [PyData.depth]
  omega
theorem dep_ds (ds : List Deed) : (PyData.list (ds.map dD)).depth ≤ 60 := by
  have := (lay_ds ds).2
  simp [PyData.depth]
  omega
theorem dep_pr (fs : List (Int × Int)) : (prD fs).depth ≤ 60 := by
  have := dep_fr fs
  unfold prD
  simp [PyData.depth]
  omega
theorem len_ds {ds : List Deed} (i : Nat) : (ds.take i ++ ds.drop (i + 1)).length ≤ ds.length := by
  rw [List.length_append, List.length_take, List.length_drop]
  omega
theorem mem_ds {ds : List Deed} {i : Nat} {d : Deed} (h : d ∈ ds.take i ++ ds.drop (i + 1)) : d ∈ ds := by
  rcases List.mem_append.mp h with h | h
  · exact List.mem_of_mem_take h
  · exact List.mem_of_mem_drop h
section
variable {base : Heap} {mg : Str → Option Value} {K : PySem.W.Frag} {w : World} {P : Program} {C fI fT fS pT_ pS fU pU fN fQ fW : Addr}
theorem ok_l_right53 {f : Addr} {fd fdT fdS fdU fdN fdQ fdW : FuncData} (F : Fun K "_law_right" "_law_right" s_l_right f fd) (mL : mg "len" = none) (mR : mg "range" = none) (mMn : mg "min" = none) (c : ScC K C fI fT fS pT_ pS)
    (FT : FnOk P w K mg base CX0 4 fT fdT p_Sc_tanks (spGet C 2 "_tanks")) (bT : Binds K fdT p_Sc_tanks []) (FS : FnOk P w K mg base CX0 5 fS fdS p_Sc_steps (spGet C 3 "_steps")) (bS : Binds K fdS p_Sc_steps [])
    (prU : PropOf K C "unknown" pU fU) (FU : FnOk P w K mg base CX0 1 fU fdU p_Sc_unknown (spUnk C)) (bU : Binds K fdU p_Sc_unknown []) (meN : Meth K C "__len__" fN) (FN : FnOk P w K mg base CX0 1 fN fdN p_Sc_len (spLenS C)) (bN : Binds K fdN p_Sc_len [])
    (eqc : EqC K C fQ) (FQ : FnOk P w K mg base CX0 1 fQ fdQ p_Sc_eq (spEqS K C)) (bQ : Binds K fdQ p_Sc_eq []) (meW : Meth K C "without" fW) (FW : FnOk P w K mg base CX0 7 fW fdW p_Sc_without (spWoN C)) (bW : Binds K fdW p_Sc_without [])
    (cC : Cal P w K mg base 1 "_law_coin" p_l_coin spCoin) (cG : Cal P w K mg base 5 "_law_great_plan" p_l_great_plan spShape4) (cP : Cal P w K mg base 5 "_law_drawn_plan" p_l_drawn_plan spShape4) (cM : Cal P w K mg base 7 "_law_made" p_l_made (spScr C)) (cT : Cal P w K mg base 2 "_law_script_text" p_l_script_text spScT)
    (cSh : Cal P w K mg base 7 "show_script" p_show_script (spShSc C)) (cShk : CalK P w K mg base 7 "show_script" p_show_script ["plan"] (fun zs => zs) (spShSc C)) (cRS : Cal P w K mg base 7 "read_script" p_read_script (spRdSc C)) (cRSk : CalK P w K mg base 7 "read_script" p_read_script ["text"] (fun zs => zs) (spRdSc C))
    (cPR : Cal P w K mg base 5 "_law_polynomials_right" p_l_polynomials_right spPrR) (cW : Cal P w K mg base 3 "_law_drawn_width" p_l_drawn_width (spWid 90000 4)) (cRun : Cal P w K mg base 10 "run" p_run (spRun C)) : FnOk P w K mg base CX0 11 f fd p_l_right spRight53 := by
  refine F.ok sc_l_right (fun vs H Q E h => ?_) (fun cdv A outer s H vs Q E hr h => ?_)
  · obtain ⟨p, m, rfl, _⟩ := h
    rfl
  · obtain ⟨sk, m, rfl, hS, hm, k⟩ := h
    have nd := sc_l_right.nd
    have n200 := n200e
    have two : 2 ≤ sizeLine := by show 2 ≤ sizeLine; decide
    have r1 : Room 1 _ := hr.mono (by decide)
    have r2 : Room 2 _ := hr.mono (by decide)
    have r3 : Room 3 _ := hr.mono (by decide)
    have r5 : Room 5 _ := hr.mono (by decide)
    have r6 : Room 6 _ := hr.mono (by decide)
    have r7 : Room 7 _ := hr.mono (by decide)
    refine ⟨_, pss_cons (ps_set (i := 1) nd rfl (Or.inl rfl) (pe_ifExp (pt_cmpR op_eq (pe_c cC r1 (pa_cons (pv 0) (pa_cons pe_int pa_nil))) pe_int (nomark _)) (pe_c cG r5 (pa_cons (pv 0) pa_nil)) (pe_c cP r5 (pa_cons (pv 0) pa_nil))))
      (pss_cons (ps_par (i := 2) (j := 3) rfl nd rfl rfl (by decide) rfl rfl (pa_cons (pe_c cM r7 (pa_cons (pv 1) pa_nil)) (pa_cons (pe_c cT r2 (pa_cons (pv 1) pa_nil)) pa_nil)) (by rfl))
      (pss_cons (ps_if (PW.pt (pw_or (pt_cmpR op_ne (pe_c cSh r7 (pa_cons (pv 2) pa_nil)) (pv 3) (nomark _)) (pw_or1 (pt_cmpR op_ne (pe_ck cShk r7 (pk_cons (pv 2) pk_nil)) (pv 3) (nomark _))))) (pss_one (ps_ret pe_bl)) pss_nil)
      (pss_cons (ps_if (pt_cmpR op_gt (pe_callB call_len_str (by rfl) mL PySem.boot_len (pa_cons (pv 3) pa_nil)) pe_int (nomark _)) (pss_one (ps_ret (pe_c cPR r5 (pa_cons (pv 0) pa_nil)))) pss_nil)
      (pss_cons (ps_set (i := 4) nd rfl (Or.inl rfl) (pe_c cRS r7 (pa_cons (pv 3) pa_nil)))
      (pss_cons (ps_if (PW.pt (pw_or (pt_not (pt_cmpR (op_eqO (E := E0) FQ eqc bQ pass0 r1) (pv 4) (pv 2) (nomark _))) (pw_or1 (pt_cmpR (op_neO (E := E0) FQ eqc bQ pass0 r2) (pe_ck cRSk r7 (pk_cons (pv 3) pk_nil)) (pv 2) (nomark _))))) (pss_one (ps_ret pe_bl)) pss_nil)
      (pss_cons (ps_if (PW.pt (pw_or (pt_cmpR op_ne (pe_c cSh r7 (pa_cons (pv 4) pa_nil)) (pv 3) (nomark _)) (pw_or1 (pt_cmpR op_ne (pe_callB (call_lenO FN meN.at_ meN.fn bN r2) (by rfl) mL PySem.boot_len (pa_cons (pv 4) pa_nil)) (pe_callB call_len_seq (by rfl) mL PySem.boot_len (pa_cons (pe_ix ix_tup (pv 1) pe_int (fun _ _ => rfl)) pa_nil)) (nomark _))))) (pss_one (ps_ret pe_bl)) pss_nil)
      (pss_cons (ps_if (PW.pt (pw_or (pt_cmpR (op_neD hr.units) (pe_tup (pa_cons (pe_prop (pv 4) c.cls c.prT FT r5 bT .nil pass0 rfl) (pa_cons (pe_prop (pv 4) c.cls c.prS FS r6 bS .nil pass0 rfl) pa_nil))) (pv 1) (nomark _)) (pw_or1 (pt_cmpR op_ne (pe_prop (pv 4) c.cls prU FU r2 bU .nil pass0 rfl) (pe_prop (pv 2) c.cls prU FU r2 bU .nil pass0 rfl) (nomark _))))) (pss_one (ps_ret pe_bl)) pss_nil)
      (pss_cons (ps_for PassesOwn.never rfl (pi_range1 (by rfl) mR (pa_cons (pe_callB (call_min2 rfl) (by rfl) mMn (by decide +kernel) (pa_cons pe_int (pa_cons (pe_callB call_len_seq (by rfl) mL PySem.boot_len (pa_cons (pe_ix ix_tup (pv 1) pe_int (fun _ _ => rfl)) pa_nil)) pa_nil))) pa_nil)) (pg_name (i := 5) nd rfl (Or.inl rfl)) (pss_cons (ps_set (i := 6) nd rfl (Or.inl rfl) (pe_tup (pa_cons (pe_ix ix_tup (pv 1) pe_int (fun _ _ => rfl)) (pa_cons (pe_op op_cat (pe_slice sl_list (pe_ix ix_tup (pv 1) pe_int (fun _ _ => rfl)) po_none (po_some (pv 5))) (pe_slice sl_list (pe_ix ix_tup (pv 1) pe_int (fun _ _ => rfl)) (po_some (pe_op op_add (pv 5) pe_int)) po_none)) pa_nil))))
      (pss_one (ps_if (pt_cmpR op_ne (pe_c cSh r7 (pa_cons (pe_meth (pv 4) c.cls meW FW r7 bW .nil pass0 (pa_cons (pv 5) pa_nil)) pa_nil)) (pe_c cT r2 (pa_cons (pv 6) pa_nil)) (nomark _)) (pss_one (ps_ret pe_bl)) pss_nil))))
      (pss_cons (ps_for PassesOwn.never rfl (pi_range1 (by rfl) mR (pa_cons pe_int pa_nil)) (pg_name (i := 7) nd rfl (Or.inl rfl)) (pss_cons (ps_set (i := 8) nd rfl (Or.inl rfl) (pe_c cW r3 (pa_cons (pv 0) pa_nil)))
      (pss_one (ps_if (pt_cmpR (op_neD hr.units) (pe_c cRun hr (pa_cons (pv 4) (pa_cons (pv 8) pa_nil))) (pe_c cRun hr (pa_cons (pv 2) (pa_cons (pv 8) pa_nil))) (nomark _)) (pss_one (ps_ret pe_bl)) pss_nil))))
      (pss_one (ps_ret (pe_c cPR r5 (pa_cons (pv 0) pa_nil))))))))))))), ?_⟩
    refine ⟨_, rfl, sk, 2, m, rfl, hS, by omega, by decide, by decide, fun c0 H1 c00 c01 b1 s1 z1 => ⟨rfl, _, rfl, ?_⟩⟩
    have both : ∀ {R : VK}, (∀ (t : Addr) (ts : List Tk) (ds : List Deed) (H' : Hp), But sk H1 H' → Sk H' sk (m + 1 + 3000) → ShAt (wo sk H') t ts ds → ShW ts ds → PqB ds → R (.ref t) H') → (if decide (V.int c0 = V.int 0) = true then tCall spShape4 [] E0 (tCons (tVar 0) tNil) [some (.ref sk), none, none, none, none, none, none, none, none] H1 R else tCall spShape4 [] E0 (tCons (tVar 0) tNil) [some (.ref sk), none, none, none, none, none, none, none, none] H1 R) := fun {R} h => by
      split
      · exact ⟨_, rfl, sk, m + 1, rfl, s1, by omega, h⟩
      · exact ⟨_, rfl, sk, m + 1, rfl, s1, by omega, h⟩
    refine both fun t ts ds H2 b2 s2 hSh hW hQ => ?_
    clear both
    obtain ⟨tsm, dsm⟩ := shw_sm hW hQ
    have ok := hW.ok
    have l20 := ok.1.1
    have l60 := ok.2.1
    obtain ⟨lv, ld, ht, hT, hD⟩ := id hSh
    have b02 := b1.trans b2
    refine ⟨_, rfl, t, ts, ds, rfl, ⟨lv, ld, wo_ex _ _ ht, hT.ex wo_ex, hD.ex wo_ex⟩, ok, fun y H3 hy e3 hYn => ?_⟩
    have hY : ScAt (wo sk H3) C y ts ds := hYn.ex (nw_wo s2)
    have up3 : Evl.Ex (wo sk H2) (wo sk H3) := ex_wo e3
    have s3 := s2.ex e3
    have b3 := b02.trans (But.of_ex (p := sk) e3)
    have ht3 := up3 _ _ ht
    have hT3 := hT.ex up3
    have hD3 := hD.ex up3
    refine ⟨_, rfl, t, lv, ld, ts, ds, rfl, wo_ex _ _ ht3, (hT3.ex wo_ex).dq, (hD3.ex wo_ex).dq, by omega, by omega, tsm, dsm, fun H4 e4 => ⟨_, _, rfl, ?_⟩⟩
    obtain ⟨W, hWd⟩ : ∃ W : Str, W = scT ts ds := ⟨_, rfl⟩
    have lenW : W.length ≤ 60000 := by rw [hWd]; exact scT_len tsm l20 dsm l60
    -- all that stands, from here on
    have keep : ∀ {Ha Hb : Hp}, Evl.Ex Ha Hb → Evl.Ex (wo sk Ha) (wo sk Hb) := fun e => ex_wo e
    have hY4 := hY.ex (keep e4)
    have s4 := s3.ex e4
    have b4 := b3.trans (But.of_ex (p := sk) e4)
    have ht4 := keep e4 _ _ ht3
    have hT4 := hT3.ex (keep e4)
    have hD4 := hD3.ex (keep e4)
    rw [← hWd]
    have one : decide (V.str W = V.str W) = true := decide_eq_true rfl
    refine ⟨_, rfl, y, ts, ds, rfl, hY4.ex wo_ex, ok, tsm, dsm, fun H5 e5 => ⟨_, rfl, rfl, _, rfl, if_f (by rw [← hWd, one]; rfl) ?_⟩⟩
    refine ⟨_, rfl, rfl, y, ts, ds, rfl, (hY4.ex wo_ex).ex e5, ok, tsm, dsm, fun H6 e6 => ⟨_, rfl, rfl, _, rfl, if_f (by rw [← hWd, one]; rfl) ?_⟩⟩
    have e46 := e5.trans e6
    have hY6 := hY4.ex (keep e46)
    have s6 := s4.ex e46
    have b6 := b4.trans (But.of_ex (p := sk) e46)
    have ht6 := keep e46 _ _ ht4
    have hT6 := hT4.ex (keep e46)
    have hD6 := hD4.ex (keep e46)
    refine ⟨_, rfl, W, rfl, Nat.le_trans lenW (by decide), _, _, rfl, rfl, _, rfl, ite2 (fun _ => ?_) (fun _ => ?_)⟩
    · exact ⟨_, rfl, sk, _, rfl, s6, by omega, fun H' b s => k _ (b6.trans b) (s.le (by omega))⟩
    refine ⟨_, rfl, ts, ds, by rw [hWd]; rfl, ok, tsm, dsm, fun z H7 hz e7 hZn => ?_⟩
    have hE : eqB ts ds ts ds = true := by
      unfold eqB
      rw [eqv_same (shp_tks ts), eqv_same (shp_ds ds)]
      rfl
    have hZ : ScAt (wo sk H7) C z ts ds := hZn.ex (nw_wo s6)
    have hY7 := hY6.ex (keep e7)
    have hZa := hZ.ex wo_ex
    have hYa := hY7.ex wo_ex
    obtain ⟨dz, fz, vz, uz, hz7, hvz, huz, hdvz, hduz, gz⟩ := id hZa
    obtain ⟨dy, fy, vy, uy, hy7, hvy, huy, hdvy, hduy, gy⟩ := id hYa
    refine ⟨_, rfl, _, rfl, z, dz, fz, .ref C, rfl, hz7, .ins hy7, z, .ref y, ts, ds, rfl, hZa, .inl ⟨y, ts, ds, rfl, hYa, _, rfl, _, rfl, if_f (by rw [hE]; rfl) ?_⟩⟩
    refine ⟨_, rfl, rfl, ts, ds, by rw [hWd], ok, tsm, dsm, fun z2 H8 hz2 e8 hZ2n => ?_⟩
    have hZ2a := hZ2n.ex Nw.ex
    have hYb := hYa.ex e8
    obtain ⟨dz2, fz2, _, _, hz28, _⟩ := id hZ2a
    refine ⟨_, rfl, z2, dz2, fz2, .ref C, rfl, hz28, .ins (e8 _ _ hy7), z2, .ref y, ts, ds, rfl, hZ2a, .inl ⟨y, ts, ds, rfl, hYb, _, rfl, _, rfl, if_f (by rw [hE]; rfl) ?_⟩⟩
    have hZb := hZa.ex e8
    have ht8 := e8 _ _ (e7 _ _ (wo_ex _ _ ht6))
    have hT8 := ((hT6.ex wo_ex).ex e7).ex e8
    have hD8 := ((hD6.ex wo_ex).ex e7).ex e8
    refine ⟨_, rfl, z, ts, ds, rfl, hZb, ok, tsm, dsm, fun H9 e9 => ⟨_, rfl, rfl, _, rfl, if_f (by rw [← hWd, one]; rfl) ?_⟩⟩
    have hZ9 := hZb.ex e9
    obtain ⟨as, q1, q2, q3⟩ := hD8.ex e9
    have hz9 := e9 _ _ (e8 _ _ hz7)
    have ht9 := e9 _ _ ht8
    have hT9 := hT8.ex e9
    refine ⟨_, rfl, z, dz, fz, rfl, hz9, z, ts, ds, rfl, hZ9, ok, ds.length, rfl, by omega, _, rfl, t, _, _, _, rfl, rfl, SqT.of ht9, atI_nat (j := 1) rfl, ld, _, rfl, .inl (SqL.of q1), rfl, _, rfl, if_f (by rw [List.length_map, q2, decide_eq_true rfl]; rfl) ?_⟩
    subst gz gy
    refine ⟨_, rfl, z, dz, _, rfl, hz9, z, dz, _, vz, _, rfl, hz9, hvz, (hdvz.go e8).go e9, cp_tks (Nat.le_trans l20 (by decide)), fun v' H10 e10 d10 => ?_⟩
    have hz10 := e10 _ _ hz9
    refine ⟨_, rfl, z, dz, _, rfl, hz10, z, dz, _, uz, _, rfl, hz10, huz, ((hduz.go e8).go e9).go e10, cp_deeds ok.2.2 (Nat.le_trans l60 (by decide)), fun u' H11 e11 d11 => ⟨two, fun q hq => ?_⟩⟩
    have e12 := Evl.Ex.new (o := .tup [v', u']) hq
    have dq1 : Dq (upd H11 q (.tup [v', u'])) (.ref q) (.tuple [.list (ts.map tkD), .list (ds.map dD)]) := .tup upd_same (.cons (((d10.go Nw.ex).go e11).go e12) (.cons ((d11.go Nw.ex).go e12) .nil))
    have e912 := (e10.trans e11).trans e12
    have dq2 : Dq (upd H11 q (.tup [v', u'])) (.ref t) (.tuple [.list (ts.map tkD), .list (ds.map dD)]) := .tup (e912 _ _ ht9) (.cons (hT9.ex e912).dq (.cons (((hD8.ex e9).ex e912)).dq .nil))
    have cp4 : Cp 4 (.tuple [.list (ts.map tkD), .list (ds.map dD)]) := .tup (by show 2 ≤ 100; decide) (fun d hd => by
      simp only [List.mem_cons, List.not_mem_nil, or_false] at hd
      rcases hd with rfl | rfl
      · exact (cp_tks (Nat.le_trans l20 (by decide))).up
      · exact cp_deeds ok.2.2 (Nat.le_trans l60 (by decide)))
    have sh4 := shp_two (shp_tks ts) (shp_ds ds) (dep_tks ts) (dep_ds ds)
    refine ⟨_, rfl, _, _, dq1.dp cp4, dq2.dp cp4, sh4, sh4, _, rfl, if_f (by rw [eqv_same sh4]; rfl) ?_⟩
    have e712 := (e8.trans e9).trans e912
    have hZ12 := hZa.ex e712
    have hY12 := hYa.ex e712
    have hz12 := e712 _ _ hz7
    have hy12 := e712 _ _ hy7
    refine ⟨_, rfl, z, dz, _, rfl, hz12, z, ts, ds, rfl, hZ12, ok, fun H13 e13 => ⟨_, rfl, y, dy, _, rfl, e13 _ _ hy12, y, ts, ds, rfl, hY12.ex e13, ok, fun H14 e14 => ⟨rfl, _, rfl, if_f (by rw [decide_eq_true rfl]; rfl) ?_⟩⟩⟩
    -- the lesser scripts
    have e714 := (e712.trans e13).trans e14
    have e614 := e7.trans e714
    have hZ14 := hZ.ex (keep e714)
    have hY14 := hY7.ex (keep e714)
    have s14 := s6.ex e614
    have b14 := b6.trans (But.of_ex (p := sk) e614)
    have ht14 := keep e614 _ _ ht6
    have hT14 := hT6.ex (keep e614)
    obtain ⟨cs, w1, w2, w3⟩ := hD6.ex (keep e614)
    have w1' := wo_ex _ _ w1
    have z14 := e714 _ _ hz7
    refine ⟨_, rfl, t, _, _, _, rfl, rfl, SqT.of (wo_ex _ _ ht14), atI_nat (j := 1) rfl, ld, _, rfl, .inl (SqL.of w1'), 2, _, rfl, ?_⟩
    rw [List.length_map, w2]
    obtain ⟨n2, hn2, hn3⟩ : ∃ n2 : Nat, (if (ds.length : Int) < 2 then (ds.length : Int) else 2) = (n2 : Int) ∧ n2 ≤ ds.length := by
      split
      · exact ⟨ds.length, rfl, Nat.le_refl _⟩
      · exact ⟨2, rfl, by omega⟩
    rw [hn2]
    refine ⟨(n2 : Int), rfl, by omega, by omega, for_range (n := (n2 : Int).toNat) (fun i σ H' => Evl.Ex H14 H' ∧ ∃ v5 v6, σ = [some (.ref sk), some (.ref t), some (.ref y), some (.str W), some (.ref z), v5, v6, none, none]) ⟨Evl.Ex.refl _, none, none, rfl⟩ ?_ ?_⟩
    · rintro i σ H15 hi ⟨e15, v5, v6, rfl⟩
      rw [Int.zero_add]
      have hil : i < ds.length := by omega
      have t15 := e15 _ _ (wo_ex _ _ ht14)
      have g15 := e15 _ _ w1'
      refine ⟨_, rfl, t, _, _, _, rfl, rfl, SqT.of t15, atI_nat (j := 0) rfl, ?_⟩
      refine ⟨_, rfl, t, _, _, _, rfl, rfl, SqT.of t15, atI_nat (j := 1) rfl, _, rfl, (i : Int), rfl, ld, _, rfl, SqL.of g15, fun p1 hp1 => ?_⟩
      have e16 := Evl.Ex.new (o := .lst (cutV (cs.map V.ref) none (some (i : Int)))) hp1
      have q16 : upd H15 p1 (.lst (cutV (cs.map V.ref) none (some (i : Int)))) p1 = some (.lst ((cs.take i).map V.ref)) := Eq.trans upd_same (by rw [cut_min, List.map_take])
      generalize upd H15 p1 (.lst (cutV (cs.map V.ref) none (some (i : Int)))) = H16 at e16 q16
      refine ⟨_, rfl, t, _, _, _, rfl, rfl, SqT.of (e16 _ _ t15), atI_nat (j := 1) rfl, _, rfl, _, _, rfl, rfl, ((i + 1 : Nat) : Int), rfl, ld, _, rfl, SqL.of (e16 _ _ g15), fun p2 hp2 => ?_⟩
      have e17 := Evl.Ex.new (o := .lst (cutV (cs.map V.ref) (some ((i + 1 : Nat) : Int)) none)) hp2
      have q17 : upd H16 p2 (.lst (cutV (cs.map V.ref) (some ((i + 1 : Nat) : Int)) none)) p2 = some (.lst ((cs.drop (i + 1)).map V.ref)) := Eq.trans upd_same (by rw [cut_drop, List.map_drop])
      generalize upd H16 p2 (.lst (cutV (cs.map V.ref) (some ((i + 1 : Nat) : Int)) none)) = H17 at e17 q17
      refine ⟨p1, p2, _, _, rfl, rfl, e17 _ _ q16, q17, ?_, fun p3 hp3 => ?_⟩
      · rw [List.length_map, List.length_map, List.length_take, List.length_drop]
        exact Nat.le_trans (show min i cs.length + (cs.length - (i + 1)) ≤ 120 by omega) (by decide)
      have e18 := Evl.Ex.new (o := .lst ((cs.take i).map V.ref ++ (cs.drop (i + 1)).map V.ref)) hp3
      have q18 : upd H17 p3 (.lst ((cs.take i).map V.ref ++ (cs.drop (i + 1)).map V.ref)) p3 = some (.lst ((cs.take i ++ cs.drop (i + 1)).map V.ref)) := Eq.trans upd_same (by rw [List.map_append])
      generalize upd H17 p3 (.lst ((cs.take i).map V.ref ++ (cs.drop (i + 1)).map V.ref)) = H18 at e18 q18
      have e1418 := ((e15.trans e16).trans e17).trans e18
      refine ⟨two, fun p4 hp4 => ?_⟩
      have e19 := Evl.Ex.new (o := .tup [.ref lv, .ref p3]) hp4
      have q19 := upd_same (H := H18) (a := p4) (o := .tup [.ref lv, .ref p3])
      have q1819 := e19 _ _ q18
      generalize upd H18 p4 (.tup [.ref lv, .ref p3]) = H19 at e19 q19 q1819
      have e1419 := e1418.trans e19
      obtain ⟨pl, pd⟩ := ds_parts w2 w3 i (i + 1)
      have hDs : DsAt H19 p3 (ds.take i ++ ds.drop (i + 1)) := ⟨_, q1819, pl, fun j a d u1 u2 => ((pd j a d u1 u2).ex wo_ex).ex e1419⟩
      have ok' : okS ts (ds.take i ++ ds.drop (i + 1)) := ⟨ok.1, Nat.le_trans (len_ds i) l60, fun d hd => ok.2.2 d (mem_ds hd)⟩
      have dsm' : ∀ d ∈ ds.take i ++ ds.drop (i + 1), DSm d := fun d hd => dsm d (mem_ds hd)
      have z19 := e1419 _ _ z14
      refine ⟨_, rfl, z, dz, _, rfl, z19, rfl, _, rfl, z, i, ts, ds, rfl, (hZ14.ex wo_ex).ex e1419, ok, hil, fun x H20 hx e20 hX => ?_⟩
      refine ⟨x, ts, _, rfl, hX.ex Nw.ex, ok', tsm, dsm', fun H21 e21 => ?_⟩
      have e1921 := e20.trans e21
      refine ⟨_, rfl, p4, lv, p3, ts, _, rfl, e1921 _ _ q19, (((hT14.ex wo_ex).ex e1419).ex e1921).dq, (hDs.ex e1921).dq, by omega, Nat.le_trans (len_ds i) (Nat.le_trans l60 (by decide)), tsm, dsm', fun H22 e22 => ⟨rfl, _, rfl, if_f (by rw [decide_eq_true rfl]; rfl) ⟨(e1419.trans e1921).trans e22, _, _, rfl⟩⟩⟩
    rintro σ H15 ⟨e15, v5, v6, rfl⟩
    -- runs at two widths
    refine ⟨2, rfl, by decide, by decide, for_range (n := 2) (fun i σ H' => But sk H H' ∧ Sk H' sk (m + 3001 + 4 * i) ∧ ScAt (wo sk H') C z ts ds ∧ ScAt (wo sk H') C y ts ds ∧ ∃ v7 v8, σ = [some (.ref sk), some (.ref t), some (.ref y), some (.str W), some (.ref z), v5, v6, v7, v8]) ⟨b14.trans (But.of_ex e15), (s14.ex e15).le (by omega), hZ14.ex (keep e15), hY14.ex (keep e15), none, none, rfl⟩ ?_ ?_⟩
    · rintro i σ H16 hi ⟨b16, s16, hZ16, hY16, v7, v8, rfl⟩
      rw [Int.zero_add]
      refine ⟨_, rfl, sk, _, rfl, s16, by omega, fun f u b H17 b17 s17 hf hFr hQn hu => ?_⟩
      have hZ17 := hZ16.ex b17.wo
      have hY17 := hY16.ex b17.wo
      have hFr' := wo_ex _ _ hFr
      refine ⟨_, rfl, _, rfl, z, f, ts, ds, u, b, rfl, hZ17.ex wo_ex, hW, hFr', hu, hQn, fun q D e n H18 e18 hDn hq18 hPr hEnd => ?_⟩
      refine ⟨_, rfl, _, rfl, y, f, ts, ds, u, b, rfl, (hY17.ex wo_ex).ex e18, hW, e18 _ _ hFr', hu, hQn, fun q' D' e' n' H19 e19 hDn' hq19 hPr' hEnd' => ?_⟩
      obtain ⟨rfl, rfl⟩ := hEnd.uniq hEnd'
      have de : ∀ H : Hp, Dp K H e (eD e) := fun H => by
        rcases hEnd.at_ with ⟨_, rfl⟩ | ⟨d, _, _, rfl⟩
        · exact .non
        · exact .int _
      have se : SeqAt.shaped (eD e) = true ∧ (eD e).depth ≤ 60 := by
        rcases hEnd.at_ with ⟨_, rfl⟩ | ⟨d, _, _, rfl⟩
        · exact ⟨rfl, by decide⟩
        · exact ⟨by simp [eD, SeqAt.shaped, PyData.canLay0, PyData.depth], by simp [eD, PyData.depth]⟩
      have sh := shp_two se.1 (shp_pr (lvsA ts ds u b n)) se.2 (dep_pr _)
      refine ⟨.tuple [eD e, prD (lvsA ts ds u b n)], .tuple [eD e, prD (lvsA ts ds u b n)], .tup (SqT.of (e19 _ _ hq18)) (.cons (de _) (.cons (dp_pr (hPr.ex e19)) .nil)), .tup (SqT.of hq19) (.cons (de _) (.cons (dp_pr hPr') .nil)), sh, sh, _, rfl, if_f (by rw [eqv_same sh]; rfl) ?_⟩
      have ee := e18.trans e19
      exact ⟨(b16.trans b17).trans (But.of_ex ee), (s17.ex ee).le (by omega), hZ17.ex (keep ee), hY17.ex (keep ee), _, _, rfl⟩
    rintro σ H16 ⟨b16, s16, hZ16, hY16, v7, v8, rfl⟩
    exact ⟨_, rfl, sk, _, rfl, s16, by omega, fun H' b s => k _ (b16.trans b) (s.le (by omega))⟩
end
end V2






namespace V2
open PySem L2
open PySem.Spec PyProof.Rows
section
variable {base : Heap} {mg : Str → Option Value} {K : PySem.W.Frag} {w : World} {P : Program}
theorem Lay.calX {x : Str} {st : Stmt} {ps : List Str} {k : Nat} {sp : Sp} (L : Lay K mg x st ps) (h : ∀ f fd, Fun K x x st f fd → FnOk P w K mg base (L2.CX P w) k f fd ps sp) : CalX P w K mg base k x ps sp := by
  obtain ⟨f, fd, F, m, kp, b⟩ := L
  exact ⟨f, fd, h f fd F, m, kp, b⟩
theorem ok_law53 {f : Addr} {fd : FuncData} (F : Fun K "law" "law" s_law f fd) (T : T6 mg) (cP : Cal P w K mg base 1 "_law_purse" p_l_purse (spSack K)) (cR : Cal P w K mg base 11 "_law_right" p_l_right spRight53) : FnOk P w K mg base CX0 12 f fd p_law (spLaw K) := by
  refine F.ok sc_law (fun vs H Q E h => ?_) (fun cdv A outer s H vs Q E hr h => ?_)
  · obtain ⟨a, ns, rfl, _⟩ := h
    rfl
  · obtain ⟨a, ns, rfl, hS, hl, k⟩ := h
    have nd := sc_law.nd
    have r1 : Room 1 _ := hr.mono (by decide)
    refine ⟨_, pss_cons (ps_for PassesOwn.never rfl (pi_range1 (by rfl) T.rng (pa_cons (pe_callB (call_max2 rfl) (by rfl) T.max (by decide +kernel) (pa_cons pe_int (pa_cons (pe_callB (call_min2 rfl) (by rfl) T.min (by decide +kernel) (pa_cons pe_int (pa_cons (pe_callB call_len_seq (by rfl) T.len PySem.boot_len (pa_cons (pv 0) pa_nil)) pa_nil))) pa_nil))) pa_nil)) (pg_name (i := 1) nd rfl (Or.inl rfl)) (pss_cons (ps_set (i := 2) nd rfl (Or.inl rfl) (pe_c cP r1 (pa_cons (pv 0) (pa_cons (pv 1) pa_nil))))
      (pss_one (ps_for PassesOwn.never rfl (pi_range1 (by rfl) T.rng (pa_cons pe_int pa_nil)) (pg_name (i := 3) nd rfl (Or.inl rfl)) (pss_one (ps_if (pt_not (pt_val (pe_c cR hr (pa_cons (pv 2) pa_nil)))) (pss_one (ps_ret pe_bl)) pss_nil))))))
      (pss_one (ps_ret pe_bl)), ?_⟩
    refine ⟨_, rfl, a, _, rfl, .inl hS, _, _, rfl, _, _, rfl, _, rfl, ?_, ?_, ?_⟩
    · split <;> split <;> omega
    · split <;> split <;> omega
    have hb : (if (if ((iV ns).length : Int) < 5 then ((iV ns).length : Int) else 5) > 1 then (if ((iV ns).length : Int) < 5 then ((iV ns).length : Int) else 5) else 1 : Int) ≤ 5 := by split <;> split <;> omega
    generalize (if (if ((iV ns).length : Int) < 5 then ((iV ns).length : Int) else 5) > 1 then (if ((iV ns).length : Int) < 5 then ((iV ns).length : Int) else 5) else 1 : Int) = n at hb
    refine for_range (n := n.toNat) (fun i σ H' => ∃ v1 v2 v3, σ = [some (.ref a), v1, v2, v3] ∧ SqL K H' a (iV ns)) ⟨none, none, none, rfl, hS⟩ ?_ ?_
    · rintro i σ H1 hi ⟨v1, v2, v3, rfl, hS1⟩
      refine ⟨_, rfl, _, rfl, a, ns, i, ?_, hS1, hl, by omega, fun q H2 hq e2 h2 => ?_⟩
      · rw [Int.zero_add]
        rfl
      refine ⟨2, rfl, by decide, by decide, for_range (n := 2) (fun j σ H' => (∃ v1 v3, σ = [some (.ref a), v1, some (.ref q), v3]) ∧ But q H2 H' ∧ Sk H' q (3100 * j)) ⟨⟨_, _, rfl⟩, But.refl _ _, h2⟩ ?_ ?_⟩
      · rintro j σ H3 hj ⟨⟨v1, v3, rfl⟩, b3, s3⟩
        rw [Int.zero_add]
        exact ⟨_, rfl, q, _, rfl, s3, by omega, fun H4 b4 s4 => ⟨true, rfl, if_f rfl ⟨⟨_, _, rfl⟩, b3.trans b4, s4.le (by omega)⟩⟩⟩
      · rintro σ H3 ⟨⟨v1, v3, rfl⟩, b3, s3⟩
        exact ⟨_, _, _, rfl, sq_ex_but hS1 hq e2 b3⟩
    · rintro σ H1 ⟨v1, v2, v3, rfl, hS1⟩
      exact k H1
end
theorem whole {P : Program} {w : World} {K : PySem.W.Frag} {h : Heap} {mg : Str → Option Value} {fa : Addr} (X : K.In h) (G : h.Ns mainGlobals mg) (hfa : mg ("law" : Str) = some (.ref fa)) (c : lk.seen K = lk.due w) :
    ∃ fd : FuncData, (∀ (s : Shared) (v : Value), BindsTo s fd ⟨[v], []⟩ [("script", v)]) ∧ ∀ base : Heap, K.In base → base.Ns mainGlobals mg → FnG P w K mg base 12 fa fd p_law (spLaw K) := by
  have z_len : mg "len" = none := (He.free_ok X G (Lk.fact c 103 (f := bFree "len") rfl))
  have z_max : mg "max" = none := (He.free_ok X G (Lk.fact c 105 (f := bFree "max") rfl))
  have z_min : mg "min" = none := (He.free_ok X G (Lk.fact c 106 (f := bFree "min") rfl))
  have z_abs : mg "abs" = none := (He.free_ok X G (Lk.fact c 97 (f := bFree "abs") rfl))
  have z_int : mg "int" = none := (He.free_ok X G (Lk.fact c 101 (f := bFree "int") rfl))
  have z_range : mg "range" = none := (He.free_ok X G (Lk.fact c 107 (f := bFree "range") rfl))
  have z_list : mg "list" = none := (He.free_ok X G (Lk.fact c 104 (f := bFree "list") rfl))
  have z_isinstance : mg "isinstance" = none := (He.free_ok X G (Lk.fact c 102 (f := bFree "isinstance") rfl))
  have z_bool : mg "bool" = none := (He.free_ok X G (Lk.fact c 99 (f := bFree "bool") rfl))
  have z_tuple : mg "tuple" = none := (He.free_ok X G (Lk.fact c 110 (f := bFree "tuple") rfl))
  have z_all : mg "all" = none := (He.free_ok X G (Lk.fact c 98 (f := bFree "all") rfl))
  have z_str : mg "str" = none := (He.free_ok X G (Lk.fact c 109 (f := bFree "str") rfl))
  have z_enumerate : mg "enumerate" = none := (He.free_ok X G (Lk.fact c 100 (f := bFree "enumerate") rfl))
  have z_sorted : mg "sorted" = none := (He.free_ok X G (Lk.fact c 108 (f := bFree "sorted") rfl))
  have z_gcd : mg "gcd" = some (.builtin "math.gcd") := (blt_ok X G (Lk.fact c 111 (f := bBlt "gcd" "math.gcd") rfl))
  have t0 : T0 mg := ⟨z_len, z_max, z_abs, z_int⟩
  have t2 : T2 mg := ⟨z_len, z_max, z_range, z_enumerate⟩
  have t7 : T7 mg := ⟨z_len, z_abs, z_enumerate, z_gcd⟩
  have t3 : T3 mg := ⟨z_isinstance, z_int, z_bool, z_list, z_tuple, z_len, z_all, z_gcd⟩
  have t5 : T5 mg := ⟨z_isinstance, z_list, z_tuple⟩
  obtain ⟨es, nT, D⟩ := Lk.tab c 0 rfl
  obtain ⟨t_0, d_0⟩ := dint_ok (Lk.fact c 92 (f := bInt "THINGS" "open" 2) rfl)
  obtain ⟨t_1, d_1⟩ := dint_ok (Lk.fact c 93 (f := bInt "THINGS" "pour" 3) rfl)
  obtain ⟨t_2, d_2⟩ := dint_ok (Lk.fact c 94 (f := bInt "THINGS" "scoop" 3) rfl)
  obtain ⟨t_3, d_3⟩ := dint_ok (Lk.fact c 95 (f := bInt "THINGS" "move" 4) rfl)
  obtain ⟨t_4, d_4⟩ := dint_ok (Lk.fact c 96 (f := bInt "THINGS" "unless" 3) rfl)
  have th : Th K w mg (He.ga K "THINGS") es nT t_0 t_1 t_2 t_3 t_4 := ⟨(He.glo_ok X G (Lk.fact c 91 (f := bGlo "THINGS") rfl)), D, d_0, d_1, d_2, d_3, d_4⟩
  have L_show_script : Lay K mg "show_script" s_show_script p_show_script := lay_of X G c 0 0 rfl rfl (fun _ _ _ _ _ _ us hl => match us, hl with | [_], _ => rfl)
  have L_show_polynomial : Lay K mg "show_polynomial" s_show_polynomial p_show_polynomial := lay_of X G c 1 1 rfl rfl (fun _ _ _ _ _ _ us hl => match us, hl with | [_], _ => rfl)
  have L_show_tank : Lay K mg "show_tank" s_show_tank p_show_tank := lay_of X G c 2 2 rfl rfl (fun _ _ _ _ _ _ us hl => match us, hl with | [_], _ => rfl)
  have L_show_thing : Lay K mg "show_thing" s_show_thing p_show_thing := lay_of X G c 3 3 rfl rfl (fun _ _ _ _ _ _ us hl => match us, hl with | [_], _ => rfl)
  have L_show_integer : Lay K mg "show_integer" s_show_integer p_show_integer := lay_of X G c 4 4 rfl rfl (fun _ _ _ _ _ _ us hl => match us, hl with | [_], _ => rfl)
  have L_order_of_fractions : Lay K mg "order_of_fractions" s_order_of_fractions p_order_of_fractions := lay_of X G c 5 5 rfl rfl (fun _ _ _ _ _ _ us hl => match us, hl with | [_, _], _ => rfl)
  have L_sign_of : Lay K mg "sign_of" s_sign_of p_sign_of := lay_of X G c 6 6 rfl rfl (fun _ _ _ _ _ _ us hl => match us, hl with | [_], _ => rfl)
  have L_cut : Lay K mg "cut" s_cut p_cut := lay_of X G c 7 7 rfl rfl (fun _ _ _ _ _ _ us hl => match us, hl with | [_], _ => rfl)
  have L_negated : Lay K mg "negated" s_negated p_negated := lay_of X G c 8 8 rfl rfl (fun _ _ _ _ _ _ us hl => match us, hl with | [_], _ => rfl)
  have L_added : Lay K mg "added" s_added p_added := lay_of X G c 9 9 rfl rfl (fun _ _ _ _ _ _ us hl => match us, hl with | [_, _], _ => rfl)
  have L_multiplied : Lay K mg "multiplied" s_multiplied p_multiplied := lay_of X G c 10 10 rfl rfl (fun _ _ _ _ _ _ us hl => match us, hl with | [_, _], _ => rfl)
  have L_scaled_value : Lay K mg "scaled_value" s_scaled_value p_scaled_value := lay_of X G c 11 11 rfl rfl (fun _ _ _ _ _ _ us hl => match us, hl with | [_, _], _ => rfl)
  have L_sign_at_fraction : Lay K mg "sign_at_fraction" s_sign_at_fraction p_sign_at_fraction := lay_of X G c 12 12 rfl rfl (fun _ _ _ _ _ _ us hl => match us, hl with | [_, _], _ => rfl)
  have L_content : Lay K mg "content" s_content p_content := lay_of X G c 13 13 rfl rfl (fun _ _ _ _ _ _ us hl => match us, hl with | [_], _ => rfl)
  have L_primitive : Lay K mg "primitive" s_primitive p_primitive := lay_of X G c 14 14 rfl rfl (fun _ _ _ _ _ _ us hl => match us, hl with | [_], _ => rfl)
  have L_upright : Lay K mg "upright" s_upright p_upright := lay_of X G c 15 15 rfl rfl (fun _ _ _ _ _ _ us hl => match us, hl with | [_], _ => rfl)
  have L_remainder : Lay K mg "remainder" s_remainder p_remainder := lay_of X G c 16 16 rfl rfl (fun _ _ _ _ _ _ us hl => match us, hl with | [_, _], _ => rfl)
  have L_quotient : Lay K mg "quotient" s_quotient p_quotient := lay_of X G c 17 17 rfl rfl (fun _ _ _ _ _ _ us hl => match us, hl with | [_, _], _ => rfl)
  have L_common_factor : Lay K mg "common_factor" s_common_factor p_common_factor := lay_of X G c 18 18 rfl rfl (fun _ _ _ _ _ _ us hl => match us, hl with | [_, _], _ => rfl)
  have L_copied : Lay K mg "copied" s_copied p_copied := lay_of X G c 19 19 rfl rfl (fun _ _ _ _ _ _ us hl => match us, hl with | [_], _ => rfl)
  have L_is_integer : Lay K mg "is_integer" s_is_integer p_is_integer := lay_of X G c 20 20 rfl rfl (fun _ _ _ _ _ _ us hl => match us, hl with | [_], _ => rfl)
  have L_is_fraction : Lay K mg "is_fraction" s_is_fraction p_is_fraction := lay_of X G c 21 21 rfl rfl (fun _ _ _ _ _ _ us hl => match us, hl with | [_], _ => rfl)
  have L_is_polynomial : Lay K mg "is_polynomial" s_is_polynomial p_is_polynomial := lay_of X G c 22 22 rfl rfl (fun _ _ _ _ _ _ us hl => match us, hl with | [_], _ => rfl)
  have L_check_width : Lay K mg "check_width" s_check_width p_check_width := lay_of X G c 23 23 rfl rfl (fun _ _ _ _ _ _ us hl => match us, hl with | [_], _ => rfl)
  have L_is_amount : Lay K mg "is_amount" s_is_amount p_is_amount := lay_of X G c 24 24 rfl rfl (fun _ _ _ _ _ _ us hl => match us, hl with | [_], _ => rfl)
  have L_is_tank : Lay K mg "is_tank" s_is_tank p_is_tank := lay_of X G c 25 25 rfl rfl (fun _ _ _ _ _ _ us hl => match us, hl with | [_], _ => rfl)
  have L_check_tanks : Lay K mg "check_tanks" s_check_tanks p_check_tanks := lay_of X G c 26 26 rfl rfl (fun _ _ _ _ _ _ us hl => match us, hl with | [_], _ => rfl)
  have L_is_ascending : Lay K mg "is_ascending" s_is_ascending p_is_ascending := lay_of X G c 27 27 rfl rfl (fun _ _ _ _ _ _ us hl => match us, hl with | [_], _ => rfl)
  have L_is_step : Lay K mg "is_step" s_is_step p_is_step := lay_of X G c 28 28 rfl rfl (fun _ _ _ _ _ _ us hl => match us, hl with | [_], _ => rfl)
  have L_tanks_of : Lay K mg "tanks_of" s_tanks_of p_tanks_of := lay_of X G c 29 29 rfl rfl (fun _ _ _ _ _ _ us hl => match us, hl with | [_], _ => rfl)
  have L_check_numbers : Lay K mg "check_numbers" s_check_numbers p_check_numbers := lay_of X G c 30 30 rfl rfl (fun _ _ _ _ _ _ us hl => match us, hl with | [_, _], _ => rfl)
  have L_check_part : Lay K mg "check_part" s_check_part p_check_part := lay_of X G c 31 31 rfl rfl (fun _ _ _ _ _ _ us hl => match us, hl with | [_], _ => rfl)
  have L_check_step : Lay K mg "check_step" s_check_step p_check_step := lay_of X G c 32 32 rfl rfl (fun _ _ _ _ _ _ us hl => match us, hl with | [_, _], _ => rfl)
  have L_check_index : Lay K mg "check_index" s_check_index p_check_index := lay_of X G c 33 33 rfl rfl (fun _ _ _ _ _ _ us hl => match us, hl with | [_, _], _ => rfl)
  have L_read_script : Lay K mg "read_script" s_read_script p_read_script := lay_of X G c 34 34 rfl rfl (fun _ _ _ _ _ _ us hl => match us, hl with | [_], _ => rfl)
  have L_read_polynomial : Lay K mg "read_polynomial" s_read_polynomial p_read_polynomial := lay_of X G c 35 35 rfl rfl (fun _ _ _ _ _ _ us hl => match us, hl with | [_], _ => rfl)
  have L_read_tank : Lay K mg "read_tank" s_read_tank p_read_tank := lay_of X G c 36 36 rfl rfl (fun _ _ _ _ _ _ us hl => match us, hl with | [_], _ => rfl)
  have L_read_step : Lay K mg "read_step" s_read_step p_read_step := lay_of X G c 37 37 rfl rfl (fun _ _ _ _ _ _ us hl => match us, hl with | [_], _ => rfl)
  have L_read_thing : Lay K mg "read_thing" s_read_thing p_read_thing := lay_of X G c 38 38 rfl rfl (fun _ _ _ _ _ _ us hl => match us, hl with | [_], _ => rfl)
  have L_read_integer : Lay K mg "read_integer" s_read_integer p_read_integer := lay_of X G c 39 39 rfl rfl (fun _ _ _ _ _ _ us hl => match us, hl with | [_], _ => rfl)
  have L_reduced : Lay K mg "reduced" s_reduced p_reduced := lay_of X G c 40 40 rfl rfl (fun _ _ _ _ _ _ us hl => match us, hl with | [_, _], _ => rfl)
  have L_told_widths : Lay K mg "told_widths" s_told_widths p_told_widths := lay_of X G c 41 41 rfl rfl (fun _ _ _ _ _ _ us hl => match us, hl with | [_, _], _ => rfl)
  have L_first_water : Lay K mg "first_water" s_first_water p_first_water := lay_of X G c 42 42 rfl rfl (fun _ _ _ _ _ _ us hl => match us, hl with | [_], _ => rfl)
  have L_sum_of : Lay K mg "sum_of" s_sum_of p_sum_of := lay_of X G c 43 43 rfl rfl (fun _ _ _ _ _ _ us hl => match us, hl with | [_], _ => rfl)
  have L_together : Lay K mg "together" s_together p_together := lay_of X G c 44 44 rfl rfl (fun _ _ _ _ _ _ us hl => match us, hl with | [_, _, _], _ => rfl)
  have L_after : Lay K mg "after" s_after p_after := lay_of X G c 45 45 rfl rfl (fun _ _ _ _ _ _ us hl => match us, hl with | [_, _, _], _ => rfl)
  have L_opened : Lay K mg "opened" s_opened p_opened := lay_of X G c 46 46 rfl rfl (fun _ _ _ _ _ _ us hl => match us, hl with | [_, _, _], _ => rfl)
  have L_poured : Lay K mg "poured" s_poured p_poured := lay_of X G c 47 47 rfl rfl (fun _ _ _ _ _ _ us hl => match us, hl with | [_, _, _], _ => rfl)
  have L_taken : Lay K mg "taken" s_taken p_taken := lay_of X G c 48 48 rfl rfl (fun _ _ _ _ _ _ us hl => match us, hl with | [_, _, _, _], _ => rfl)
  have L_lead : Lay K mg "lead" s_lead p_lead := lay_of X G c 49 49 rfl rfl (fun _ _ _ _ _ _ us hl => match us, hl with | [_, _, _, _, _], _ => rfl)
  have L_ahead : Lay K mg "ahead" s_ahead p_ahead := lay_of X G c 50 50 rfl rfl (fun _ _ _ _ _ _ us hl => match us, hl with | [_, _, _], _ => rfl)
  have L_levels : Lay K mg "levels" s_levels p_levels := lay_of X G c 51 51 rfl rfl (fun _ _ _ _ _ _ us hl => match us, hl with | [_, _, _], _ => rfl)
  have L_number_of : Lay K mg "number_of" s_number_of p_number_of := lay_of X G c 52 52 rfl rfl (fun _ _ _ _ _ _ us hl => match us, hl with | [_], _ => rfl)
  have L_is_ended : Lay K mg "is_ended" s_is_ended p_is_ended := lay_of X G c 53 53 rfl rfl (fun _ _ _ _ _ _ us hl => match us, hl with | [_, _, _], _ => rfl)
  have L_told_levels : Lay K mg "told_levels" s_told_levels p_told_levels := lay_of X G c 54 54 rfl rfl (fun _ _ _ _ _ _ us hl => match us, hl with | [_, _, _], _ => rfl)
  have L_run_of : Lay K mg "run_of" s_run_of p_run_of := lay_of X G c 55 55 rfl rfl (fun _ _ _ _ _ _ us hl => match us, hl with | [_, _, _], _ => rfl)
  have L_run : Lay K mg "run" s_run p_run := lay_of X G c 56 56 rfl rfl (fun _ _ _ _ _ _ us hl => match us, hl with | [_, _], _ => rfl)
  have L_l_purse : Lay K mg "_law_purse" s_l_purse p_l_purse := lay_of X G c 57 57 rfl rfl (fun _ _ _ _ _ _ us hl => match us, hl with | [_, _], _ => rfl)
  have L_l_coin : Lay K mg "_law_coin" s_l_coin p_l_coin := lay_of X G c 58 58 rfl rfl (fun _ _ _ _ _ _ us hl => match us, hl with | [_, _], _ => rfl)
  have L_l_shared : Lay K mg "_law_shared" s_l_shared p_l_shared := lay_of X G c 59 59 rfl rfl (fun _ _ _ _ _ _ us hl => match us, hl with | [_, _], _ => rfl)
  have L_l_ratio : Lay K mg "_law_ratio" s_l_ratio p_l_ratio := lay_of X G c 60 60 rfl rfl (fun _ _ _ _ _ _ us hl => match us, hl with | [_, _], _ => rfl)
  have L_l_drawn_part : Lay K mg "_law_drawn_part" s_l_drawn_part p_l_drawn_part := lay_of X G c 61 61 rfl rfl (fun _ _ _ _ _ _ us hl => match us, hl with | [_, _], _ => rfl)
  have L_l_drawn_tanks : Lay K mg "_law_drawn_tanks" s_l_drawn_tanks p_l_drawn_tanks := lay_of X G c 62 62 rfl rfl (fun _ _ _ _ _ _ us hl => match us, hl with | [_, _, _], _ => rfl)
  have L_l_pair : Lay K mg "_law_pair" s_l_pair p_l_pair := lay_of X G c 63 63 rfl rfl (fun _ _ _ _ _ _ us hl => match us, hl with | [_, _], _ => rfl)
  have L_l_drawn_step : Lay K mg "_law_drawn_step" s_l_drawn_step p_l_drawn_step := lay_of X G c 64 64 rfl rfl (fun _ _ _ _ _ _ us hl => match us, hl with | [_, _, _, _], _ => rfl)
  have L_l_drawn_plan : Lay K mg "_law_drawn_plan" s_l_drawn_plan p_l_drawn_plan := lay_of X G c 65 65 rfl rfl (fun _ _ _ _ _ _ us hl => match us, hl with | [_], _ => rfl)
  have L_l_great_plan : Lay K mg "_law_great_plan" s_l_great_plan p_l_great_plan := lay_of X G c 66 66 rfl rfl (fun _ _ _ _ _ _ us hl => match us, hl with | [_], _ => rfl)
  have L_l_copied : Lay K mg "_law_copied" s_l_copied p_l_copied := lay_of X G c 67 67 rfl rfl (fun _ _ _ _ _ _ us hl => match us, hl with | [_], _ => rfl)
  have L_l_made : Lay K mg "_law_made" s_l_made p_l_made := lay_of X G c 68 68 rfl rfl (fun _ _ _ _ _ _ us hl => match us, hl with | [_], _ => rfl)
  have L_l_step_text : Lay K mg "_law_step_text" s_l_step_text p_l_step_text := lay_of X G c 69 69 rfl rfl (fun _ _ _ _ _ _ us hl => match us, hl with | [_], _ => rfl)
  have L_l_script_text : Lay K mg "_law_script_text" s_l_script_text p_l_script_text := lay_of X G c 70 70 rfl rfl (fun _ _ _ _ _ _ us hl => match us, hl with | [_], _ => rfl)
  have L_l_drawn_width : Lay K mg "_law_drawn_width" s_l_drawn_width p_l_drawn_width := lay_of X G c 71 71 rfl rfl (fun _ _ _ _ _ _ us hl => match us, hl with | [_], _ => rfl)
  have L_l_polynomials_right : Lay K mg "_law_polynomials_right" s_l_polynomials_right p_l_polynomials_right := lay_of X G c 72 72 rfl rfl (fun _ _ _ _ _ _ us hl => match us, hl with | [_], _ => rfl)
  have L_l_right : Lay K mg "_law_right" s_l_right p_l_right := lay_of X G c 73 73 rfl rfl (fun _ _ _ _ _ _ us hl => match us, hl with | [_], _ => rfl)
  obtain ⟨fd_TE_init, F_TE_init, b_TE_init⟩ : LayM K "__init__" "TankError.__init__" s_TE_init _ p_TE_init := laym_of c 75 rfl (fun _ _ _ _ _ _ us hl => match us, hl with | [_, _], _ => rfl)
  obtain ⟨fd_Sc_init, F_Sc_init, b_Sc_init⟩ : LayM K "__init__" "Script.__init__" s_Sc_init _ p_Sc_init := laym_of c 76 rfl (fun _ _ _ _ _ _ us hl => match us, hl with | [_, _, _], _ => rfl)
  obtain ⟨fd_Sc_tanks, F_Sc_tanks, b_Sc_tanks⟩ : LayM K "tanks" "Script.tanks" s_Sc_tanks _ p_Sc_tanks := laym_of c 77 rfl (fun _ _ _ _ _ _ us hl => match us, hl with | [_], _ => rfl)
  obtain ⟨fd_Sc_steps, F_Sc_steps, b_Sc_steps⟩ : LayM K "steps" "Script.steps" s_Sc_steps _ p_Sc_steps := laym_of c 78 rfl (fun _ _ _ _ _ _ us hl => match us, hl with | [_], _ => rfl)
  obtain ⟨fd_Sc_without, F_Sc_without, b_Sc_without⟩ : LayM K "without" "Script.without" s_Sc_without _ p_Sc_without := laym_of c 80 rfl (fun _ _ _ _ _ _ us hl => match us, hl with | [_, _], _ => rfl)
  obtain ⟨fd_Sc_unknown, F_Sc_unknown, b_Sc_unknown⟩ : LayM K "unknown" "Script.unknown" s_Sc_unknown _ p_Sc_unknown := laym_of c 79 rfl (fun _ _ _ _ _ _ us hl => match us, hl with | [_], _ => rfl)
  obtain ⟨fd_Sc_len, F_Sc_len, b_Sc_len⟩ : LayM K "__len__" "Script.__len__" s_Sc_len _ p_Sc_len := laym_of c 81 rfl (fun _ _ _ _ _ _ us hl => match us, hl with | [_], _ => rfl)
  obtain ⟨fd_Sc_eq, F_Sc_eq, b_Sc_eq⟩ : LayM K "__eq__" "Script.__eq__" s_Sc_eq _ p_Sc_eq := laym_of c 82 rfl (fun _ _ _ _ _ _ us hl => match us, hl with | [_, _], _ => rfl)
  have cs : ScC K (He.ga K "Script") _ _ _ _ _ := ⟨(He.cls_ok (Lk.fact c 80 (f := bCls "Script") rfl)), (He.noat_ok (Lk.fact c 90 (f := bNo "Script" "_tanks") rfl)), (He.noat_ok (Lk.fact c 89 (f := bNo "Script" "_steps") rfl)), (He.mkr_ok (Lk.fact c 81 (f := bMk "Script") rfl)), (prop_ok (Lk.fact c 82 (f := bProp "Script" "tanks") rfl)), (prop_ok (Lk.fact c 83 (f := bProp "Script" "steps") rfl))⟩
  have hgS : mg "Script" = some (.ref (He.ga K "Script")) := (He.glo_ok X G (Lk.fact c 79 (f := bGlo "Script") rfl))
  obtain ⟨fdw, Fw⟩ := Lk.df c 74 rfl
  have efa := hfa.symm.trans (He.glo_ok X G (Lk.fact c 74 (f := bGlo "law") rfl))
  cases efa
  have main : ∀ base : Heap, K.In base → base.Ns mainGlobals mg → FnG P w K mg base 12 (He.ga K "law") fdw p_law (spLaw K) := fun base _ _ => by
    have cut : Cal P w K mg base 1 "cut" p_cut (spTrim K) := L_cut.cal fun f fd F => ok_cut F z_len
    have isint : Cal P w K mg base 1 "is_integer" p_is_integer spInt := L_is_integer.cal fun f fd F => ok_is_integer F t3
    have isfr : Cal P w K mg base 2 "is_fraction" p_is_fraction spIsFr := L_is_fraction.cal fun f fd F => ok_is_fraction F t3 isint
    have content : Cal P w K mg base 1 "content" p_content (spCont K) := L_content.cal fun f fd F => ok_content F z_gcd
    have prim_ : Cal P w K mg base 2 "primitive" p_primitive spPrim := L_primitive.cal fun f fd F => ok_primitive F content
    have rem : Cal P w K mg base 3 "remainder" p_remainder spRemW := L_remainder.cal fun f fd F => ok_remainder F t7 cut prim_
    have addW : Cal P w K mg base 2 "added" p_added (spTwoW (fun _ _ => True) fun xs ys => trm (padd xs ys)) := L_added.cal fun f fd F => ok_addedW F t2 cut
    have mulC : Cal P w K mg base 1 "multiplied" p_multiplied spMc := L_multiplied.cal fun f fd F => (ok_multipliedW F t2).imp mc_of
    have addC : Cal P w K mg base 2 "added" p_added spAc := L_added.cal fun f fd F => (ok_addedW F t2 cut).imp ac_of
    have upr : Cal P w K mg base 3 "upright" p_upright spUp1 := L_upright.cal fun f fd F => ok_upright1 F prim_
    have comm : Cal P w K mg base 4 "common_factor" p_common_factor spCf1 := L_common_factor.cal fun f fd F => ok_common1 F rem upr
    have quo : Cal P w K mg base 1 "quotient" p_quotient spQ1 := L_quotient.cal fun f fd F => ok_quotient1 F t2 z_list
    have red : Cal P w K mg base 5 "reduced" p_reduced spRed1 := L_reduced.cal fun f fd F => ok_reduced1 F z_gcd comm quo content
    have cp0 : Cal P w K mg base 1 "copied" p_copied (spCp 0) := L_copied.cal fun f fd F => ok_copied0 F t5
    have cp1 : Cal P w K mg base 2 "copied" p_copied (spCp 1) := L_copied.cal fun f fd F => ok_copiedS F t5 cp0
    have cp2 : Cal P w K mg base 3 "copied" p_copied (spCp 2) := L_copied.cal fun f fd F => ok_copiedS F t5 cp1
    have amt : Cal P w K mg base 2 "is_amount" p_is_amount spAmt := L_is_amount.cal fun f fd F => ok_is_amount F isint
    have tank : Cal P w K mg base 3 "is_tank" p_is_tank spTank := L_is_tank.cal fun f fd F => ok_is_tank F t3 isint amt
    have chkT : Cal P w K mg base 4 "check_tanks" p_check_tanks spChkT := L_check_tanks.cal fun f fd F => ok_check_tanks F z_len tank
    have asc : Cal P w K mg base 2 "is_ascending" p_is_ascending spAsc := L_is_ascending.cal fun f fd F => ok_is_ascending F t3 z_range isint
    have isstep : Cal P w K mg base 3 "is_step" p_is_step spStep := L_is_step.cal fun f fd F => ok_is_step F t3 z_str th asc amt
    have sgn_ : Cal P w K mg base 1 "sign_of" p_sign_of spSgn := L_sign_of.cal fun f fd F => ok_sign_of F
    have ord_ : Cal P w K mg base 2 "order_of_fractions" p_order_of_fractions spOrd := L_order_of_fractions.cal fun f fd F => ok_order F sgn_
    have tof : ∀ n, Cal P w K mg base 1 "tanks_of" p_tanks_of (spTof n) := fun n => L_tanks_of.cal fun f fd F => ok_tanks_of F
    have nums : Cal P w K mg base 3 "check_numbers" p_check_numbers spNums := L_check_numbers.cal fun f fd F => ok_check_numbers F amt
    have chkP : Cal P w K mg base 3 "check_part" p_check_part spPart := L_check_part.cal fun f fd F => ok_check_part F isfr ord_
    have chkS : Cal P w K mg base 4 "check_step" p_check_step spChkS := L_check_step.cal fun f fd F => ok_check_step F isstep tof nums chkP
    have told : Cal P w K mg base 1 "told_widths" p_told_widths spTold := L_told_widths.cal fun f fd F => ok_told_widths F
    have sum : Cal P w K mg base 3 "sum_of" p_sum_of spSum := L_sum_of.cal fun f fd F => ok_sum_of F addW
    have tog : Cal P w K mg base 4 "together" p_together spTog := L_together.cal fun f fd F => ok_together F sum
    have opened : Cal P w K mg base 5 "opened" p_opened spOpen := L_opened.cal fun f fd F => ok_opened F t2 tog mulC
    have poured : Cal P w K mg base 3 "poured" p_poured spPour := L_poured.cal fun f fd F => ok_poured F t2 cut mulC addC
    have taken : Cal P w K mg base 3 "taken" p_taken spTake := L_taken.cal fun f fd F => ok_taken F cut mulC addC
    have after_ : Cal P w K mg base 6 "after" p_after spAfter := L_after.cal fun f fd F => ok_after F opened poured taken
    have levels_ : Cal P w K mg base 6 "levels" p_levels spLev := L_levels.cal fun f fd F => ok_levels F t2 mulC red
    have numof : Cal P w K mg base 1 "number_of" p_number_of spNum := L_number_of.cal fun f fd F => ok_number_of F
    have tl : Cal P w K mg base 7 "told_levels" p_told_levels spTL := L_told_levels.cal fun f fd F => ok_told_levels F numof levels_
    have chkW : Cal P w K mg base 3 "check_width" p_check_width spCw := L_check_width.cal fun f fd F => ok_check_width F isfr
    have neg1 : Cal P w K mg base 1 "negated" p_negated spNeg1 := L_negated.cal fun f fd F => ok_neg1 F
    have sc1 : Cal P w K mg base 1 "scaled_value" p_scaled_value spSc1 := L_scaled_value.cal fun f fd F => ok_sc1 F t2
    have sg1 : Cal P w K mg base 2 "sign_at_fraction" p_sign_at_fraction spSg1 := L_sign_at_fraction.cal fun f fd F => ok_sg1 F sgn_ sc1
    have lead_ : Cal P w K mg base 6 "lead" p_lead spLead := L_lead.cal fun f fd F => ok_lead F addC mulC neg1 red
    have ahead_ : Cal P w K mg base 7 "ahead" p_ahead spAhead := L_ahead.cal fun f fd F => ok_ahead F lead_
    have ended : Cal P w K mg base 8 "is_ended" p_is_ended spEnd := L_is_ended.cal fun f fd F => ok_is_ended F sg1 ahead_
    have cp3 : Cal P w K mg base 4 "copied" p_copied (spCp 3) := L_copied.cal fun f fd F => ok_copiedS F t5 cp2
    have first : Cal P w K mg base 2 "first_water" p_first_water spFirst := L_first_water.cal fun f fd F => ok_first_water F cut
    have si := ok_Sc_init (P := P) (w := w) (mg := mg) (base := base) F_Sc_init z_len cs cp2 cp3 chkT chkS
    have st := ok_Sc_tanks (P := P) (w := w) (mg := mg) (base := base) F_Sc_tanks cs cp2
    have ss := ok_Sc_steps (P := P) (w := w) (mg := mg) (base := base) F_Sc_steps cs cp3
    have runof : Cal P w K mg base 9 "run_of" p_run_of spRunOf := L_run_of.cal fun f fd F => ok_run_of F t2 told first after_ ended tl
    have okrun : ∀ f fd, Fun K "run" "run" s_run f fd → FnOk P w K mg base CX0 10 f fd p_run (spRun (He.ga K "Script")) := fun f fd F => ok_run F cs st b_Sc_tanks ss b_Sc_steps chkW runof
    have run_ : Cal P w K mg base 10 "run" p_run (spRun (He.ga K "Script")) := L_run.cal fun f fd F => okrun f fd F
    have chkI : Cal P w K mg base 3 "check_index" p_check_index spCi := L_check_index.cal fun f fd F => ok_check_index F amt
    have sw := ok_Sc_withoutN (P := P) (w := w) (mg := mg) (base := base) F_Sc_without z_len hgS cs si b_Sc_init chkI
    have su := ok_Sc_unknown (P := P) (w := w) (mg := mg) (base := base) F_Sc_unknown cs
    have sl := ok_Sc_len (P := P) (w := w) (mg := mg) (base := base) F_Sc_len z_len cs
    have sq := ok_Sc_eq (P := P) (w := w) (mg := mg) (base := base) F_Sc_eq cs z_isinstance hgS (fun {H a dx fs} e => ty_ok (Lk.fact c 75 (f := bEG) rfl) (Lk.fact c 88 (f := bTy "Script") rfl) cs.cls e)
    have eqc := eqc_ok (Lk.fact c 112 (f := bNe "Script") rfl) (Lk.fact c 87 (f := bMeth "Script" "__eq__") rfl)
    have ec_Unreadable : EC K (He.ga K "Unreadable") (eI K) := err_ok (Lk.fact c 78 (f := bErr "Unreadable") rfl)
    have gl_Unreadable : mg "Unreadable" = some (.ref (He.ga K "Unreadable")) := (He.glo_ok X G (Lk.fact c 77 (f := bGlo "Unreadable") rfl))
    have gl_TankError : mg "TankError" = some (.ref (He.ga K "TankError")) := (He.glo_ok X G (Lk.fact c 76 (f := bGlo "TankError") rfl))
    have eg : EG K (eI K) := eg_ok (Lk.fact c 75 (f := bEG) rfl)
    have ti := ok_TE_init (P := P) (w := w) (mg := mg) (base := base) F_TE_init
    have shI : Cal P w K mg base 1 "show_integer" p_show_integer spShI := L_show_integer.cal fun f fd F => ok_show_integer F z_abs z_str
    have shT : Cal P w K mg base 2 "show_tank" p_show_tank spShT := L_show_tank.cal fun f fd F => ok_show_tank F shI
    have shTh : Cal P w K mg base 2 "show_thing" p_show_thing spShTh := L_show_thing.cal fun f fd F => ok_show_thing F z_isinstance z_str z_list z_tuple shI
    have ok_shS : ∀ f fd, Fun K "show_script" "show_script" s_show_script f fd → FnOk P w K mg base CX0 7 f fd p_show_script (spShSc (He.ga K "Script")) := fun f fd F => ok_show_script F cs st b_Sc_tanks ss b_Sc_steps shT shTh
    have shS : Cal P w K mg base 7 "show_script" p_show_script (spShSc (He.ga K "Script")) := L_show_script.cal fun f fd F => ok_shS f fd F
    have shSk : CalK P w K mg base 7 "show_script" p_show_script ["plan"] (fun zs => zs) (spShSc (He.ga K "Script")) := by
      obtain ⟨f, fd, F, m, kp, b⟩ := L_show_script
      refine ⟨f, fd, fun _ ws => ws, ok_shS f fd F, m, kp, ?_⟩
      obtain ⟨ow, oe, kw, dc, pn, am, cdv, cu, sl, rfl, lk, hcd⟩ := F.ex
      exact ⟨fun s us ws X h1 h2 => match us, ws, h1, h2 with | [], [_], _, _ => .of_eq rfl, fun r1 r2 => r2⟩
    have ok_shP : ∀ f fd, Fun K "show_polynomial" "show_polynomial" s_show_polynomial f fd → FnOk P w K mg base CX0 2 f fd p_show_polynomial (spShP K) := fun f fd F => ok_show_polynomial F shI
    have shP : Cal P w K mg base 2 "show_polynomial" p_show_polynomial (spShP K) := L_show_polynomial.cal fun f fd F => ok_shP f fd F
    have shPk : CalK P w K mg base 2 "show_polynomial" p_show_polynomial ["one"] (fun zs => zs) (spShP K) := by
      obtain ⟨f, fd, F, m, kp, b⟩ := L_show_polynomial
      refine ⟨f, fd, fun _ ws => ws, ok_shP f fd F, m, kp, ?_⟩
      obtain ⟨ow, oe, kw, dc, pn, am, cdv, cu, sl, rfl, lk, hcd⟩ := F.ex
      exact ⟨fun s us ws X h1 h2 => match us, ws, h1, h2 with | [], [_], _, _ => .of_eq rfl, fun r1 r2 => r2⟩
    have rdI : CalX P w K mg base 3 "read_integer" p_read_integer (spRdI (He.ga K "Unreadable")) := L_read_integer.calX fun f fd F => ok_read_integer F z_len z_all z_int ec_Unreadable eg gl_Unreadable ti b_TE_init
    have rdJ : Cal P w K mg base 3 "read_integer" p_read_integer spRdJ := cal_imp (calm_cal rdI) (fun _ _ _ _ h => rdJ_of h)
    have rdTh : Cal P w K mg base 4 "read_thing" p_read_thing spRdTh := L_read_thing.cal fun f fd F => ok_read_thing F z_tuple rdJ
    have rdTk : Cal P w K mg base 4 "read_tank" p_read_tank spRdTk := L_read_tank.cal fun f fd F => ok_read_tank F z_len rdJ
    have rdSt : Cal P w K mg base 5 "read_step" p_read_step spRdSt := L_read_step.cal fun f fd F => ok_read_step F z_tuple rdTh
    have ok_rdS : ∀ f fd, Fun K "read_script" "read_script" s_read_script f fd → FnOk P w K mg base CX0 7 f fd p_read_script (spRdSc (He.ga K "Script")) := fun f fd F => ok_read_script F gl_TankError hgS cs si b_Sc_init rdTk rdSt
    have rdS : Cal P w K mg base 7 "read_script" p_read_script (spRdSc (He.ga K "Script")) := L_read_script.cal fun f fd F => ok_rdS f fd F
    have rdSk : CalK P w K mg base 7 "read_script" p_read_script ["text"] (fun zs => zs) (spRdSc (He.ga K "Script")) := by
      obtain ⟨f, fd, F, m, kp, b⟩ := L_read_script
      refine ⟨f, fd, fun _ ws => ws, ok_rdS f fd F, m, kp, ?_⟩
      obtain ⟨ow, oe, kw, dc, pn, am, cdv, cu, sl, rfl, lk, hcd⟩ := F.ex
      exact ⟨fun s us ws X h1 h2 => match us, ws, h1, h2 with | [], [_], _, _ => .of_eq rfl, fun r1 r2 => r2⟩
    have isP : Cal P w K mg base 2 "is_polynomial" p_is_polynomial spPol := L_is_polynomial.cal fun f fd F => ok_is_polynomial F t3 isint
    have ok_rdP : ∀ f fd, Fun K "read_polynomial" "read_polynomial" s_read_polynomial f fd → FnOk P w K mg base CX0 4 f fd p_read_polynomial spRdP := fun f fd F => ok_read_polynomial F gl_TankError rdJ isP
    have rdP : Cal P w K mg base 4 "read_polynomial" p_read_polynomial spRdP := L_read_polynomial.cal fun f fd F => ok_rdP f fd F
    have rdPk : CalK P w K mg base 4 "read_polynomial" p_read_polynomial ["text"] (fun zs => zs) spRdP := by
      obtain ⟨f, fd, F, m, kp, b⟩ := L_read_polynomial
      refine ⟨f, fd, fun _ ws => ws, ok_rdP f fd F, m, kp, ?_⟩
      obtain ⟨ow, oe, kw, dc, pn, am, cdv, cu, sl, rfl, lk, hcd⟩ := F.ex
      exact ⟨fun s us ws X h1 h2 => match us, ws, h1, h2 with | [], [_], _, _ => .of_eq rfl, fun r1 r2 => r2⟩
    have l_coin : Cal P w K mg base 1 "_law_coin" p_l_coin spCoin := L_l_coin.cal fun f fd F => ok_coinL F t0
    have l_purse : Cal P w K mg base 1 "_law_purse" p_l_purse (spSack K) := L_l_purse.cal fun f fd F => ok_purse F t0
    have l_shared : Cal P w K mg base 1 "_law_shared" p_l_shared spSh4 := L_l_shared.cal fun f fd F => ok_shared4 F t0 z_range
    have l_ratio : Cal P w K mg base 2 "_law_ratio" p_l_ratio spRa4 := L_l_ratio.cal fun f fd F => ok_ratio4 F t0 l_shared
    have l_part : Cal P w K mg base 3 "_law_drawn_part" p_l_drawn_part spPt4 := L_l_drawn_part.cal fun f fd F => ok_part4 F l_coin l_ratio
    have l_pair : Cal P w K mg base 2 "_law_pair" p_l_pair spTwo2 := L_l_pair.cal fun f fd F => ok_pair4 F t0 l_coin
    have l_tanks : Cal P w K mg base 2 "_law_drawn_tanks" p_l_drawn_tanks spVats := L_l_drawn_tanks.cal fun f fd F => ok_tanks4 F z_range l_coin
    have l_step : Cal P w K mg base 4 "_law_drawn_step" p_l_drawn_step spDeed4 := L_l_drawn_step.cal fun f fd F => ok_step4 F z_range z_len z_int z_sorted l_coin l_part l_pair
    have l_plan : Cal P w K mg base 5 "_law_drawn_plan" p_l_drawn_plan spShape4 := L_l_drawn_plan.cal fun f fd F => ok_plan4 F z_range z_len z_int l_coin l_tanks l_step
    have l_great : Cal P w K mg base 5 "_law_great_plan" p_l_great_plan spShape4 := L_l_great_plan.cal fun f fd F => ok_great4 F z_range l_coin l_tanks l_step
    have l_width : Cal P w K mg base 3 "_law_drawn_width" p_l_drawn_width (spWid 90000 4) := L_l_drawn_width.cal fun f fd F => ok_width4 F l_coin l_ratio
    have lc0 : Cal P w K mg base 1 "_law_copied" p_l_copied (spCp 0) := L_l_copied.cal fun f fd F => ok_lcop0 F t5
    have lc1 : Cal P w K mg base 2 "_law_copied" p_l_copied (spCp 1) := L_l_copied.cal fun f fd F => ok_lcopS F t5 lc0
    have lc2 : Cal P w K mg base 3 "_law_copied" p_l_copied (spCp 2) := L_l_copied.cal fun f fd F => ok_lcopS F t5 lc1
    have lc3 : Cal P w K mg base 4 "_law_copied" p_l_copied (spCp 3) := L_l_copied.cal fun f fd F => ok_lcopS F t5 lc2
    have l_made : Cal P w K mg base 7 "_law_made" p_l_made (spScr (He.ga K "Script")) := L_l_made.cal fun f fd F => ok_made4 F hgS cs si b_Sc_init lc2 lc3
    have l_stT : Cal P w K mg base 1 "_law_step_text" p_l_step_text spStT := L_l_step_text.cal fun f fd F => ok_l_step_text F z_isinstance z_str z_list z_tuple
    have l_scT : Cal P w K mg base 2 "_law_script_text" p_l_script_text spScT := L_l_script_text.cal fun f fd F => ok_l_script_text F z_str l_stT
    have l_pol : Cal P w K mg base 5 "_law_polynomials_right" p_l_polynomials_right spPrR := L_l_polynomials_right.cal fun f fd F => ok_l_polynomials_right F z_range z_str l_coin shP shPk rdP rdPk
    have l_right : Cal P w K mg base 11 "_law_right" p_l_right spRight53 := L_l_right.cal fun f fd F => ok_l_right53 F z_len z_range z_min cs st b_Sc_tanks ss b_Sc_steps (prop_ok (Lk.fact c 84 (f := bProp "Script" "unknown") rfl)) su b_Sc_unknown (He.meth_ok (Lk.fact c 86 (f := bMeth "Script" "__len__") rfl)) sl b_Sc_len eqc sq b_Sc_eq (He.meth_ok (Lk.fact c 85 (f := bMeth "Script" "without") rfl)) sw b_Sc_without l_coin l_great l_plan l_made l_scT shS shSk rdS rdSk l_pol l_width run_
    exact FnOk.toG (ok_law53 Fw ⟨z_range, z_len, z_max, z_min⟩ l_purse l_right)
  obtain ⟨ow, oe, kw, dc, pn, am, cdv, cu, sl, rfl, lk, hcd⟩ := Fw.ex
  exact ⟨_, fun s v => .of_eq rfl, main⟩
end V2


open PySem PySem.W PySem.Calls PyProof.Rows in
set_option maxRecDepth 99000 in
set_option maxHeartbeats 0 in
theorem PySem.Challenge.cw_valvelevels_k53_texts_both_ways_holds : PySem.Challenge.rw_valvelevels_k53_texts_both_ways.Holds := by
  w_on
  o_law
  refine HandSHeadRun.head_imp (r := PySem.W.OpenLaw.row PySem.Challenge.rw_valvelevels_k53_texts_both_ways) (q := V2.vwK) (H := V2.lk.hook 900) (ob := fun s => V2.lk.off 900 (HandSHeadRun.getT s)) (M := 12000) (loose := V2.nms) (d := HandSHeadRun.topDef (PySem.W.OpenLaw.row PySem.Challenge.rw_valvelevels_k53_texts_both_ways).prog 96) (kwd := [])
    (fun s => V2.Lk.off_eq (HandSHeadRun.getT_eq s)) V2.runK (by kernel_rfl) (by kernel_rfl) (by kernel_rfl) (by rfl) (by first | assumption | decide +kernel) (by decide +kernel) ⟨rfl, rfl, rfl, rfl, rfl, by decide +kernel⟩ ?hw ?hc
  case hw => w_witness2
  case hc =>
    refine V2.walk_GE (l := PySem.Challenge.rw_valvelevels_k53_texts_both_ways) (n := 63) (k := 12) (x := "script") rfl (by decide) (by kernel_rfl) ⟨rfl, by decide, by decide⟩ ?F
    intro w mg fa h Y G hmg0
    obtain ⟨K, KX, c⟩ := Y
    have hmg : mg ("law" : PySem.Str) = some (.ref fa) := by
      have e : (HandSHeadRun.topDef (PySem.W.OpenLaw.row PySem.Challenge.rw_valvelevels_k53_texts_both_ways).prog 96).name = ("law" : PySem.Str) := by kernel_rfl
      rw [← e]
      exact hmg0
    obtain ⟨fd, hb, hF⟩ := V2.whole (P := (PySem.Challenge.rw_valvelevels_k53_texts_both_ways).prog) (w := w) KX G hmg c
    exact ⟨K, fd, V2.spLaw K, KX, hb, fun H a ns hl _ hS => ⟨a, ns, rfl, hS, hl, fun _ => rfl⟩, hF⟩


