import PyProof.Rows.All
import Wide.All
import OpenK.AllK
import Wide.FinOn
import HandS.ForMost
import HandS.ForExc
import HandS.Wide
import HandS.Gcd
import HandS.IsInst
import HandS.Defaults
import HandS.Flow
import HandS.EndBits
import HandS.Property
import HandS.Walk
import HandS.Style
import PySem.Challenge.RW_valvelevels_k48_steps_taken_back
import HandS.Evl
import HandS.Steps
import PyProof.ReprRoads
import HandS.Head0
import HandS.Head1
import HandS.Head2
import HandS.Head3
import HandS.HeadHook1
import HandS.HeadHook2
import HandS.More
import HandS.Star
import KE.KExcIs
import HandS.TryOnly
import HandS.ExcInit
import HandS.ExcField
import HandS.ExcOwn
import HandS.ExcIs
import HandS.Exc
import HandS.WordsExc
import HandS.Iter
import HandS.Dict
import HandS.Deep
import HandS.MakeKwOnly
import HandS.OwnEq
import HandS.HotCalls
import HandS.Lambda
import PyProof.Rows.Digits
import PyProof.StrReplace2
set_option Elab.async false
set_option linter.all false
set_option maxRecDepth 100000
set_option maxHeartbeats 20000000
set_option exponentiation.threshold 100000
namespace V2
open PySem L2
/-! the text by its places -/
def topS (i : Nat) : Stmt := PySem.Challenge.pw_valvelevels_k48_steps_taken_back.main.body.getD i (.Pass ⟨0, 0, 0, 0⟩)
/-- a def in a class's body -/
def inClass (st : Stmt) (i : Nat) : Stmt := match st with
  | .ClassDef _ _ _ body _ _ _ _ _ _ _ => body.getD i (.Pass ⟨0, 0, 0, 0⟩)
  | _ => .Pass ⟨0, 0, 0, 0⟩

abbrev s__wall : Stmt := topS 1
abbrev n__wall : List Str := ["k"]
abbrev p__wall : List Str := ["k"]
theorem sc__wall : FnScope n__wall p__wall (defScope s__wall) := ⟨rfl, rfl, rfl, by decide +kernel, rfl, by decide +kernel, by decide +kernel⟩
abbrev s_order_of_fractions : Stmt := topS 3
abbrev n_order_of_fractions : List Str := ["one", "other"]
abbrev p_order_of_fractions : List Str := ["one", "other"]
theorem sc_order_of_fractions : FnScope n_order_of_fractions p_order_of_fractions (defScope s_order_of_fractions) := ⟨rfl, rfl, rfl, by decide +kernel, rfl, by decide +kernel, by decide +kernel⟩
abbrev s_sign_of : Stmt := topS 4
abbrev n_sign_of : List Str := ["number"]
abbrev p_sign_of : List Str := ["number"]
theorem sc_sign_of : FnScope n_sign_of p_sign_of (defScope s_sign_of) := ⟨rfl, rfl, rfl, by decide +kernel, rfl, by decide +kernel, by decide +kernel⟩
abbrev s_cut : Stmt := topS 5
abbrev n_cut : List Str := ["numbers", "many"]
abbrev p_cut : List Str := ["numbers"]
theorem sc_cut : FnScope n_cut p_cut (defScope s_cut) := ⟨rfl, rfl, rfl, by decide +kernel, rfl, by decide +kernel, by decide +kernel⟩
abbrev s_negated : Stmt := topS 6
abbrev n_negated : List Str := ["one", "number"]
abbrev p_negated : List Str := ["one"]
theorem sc_negated : FnScope n_negated p_negated (defScope s_negated) := ⟨rfl, rfl, rfl, by decide +kernel, rfl, by decide +kernel, by decide +kernel⟩
abbrev s_added : Stmt := topS 7
abbrev n_added : List Str := ["one", "other", "many", "mine", "yours", "k"]
abbrev p_added : List Str := ["one", "other"]
theorem sc_added : FnScope n_added p_added (defScope s_added) := ⟨rfl, rfl, rfl, by decide +kernel, rfl, by decide +kernel, by decide +kernel⟩
abbrev s_multiplied : Stmt := topS 8
abbrev n_multiplied : List Str := ["one", "other", "numbers", "k", "number", "j", "factor"]
abbrev p_multiplied : List Str := ["one", "other"]
theorem sc_multiplied : FnScope n_multiplied p_multiplied (defScope s_multiplied) := ⟨rfl, rfl, rfl, by decide +kernel, rfl, by decide +kernel, by decide +kernel⟩
abbrev s_scaled_value : Stmt := topS 9
abbrev n_scaled_value : List Str := ["one", "spot", "above", "below", "total", "power", "k", "number"]
abbrev p_scaled_value : List Str := ["one", "spot"]
theorem sc_scaled_value : FnScope n_scaled_value p_scaled_value (defScope s_scaled_value) := ⟨rfl, rfl, rfl, by decide +kernel, rfl, by decide +kernel, by decide +kernel⟩
abbrev s_sign_at_fraction : Stmt := topS 10
abbrev n_sign_at_fraction : List Str := ["one", "spot"]
abbrev p_sign_at_fraction : List Str := ["one", "spot"]
theorem sc_sign_at_fraction : FnScope n_sign_at_fraction p_sign_at_fraction (defScope s_sign_at_fraction) := ⟨rfl, rfl, rfl, by decide +kernel, rfl, by decide +kernel, by decide +kernel⟩
abbrev s_content : Stmt := topS 11
abbrev n_content : List Str := ["one", "factor", "number"]
abbrev p_content : List Str := ["one"]
theorem sc_content : FnScope n_content p_content (defScope s_content) := ⟨rfl, rfl, rfl, by decide +kernel, rfl, by decide +kernel, by decide +kernel⟩
abbrev s_primitive : Stmt := topS 12
abbrev n_primitive : List Str := ["one", "factor", "number"]
abbrev p_primitive : List Str := ["one"]
theorem sc_primitive : FnScope n_primitive p_primitive (defScope s_primitive) := ⟨rfl, rfl, rfl, by decide +kernel, rfl, by decide +kernel, by decide +kernel⟩
abbrev s_upright : Stmt := topS 13
abbrev n_upright : List Str := ["one", "told"]
abbrev p_upright : List Str := ["one"]
theorem sc_upright : FnScope n_upright p_upright (defScope s_upright) := ⟨rfl, rfl, rfl, by decide +kernel, rfl, by decide +kernel, by decide +kernel⟩
abbrev s_remainder : Stmt := topS 14
abbrev n_remainder : List Str := ["one", "other", "left", "lead", "factor", "grow", "take", "behind", "taken", "number", "k"]
abbrev p_remainder : List Str := ["one", "other"]
theorem sc_remainder : FnScope n_remainder p_remainder (defScope s_remainder) := ⟨rfl, rfl, rfl, by decide +kernel, rfl, by decide +kernel, by decide +kernel⟩
abbrev s_quotient : Stmt := topS 15
abbrev n_quotient : List Str := ["one", "other", "left", "many", "found", "at", "k", "number"]
abbrev p_quotient : List Str := ["one", "other"]
theorem sc_quotient : FnScope n_quotient p_quotient (defScope s_quotient) := ⟨rfl, rfl, rfl, by decide +kernel, rfl, by decide +kernel, by decide +kernel⟩
abbrev s_common_factor : Stmt := topS 16
abbrev n_common_factor : List Str := ["one", "other", "last", "this"]
abbrev p_common_factor : List Str := ["one", "other"]
theorem sc_common_factor : FnScope n_common_factor p_common_factor (defScope s_common_factor) := ⟨rfl, rfl, rfl, by decide +kernel, rfl, by decide +kernel, by decide +kernel⟩
abbrev s_TE_init : Stmt := inClass (topS 18) 0
abbrev n_TE_init : List Str := ["self", "value"]
abbrev p_TE_init : List Str := ["self", "value"]
theorem sc_TE_init : FnScope n_TE_init p_TE_init (defScope s_TE_init) := ⟨rfl, rfl, rfl, by decide +kernel, rfl, by decide +kernel, by decide +kernel⟩
abbrev s_copied : Stmt := topS 26
abbrev n_copied : List Str := ["thing", "part"]
abbrev p_copied : List Str := ["thing"]
theorem sc_copied : FnScope n_copied p_copied (defScope s_copied) := ⟨rfl, rfl, rfl, by decide +kernel, rfl, by decide +kernel, by decide +kernel⟩
abbrev s_is_integer : Stmt := topS 27
abbrev n_is_integer : List Str := ["thing"]
abbrev p_is_integer : List Str := ["thing"]
theorem sc_is_integer : FnScope n_is_integer p_is_integer (defScope s_is_integer) := ⟨rfl, rfl, rfl, by decide +kernel, rfl, by decide +kernel, by decide +kernel⟩
abbrev s_is_fraction : Stmt := topS 28
abbrev n_is_fraction : List Str := ["thing", "above", "below"]
abbrev p_is_fraction : List Str := ["thing"]
theorem sc_is_fraction : FnScope n_is_fraction p_is_fraction (defScope s_is_fraction) := ⟨rfl, rfl, rfl, by decide +kernel, rfl, by decide +kernel, by decide +kernel⟩
abbrev s_check_width : Stmt := topS 29
abbrev n_check_width : List Str := ["width"]
abbrev p_check_width : List Str := ["width"]
theorem sc_check_width : FnScope n_check_width p_check_width (defScope s_check_width) := ⟨rfl, rfl, rfl, by decide +kernel, rfl, by decide +kernel, by decide +kernel⟩
abbrev s_reduced : Stmt := topS 31
abbrev n_reduced : List Str := ["top", "bottom", "factor", "above", "below", "number", "part"]
abbrev p_reduced : List Str := ["top", "bottom"]
theorem sc_reduced : FnScope n_reduced p_reduced (defScope s_reduced) := ⟨rfl, rfl, rfl, by decide +kernel, rfl, by decide +kernel, by decide +kernel⟩
abbrev s_told_widths : Stmt := topS 33
abbrev n_told_widths : List Str := ["tanks", "spot", "above", "below", "width", "_"]
abbrev p_told_widths : List Str := ["tanks", "spot"]
theorem sc_told_widths : FnScope n_told_widths p_told_widths (defScope s_told_widths) := ⟨rfl, rfl, rfl, by decide +kernel, rfl, by decide +kernel, by decide +kernel⟩
abbrev s_first_water : Stmt := topS 34
abbrev n_first_water : List Str := ["tanks", "_", "amount"]
abbrev p_first_water : List Str := ["tanks"]
theorem sc_first_water : FnScope n_first_water p_first_water (defScope s_first_water) := ⟨rfl, rfl, rfl, by decide +kernel, rfl, by decide +kernel, by decide +kernel⟩
abbrev s_sum_of : Stmt := topS 35
abbrev n_sum_of : List Str := ["told", "total", "one"]
abbrev p_sum_of : List Str := ["told"]
theorem sc_sum_of : FnScope n_sum_of p_sum_of (defScope s_sum_of) := ⟨rfl, rfl, rfl, by decide +kernel, rfl, by decide +kernel, by decide +kernel⟩
abbrev s_together : Stmt := topS 36
abbrev n_together : List Str := ["tanks", "amounts", "widths", "k"]
abbrev p_together : List Str := ["tanks", "amounts", "widths"]
theorem sc_together : FnScope n_together p_together (defScope s_together) := ⟨rfl, rfl, rfl, by decide +kernel, rfl, by decide +kernel, by decide +kernel⟩
abbrev s_after : Stmt := topS 37
abbrev n_after : List Str := ["step", "water", "widths", "word"]
abbrev p_after : List Str := ["step", "water", "widths"]
theorem sc_after : FnScope n_after p_after (defScope s_after) := ⟨rfl, rfl, rfl, by decide +kernel, rfl, by decide +kernel, by decide +kernel⟩
abbrev s_opened : Stmt := topS 38
abbrev n_opened : List Str := ["tanks", "water", "widths", "amounts", "whole", "total", "width", "found", "k", "one"]
abbrev p_opened : List Str := ["tanks", "water", "widths"]
theorem sc_opened : FnScope n_opened p_opened (defScope s_opened) := ⟨rfl, rfl, rfl, by decide +kernel, rfl, by decide +kernel, by decide +kernel⟩
abbrev s_poured : Stmt := topS 39
abbrev n_poured : List Str := ["tank", "amount", "water", "amounts", "whole", "poured_in", "k", "one"]
abbrev p_poured : List Str := ["tank", "amount", "water"]
theorem sc_poured : FnScope n_poured p_poured (defScope s_poured) := ⟨rfl, rfl, rfl, by decide +kernel, rfl, by decide +kernel, by decide +kernel⟩
abbrev s_taken : Stmt := topS 40
abbrev n_taken : List Str := ["tank", "other", "part", "water", "amounts", "whole", "above", "below", "found", "one"]
abbrev p_taken : List Str := ["tank", "other", "part", "water"]
theorem sc_taken : FnScope n_taken p_taken (defScope s_taken) := ⟨rfl, rfl, rfl, by decide +kernel, rfl, by decide +kernel, by decide +kernel⟩
abbrev s_lead : Stmt := topS 41
abbrev n_lead : List Str := ["amount", "width", "other", "other_width", "whole", "told"]
abbrev p_lead : List Str := ["amount", "width", "other", "other_width", "whole"]
theorem sc_lead : FnScope n_lead p_lead (defScope s_lead) := ⟨rfl, rfl, rfl, by decide +kernel, rfl, by decide +kernel, by decide +kernel⟩
abbrev s_ahead : Stmt := topS 42
abbrev n_ahead : List Str := ["step", "water", "widths", "amounts", "whole", "_", "one", "other"]
abbrev p_ahead : List Str := ["step", "water", "widths"]
theorem sc_ahead : FnScope n_ahead p_ahead (defScope s_ahead) := ⟨rfl, rfl, rfl, by decide +kernel, rfl, by decide +kernel, by decide +kernel⟩
abbrev s_levels : Stmt := topS 43
abbrev n_levels : List Str := ["water", "widths", "scale", "amounts", "whole", "k", "one"]
abbrev p_levels : List Str := ["water", "widths", "scale"]
theorem sc_levels : FnScope n_levels p_levels (defScope s_levels) := ⟨rfl, rfl, rfl, by decide +kernel, rfl, by decide +kernel, by decide +kernel⟩
abbrev s_number_of : Stmt := topS 44
abbrev n_number_of : List Str := ["form", "top", "bottom"]
abbrev p_number_of : List Str := ["form"]
theorem sc_number_of : FnScope n_number_of p_number_of (defScope s_number_of) := ⟨rfl, rfl, rfl, by decide +kernel, rfl, by decide +kernel, by decide +kernel⟩
abbrev s_is_ended : Stmt := topS 45
abbrev n_is_ended : List Str := ["step", "water", "widths"]
abbrev p_is_ended : List Str := ["step", "water", "widths"]
theorem sc_is_ended : FnScope n_is_ended p_is_ended (defScope s_is_ended) := ⟨rfl, rfl, rfl, by decide +kernel, rfl, by decide +kernel, by decide +kernel⟩
abbrev s_told_levels : Stmt := topS 46
abbrev n_told_levels : List Str := ["water", "widths", "spot", "form"]
abbrev p_told_levels : List Str := ["water", "widths", "spot"]
theorem sc_told_levels : FnScope n_told_levels p_told_levels (defScope s_told_levels) := ⟨rfl, rfl, rfl, by decide +kernel, rfl, by decide +kernel, by decide +kernel⟩
abbrev s_all_water : Stmt := topS 47
abbrev n_all_water : List Str := ["water", "amounts", "whole"]
abbrev p_all_water : List Str := ["water"]
theorem sc_all_water : FnScope n_all_water p_all_water (defScope s_all_water) := ⟨rfl, rfl, rfl, by decide +kernel, rfl, by decide +kernel, by decide +kernel⟩
abbrev s_is_amount : Stmt := topS 50
abbrev n_is_amount : List Str := ["thing"]
abbrev p_is_amount : List Str := ["thing"]
theorem sc_is_amount : FnScope n_is_amount p_is_amount (defScope s_is_amount) := ⟨rfl, rfl, rfl, by decide +kernel, rfl, by decide +kernel, by decide +kernel⟩
abbrev s_is_tank : Stmt := topS 51
abbrev n_is_tank : List Str := ["thing", "width", "amount"]
abbrev p_is_tank : List Str := ["thing"]
theorem sc_is_tank : FnScope n_is_tank p_is_tank (defScope s_is_tank) := ⟨rfl, rfl, rfl, by decide +kernel, rfl, by decide +kernel, by decide +kernel⟩
abbrev s_check_tanks : Stmt := topS 52
abbrev n_check_tanks : List Str := ["tanks", "tank"]
abbrev p_check_tanks : List Str := ["tanks"]
theorem sc_check_tanks : FnScope n_check_tanks p_check_tanks (defScope s_check_tanks) := ⟨rfl, rfl, rfl, by decide +kernel, rfl, by decide +kernel, by decide +kernel⟩
abbrev s_is_ascending : Stmt := topS 53
abbrev n_is_ascending : List Str := ["told", "number", "k"]
abbrev p_is_ascending : List Str := ["told"]
theorem sc_is_ascending : FnScope n_is_ascending p_is_ascending (defScope s_is_ascending) := ⟨rfl, rfl, rfl, by decide +kernel, rfl, by decide +kernel, by decide +kernel⟩
abbrev s_is_step : Stmt := topS 54
abbrev n_is_step : List Str := ["thing", "word"]
abbrev p_is_step : List Str := ["thing"]
theorem sc_is_step : FnScope n_is_step p_is_step (defScope s_is_step) := ⟨rfl, rfl, rfl, by decide +kernel, rfl, by decide +kernel, by decide +kernel⟩
abbrev s_tanks_of : Stmt := topS 55
abbrev n_tanks_of : List Str := ["step"]
abbrev p_tanks_of : List Str := ["step"]
theorem sc_tanks_of : FnScope n_tanks_of p_tanks_of (defScope s_tanks_of) := ⟨rfl, rfl, rfl, by decide +kernel, rfl, by decide +kernel, by decide +kernel⟩
abbrev s_check_numbers : Stmt := topS 56
abbrev n_check_numbers : List Str := ["numbers", "many", "number"]
abbrev p_check_numbers : List Str := ["numbers", "many"]
theorem sc_check_numbers : FnScope n_check_numbers p_check_numbers (defScope s_check_numbers) := ⟨rfl, rfl, rfl, by decide +kernel, rfl, by decide +kernel, by decide +kernel⟩
abbrev s_check_part : Stmt := topS 57
abbrev n_check_part : List Str := ["part"]
abbrev p_check_part : List Str := ["part"]
theorem sc_check_part : FnScope n_check_part p_check_part (defScope s_check_part) := ⟨rfl, rfl, rfl, by decide +kernel, rfl, by decide +kernel, by decide +kernel⟩
abbrev s_check_step : Stmt := topS 58
abbrev n_check_step : List Str := ["step", "many"]
abbrev p_check_step : List Str := ["step", "many"]
theorem sc_check_step : FnScope n_check_step p_check_step (defScope s_check_step) := ⟨rfl, rfl, rfl, by decide +kernel, rfl, by decide +kernel, by decide +kernel⟩
abbrev s_check_index : Stmt := topS 59
abbrev n_check_index : List Str := ["index", "many"]
abbrev p_check_index : List Str := ["index", "many"]
theorem sc_check_index : FnScope n_check_index p_check_index (defScope s_check_index) := ⟨rfl, rfl, rfl, by decide +kernel, rfl, by decide +kernel, by decide +kernel⟩
abbrev s_Sc_init : Stmt := inClass (topS 61) 0
abbrev n_Sc_init : List Str := ["self", "tanks", "steps", "step"]
abbrev p_Sc_init : List Str := ["self", "tanks", "steps"]
theorem sc_Sc_init : FnScope n_Sc_init p_Sc_init (defScope s_Sc_init) := ⟨rfl, rfl, rfl, by decide +kernel, rfl, by decide +kernel, by decide +kernel⟩
abbrev s_Sc_tanks : Stmt := inClass (topS 61) 1
abbrev n_Sc_tanks : List Str := ["self"]
abbrev p_Sc_tanks : List Str := ["self"]
theorem sc_Sc_tanks : FnScope n_Sc_tanks p_Sc_tanks (defScope s_Sc_tanks) := ⟨rfl, rfl, rfl, by decide +kernel, rfl, by decide +kernel, by decide +kernel⟩
abbrev s_Sc_steps : Stmt := inClass (topS 61) 2
abbrev n_Sc_steps : List Str := ["self"]
abbrev p_Sc_steps : List Str := ["self"]
theorem sc_Sc_steps : FnScope n_Sc_steps p_Sc_steps (defScope s_Sc_steps) := ⟨rfl, rfl, rfl, by decide +kernel, rfl, by decide +kernel, by decide +kernel⟩
abbrev s_Sc_unknown : Stmt := inClass (topS 61) 3
abbrev n_Sc_unknown : List Str := ["self", "width", "_"]
abbrev p_Sc_unknown : List Str := ["self"]
theorem sc_Sc_unknown : FnScope n_Sc_unknown p_Sc_unknown (defScope s_Sc_unknown) := ⟨rfl, rfl, rfl, by decide +kernel, rfl, by decide +kernel, by decide +kernel⟩
abbrev s_Sc_getitem : Stmt := inClass (topS 61) 4
abbrev n_Sc_getitem : List Str := ["self", "at"]
abbrev p_Sc_getitem : List Str := ["self", "at"]
theorem sc_Sc_getitem : FnScope n_Sc_getitem p_Sc_getitem (defScope s_Sc_getitem) := ⟨rfl, rfl, rfl, by decide +kernel, rfl, by decide +kernel, by decide +kernel⟩
abbrev s_Sc_iter : Stmt := inClass (topS 61) 5
abbrev n_Sc_iter : List Str := ["self"]
abbrev p_Sc_iter : List Str := ["self"]
theorem sc_Sc_iter : FnScope n_Sc_iter p_Sc_iter (defScope s_Sc_iter) := ⟨rfl, rfl, rfl, by decide +kernel, rfl, by decide +kernel, by decide +kernel⟩
abbrev s_Sc_without : Stmt := inClass (topS 61) 6
abbrev n_Sc_without : List Str := ["self", "index"]
abbrev p_Sc_without : List Str := ["self", "index"]
theorem sc_Sc_without : FnScope n_Sc_without p_Sc_without (defScope s_Sc_without) := ⟨rfl, rfl, rfl, by decide +kernel, rfl, by decide +kernel, by decide +kernel⟩
abbrev s_Sc_exchanged : Stmt := inClass (topS 61) 7
abbrev n_Sc_exchanged : List Str := ["self", "index"]
abbrev p_Sc_exchanged : List Str := ["self", "index"]
theorem sc_Sc_exchanged : FnScope n_Sc_exchanged p_Sc_exchanged (defScope s_Sc_exchanged) := ⟨rfl, rfl, rfl, by decide +kernel, rfl, by decide +kernel, by decide +kernel⟩
abbrev s_Sc_len : Stmt := inClass (topS 61) 8
abbrev n_Sc_len : List Str := ["self"]
abbrev p_Sc_len : List Str := ["self"]
theorem sc_Sc_len : FnScope n_Sc_len p_Sc_len (defScope s_Sc_len) := ⟨rfl, rfl, rfl, by decide +kernel, rfl, by decide +kernel, by decide +kernel⟩
abbrev s_Sc_eq : Stmt := inClass (topS 61) 9
abbrev n_Sc_eq : List Str := ["self", "other"]
abbrev p_Sc_eq : List Str := ["self", "other"]
theorem sc_Sc_eq : FnScope n_Sc_eq p_Sc_eq (defScope s_Sc_eq) := ⟨rfl, rfl, rfl, by decide +kernel, rfl, by decide +kernel, by decide +kernel⟩
abbrev s_Be_init : Stmt := inClass (topS 63) 0
abbrev n_Be_init : List Str := ["self", "tanks", "width"]
abbrev p_Be_init : List Str := ["self", "tanks", "width"]
theorem sc_Be_init : FnScope n_Be_init p_Be_init (defScope s_Be_init) := ⟨rfl, rfl, rfl, by decide +kernel, rfl, by decide +kernel, by decide +kernel⟩
abbrev s_Be_call : Stmt := inClass (topS 63) 1
abbrev n_Be_call : List Str := ["self", "step", "water", "ends"]
abbrev p_Be_call : List Str := ["self", "step"]
theorem sc_Be_call : FnScope n_Be_call p_Be_call (defScope s_Be_call) := ⟨rfl, rfl, rfl, by decide +kernel, rfl, by decide +kernel, by decide +kernel⟩
abbrev s_Be_levels : Stmt := inClass (topS 63) 2
abbrev n_Be_levels : List Str := ["self"]
abbrev p_Be_levels : List Str := ["self"]
theorem sc_Be_levels : FnScope n_Be_levels p_Be_levels (defScope s_Be_levels) := ⟨rfl, rfl, rfl, by decide +kernel, rfl, by decide +kernel, by decide +kernel⟩
abbrev s_Be_water : Stmt := inClass (topS 63) 3
abbrev n_Be_water : List Str := ["self"]
abbrev p_Be_water : List Str := ["self"]
theorem sc_Be_water : FnScope n_Be_water p_Be_water (defScope s_Be_water) := ⟨rfl, rfl, rfl, by decide +kernel, rfl, by decide +kernel, by decide +kernel⟩
abbrev s_Be_ended : Stmt := inClass (topS 63) 4
abbrev n_Be_ended : List Str := ["self"]
abbrev p_Be_ended : List Str := ["self"]
theorem sc_Be_ended : FnScope n_Be_ended p_Be_ended (defScope s_Be_ended) := ⟨rfl, rfl, rfl, by decide +kernel, rfl, by decide +kernel, by decide +kernel⟩
abbrev s_Be_undo : Stmt := inClass (topS 63) 5
abbrev n_Be_undo : List Str := ["self"]
abbrev p_Be_undo : List Str := ["self"]
theorem sc_Be_undo : FnScope n_Be_undo p_Be_undo (defScope s_Be_undo) := ⟨rfl, rfl, rfl, by decide +kernel, rfl, by decide +kernel, by decide +kernel⟩
abbrev s_Be_script : Stmt := inClass (topS 63) 6
abbrev n_Be_script : List Str := ["self"]
abbrev p_Be_script : List Str := ["self"]
theorem sc_Be_script : FnScope n_Be_script p_Be_script (defScope s_Be_script) := ⟨rfl, rfl, rfl, by decide +kernel, rfl, by decide +kernel, by decide +kernel⟩
abbrev s_Be_len : Stmt := inClass (topS 63) 7
abbrev n_Be_len : List Str := ["self"]
abbrev p_Be_len : List Str := ["self"]
theorem sc_Be_len : FnScope n_Be_len p_Be_len (defScope s_Be_len) := ⟨rfl, rfl, rfl, by decide +kernel, rfl, by decide +kernel, by decide +kernel⟩
abbrev s_Be_eq : Stmt := inClass (topS 63) 8
abbrev n_Be_eq : List Str := ["self", "other"]
abbrev p_Be_eq : List Str := ["self", "other"]
theorem sc_Be_eq : FnScope n_Be_eq p_Be_eq (defScope s_Be_eq) := ⟨rfl, rfl, rfl, by decide +kernel, rfl, by decide +kernel, by decide +kernel⟩
abbrev s_l_sack : Stmt := topS 65
abbrev n_l_sack : List Str := ["script", "rank", "cell"]
abbrev p_l_sack : List Str := ["script", "rank"]
theorem sc_l_sack : FnScope n_l_sack p_l_sack (defScope s_l_sack) := ⟨rfl, rfl, rfl, by decide +kernel, rfl, by decide +kernel, by decide +kernel⟩
abbrev s_l_coin : Stmt := topS 66
abbrev n_l_coin : List Str := ["sack", "many", "drawn", "stirred"]
abbrev p_l_coin : List Str := ["sack", "many"]
theorem sc_l_coin : FnScope n_l_coin p_l_coin (defScope s_l_coin) := ⟨rfl, rfl, rfl, by decide +kernel, rfl, by decide +kernel, by decide +kernel⟩
abbrev s_l_shared : Stmt := topS 67
abbrev n_l_shared : List Str := ["left", "right", "turn"]
abbrev p_l_shared : List Str := ["left", "right"]
theorem sc_l_shared : FnScope n_l_shared p_l_shared (defScope s_l_shared) := ⟨rfl, rfl, rfl, by decide +kernel, rfl, by decide +kernel, by decide +kernel⟩
abbrev s_l_ratio : Stmt := topS 68
abbrev n_l_ratio : List Str := ["up", "down", "shared"]
abbrev p_l_ratio : List Str := ["up", "down"]
theorem sc_l_ratio : FnScope n_l_ratio p_l_ratio (defScope s_l_ratio) := ⟨rfl, rfl, rfl, by decide +kernel, rfl, by decide +kernel, by decide +kernel⟩
abbrev s_l_add : Stmt := topS 69
abbrev n_l_add : List Str := ["left", "right"]
abbrev p_l_add : List Str := ["left", "right"]
theorem sc_l_add : FnScope n_l_add p_l_add (defScope s_l_add) := ⟨rfl, rfl, rfl, by decide +kernel, rfl, by decide +kernel, by decide +kernel⟩
abbrev s_l_mul : Stmt := topS 70
abbrev n_l_mul : List Str := ["left", "right"]
abbrev p_l_mul : List Str := ["left", "right"]
theorem sc_l_mul : FnScope n_l_mul p_l_mul (defScope s_l_mul) := ⟨rfl, rfl, rfl, by decide +kernel, rfl, by decide +kernel, by decide +kernel⟩
abbrev s_l_side : Stmt := topS 71
abbrev n_l_side : List Str := ["left", "right", "apart"]
abbrev p_l_side : List Str := ["left", "right"]
theorem sc_l_side : FnScope n_l_side p_l_side (defScope s_l_side) := ⟨rfl, rfl, rfl, by decide +kernel, rfl, by decide +kernel, by decide +kernel⟩
abbrev s_l_copied : Stmt := topS 72
abbrev n_l_copied : List Str := ["thing", "part"]
abbrev p_l_copied : List Str := ["thing"]
theorem sc_l_copied : FnScope n_l_copied p_l_copied (defScope s_l_copied) := ⟨rfl, rfl, rfl, by decide +kernel, rfl, by decide +kernel, by decide +kernel⟩
abbrev s_l_lists : Stmt := topS 73
abbrev n_l_lists : List Str := ["thing", "found", "part"]
abbrev p_l_lists : List Str := ["thing"]
theorem sc_l_lists : FnScope n_l_lists p_l_lists (defScope s_l_lists) := ⟨rfl, rfl, rfl, by decide +kernel, rfl, by decide +kernel, by decide +kernel⟩
abbrev s_l_marked : Stmt := topS 74
abbrev n_l_marked : List Str := ["thing", "some", "k"]
abbrev p_l_marked : List Str := ["thing"]
theorem sc_l_marked : FnScope n_l_marked p_l_marked (defScope s_l_marked) := ⟨rfl, rfl, rfl, by decide +kernel, rfl, by decide +kernel, by decide +kernel⟩
abbrev s_l_right : Stmt := topS 75
abbrev n_l_right : List Str := ["found", "due"]
abbrev p_l_right : List Str := ["found", "due"]
theorem sc_l_right : FnScope n_l_right p_l_right (defScope s_l_right) := ⟨rfl, rfl, rfl, by decide +kernel, rfl, by decide +kernel, by decide +kernel⟩
abbrev s_l_part : Stmt := topS 76
abbrev n_l_part : List Str := ["sack", "most", "down"]
abbrev p_l_part : List Str := ["sack", "most"]
theorem sc_l_part : FnScope n_l_part p_l_part (defScope s_l_part) := ⟨rfl, rfl, rfl, by decide +kernel, rfl, by decide +kernel, by decide +kernel⟩
abbrev s_l_vessels : Stmt := topS 77
abbrev n_l_vessels : List Str := ["sack", "many", "most", "rank", "found", "k", "filled", "broad"]
abbrev p_l_vessels : List Str := ["sack", "many", "most"]
theorem sc_l_vessels : FnScope n_l_vessels p_l_vessels (defScope s_l_vessels) := ⟨rfl, rfl, rfl, by decide +kernel, rfl, by decide +kernel, by decide +kernel⟩
abbrev s_l_two : Stmt := topS 78
abbrev n_l_two : List Str := ["sack", "many", "left"]
abbrev p_l_two : List Str := ["sack", "many"]
theorem sc_l_two : FnScope n_l_two p_l_two (defScope s_l_two) := ⟨rfl, rfl, rfl, by decide +kernel, rfl, by decide +kernel, by decide +kernel⟩
abbrev s_l_deed : Stmt := topS 79
abbrev n_l_deed : List Str := ["sack", "many", "most", "kinds", "kind", "left", "right", "k"]
abbrev p_l_deed : List Str := ["sack", "many", "most", "kinds"]
theorem sc_l_deed : FnScope n_l_deed p_l_deed (defScope s_l_deed) := ⟨rfl, rfl, rfl, by decide +kernel, rfl, by decide +kernel, by decide +kernel⟩
abbrev s_l_shape : Stmt := topS 80
abbrev n_l_shape : List Str := ["sack", "most", "many", "deeds", "valves", "halts", "turn", "kinds", "deed"]
abbrev p_l_shape : List Str := ["sack"]
theorem sc_l_shape : FnScope n_l_shape p_l_shape (defScope s_l_shape) := ⟨rfl, rfl, rfl, by decide +kernel, rfl, by decide +kernel, by decide +kernel⟩
abbrev s_l_long : Stmt := topS 81
abbrev n_l_long : List Str := ["sack", "many", "kinds", "size", "deeds", "turn"]
abbrev p_l_long : List Str := ["sack"]
theorem sc_l_long : FnScope n_l_long p_l_long (defScope s_l_long) := ⟨rfl, rfl, rfl, by decide +kernel, rfl, by decide +kernel, by decide +kernel⟩
abbrev s_l_wide : Stmt := topS 82
abbrev n_l_wide : List Str := ["sack", "down"]
abbrev p_l_wide : List Str := ["sack"]
theorem sc_l_wide : FnScope n_l_wide p_l_wide (defScope s_l_wide) := ⟨rfl, rfl, rfl, by decide +kernel, rfl, by decide +kernel, by decide +kernel⟩
abbrev s_l_heights : Stmt := topS 83
abbrev n_l_heights : List Str := ["broads", "waters", "k"]
abbrev p_l_heights : List Str := ["broads", "waters"]
theorem sc_l_heights : FnScope n_l_heights p_l_heights (defScope s_l_heights) := ⟨rfl, rfl, rfl, by decide +kernel, rfl, by decide +kernel, by decide +kernel⟩
abbrev s_l_after : Stmt := topS 84
abbrev n_l_after : List Str := ["broads", "waters", "deed", "total", "breadth", "k", "taken_v"]
abbrev p_l_after : List Str := ["broads", "waters", "deed"]
theorem sc_l_after : FnScope n_l_after p_l_after (defScope s_l_after) := ⟨rfl, rfl, rfl, by decide +kernel, rfl, by decide +kernel, by decide +kernel⟩
abbrev s_l_over : Stmt := topS 85
abbrev n_l_over : List Str := ["broads", "waters", "deed", "levels_v"]
abbrev p_l_over : List Str := ["broads", "waters", "deed"]
theorem sc_l_over : FnScope n_l_over p_l_over (defScope s_l_over) := ⟨rfl, rfl, rfl, by decide +kernel, rfl, by decide +kernel, by decide +kernel⟩
abbrev s_l_broads : Stmt := topS 86
abbrev n_l_broads : List Str := ["vessels", "wide", "vessel"]
abbrev p_l_broads : List Str := ["vessels", "wide"]
theorem sc_l_broads : FnScope n_l_broads p_l_broads (defScope s_l_broads) := ⟨rfl, rfl, rfl, by decide +kernel, rfl, by decide +kernel, by decide +kernel⟩
abbrev s_l_bench : Stmt := topS 87
abbrev n_l_bench : List Str := ["sack", "vessels", "wide", "given", "made"]
abbrev p_l_bench : List Str := ["sack", "vessels", "wide"]
theorem sc_l_bench : FnScope n_l_bench p_l_bench (defScope s_l_bench) := ⟨rfl, rfl, rfl, by decide +kernel, rfl, by decide +kernel, by decide +kernel⟩
abbrev s_l_does : Stmt := topS 88
abbrev n_l_does : List Str := ["sack", "made", "deed", "given", "found"]
abbrev p_l_does : List Str := ["sack", "made", "deed"]
theorem sc_l_does : FnScope n_l_does p_l_does (defScope s_l_does) := ⟨rfl, rfl, rfl, by decide +kernel, rfl, by decide +kernel, by decide +kernel⟩
abbrev s_l_bench_right : Stmt := topS 89
abbrev n_l_bench_right : List Str := ["made", "vessels", "broads", "state", "waters", "halted", "done", "levels_v", "found", "again"]
abbrev p_l_bench_right : List Str := ["made", "vessels", "broads", "state"]
theorem sc_l_bench_right : FnScope n_l_bench_right p_l_bench_right (defScope s_l_bench_right) := ⟨rfl, rfl, rfl, by decide +kernel, rfl, by decide +kernel, by decide +kernel⟩
abbrev s_l_begun : Stmt := topS 90
abbrev n_l_begun : List Str := ["vessels", "vessel"]
abbrev p_l_begun : List Str := ["vessels"]
theorem sc_l_begun : FnScope n_l_begun p_l_begun (defScope s_l_begun) := ⟨rfl, rfl, rfl, by decide +kernel, rfl, by decide +kernel, by decide +kernel⟩
abbrev s_l_gone : Stmt := topS 91
abbrev n_l_gone : List Str := ["broads", "state", "deed", "waters", "halted", "done"]
abbrev p_l_gone : List Str := ["broads", "state", "deed"]
theorem sc_l_gone : FnScope n_l_gone p_l_gone (defScope s_l_gone) := ⟨rfl, rfl, rfl, by decide +kernel, rfl, by decide +kernel, by decide +kernel⟩
abbrev s_l_total : Stmt := topS 92
abbrev n_l_total : List Str := ["waters", "total", "water"]
abbrev p_l_total : List Str := ["waters"]
theorem sc_l_total : FnScope n_l_total p_l_total (defScope s_l_total) := ⟨rfl, rfl, rfl, by decide +kernel, rfl, by decide +kernel, by decide +kernel⟩
abbrev s_l_capped : Stmt := topS 93
abbrev n_l_capped : List Str := ["sack", "vessels", "deeds"]
abbrev p_l_capped : List Str := ["sack"]
theorem sc_l_capped : FnScope n_l_capped p_l_capped (defScope s_l_capped) := ⟨rfl, rfl, rfl, by decide +kernel, rfl, by decide +kernel, by decide +kernel⟩
abbrev s_l_any_shape : Stmt := topS 94
abbrev n_l_any_shape : List Str := ["sack"]
abbrev p_l_any_shape : List Str := ["sack"]
theorem sc_l_any_shape : FnScope n_l_any_shape p_l_any_shape (defScope s_l_any_shape) := ⟨rfl, rfl, rfl, by decide +kernel, rfl, by decide +kernel, by decide +kernel⟩
abbrev s_l_any_wide : Stmt := topS 95
abbrev n_l_any_wide : List Str := ["sack"]
abbrev p_l_any_wide : List Str := ["sack"]
theorem sc_l_any_wide : FnScope n_l_any_wide p_l_any_wide (defScope s_l_any_wide) := ⟨rfl, rfl, rfl, by decide +kernel, rfl, by decide +kernel, by decide +kernel⟩
abbrev s_l_refusal : Stmt := topS 96
abbrev n_l_refusal : List Str := ["made", "deed", "found", "e"]
abbrev p_l_refusal : List Str := ["made", "deed"]
theorem sc_l_refusal : FnScope n_l_refusal p_l_refusal (defScope s_l_refusal) := ⟨rfl, rfl, rfl, by decide +kernel, rfl, by decide +kernel, by decide +kernel⟩
abbrev s_l_no_undo : Stmt := topS 97
abbrev n_l_no_undo : List Str := ["made", "found", "e"]
abbrev p_l_no_undo : List Str := ["made"]
theorem sc_l_no_undo : FnScope n_l_no_undo p_l_no_undo (defScope s_l_no_undo) := ⟨rfl, rfl, rfl, by decide +kernel, rfl, by decide +kernel, by decide +kernel⟩
abbrev s_l_deep_right : Stmt := topS 98
abbrev n_l_deep_right : List Str := ["sack", "shape", "most", "wide", "vessels", "more", "deeds", "broads", "states", "made", "deed", "turn"]
abbrev p_l_deep_right : List Str := ["sack", "shape", "most", "wide"]
theorem sc_l_deep_right : FnScope n_l_deep_right p_l_deep_right (defScope s_l_deep_right) := ⟨rfl, rfl, rfl, by decide +kernel, rfl, by decide +kernel, by decide +kernel⟩
abbrev s_l_checked : Stmt := topS 99
abbrev n_l_checked : List Str := ["sack", "shape", "most", "vessels", "wide", "broads", "states", "made", "deed", "back", "turn", "fresh"]
abbrev p_l_checked : List Str := ["sack"]
theorem sc_l_checked : FnScope n_l_checked p_l_checked (defScope s_l_checked) := ⟨rfl, rfl, rfl, by decide +kernel, rfl, by decide +kernel, by decide +kernel⟩
abbrev s_law : Stmt := topS 100
abbrev n_law : List Str := ["script", "rank"]
abbrev p_law : List Str := ["script"]
theorem sc_law : FnScope n_law p_law (defScope s_law) := ⟨rfl, rfl, rfl, by decide +kernel, rfl, by decide +kernel, by decide +kernel⟩
end V2


namespace V2
open PySem L2
open PySem.Spec PyProof.Rows
/-! ## rules of our own -/
def CPowX (i j : Int) : Prop := 0 ≤ j ∧ (Builtin.Int.intBits i : Int) * j ≤ 2 ^ 27
theorem op_powX {X : Cx} : OpR X (binaryOp .Pow) (rI CPowX fun i j => .int (i ^ j.toNat)) :=
  opI fun _ _ _ _ _ _ _ hc q => pow_int hc.1 hc.2 q
theorem pow_ok {i : Int} {k n : Nat} (hi : i.natAbs < 2 ^ k) (h : k * n ≤ 134217728) : CPowX i (n : Int) := by
  (refine ⟨Int.natCast_nonneg _, ?_⟩)
  have h1 := intBits_le hi
  have h2 : Builtin.Int.intBits i * n ≤ k * n := Nat.mul_le_mul_right n h1
  have h3 : ((Builtin.Int.intBits i * n : Nat) : Int) ≤ 134217728 := by omega
  have e : (2 : Int) ^ 27 = 134217728 := (by decide)
  rw [e, ← Int.natCast_mul]
  exact h3
/-- all but the list at p is as it was (and there may be new things) -/
def But (p : Addr) (H H' : Hp) : Prop := ∀ b o, b ≠ p → H b = some o → H' b = some o
theorem But.refl (p : Addr) (H : Hp) : But p H H := fun _ _ _ h => h
theorem But.trans {p : Addr} {H H1 H2 : Hp} (a : But p H H1) (b : But p H1 H2) : But p H H2 := fun c o n h => b c o n (a c o n h)
theorem But.of_ex {p : Addr} {H H' : Hp} (e : Evl.Ex H H') : But p H H' := fun b o _ h => e b o h
theorem But.upd {p : Addr} {H : Hp} {o : HO} : But p H (upd H p o) := fun b u n h => by
  rw [upd_ne n]; exact h
/-- the law's sack at p: three ints, at most m draws so far -/
def Sk (H : Hp) (p : Addr) (m : Nat) : Prop := ∃ a b c : Int, H p = some (.lst [.int a, .int b, .int c]) ∧ 0 ≤ a ∧ 0 ≤ b ∧ b < 2 ^ 80 ∧ 0 ≤ c ∧ c ≤ m
theorem Sk.le {H : Hp} {p : Addr} {m n : Nat} (h : Sk H p m) (l : m ≤ n) : Sk H p n := by
  obtain ⟨a, b, c, h1, h2, h3, h4, h5, h6⟩ := h
  exact ⟨a, b, c, h1, h2, h3, h4, h5, by omega⟩
theorem Sk.ex {H H' : Hp} {p : Addr} {m : Nat} (h : Sk H p m) (e : Evl.Ex H H') : Sk H' p m := by
  obtain ⟨a, b, c, h1, h2⟩ := h
  exact ⟨a, b, c, e _ _ h1, h2⟩
/-- a draw: any number below many, the sack goes on -/
def spCoin : Sp := fun vs H Q _ => ∃ (p : Addr) (many : Int) (m : Nat), vs = [.ref p, .int many] ∧ Sk H p m ∧ m ≤ 100000 ∧ 0 < many ∧ many.natAbs < 2 ^ 200 ∧
  ∀ (r : Int) (H' : Hp), 0 ≤ r → r < many → But p H H' → Sk H' p (m + 1) → (∀ q, H q = none → H' q = none) → Q (.int r) H'
structure T0 (mg : Str → Option Value) : Prop where
  len : mg "len" = none
  max : mg "max" = none
  abs : mg "abs" = none
  int : mg "int" = none
theorem at0 {a b c : V} : atI [a, b, c] 0 = some a := by rfl
theorem at1 {a b c : V} : atI [a, b, c] 1 = some b := by rfl
theorem at2 {a b c : V} : atI [a, b, c] 2 = some c := by rfl
theorem ixN3 (j : Nat) (h : j < 3) : ixN 3 (j : Int) = some j := Evl.ixN_nat h
section
variable {base : Heap} {mg : Str → Option Value} {K : PySem.W.Frag} {w : World} {P : Program}
theorem ok_coin {f : Addr} {fd : FuncData} (F : Fun K "_law_pv_coin" "_law_pv_coin" s_l_coin f fd) (T : T0 mg) : FnOk P w K mg base CX0 1 f fd p_l_coin spCoin := by
  refine F.ok sc_l_coin (fun vs H Q E h => ?_) (fun cdv A outer s H vs Q E hr h => ?_)
  · obtain ⟨p, many, m, rfl, _⟩ := h
    rfl
  · obtain ⟨p, many, m, rfl, ⟨a, b, c, hp, ha, hb, hb2, hc, hc2⟩, hm, h0, h200, k⟩ := h
    have nd := sc_l_coin.nd
    refine ⟨_, pss_cons (ps_if (pt_cmpR op_gt (pe_ix ix_list (pv 0) pe_int (fun _ _ => rfl)) pe_int (nomark _))
        (pss_cons (ps_set (i := 2) nd rfl (Or.inl rfl) (pe_op op_mod (pe_callTy call_int1 (by rfl) T.int (by decide +kernel) (pa_cons (pe_ix ix_list (pv 0) pe_int (fun _ _ => rfl)) pa_nil)) (pv 1)))
        (pss_cons (ps_asg (pe_op op_fdivW (pe_ix ix_list (pv 0) pe_int (fun _ _ => rfl)) (pv 1)) (pg_sub (pv 0) pe_int set_list))
        (pss_one (ps_ret (pv 2))))) pss_nil)
      (pss_cons (ps_asg (pe_op op_add (pe_ix ix_list (pv 0) pe_int (fun _ _ => rfl)) pe_int) (pg_sub (pv 0) pe_int set_list))
      (pss_cons (ps_set (i := 3) nd rfl (Or.inl rfl) (pe_op op_mod (pe_op op_powX (pe_callTy call_int1 (by rfl) T.int (by decide +kernel) (pa_cons (pe_op op_add (pe_ix ix_list (pv 0) pe_int (fun _ _ => rfl)) (pe_op op_mul pe_int (pe_ix ix_list (pv 0) pe_int (fun _ _ => rfl)))) pa_nil)) pe_int) (pe_op op_add (pe_op op_powX pe_int pe_int) pe_int)))
      (pss_cons (ps_set (i := 3) nd rfl (Or.inl rfl) (pe_op op_mod (pe_op op_powX (pe_callTy call_int1 (by rfl) T.int (by decide +kernel) (pa_cons (pe_op op_add (pv 3) (pe_op op_mul pe_int (pe_ix ix_list (pv 0) pe_int (fun _ _ => rfl)))) pa_nil)) pe_int) (pe_op op_add (pe_op op_powX pe_int pe_int) pe_int)))
      (pss_one (ps_ret (pe_op op_mod (pe_callTy call_int1 (by rfl) T.int (by decide +kernel) (pa_cons (pe_op op_fdivW (pv 3) pe_int) pa_nil)) (pv 1))))))), ?_⟩
    refine ⟨_, rfl, p, _, _, _, rfl, rfl, SqL.of hp, at0, _, _, rfl, rfl, _, rfl, ?_⟩
    refine ite2 (fun q => ?_) (fun _ => ?_)
    · have q0 : 0 < a := by simpa using q
      refine ⟨_, rfl, p, _, _, _, rfl, rfl, SqL.of hp, at0, .inl ⟨_, rfl, _, rfl, _, _, rfl, rfl, h0, ?_⟩⟩
      refine ⟨_, rfl, p, _, _, _, rfl, rfl, SqL.of hp, at0, _, rfl, _, _, rfl, rfl, wide_div h0 h200 (by decide) (by decide), _, rfl, p, _, 0, 0, rfl, rfl, hp, ixN3 0 (by decide), ?_⟩
      refine ⟨_, rfl, k _ _ (Int.emod_nonneg _ (by omega)) (Int.emod_lt_of_pos _ h0) But.upd ⟨a / many, b, c, upd_same, Int.ediv_nonneg ha (by omega), hb, hb2, hc, by omega⟩ (fun q hq => ?_)⟩
      rw [upd_ne (fun z => by rw [z, hp] at hq; cases hq)]; exact hq
    · have e24 : ((10 : Int) ^ (24 : Int).toNat + 7) = 1000000000000000000000007 := by decide
      have e25 : ((10 : Int) ^ (25 : Int).toNat + 13) = 10000000000000000000000013 := by decide
      have p80 : (2 : Int) ^ 80 = 1208925819614629174706176 := by decide
      have n81 : (2 : Nat) ^ 81 = 2417851639229258349412352 := by decide
      have n85 : (2 : Nat) ^ 85 = 38685626227668133590597632 := by decide
      rw [p80] at hb2
      have w1 : CPowX (b + 1640531527 * (c + 1)) 3 := pow_ok (k := 81) (n := 3) (by rw [n81]; omega) (by decide)
      have w25 : CPowX 10 25 := pow_ok (k := 4) (n := 25) (by decide) (by decide)
      have w24 : CPowX 10 24 := pow_ok (k := 4) (n := 24) (by decide) (by decide)
      have hp2 : upd H p (.lst [.int a, .int b, .int (c + 1)]) p = some (.lst [.int a, .int b, .int (c + 1)]) := upd_same
      refine ⟨_, rfl, p, _, _, _, rfl, rfl, SqL.of hp, at2, _, _, rfl, rfl, _, rfl, p, _, 2, 2, rfl, rfl, hp, ixN3 2 (by decide), ?_⟩
      refine ⟨_, rfl, p, _, _, _, rfl, rfl, SqL.of hp2, at1, _, rfl, p, _, _, _, rfl, rfl, SqL.of hp2, at2, _, _, rfl, rfl, .inl ⟨by decide, by decide⟩, _, _, rfl, rfl, .inl ⟨_, rfl, ?_⟩⟩
      have g25 : (0 : Int) < 10 ^ (25 : Int).toNat + 13 := by rw [e25]; decide
      have g24 : (0 : Int) < 10 ^ (24 : Int).toNat + 7 := by rw [e24]; decide
      refine ⟨_, 3, rfl, rfl, w1, 10, 25, rfl, rfl, w25, _, 13, rfl, rfl, _, _, rfl, rfl, g25, ?_⟩
      have x0 : 0 ≤ (b + 1640531527 * (c + 1)) ^ (3 : Int).toNat % (10 ^ (25 : Int).toNat + 13) := Int.emod_nonneg _ (by omega)
      have x1 : (b + 1640531527 * (c + 1)) ^ (3 : Int).toNat % (10 ^ (25 : Int).toNat + 13) < 10000000000000000000000013 := by rw [← e25]; exact Int.emod_lt_of_pos _ g25
      have w2 : CPowX ((b + 1640531527 * (c + 1)) ^ (3 : Int).toNat % (10 ^ (25 : Int).toNat + 13) + 805459861 * (c + 1)) 2 := pow_ok (k := 85) (n := 2) (by rw [n85]; omega) (by decide)
      refine ⟨_, rfl, _, rfl, p, _, _, _, rfl, rfl, SqL.of hp2, at2, _, _, rfl, rfl, .inl ⟨by decide, by decide⟩, _, _, rfl, rfl, .inl ⟨_, rfl, ?_⟩⟩
      refine ⟨_, 2, rfl, rfl, w2, 10, 24, rfl, rfl, w24, _, 7, rfl, rfl, _, _, rfl, rfl, g24, ?_⟩
      refine ⟨_, rfl, _, 1024, rfl, rfl, wide_div (b := 11) (by decide) (by decide) (by decide) (by decide), .inl ⟨_, rfl, _, rfl, _, _, rfl, rfl, h0, ?_⟩⟩
      refine k _ _ (Int.emod_nonneg _ (by omega)) (Int.emod_lt_of_pos _ h0) But.upd ⟨a, b, c + 1, hp2, ha, hb, by rw [p80]; exact hb2, by omega, by omega⟩ (fun q hq => ?_)
      rw [upd_ne (fun z => by rw [z, hp] at hq; cases hq)]; exact hq
end
end V2


namespace V2
/-! ## plain mathematics -/
/-- how many zeros a list begins with -/
def zer : List Int → Nat
  | [] => 0
  | x :: r => if x = 0 then zer r + 1 else 0
theorem zer_le : ∀ l : List Int, zer l ≤ l.length
  | [] => Nat.le_refl _
  | x :: r => by
    unfold zer
    split
    · have := zer_le r; simp only [List.length_cons]; omega
    · exact Nat.zero_le _
theorem zer_in : ∀ (l : List Int) (j : Nat), j < zer l → l[j]? = some 0
  | [], j, h => absurd h (Nat.not_lt_zero _)
  | x :: r, j, h => by
    unfold zer at h
    split at h
    · rename_i e
      cases j with
      | zero => simp [e]
      | succ j => simpa using zer_in r j (by omega)
    · exact absurd h (Nat.not_lt_zero _)
theorem zer_at : ∀ (l : List Int), zer l < l.length → ∃ x, l[zer l]? = some x ∧ x ≠ 0
  | [], h => absurd h (Nat.not_lt_zero _)
  | x :: r, h => by
    unfold zer at h ⊢
    split
    · rename_i e
      rw [if_pos e, List.length_cons] at h
      obtain ⟨y, h1, h2⟩ := zer_at r (by omega)
      exact ⟨y, by simpa using h1, h2⟩
    · rename_i e
      exact ⟨x, rfl, e⟩
/-- how many zeros stand at the end -/
def tz (ns : List Int) : Nat := zer ns.reverse
theorem tz_le (ns : List Int) : tz ns ≤ ns.length := by
  have := zer_le ns.reverse
  rwa [List.length_reverse] at this
theorem tz_in (ns : List Int) (j : Nat) (h : j < tz ns) : ns[ns.length - 1 - j]? = some 0 := by
  have h1 := zer_in ns.reverse j h
  have h2 := tz_le ns
  rwa [List.getElem?_reverse (by omega)] at h1
theorem tz_at (ns : List Int) (h : tz ns < ns.length) : ∃ x, ns[ns.length - 1 - tz ns]? = some x ∧ x ≠ 0 := by
  have h1 := zer_at ns.reverse (by rwa [List.length_reverse])
  obtain ⟨x, h2, h3⟩ := h1
  refine ⟨x, ?_, h3⟩
  change ns.reverse[tz ns]? = some x at h2
  rwa [List.getElem?_reverse h] at h2
/-- without the zeros at the end -/
def trm (ns : List Int) : List Int := ns.take (ns.length - tz ns)
/-- no 0 at the end -/
def Pol (ns : List Int) : Prop := ∀ x, ns[ns.length - 1]? = some x → x ≠ 0
theorem tz_pol {ns : List Int} (h : Pol ns) : tz ns = 0 := by
  cases e : tz ns with
  | zero => rfl
  | succ k =>
    exact absurd rfl (h 0 (by have := tz_in ns 0 (by omega); simpa using this))
theorem trm_pol {ns : List Int} (h : Pol ns) : trm ns = ns := by
  unfold trm
  rw [tz_pol h, Nat.sub_zero, List.take_length]
theorem pol_trm (ns : List Int) : Pol (trm ns) := by
  intro x h
  unfold trm at h
  have h2 := tz_le ns
  rw [List.length_take, Nat.min_eq_left (Nat.sub_le _ _)] at h
  by_cases h3 : tz ns < ns.length
  · obtain ⟨y, h4, h5⟩ := tz_at ns h3
    rw [List.getElem?_take, if_pos (by omega), show ns.length - tz ns - 1 = ns.length - 1 - tz ns by omega, h4] at h
    cases h; exact h5
  · rw [List.getElem?_take, if_neg (by omega)] at h
    cases h
theorem trm_len (ns : List Int) : (trm ns).length ≤ ns.length := by
  unfold trm; rw [List.length_take]; omega
theorem trm_mem {ns : List Int} {x : Int} (h : x ∈ trm ns) : x ∈ ns := List.mem_of_mem_take h
/-! ### Euclid -/
theorem mod_half {l r : Nat} (h0 : 0 < r) (h : r < l) : r * (l % r) * 2 ≤ l * r := by
  have h1 := Nat.mod_lt l h0
  have h2 : l % r + r ≤ l := by
    have := Nat.div_add_mod l r
    have h3 : 1 ≤ l / r := Nat.div_pos (Nat.le_of_lt h) h0
    have h4 : r * 1 ≤ r * (l / r) := Nat.mul_le_mul_left r h3
    omega
  have h5 : (l % r) * 2 ≤ l := by omega
  calc r * (l % r) * 2 = r * ((l % r) * 2) := by rw [Nat.mul_assoc]
    _ ≤ r * l := Nat.mul_le_mul_left r h5
    _ = l * r := Nat.mul_comm _ _
/-- behind i turns -/
def Euc (B x y i l r : Nat) : Prop := Nat.gcd l r = Nat.gcd x y ∧ l < 2 ^ B ∧ r < 2 ^ B ∧ (i = 0 ∨ (r < l ∧ l * r * 2 ^ (i - 1) < 2 ^ (2 * B)))
theorem euc_0 {B x y : Nat} (hx : x < 2 ^ B) (hy : y < 2 ^ B) : Euc B x y 0 x y := ⟨rfl, hx, hy, .inl rfl⟩
theorem euc_s {B x y i l r : Nat} (h : Euc B x y i l r) (h0 : 0 < r) : Euc B x y (i + 1) r (l % r) := by
  obtain ⟨hg, hl, hr, hi⟩ := h
  have hm := Nat.mod_lt l h0
  refine ⟨?_, hr, Nat.lt_trans hm hr, .inr ⟨hm, ?_⟩⟩
  · rw [← hg, Nat.gcd_comm r, ← Nat.gcd_rec, Nat.gcd_comm]
  · rw [Nat.add_sub_cancel]
    rcases hi with rfl | ⟨hlt, hb⟩
    · rw [Nat.pow_zero, Nat.mul_one, Nat.two_mul, Nat.pow_add]
      exact Nat.mul_lt_mul'' hr (Nat.lt_trans hm hr)
    · cases i with
      | zero =>
        rw [Nat.pow_zero, Nat.mul_one, Nat.two_mul, Nat.pow_add]
        exact Nat.mul_lt_mul'' hr (Nat.lt_trans hm hr)
      | succ i =>
        rw [Nat.add_sub_cancel] at hb
        refine Nat.lt_of_le_of_lt ?_ hb
        rw [Nat.pow_succ, Nat.mul_comm (2 ^ i) 2, ← Nat.mul_assoc]
        exact Nat.mul_le_mul_right _ (mod_half h0 hlt)
theorem euc_end {B x y i l r : Nat} (h : Euc B x y i l r) (hi : 2 * B + 1 ≤ i) : r = 0 := by
  obtain ⟨_, _, _, h | ⟨hlt, hb⟩⟩ := h
  · omega
  · rcases Nat.eq_zero_or_pos r with e | e
    · exact e
    · exfalso
      have h1 : 1 * 2 ^ (2 * B) ≤ l * r * 2 ^ (i - 1) := Nat.mul_le_mul (Nat.mul_pos (by omega) e) (Nat.pow_le_pow_right (by decide) (by omega))
      omega
theorem euc_val {B x y i l : Nat} (h : Euc B x y i l 0) : l = Nat.gcd x y := by
  rw [← h.1, Nat.gcd_zero_right]
/-! ### fractions in lowest terms -/
def fr (u d : Int) : Int × Int := (u / (Int.gcd u d : Int), d / (Int.gcd u d : Int))
theorem gcd_pos {u d : Int} (h : 0 < d) : (0 : Int) < (Int.gcd u d : Int) := by
  have := Int.gcd_pos_of_ne_zero_right u (show d ≠ 0 by omega)
  omega
theorem fr_mul {u d : Int} (h : 0 < d) : u = (fr u d).1 * (Int.gcd u d : Int) ∧ d = (fr u d).2 * (Int.gcd u d : Int) :=
  ⟨(Int.ediv_mul_cancel (Int.gcd_dvd_left ..)).symm, (Int.ediv_mul_cancel (Int.gcd_dvd_right ..)).symm⟩
theorem fr_pos {u d : Int} (h : 0 < d) : 0 < (fr u d).2 := by
  have g := gcd_pos (u := u) h
  have e := (fr_mul (u := u) h).2
  rcases Int.lt_or_le 0 (fr u d).2 with h1 | h1
  · exact h1
  · exfalso
    have : (fr u d).2 * (Int.gcd u d : Int) ≤ 0 := Int.mul_nonpos_of_nonpos_of_nonneg h1 (by omega)
    omega
theorem fr_cop {u d : Int} (h : 0 < d) : Int.gcd (fr u d).1 (fr u d).2 = 1 := by
  have g := gcd_pos (u := u) h
  unfold fr
  exact Int.gcd_ediv_gcd_ediv_gcd (by omega)
/-- two fractions in lowest terms that are one number are one -/
theorem cop_eq {a b c d : Int} (hb : 0 < b) (hd : 0 < d) (h1 : Int.gcd a b = 1) (h2 : Int.gcd c d = 1) (e : a * d = c * b) : a = c ∧ b = d := by
  have hbd : b ∣ d := by
    have h3 : b ∣ a * d := ⟨c, by rw [e, Int.mul_comm]⟩
    have h4 := Int.dvd_gcd_mul_iff_dvd_mul.mpr h3
    rw [Int.gcd_comm, h1] at h4
    simpa using h4
  have hdb : d ∣ b := by
    have h3 : d ∣ c * b := ⟨a, by rw [← e, Int.mul_comm]⟩
    have h4 := Int.dvd_gcd_mul_iff_dvd_mul.mpr h3
    rw [Int.gcd_comm, h2] at h4
    simpa using h4
  have ebd : b = d := Int.dvd_antisymm (by omega) (by omega) hbd hdb
  subst ebd
  exact ⟨Int.eq_of_mul_eq_mul_right (by omega) e, rfl⟩
theorem fr_eq {a b c d : Int} (hb : 0 < b) (hd : 0 < d) (e : a * d = c * b) : fr a b = fr c d := by
  have g1 := gcd_pos (u := a) hb
  have g2 := gcd_pos (u := c) hd
  obtain ⟨a1, b1⟩ := fr_mul (u := a) hb
  obtain ⟨c1, d1⟩ := fr_mul (u := c) hd
  have k : (fr a b).1 * (fr c d).2 = (fr c d).1 * (fr a b).2 := by
    have z : ((fr a b).1 * (fr c d).2) * ((Int.gcd a b : Int) * (Int.gcd c d : Int)) = ((fr c d).1 * (fr a b).2) * ((Int.gcd a b : Int) * (Int.gcd c d : Int)) := by
      calc ((fr a b).1 * (fr c d).2) * ((Int.gcd a b : Int) * (Int.gcd c d : Int)) = ((fr a b).1 * (Int.gcd a b : Int)) * ((fr c d).2 * (Int.gcd c d : Int)) := by simp only [Int.mul_assoc, Int.mul_comm, Int.mul_left_comm]
        _ = a * d := by rw [← a1, ← d1]
        _ = c * b := e
        _ = ((fr c d).1 * (Int.gcd c d : Int)) * ((fr a b).2 * (Int.gcd a b : Int)) := by rw [← c1, ← b1]
        _ = _ := by simp only [Int.mul_assoc, Int.mul_comm, Int.mul_left_comm]
    exact Int.eq_of_mul_eq_mul_right (Int.ne_of_gt (Int.mul_pos g1 g2)) z
  obtain ⟨h1, h2⟩ := cop_eq (fr_pos hb) (fr_pos hd) (fr_cop hb) (fr_cop hd) k
  exact Prod.ext h1 h2
theorem fr_same {a b : Int} (hb : 0 < b) (h : Int.gcd a b = 1) : fr a b = (a, b) := by
  unfold fr
  rw [h]
  simp
theorem fr_val {a b : Int} (hb : 0 < b) : (fr a b).1 * b = a * (fr a b).2 := by
  obtain ⟨h1, h2⟩ := fr_mul (u := a) hb
  generalize (Int.gcd a b : Int) = g at h1 h2
  calc (fr a b).1 * b = (fr a b).1 * ((fr a b).2 * g) := by rw [← h2]
    _ = ((fr a b).1 * g) * (fr a b).2 := by simp only [Int.mul_assoc, Int.mul_comm, Int.mul_left_comm]
    _ = a * (fr a b).2 := by rw [← h1]
theorem fr_abs1 {a b : Int} (hb : 0 < b) : (fr a b).1.natAbs ≤ a.natAbs := by
  obtain ⟨h1, _⟩ := fr_mul (u := a) hb
  have g := gcd_pos (u := a) hb
  generalize Int.gcd a b = n at h1 g
  have e : a.natAbs = (fr a b).1.natAbs * n := by
    have := congrArg Int.natAbs h1
    rw [Int.natAbs_mul, Int.natAbs_natCast] at this
    exact this
  rw [e]
  exact Nat.le_mul_of_pos_right _ (by omega)
theorem fr_abs2 {a b : Int} (hb : 0 < b) : (fr a b).2.natAbs ≤ b.natAbs := by
  obtain ⟨_, h1⟩ := fr_mul (u := a) hb
  have g := gcd_pos (u := a) hb
  generalize Int.gcd a b = n at h1 g
  have e : b.natAbs = (fr a b).2.natAbs * n := by
    have := congrArg Int.natAbs h1
    rw [Int.natAbs_mul, Int.natAbs_natCast] at this
    exact this
  rw [e]
  exact Nat.le_mul_of_pos_right _ (by omega)
end V2


namespace V2
open PySem L2
open PySem.Spec PyProof.Rows
def RetU (xs : List V) (H : Hp) (Q : VK) : Prop := ∀ p H2, H p = none → Evl.Ex H H2 → H2 p = some (.tup xs) → Q (.ref p) H2
def iV (ns : List Int) : List V := ns.map V.int
theorem iV_len (ns : List Int) : (iV ns).length = ns.length := List.length_map ..
theorem iV_at {ns : List Int} {j : Nat} {n : Int} (h : ns[j]? = some n) : (iV ns)[j]? = some (.int n) := by
  unfold iV; rw [List.getElem?_map, h]; rfl
theorem cut_to (xs : List V) {k : Nat} (h : k ≤ xs.length) : cutV xs none (some (k : Int)) = xs.take k := by
  unfold cutV HT.sIx
  have e1 : Int.toNat (k : Int) = k := Int.toNat_natCast k
  simp
  first
    | done
    | (split <;> simp_all <;> omega)
    | omega
/-- the script, the rank: a new sack -/
def spSack (K : PySem.W.Frag) : Sp := fun vs H Q _ => ∃ (a : Addr) (ns : List Int) (r : Nat), vs = [.ref a, .int (r : Int)] ∧ SqL K H a (iV ns) ∧ ns.length ≤ 63 ∧ r ≤ 63 ∧
  ∀ (q : Addr) (H' : Hp), H q = none → Evl.Ex H H' → Sk H' q 0 → Q (.ref q) H'
def spShared : Sp := fun vs H Q _ => ∃ x y : Int, vs = [.int x, .int y] ∧ x.natAbs < 2 ^ 9000 ∧ y.natAbs < 2 ^ 9000 ∧ Evl.RetV (.int (Int.gcd x y : Int)) H Q
def spRatio : Sp := fun vs H Q _ => ∃ x y : Int, vs = [.int x, .int y] ∧ x.natAbs < 2 ^ 9000 ∧ y.natAbs < 2 ^ 9000 ∧ 0 < y ∧ RetU [.int (fr x y).1, .int (fr x y).2] H Q
structure T1 (mg : Str → Option Value) (fS fR : Addr) : Prop extends T0 mg where
  rng : mg "range" = none
  lst : mg "list" = none
  gS : mg "_law_pv_shared" = some (.ref fS)
  gR : mg "_law_pv_ratio" = some (.ref fR)
section
variable {base : Heap} {mg : Str → Option Value} {K : PySem.W.Frag} {w : World} {P : Program}
theorem ok_sack {f : Addr} {fd : FuncData} (F : Fun K "_law_pv_sack" "_law_pv_sack" s_l_sack f fd) (T : T0 mg) : FnOk P w K mg base CX0 1 f fd p_l_sack (spSack K) := by
  refine F.ok sc_l_sack (fun vs H Q E h => ?_) (fun cdv A outer s H vs Q E hr h => ?_)
  · obtain ⟨a, ns, r, rfl, _⟩ := h
    rfl
  · obtain ⟨a, ns, r, rfl, hS, hl, hr63, k⟩ := h
    have nd := sc_l_sack.nd
    refine ⟨_, pss_cons (ps_set (i := 2) nd rfl (Or.inl rfl) (pe_ifExp (pt_cmpR op_lt (pv 1) (pe_callB call_len_seq (by rfl) T.len PySem.boot_len (pa_cons (pv 0) pa_nil)) (nomark _)) (pe_ix ix_list (pv 0) (pv 1) (fun _ _ => rfl)) pe_int))
      (pss_one (ps_ret (pe_lst (pa_cons (pe_callB (call_max2 rfl) (by rfl) T.max (by decide +kernel) (pa_cons pe_int (pa_cons (pe_op op_sub (pe_callB call_abs (by rfl) T.abs (by decide +kernel) (pa_cons (pv 2) pa_nil)) (pe_op op_powX pe_int pe_int)) pa_nil)))
        (pa_cons (pe_op op_mod (pe_callTy call_int1 (by rfl) T.int (by decide +kernel) (pa_cons (pe_op op_add (pe_op op_add (pe_op op_mul (pv 2) pe_int) (pe_op op_mul (pv 1) pe_int)) pe_int) pa_nil)) (pe_op op_add (pe_op op_powX pe_int pe_int) pe_int))
        (pa_cons pe_int pa_nil)))))), ?_⟩
    have w18 : CPowX 10 18 := pow_ok (k := 4) (n := 18) (by decide) (by decide)
    have w24 : CPowX 10 24 := pow_ok (k := 4) (n := 24) (by decide) (by decide)
    have e24 : ((10 : Int) ^ (24 : Int).toNat + 7) = 1000000000000000000000007 := by decide
    have g24 : (0 : Int) < 10 ^ (24 : Int).toNat + 7 := by rw [e24]; decide
    have p80 : (2 : Int) ^ 80 = 1208925819614629174706176 := by decide
    (refine ⟨_, rfl, _, rfl, a, _, rfl, .inl hS, _, _, rfl, rfl, _, rfl, ?_⟩)
    refine ite2 (fun q => ?_) (fun _ => ?_)
    · have q2 : r < ns.length := by
        have q1 := of_decide_eq_true q
        rw [iV_len] at q1
        omega
      refine ⟨_, rfl, _, rfl, a, _, _, _, rfl, rfl, hS, atI_nat (iV_at (List.getElem?_eq_getElem q2)), ?_⟩
      refine ⟨_, rfl, _, rfl, 10, 18, rfl, rfl, w18, _, _, rfl, rfl, _, _, rfl, ?_⟩
      refine ⟨_, rfl, _, 69857, rfl, rfl, .inr ⟨by decide, by decide⟩, _, rfl, _, 9176291, rfl, rfl, .inr ⟨by decide, by decide⟩, _, _, rfl, rfl, _, _, rfl, rfl, .inl ⟨_, rfl, ?_⟩⟩
      refine ⟨10, 24, rfl, rfl, w24, _, 7, rfl, rfl, _, _, rfl, rfl, g24, ?_⟩
      refine ⟨by show 3 ≤ sizeLine; decide, fun q hq => ?_⟩
      refine k q _ hq (Evl.Ex.new hq) ⟨_, _, _, upd_same, ?_, Int.emod_nonneg _ (by omega), Int.lt_trans (Int.emod_lt_of_pos _ g24) (by rw [e24, p80]; decide), Int.le_refl _, Int.le_refl _⟩
      split <;> omega
    · refine ⟨_, rfl, _, rfl, 10, 18, rfl, rfl, w18, _, _, rfl, rfl, _, _, rfl, ?_⟩
      refine ⟨_, rfl, _, 69857, rfl, rfl, .inr ⟨by decide, by decide⟩, _, rfl, _, 9176291, rfl, rfl, .inr ⟨by decide, by decide⟩, _, _, rfl, rfl, _, _, rfl, rfl, .inl ⟨_, rfl, ?_⟩⟩
      refine ⟨10, 24, rfl, rfl, w24, _, 7, rfl, rfl, _, _, rfl, rfl, g24, ?_⟩
      refine ⟨by show 3 ≤ sizeLine; decide, fun q hq => ?_⟩
      refine k q _ hq (Evl.Ex.new hq) ⟨_, _, _, upd_same, ?_, Int.emod_nonneg _ (by omega), Int.lt_trans (Int.emod_lt_of_pos _ g24) (by rw [e24, p80]; decide), Int.le_refl _, Int.le_refl _⟩
      split <;> omega
theorem ok_shared {f : Addr} {fd : FuncData} (F : Fun K "_law_pv_shared" "_law_pv_shared" s_l_shared f fd) {fS fR : Addr} (T : T1 mg fS fR) : FnOk P w K mg base CX0 1 f fd p_l_shared spShared := by
  refine F.ok sc_l_shared (fun vs H Q E h => ?_) (fun cdv A outer s H vs Q E hr h => ?_)
  · obtain ⟨x, y, rfl, _⟩ := h
    rfl
  · obtain ⟨x, y, rfl, hx, hy, k⟩ := h
    have nd := sc_l_shared.nd
    refine ⟨_, pss_cons (ps_par (i := 0) (j := 1) rfl nd rfl rfl (by decide) rfl rfl (pa_cons (pe_callB call_abs (by rfl) T.abs (by decide +kernel) (pa_cons (pv 0) pa_nil)) (pa_cons (pe_callB call_abs (by rfl) T.abs (by decide +kernel) (pa_cons (pv 1) pa_nil)) pa_nil)) (by rfl))
      (pss_cons (ps_for PassesOwn.never rfl (pi_range1 (by rfl) T.rng (pa_cons pe_int pa_nil)) (pg_name (i := 2) nd rfl (Or.inl rfl))
        (pss_cons (ps_if (pt_cmpR op_eq (pv 1) pe_int (nomark _)) (pss_one (ps_ret (pv 0))) pss_nil)
        (pss_one (ps_par (i := 0) (j := 1) rfl nd rfl rfl (by decide) rfl rfl (pa_cons (pv 1) (pa_cons (pe_op op_mod (pe_callTy call_int1 (by rfl) T.int (by decide +kernel) (pa_cons (pv 0) pa_nil)) (pe_callTy call_int1 (by rfl) T.int (by decide +kernel) (pa_cons (pv 1) pa_nil))) pa_nil)) (by rfl)))))
      (pss_one (ps_ret (pv 0)))), ?_⟩
    have ab : ∀ z : Int, (if z < 0 then -z else z) = (z.natAbs : Int) := fun z => by split <;> omega
    refine ⟨_, rfl, _, rfl, _, rfl, _, rfl, _, _, rfl, ?_⟩
    rw [ab, ab]
    refine ⟨20000, rfl, by decide, by decide, for_range (n := 20000) (fun i σ H' => H' = H ∧ ∃ (l r : Nat) (v : Option V), σ = [some (.int l), some (.int r), v] ∧ Euc 9000 x.natAbs y.natAbs i l r)
      ⟨rfl, _, _, none, rfl, euc_0 hx hy⟩ ?_ ?_⟩
    · rintro i σ H' hi ⟨rfl, l, r, v, rfl, he⟩
      (refine ⟨_, rfl, rfl, _, rfl, ?_⟩)
      refine ite2 (fun q => ?_) (fun q => ?_)
      · have q1 : r = 0 := by
          have := of_decide_eq_true q
          injection this with h1
          omega
        subst q1
        refine ⟨_, rfl, ?_⟩
        have e : (l : Int) = (Int.gcd x y : Int) := by rw [euc_val he]; rfl
        rw [e]
        exact k _ (Evl.Ex.refl _)
      · have q1 : 0 < r := by
          rcases Nat.eq_zero_or_pos r with e | e
          · subst e; exact absurd (by decide) q
          · exact e
        refine ⟨_, rfl, _, rfl, .inl ⟨_, rfl, _, rfl, .inl ⟨_, rfl, _, _, rfl, rfl, (by show (0 : Int) < (r : Int); omega), _, _, rfl, ?_⟩⟩⟩
        exact ⟨rfl, r, l % r, _, rfl, euc_s he q1⟩
    · rintro σ H' ⟨rfl, l, r, v, rfl, he⟩
      have := euc_end he (by decide)
      subst this
      refine ⟨_, rfl, ?_⟩
      have e : (l : Int) = (Int.gcd x y : Int) := by rw [euc_val he]; rfl
      rw [e]
      exact k _ (Evl.Ex.refl _)
end
end V2


namespace V2
open PySem L2
open PySem.Spec PyProof.Rows
/-- a def that may be called by its name x -/
def Cal (P : Program) (w : World) (K : PySem.W.Frag) (mg : Str → Option Value) (base : Heap) (k : Nat) (x : Str) (ps : List Str) (sp : Sp) : Prop :=
  ∃ (f : Addr) (fd : FuncData), FnOk P w K mg base CX0 k f fd ps sp ∧ mg x = some (.ref f) ∧ PySem.W.keepIn K (.ref f) = true ∧ Binds K fd ps []
theorem pe_c {X : Cx} {k : Nat} {x : Str} {ps : List Str} {sp : Sp} {e : Expr} {es : List Expr} {t : TA} {p pos : Pos} (c : Cal X.prog X.w X.K X.mg X.base k x ps sp) (hr : Room k X.A) (ha : PA X (e :: es) t) (hg : Gl X x := by rfl)
    (he : starEach (e :: es) X.env = (false, eval e X.env) :: starEach es X.env := by rfl)
    (hpl : (backTo pos (starEach es X.env)).any (fun b => b.1) = false := by rfl) (hdb : (x == ("__debug__" : Str)) = false := by decide) :
    PE X (.Call (.Name x p) (e :: es) [] pos) (tCall sp [] E0 t) := by
  obtain ⟨f, fd, F, hm, hk, hb⟩ := c
  exact pe_call F hr hg hm hk hb .nil pass0 ha hdb he hpl
def spAdd : Sp := fun vs H Q _ => ∃ (l r : Addr) (a b c d : Int), vs = [.ref l, .ref r] ∧ SqL2 H l a b ∧ SqL2 H r c d ∧ a.natAbs < 2 ^ 4000 ∧ b.natAbs < 2 ^ 4000 ∧ c.natAbs < 2 ^ 4000 ∧ d.natAbs < 2 ^ 4000 ∧ 0 < b ∧ 0 < d ∧
  RetU [.int (fr (a * d + c * b) (b * d)).1, .int (fr (a * d + c * b) (b * d)).2] H Q
where SqL2 (H : Hp) (l : Addr) (a b : Int) : Prop := H l = some (.tup [.int a, .int b])
def spMul : Sp := fun vs H Q _ => ∃ (l r : Addr) (a b c d : Int), vs = [.ref l, .ref r] ∧ H l = some (.tup [.int a, .int b]) ∧ H r = some (.tup [.int c, .int d]) ∧ a.natAbs < 2 ^ 4000 ∧ b.natAbs < 2 ^ 4000 ∧ c.natAbs < 2 ^ 4000 ∧ d.natAbs < 2 ^ 4000 ∧ 0 < b ∧ 0 < d ∧
  RetU [.int (fr (a * c) (b * d)).1, .int (fr (a * c) (b * d)).2] H Q
/-- a list of ints without the zeros at its end, new -/
def spTrim (K : PySem.W.Frag) : Sp := fun vs H Q _ => ∃ (a : Addr) (ns : List Int), vs = [.ref a] ∧ SqL K H a (iV ns) ∧ ns.length ≤ 1000 ∧ Evl.RetL (iV (trm ns)) H Q
theorem at2_0 {a b : V} : atI [a, b] 0 = some a := by rfl
theorem at2_1 {a b : V} : atI [a, b] 1 = some b := by rfl
theorem pw_mul {i j : Int} {n m k : Nat} (h1 : i.natAbs < 2 ^ n) (h2 : j.natAbs < 2 ^ m) (h : n + m ≤ k) : (i * j).natAbs < 2 ^ k :=
  Nat.lt_of_lt_of_le (wide_lt h1 h2) (Nat.pow_le_pow_right (by decide) h)
theorem pw_add {i j : Int} {n k : Nat} (h1 : i.natAbs < 2 ^ n) (h2 : j.natAbs < 2 ^ n) (h : n + 1 ≤ k) : (i + j).natAbs < 2 ^ k := by
  have h3 : (2 : Nat) ^ (n + 1) ≤ 2 ^ k := Nat.pow_le_pow_right (by decide) h
  rw [Nat.pow_succ] at h3
  omega
section
variable {base : Heap} {mg : Str → Option Value} {K : PySem.W.Frag} {w : World} {P : Program}
theorem ok_ratio {f : Addr} {fd : FuncData} (F : Fun K "_law_pv_ratio" "_law_pv_ratio" s_l_ratio f fd) (T : T0 mg) (cS : Cal P w K mg base 1 "_law_pv_shared" p_l_shared spShared) : FnOk P w K mg base CX0 2 f fd p_l_ratio spRatio := by
  refine F.ok sc_l_ratio (fun vs H Q E h => ?_) (fun cdv A outer s H vs Q E hr h => ?_)
  · obtain ⟨x, y, rfl, _⟩ := h
    rfl
  · obtain ⟨x, y, rfl, hx, hy, y0, k⟩ := h
    have nd := sc_l_ratio.nd
    refine ⟨_, pss_cons (ps_set (i := 2) nd rfl (Or.inl rfl) (pe_op op_mul (pe_c cS hr (pa_cons (pv 0) (pa_cons (pv 1) pa_nil))) (pe_op op_sub pe_int (pe_op op_mul pe_int (pe_callTy call_int1 (by rfl) T.int (by decide +kernel) (pa_cons (pe_cmpR op_lt (pv 1) pe_int (nomark _)) pa_nil))))))
      (pss_one (ps_ret (pe_tup (pa_cons (pe_op op_fdivW (pv 0) (pv 2)) (pa_cons (pe_op op_fdivW (pv 1) (pv 2)) pa_nil))))), ?_⟩
    have e0 : (1 - 2 * (if decide (y < 0) = true then (1 : Int) else 0)) = 1 := by rw [decide_eq_false (by omega)]; rfl
    have g := gcd_pos (u := x) y0
    have gb : (Int.gcd x y : Int).natAbs < 2 ^ 9000 := by
      rw [Int.natAbs_natCast]
      exact Nat.lt_of_le_of_lt (Nat.gcd_le_right _ (by omega)) hy
    have eG : (Int.gcd x y : Int) * (1 - 2 * (if decide (y < 0) = true then (1 : Int) else 0)) = (Int.gcd x y : Int) := by rw [e0, Int.mul_one]
    have cD : CDivW x ((Int.gcd x y : Int) * (1 - 2 * (if decide (y < 0) = true then (1 : Int) else 0))) := by rw [eG]; exact wide_div g gb (by decide) (by decide)
    refine ⟨_, rfl, _, rfl, x, y, rfl, hx, hy, fun H2 e2 => ?_⟩
    refine ⟨_, rfl, _, _, rfl, rfl, .inr ⟨_, rfl, 2, _, rfl, rfl, .inl ⟨by decide, by decide⟩, 1, _, rfl, rfl, _, _, rfl, rfl, .inr ⟨by rw [e0]; decide, by rw [e0]; decide⟩, ?_⟩⟩
    refine ⟨_, rfl, _, rfl, _, _, rfl, rfl, cD, _, rfl, _, rfl, _, _, rfl, rfl, cD, (by show 2 ≤ sizeLine; decide), fun p hp => ?_⟩
    refine k p _ (Evl.fresh_back e2 hp) (e2.trans (Evl.Ex.new hp)) ?_
    rw [upd_same]
    show some (HO.tup [V.int (x / ((Int.gcd x y : Int) * (1 - 2 * (if decide (y < 0) = true then (1 : Int) else 0)))), V.int (y / ((Int.gcd x y : Int) * (1 - 2 * (if decide (y < 0) = true then (1 : Int) else 0))))]) = _
    rw [eG]
    rfl
end
end V2


namespace V2
/-! ## lists by their places; sums and products of polynomials -/
def vec (N : Nat) (f : Nat → Int) : List Int := (List.range N).map f
theorem vec_len (N : Nat) (f : Nat → Int) : (vec N f).length = N := by unfold vec; simp
theorem vec_get {N : Nat} {f : Nat → Int} {i : Nat} (h : i < N) : (vec N f)[i]? = some (f i) := by
  unfold vec; simp [h]
theorem vec_ext {N : Nat} {f : Nat → Int} {l : List Int} (hl : l.length = N) (h : ∀ i, i < N → l[i]? = some (f i)) : l = vec N f := by
  apply List.ext_getElem?
  intro i
  by_cases hi : i < N
  · rw [h i hi, vec_get hi]
  · rw [List.getElem?_eq_none (by omega), List.getElem?_eq_none (by rw [vec_len]; omega)]
theorem vec_congr {N : Nat} {f g : Nat → Int} (h : ∀ i, i < N → f i = g i) : vec N f = vec N g :=
  vec_ext (vec_len N f) fun i hi => by rw [vec_get hi, h i hi]
theorem vec_set {N : Nat} {f g : Nat → Int} {p : Nat} {v : Int} (hv : g p = v) (h : ∀ i, i ≠ p → g i = f i) : (vec N f).set p v = vec N g := by
  refine vec_ext (by rw [List.length_set, vec_len]) fun i hi => ?_
  by_cases e : i = p
  · subst e
    rw [List.getElem?_set_self (by rw [vec_len]; exact hi), hv]
  · rw [List.getElem?_set_ne (fun z => e z.symm), vec_get hi, h i e]
theorem vec_zero (N : Nat) : vec N (fun _ => 0) = List.replicate N 0 := by
  symm
  refine vec_ext (by simp) fun i hi => by simp [hi]
theorem getD_at {l : List Int} {k : Nat} {x : Int} (h : l[k]? = some x) : l.getD k 0 = x := by
  rw [List.getD_eq_getElem?_getD, h]; rfl
theorem getD_out {l : List Int} {k : Nat} (h : l.length ≤ k) : l.getD k 0 = 0 := by
  rw [List.getD_eq_getElem?_getD, List.getElem?_eq_none h]; rfl
/-- the sum, zeros at the end and all -/
def padd (xs ys : List Int) : List Int := vec (max xs.length ys.length) fun k => xs.getD k 0 + ys.getD k 0
/-- the first k rows of a product, at place i -/
def cf (xs ys : List Int) : Nat → Nat → Int
  | 0, _ => 0
  | k + 1, i => cf xs ys k i + (if k ≤ i then xs.getD k 0 * ys.getD (i - k) 0 else 0)
/-- k rows, and j places of the next -/
def rw_ (xs ys : List Int) (k j i : Nat) : Int := cf xs ys k i + (if k ≤ i ∧ i < k + j then xs.getD k 0 * ys.getD (i - k) 0 else 0)
theorem rw_0 (xs ys : List Int) (k i : Nat) : rw_ xs ys k 0 i = cf xs ys k i := by
  unfold rw_; rw [if_neg (by omega), Int.add_zero]
theorem rw_end (xs ys : List Int) (k i : Nat) : rw_ xs ys k ys.length i = rw_ xs ys (k + 1) 0 i := by
  rw [rw_0]
  unfold rw_
  show _ = cf xs ys k i + (if k ≤ i then xs.getD k 0 * ys.getD (i - k) 0 else 0)
  by_cases h1 : k ≤ i
  · by_cases h2 : i < k + ys.length
    · rw [if_pos ⟨h1, h2⟩, if_pos h1]
    · rw [if_neg (by omega), if_pos h1, getD_out (l := ys) (k := i - k) (by omega), Int.mul_zero]
  · rw [if_neg (by omega), if_neg h1]
theorem rw_step {xs ys : List Int} {k j : Nat} : rw_ xs ys k (j + 1) (k + j) = rw_ xs ys k j (k + j) + xs.getD k 0 * ys.getD j 0 := by
  unfold rw_
  rw [if_pos (by omega), if_neg (by omega), Int.add_zero, show k + j - k = j by omega]
theorem rw_other {xs ys : List Int} {k j i : Nat} (h : i ≠ k + j) : rw_ xs ys k (j + 1) i = rw_ xs ys k j i := by
  unfold rw_
  by_cases h1 : k ≤ i ∧ i < k + j
  · rw [if_pos h1, if_pos (by omega)]
  · rw [if_neg h1, if_neg (by omega)]
/-- the product, at N places -/
def pmul (xs ys : List Int) : List Int := vec (xs.length + ys.length - 1) (cf xs ys xs.length)
theorem cf_nil_right (xs : List Int) : ∀ k i, cf xs [] k i = 0
  | 0, _ => rfl
  | k + 1, i => by
    show cf xs [] k i + _ = 0
    rw [cf_nil_right xs k i]
    simp
theorem tz_vec0 (N : Nat) : trm (vec N fun _ => 0) = [] := by
  have h : ∀ l : List Int, (∀ x ∈ l, x = 0) → zer l = l.length := by
    intro l
    induction l with
    | nil => intro _; rfl
    | cons x r ih =>
      intro h
      unfold zer
      rw [if_pos (h x List.mem_cons_self), ih fun y hy => h y (List.mem_cons_of_mem _ hy)]
      rfl
  unfold trm tz
  rw [h _ (fun x hx => by
    rw [List.mem_reverse, vec_zero] at hx
    exact List.eq_of_mem_replicate hx), List.length_reverse, Nat.sub_self, List.take_zero]
theorem pmul_nil (xs : List Int) : trm (pmul xs []) = [] := by
  unfold pmul
  rw [vec_congr (g := fun _ => 0) fun i _ => cf_nil_right xs _ i]
  exact tz_vec0 _
theorem nil_pmul (ys : List Int) : trm (pmul [] ys) = [] := tz_vec0 _
/-- beyond the last row nothing -/
theorem cf_high {xs ys : List Int} : ∀ (k i : Nat), k + ys.length ≤ i + 1 → k < xs.length → cf xs ys k i = 0
  | 0, _, _, _ => rfl
  | k + 1, i, h, hk => by
    show cf xs ys k i + _ = 0
    rw [cf_high k i (by omega) (by omega)]
    by_cases h1 : k ≤ i
    · rw [if_pos h1, getD_out (l := ys) (k := i - k) (by omega)]
      simp
    · rw [if_neg h1]; rfl
theorem pol_pmul {xs ys : List Int} (hx : Pol xs) (hy : Pol ys) (nx : xs ≠ []) (ny : ys ≠ []) : Pol (pmul xs ys) := by
  intro z h
  have lx : 0 < xs.length := List.length_pos_iff.mpr nx
  have ly : 0 < ys.length := List.length_pos_iff.mpr ny
  unfold pmul at h
  rw [vec_len, vec_get (by omega)] at h
  have h := Option.some.inj h
  obtain ⟨n, en⟩ : ∃ n, xs.length = n + 1 := ⟨xs.length - 1, by omega⟩
  rw [en] at h
  have h2 : cf xs ys n (n + 1 + ys.length - 1 - 1) + (if n ≤ n + 1 + ys.length - 1 - 1 then xs.getD n 0 * ys.getD (n + 1 + ys.length - 1 - 1 - n) 0 else 0) = z := h
  rw [cf_high n _ (by omega) (by omega), if_pos (by omega), show n + 1 + ys.length - 1 - 1 - n = ys.length - 1 by omega, Int.zero_add] at h2
  have ex : xs[n]? = some xs[n] := List.getElem?_eq_getElem (by omega)
  have ey : ys[ys.length - 1]? = some ys[ys.length - 1] := List.getElem?_eq_getElem (by omega)
  rw [getD_at ex, getD_at ey] at h2
  rw [← h2]
  exact Int.mul_ne_zero (hx _ (by simpa [show xs.length - 1 = n by omega] using ex)) (hy _ ey)
end V2


namespace V2
open PySem L2
open PySem.Spec PyProof.Rows
section
variable {base : Heap} {mg : Str → Option Value} {K : PySem.W.Frag} {w : World} {P : Program}
theorem if_t {c : Bool} {A B : Prop} (hc : c = true) (h : A) : if c = true then A else B := by
  rw [if_pos hc]; exact h
theorem if_f {c : Bool} {A B : Prop} (hc : c = false) (h : B) : if c = true then A else B := by
  rw [hc, if_neg Bool.false_ne_true]; exact h
theorem ok_cut {f : Addr} {fd : FuncData} (F : Fun K "cut" "cut" s_cut f fd) (mL : mg "len" = none) : FnOk P w K mg base CX0 1 f fd p_cut (spTrim K) := by
  refine F.ok sc_cut (fun vs H Q E h => ?_) (fun cdv A outer s H vs Q E hr h => ?_)
  · obtain ⟨a, ns, rfl, _⟩ := h
    rfl
  · obtain ⟨a, ns, rfl, hS, hl, k⟩ := h
    have nd := sc_cut.nd
    refine ⟨_, pss_cons (ps_set (i := 1) nd rfl (Or.inl rfl) (pe_callB call_len_seq (by rfl) mL PySem.boot_len (pa_cons (pv 0) pa_nil)))
      (pss_cons (ps_while PassesOwn.never (PW.pt (pw_and (pt_cmpR op_gt (pv 1) pe_int (nomark _)) (pw_and1 (pt_cmpR op_eq (pe_ix ix_list (pv 0) (pe_op op_sub (pv 1) pe_int) (fun _ _ => rfl)) pe_int (nomark _)))))
          (pss_one (ps_aug (i := 1) nd rfl (.inl rfl) pe_int ip_sub)))
      (pss_one (ps_ret (pe_slice sl_list (pv 0) po_none (po_some (pv 1)))))), ?_⟩
    have hz := tz_le ns
    refine ⟨_, rfl, a, _, rfl, .inl hS, ?_⟩
    refine ⟨fun m σ H' => H' = H ∧ ns.length - tz ns ≤ m ∧ m ≤ ns.length ∧ σ = [some (.ref a), some (.int (m : Int))], ⟨ns.length, rfl, by omega, Nat.le_refl _, by rw [← iV_len ns]; simp [L2.start]⟩, ?_⟩
    rintro m σ H' ⟨rfl, h1, h2, rfl⟩
    have fin : ns.length - tz ns = m → Q = Q := fun _ => rfl
    (refine ⟨_, rfl, _, _, rfl, rfl, _, rfl, ?_⟩)
    by_cases hm : 0 < m
    · refine if_t (decide_eq_true (by omega)) ?_
      obtain ⟨x, hx, q1, q2⟩ : ∃ x, ns[m - 1]? = some x ∧ (ns.length - tz ns < m → x = 0) ∧ (m = ns.length - tz ns → x ≠ 0) := by
        by_cases c : ns.length - tz ns < m
        · have := tz_in ns (ns.length - m) (by omega)
          rw [show ns.length - 1 - (ns.length - m) = m - 1 by omega] at this
          exact ⟨0, this, fun _ => rfl, fun z => by omega⟩
        · obtain ⟨x, h3, h4⟩ := tz_at ns (by omega)
          rw [show ns.length - 1 - tz ns = m - 1 by omega] at h3
          exact ⟨x, h3, fun z => absurd z c, fun _ => h4⟩
      have ei : ((m : Int) - 1) = ((m - 1 : Nat) : Int) := by omega
      refine ⟨_, rfl, _, rfl, _, _, rfl, rfl, a, _, _, .int x, rfl, rfl, hS, ?_, rfl, _, rfl, ?_⟩
      · show atI (iV ns) ((m : Int) - 1) = _
        rw [ei]
        exact atI_nat (iV_at hx)
      · by_cases e : x = 0
        · subst e
          refine if_t (decide_eq_true rfl) ?_
          have c : ns.length - tz ns < m := by
            rcases Nat.lt_or_ge (ns.length - tz ns) m with c | c
            · exact c
            · exact absurd rfl (q2 (by omega))
          refine ⟨fun σ H2 => H2 = H' ∧ σ = [some (.ref a), some (.int ((m - 1 : Nat) : Int))], fun σ H2 z => ⟨m - 1, by omega, z.1, by omega, by omega, z.2⟩, ?_⟩
          refine ⟨_, rfl, _, _, rfl, rfl, rfl, ?_⟩
          show [some (V.ref a), some (V.int ((m : Int) - 1))] = _
          rw [ei]
        · refine if_f (decide_eq_false fun z => e (by injection z)) ?_
          have c : m = ns.length - tz ns := by
            rcases Nat.lt_or_ge (ns.length - tz ns) m with c | c
            · exact absurd (q1 c) e
            · omega
          refine ⟨_, rfl, _, rfl, _, rfl, a, _, rfl, hS, fun p hp => k p _ hp (Evl.Ex.new hp) ?_⟩
          rw [upd_same, cut_to _ (by rw [iV_len]; omega), c]
          unfold trm iV
          rw [List.map_take]
    · refine if_f (decide_eq_false (by omega)) ?_
      have c : m = ns.length - tz ns := by omega
      refine ⟨_, rfl, _, rfl, _, rfl, a, _, rfl, hS, fun p hp => k p _ hp (Evl.Ex.new hp) ?_⟩
      rw [upd_same, cut_to _ (by rw [iV_len]; omega), c]
      unfold trm iV
      rw [List.map_take]
end
end V2


namespace V2
open PySem L2
open PySem.Spec PyProof.Rows
/-- a list of ints at a -/
def Li (H : Hp) (a : Addr) (ns : List Int) : Prop := H a = some (.lst (iV ns))
theorem Li.sq {K : PySem.W.Frag} {H : Hp} {a : Addr} {ns : List Int} (h : Li H a ns) : SqL K H a (iV ns) := SqL.of h
theorem iV_set (ns : List Int) (j : Nat) (v : Int) : (iV ns).set j (.int v) = iV (ns.set j v) := by
  unfold iV; rw [List.map_set]
theorem iV_get {ns : List Int} {i : Nat} {x : V} (h : (iV ns)[i]? = some x) : ∃ n, ns[i]? = some n ∧ x = .int n := by
  unfold iV at h
  rw [List.getElem?_map] at h
  cases e : ns[i]? with
  | none =>
    rw [e] at h
    cases h
  | some n => rw [e] at h; exact ⟨n, rfl, (Option.some.inj h).symm⟩
theorem rep_flat (k : Nat) (x : V) : (List.replicate k [x]).flatten = List.replicate k x := by simp
theorem iV_rep (k : Nat) : iV (List.replicate k 0) = List.replicate k (.int 0) := by unfold iV; simp
/-- the mutual rows of a product, as the loops of both texts run them -/
def tRowsIn (K : PySem.W.Frag) : TS := tAsg (tOp (rI0 fun i j => .int (i + j)) (tOp (rIxL K) (tVar 2) (tOp (rI0 fun i j => .int (i + j)) (tVar 3) (tVar 5))) (tOp (rI CMul fun i j => .int (i * j)) (tVar 4) (tVar 6))) (gSub (tVar 2) (tOp (rI0 fun i j => .int (i + j)) (tVar 3) (tVar 5)) rSetL)
def tRows (K : PySem.W.Frag) : TS := tFor (iEnum K (tCons (tVar 0) tNil)) (gTup K 2 (gCons (gName 3) (gCons (gName 4) gNil))) (tFor (iEnum K (tCons (tVar 1) tNil)) (gTup K 2 (gCons (gName 5) (gCons (gName 6) gNil))) (tRowsIn K))
theorem rows_read {K : PySem.W.Frag} {D : Ends} {H : Hp} {a b l : Addr} {xs ys : List Int} {N : Nat} {u3 u4 u5 u6 : Option V} (ha : Li H a xs) (hb : Li H b ys) (hl : Li H l (vec N fun _ => 0)) (na : a ≠ l) (nb : b ≠ l) (hN : xs.length + ys.length ≤ N + 1)
    (hx : ∀ x ∈ xs, -(2 ^ 64) < x ∧ x < 2 ^ 64) (k : ∀ (H' : Hp) v3 v4 v5 v6, But l H H' → Li H' l (vec N (cf xs ys xs.length)) → D.nx [some (.ref a), some (.ref b), some (.ref l), v3, v4, v5, v6] H') :
    tRows K D [some (.ref a), some (.ref b), some (.ref l), u3, u4, u5, u6] H := by
  refine ⟨_, rfl, a, _, rfl, ha.sq, for_it walk_enum (fun i σ H' => ∃ v3 v4 v5 v6, σ = [some (.ref a), some (.ref b), some (.ref l), v3, v4, v5, v6] ∧ But l H H' ∧ Li H' l (vec N (rw_ xs ys i 0)))
    ⟨_, _, _, _, rfl, But.refl _ _, ?_⟩ (fun i σ H' _ ⟨_, _, _, _, _, q, _⟩ => SqL.of (q _ _ na ha)) ?_ ?_⟩
  · rw [vec_congr (g := fun _ => 0) fun i _ => by rw [rw_0]; rfl]
    exact hl
  · rintro i x σ H' H2 hi ⟨v3, v4, v5, v6, rfl, q, hL⟩ ⟨T, z, y, rfl, hT, rfl, hz, hy⟩
    obtain rfl := (Option.some.inj hz).symm
    obtain ⟨n, hn, rfl⟩ := iV_get hy
    rw [iV_len] at hi
    have nTl : T ≠ l := (ne_of_none hL hT).symm
    have q2 : But l H (upd H' T (.tup [.int (i : Nat), .int n])) := fun c o nc e => by
      rw [upd_ne (ne_of_none (q c o nc e) hT)]; exact q c o nc e
    refine ⟨T, _, rfl, SqT.of upd_same, rfl, _, _, rfl, _, _, rfl, rfl, ?_⟩
    have hL2 : Li (upd H' T (.tup [.int (i : Nat), .int n])) l (vec N (rw_ xs ys i 0)) := Eq.trans (upd_ne nTl.symm) hL
    refine ⟨_, rfl, b, _, rfl, SqL.of (q2 _ _ nb hb), for_it walk_enum (fun j σ H3 => ∃ v5 v6, σ = [some (.ref a), some (.ref b), some (.ref l), some (.int (i : Nat)), some (.int n), v5, v6] ∧ But l H H3 ∧ Li H3 l (vec N (rw_ xs ys i j)))
      ⟨_, _, rfl, q2, hL2⟩ (fun i σ H' _ ⟨_, _, _, q, _⟩ => SqL.of (q _ _ nb hb)) ?_ ?_⟩
    · rintro j x σ H3 H4 hj ⟨v5, v6, rfl, q3, hL3⟩ ⟨T2, z, y, rfl, hT2, rfl, hz, hy⟩
      obtain rfl := (Option.some.inj hz).symm
      obtain ⟨m, hm, rfl⟩ := iV_get hy
      rw [iV_len] at hj
      have nTl2 : T2 ≠ l := (ne_of_none hL3 hT2).symm
      refine ⟨T2, _, rfl, SqT.of upd_same, rfl, _, _, rfl, _, _, rfl, rfl, ?_⟩
      have hL4 : Li (upd H3 T2 (.tup [.int (j : Nat), .int m])) l (vec N (rw_ xs ys i j)) := Eq.trans (upd_ne nTl2.symm) hL3
      have hp : i + j < N := by omega
      have ep : ((i : Nat) : Int) + ((j : Nat) : Int) = ((i + j : Nat) : Int) := by omega
      refine ⟨_, rfl, _, rfl, _, rfl, _, _, rfl, rfl, l, _, _, .int (rw_ xs ys i j (i + j)), rfl, rfl, SqL.of hL4, ?_, _, rfl, _, rfl, n, m, rfl, rfl, .inl (hx n (List.mem_of_getElem? hn)), _, _, rfl, rfl, ?_⟩
      · show atI _ (((i : Nat) : Int) + ((j : Nat) : Int)) = _
        rw [ep]
        exact atI_nat (iV_at (vec_get hp))
      refine ⟨_, rfl, _, rfl, _, rfl, _, _, rfl, rfl, l, _, _, i + j, rfl, rfl, hL4, ?_, ?_⟩
      · show ixN _ (((i : Nat) : Int) + ((j : Nat) : Int)) = _
        rw [ep]
        exact Evl.ixN_nat (by rw [iV_len, vec_len]; exact hp)
      refine ⟨_, _, rfl, fun c o nc e => ?_, ?_⟩
      · rw [upd_ne nc, upd_ne (ne_of_none (q3 c o nc e) hT2)]
        exact q3 c o nc e
      · unfold Li
        rw [upd_same]
        show some (HO.lst ((iV (vec N (rw_ xs ys i j))).set (i + j) (.int (rw_ xs ys i j (i + j) + n * m)))) = _
        rw [iV_set, vec_set (g := rw_ xs ys i (j + 1)) (by rw [rw_step, getD_at hn, getD_at hm]) fun p hp => rw_other hp]
    · rintro σ H3 ⟨v5, v6, rfl, q3, hL3⟩
      refine ⟨_, _, _, _, rfl, q3, ?_⟩
      rw [iV_len, vec_congr (g := rw_ xs ys (i + 1) 0) fun p _ => rw_end xs ys i p] at hL3
      exact hL3
  · rintro σ H' ⟨v3, v4, v5, v6, rfl, q, hL⟩
    rw [iV_len, vec_congr (g := cf xs ys xs.length) fun i _ => rw_0 _ _ _ _] at hL
    exact k H' v3 v4 v5 v6 q hL
/-- a polynomial that may be handed over: at most 16 numbers below 2 ^ 64 -/
def Pn (ns : List Int) : Prop := Pol ns ∧ ns.length ≤ 16 ∧ ∀ x ∈ ns, -(2 ^ 64) < x ∧ x < 2 ^ 64
def spTwo (m : List Int → List Int → List Int) : Sp := fun vs H Q _ => ∃ (a b : Addr) (xs ys : List Int), vs = [.ref a, .ref b] ∧ Li H a xs ∧ Li H b ys ∧ Pn xs ∧ Pn ys ∧ Evl.RetL (iV (m xs ys)) H Q
structure T2 (mg : Str → Option Value) : Prop where
  len : mg "len" = none
  max : mg "max" = none
  rng : mg "range" = none
  enu : mg "enumerate" = none
section
variable {base : Heap} {mg : Str → Option Value} {K : PySem.W.Frag} {w : World} {P : Program}
theorem tru_list {H : Hp} {a : Addr} {ns : List Int} (h : Li H a ns) : TruV K (.ref a) H (!(iV ns).isEmpty) := .inl ⟨_, SqL.of h, rfl⟩
end
end V2


namespace V2
open PySem L2
open PySem.Spec PyProof.Rows
theorem max_len (n m : Nat) : (if (m : Int) > (n : Int) then (m : Int) else (n : Int)) = ((max n m : Nat) : Int) := by
  split <;> omega
theorem gt_len (n m k : Nat) (h : k = max n m) : (if (m : Int) > (n : Int) then (m : Int) else (n : Int)) = (k : Int) := by
  rw [h]; exact max_len n m
/-- a list made longer by zeros -/
def pad (ns : List Int) (N : Nat) : List Int := ns ++ List.replicate (N - ns.length) 0
theorem pad_at {ns : List Int} {N i : Nat} (h : i < N) (hl : ns.length ≤ N) : (pad ns N)[i]? = some (ns.getD i 0) := by
  unfold pad
  by_cases h1 : i < ns.length
  · rw [List.getElem?_append_left h1, List.getD_eq_getElem?_getD, List.getElem?_eq_getElem h1]; rfl
  · rw [List.getElem?_append_right (by omega), getD_out (by omega), List.getElem?_replicate, if_pos (by omega)]
theorem iV_app (xs ys : List Int) : iV xs ++ iV ys = iV (xs ++ ys) := by unfold iV; rw [List.map_append]
theorem given_vec (n : Nat) (g : Nat → Int) : Evl.given n (fun _ => true) (fun i => .int (g i)) = iV (vec n g) := by
  unfold Evl.given iV vec
  rw [List.filter_eq_self.mpr (by simp), List.map_map]
  rfl
/-- xs + [0] * (n - len(xs)) -/
theorem el_pad {K : PySem.W.Frag} {σ : L2.St} {H : Hp} {i j : Nat} {a : Addr} {xs : List Int} {n : Nat} (hi : σ[i]? = some (some (.ref a))) (hj : σ[j]? = some (some (.int (n : Int)))) (ha : Li H a xs) (hl : xs.length ≤ n) (hn : n ≤ 100) :
    Evl.EvL (tOp rCat (tVar i) (tOp rRep (tLst (tCons (tC (.int 0)) tNil)) (tOp (rI0 fun i j => .int (i - j)) (tVar j) (tCB (Evl.rLenS K) (tCons (tVar i) tNil))))) σ H (iV (pad xs n)) := by
  intro H1 e1 Q k
  have ha1 : Li H1 a xs := e1 _ _ ha
  refine ⟨_, hi, (by show 1 ≤ sizeLine; decide), fun p hp => ?_⟩
  have e2 : Evl.Ex H1 (upd H1 p (.lst [.int 0])) := Evl.Ex.new hp
  refine ⟨_, hj, _, hi, a, _, rfl, .inl (SqL.of (e2 _ _ ha1)), _, _, rfl, rfl, p, _, _, rfl, rfl, upd_same, by rw [iV_len]; omega, by rw [iV_len]; omega, ?_, fun q hq => ?_⟩
  · rw [iV_len]
    show 1 * _ ≤ sizeLine
    exact Nat.le_trans (by omega) (show 100 ≤ sizeLine by decide)
  have e3 := e2.trans (Evl.Ex.new (o := .lst (List.replicate ((n : Int) - ((iV xs).length : Int)).toNat [V.int 0]).flatten) hq)
  refine ⟨a, q, _, _, rfl, rfl, e3 _ _ ha1, upd_same, ?_, fun r hr2 => ?_⟩
  · simp only [iV_len, rep_flat, List.length_replicate]
    exact Nat.le_trans (by omega) (show 100 ≤ sizeLine by decide)
  refine k r _ (Evl.fresh_back e3 hr2) (e3.trans (Evl.Ex.new hr2)) ?_
  rw [upd_same, rep_flat, iV_len, ← iV_rep, iV_app, show ((n : Int) - (xs.length : Int)).toNat = n - xs.length by omega]
  rfl
/-- [mine[k] + yours[k] for k in range(n)] -/
theorem el_sums {K : PySem.W.Frag} {σ : L2.St} {H : Hp} {im iy jn jk : Nat} {a b : Addr} {xs ys : List Int} {n : Nat} (hn : σ[jn]? = some (some (.int (n : Int)))) (ha : Li H a (pad xs n)) (hb : Li H b (pad ys n)) (hx : xs.length ≤ n) (hy : ys.length ≤ n) (h100 : n ≤ 100)
    (hw : ∀ x, wipe ((wipe σ [jk]).set jk (some x)) [jk] = wipe σ [jk]) (hm : ∀ x, ((wipe σ [jk]).set jk (some x))[im]? = some (some (.ref a))) (hyy : ∀ x, ((wipe σ [jk]).set jk (some x))[iy]? = some (some (.ref b))) (hk : ∀ x, ((wipe σ [jk]).set jk (some x))[jk]? = some (some x)) :
    Evl.EvL (tLc (iRng1 (tCons (tVar jn) tNil)) (gName jk) tYes (tOp (rI0 fun i j => .int (i + j)) (tOp (rIxL K) (tVar im) (tVar jk)) (tOp (rIxL K) (tVar iy) (tVar jk))) [jk]) σ H (iV (vec n fun k => xs.getD k 0 + ys.getD k 0)) := by
  have h := Evl.el_lcR1 (σ := σ) (H := H) (ta := tCons (tVar jn) tNil) (j := jk) (vs := [jk]) (t := tYes) (te := tOp (rI0 fun i j => .int (i + j)) (tOp (rIxL K) (tVar im) (tVar jk)) (tOp (rIxL K) (tVar iy) (tVar jk))) (n := (n : Int)) (fun _ => true) (fun k => .int (xs.getD k 0 + ys.getD k 0))
    (Evl.ea_cons (Evl.ev_var hn) Evl.ea_nil) ⟨by omega, by omega⟩ hw (fun i H1 _ _ => fun H2 e2 Q q => q H2 (Evl.Ex.refl _)) (fun i H1 e1 hi _ => ?_)
  · rw [Int.toNat_natCast, given_vec] at h
    exact h
  · have hi : i < n := by omega
    exact Evl.ev_op (Evl.ev_op (Evl.ev_var (hm _)) (Evl.ev_var (hk _)) (Evl.rv_ixL (SqL.of (e1 _ _ ha)) (atI_nat (iV_at (pad_at hi hx)))))
      (Evl.ev_op (Evl.ev_var (hyy _)) (Evl.ev_var (hk _)) (Evl.rv_ixL (SqL.of (e1 _ _ hb)) (atI_nat (iV_at (pad_at hi hy))))) Evl.rv_I0
section
variable {base : Heap} {mg : Str → Option Value} {K : PySem.W.Frag} {w : World} {P : Program}
end
end V2


namespace V2
/-! ## what a polynomial is at a fraction p by q -/
def hT (p q : Int) : List Int → Int
  | [] => 0
  | a :: r => hT p q r * p + a * q ^ r.length
def hA (p q : Int) : List Int → Int
  | [] => 0
  | a :: r => a * q ^ (r.length + 1) + p * hA p q r
theorem hT_hA (p q : Int) : ∀ l : List Int, hT p q l * q = hA p q l
  | [] => by show (0 : Int) * q = 0; exact Int.zero_mul q
  | a :: r => by
    show (hT p q r * p + a * q ^ r.length) * q = a * q ^ (r.length + 1) + p * hA p q r
    rw [← hT_hA p q r, Int.pow_succ, Int.add_mul, Int.add_comm]
    congr 1
    · rw [Int.mul_assoc]
    · rw [Int.mul_comm (hT p q r) p, Int.mul_assoc]
theorem hA_snoc (p q : Int) (a : Int) : ∀ l : List Int, hA p q (l ++ [a]) = hA p q l * q + a * p ^ l.length * q
  | [] => by
    show a * q ^ (0 + 1) + p * 0 = 0 * q + a * p ^ 0 * q
    simp [Int.pow_succ]
  | b :: r => by
    show b * q ^ ((r ++ [a]).length + 1) + p * hA p q (r ++ [a]) = (b * q ^ (r.length + 1) + p * hA p q r) * q + a * p ^ (r.length + 1) * q
    rw [hA_snoc p q a r, List.length_append, List.length_singleton, Int.pow_succ q (r.length + 1), Int.pow_succ p, Int.add_mul, Int.mul_add]
    have e1 : b * (q ^ (r.length + 1) * q) = b * q ^ (r.length + 1) * q := by rw [Int.mul_assoc]
    have e2 : p * (hA p q r * q) = p * hA p q r * q := by rw [Int.mul_assoc]
    have e3 : p * (a * p ^ r.length * q) = a * (p ^ r.length * p) * q := by simp only [Int.mul_assoc, Int.mul_comm, Int.mul_left_comm]
    rw [e1, e2, e3, Int.add_assoc]
theorem hT_drop (p q : Int) (l : List Int) (k : Nat) (x : Int) (hk : k < l.length) (h : l[l.length - 1 - k]? = some x) : hT p q (l.drop (l.length - (k + 1))) = hT p q (l.drop (l.length - k)) * p + x * q ^ k := by
  have e1 : l.drop (l.length - (k + 1)) = x :: l.drop (l.length - k) := by
    have h2 : l.length - (k + 1) < l.length := by omega
    rw [List.drop_eq_getElem_cons h2]
    have h3 : l[l.length - (k + 1)] = x := by
      have : l[l.length - (k + 1)]? = some x := by rw [show l.length - (k + 1) = l.length - 1 - k by omega]; exact h
      rw [List.getElem?_eq_getElem h2] at this
      exact Option.some.inj this
    rw [h3, show l.length - (k + 1) + 1 = l.length - k by omega]
  rw [e1]
  show hT p q (l.drop (l.length - k)) * p + x * q ^ (l.drop (l.length - k)).length = _
  rw [List.length_drop, show l.length - (l.length - k) = k by omega]
theorem npow_lt {q : Int} {n : Nat} (h : q.natAbs < 2 ^ n) : ∀ k, (q ^ k).natAbs < 2 ^ (n * k + 1)
  | 0 => by
    rw [Nat.mul_zero, Nat.zero_add, Int.pow_zero]
    decide
  | k + 1 => by
    rw [Int.pow_succ, Int.natAbs_mul, Nat.mul_succ, show n * k + n + 1 = n * k + 1 + n by omega, Nat.pow_add]
    exact Nat.mul_lt_mul'' (npow_lt h k) h
theorem hT_lt {p q : Int} (hp : p.natAbs < 2 ^ 50) (hq : q.natAbs < 2 ^ 50) : ∀ (l : List Int), (∀ x ∈ l, x.natAbs < 2 ^ 64) → (hT p q l).natAbs < 2 ^ (65 + 51 * l.length)
  | [], _ => by show (0 : Int).natAbs < _; exact Nat.pow_pos (by decide)
  | a :: r, h => by
    have h1 := hT_lt hp hq r fun x hx => h x (List.mem_cons_of_mem _ hx)
    have h2 := npow_lt hq r.length
    have ha := h a List.mem_cons_self
    have m1 : (hT p q r * p).natAbs < 2 ^ (65 + 51 * r.length + 50) := by
      (rw [Int.natAbs_mul, Nat.pow_add])
      exact Nat.mul_lt_mul'' h1 hp
    have m2 : (a * q ^ r.length).natAbs < 2 ^ (64 + (50 * r.length + 1)) := by
      (rw [Int.natAbs_mul, Nat.pow_add])
      exact Nat.mul_lt_mul'' ha h2
    have m3 : (2 : Nat) ^ (64 + (50 * r.length + 1)) ≤ 2 ^ (65 + 51 * r.length + 50) := Nat.pow_le_pow_right (by decide) (by omega)
    have m4 : (2 : Nat) ^ (65 + 51 * (r.length + 1)) = 2 ^ (65 + 51 * r.length + 50) * 2 := by
      rw [← Nat.pow_succ]; congr 1
    show (hT p q r * p + a * q ^ r.length).natAbs < 2 ^ (65 + 51 * (r.length + 1))
    rw [m4]
    omega
theorem hA_lt {p q : Int} (hp : p.natAbs < 2 ^ 50) (hq : q.natAbs < 2 ^ 50) {l : List Int} (h : ∀ x ∈ l, x.natAbs < 2 ^ 64) : (hA p q l).natAbs < 2 ^ (115 + 51 * l.length) := by
  rw [← hT_hA, Int.natAbs_mul, show 115 + 51 * l.length = 65 + 51 * l.length + 50 by omega, Nat.pow_add]
  exact Nat.mul_lt_mul'' (hT_lt hp hq l h) hq
theorem qpos {q : Int} (h : 0 < q) (k : Nat) : 0 < q ^ k := Int.pow_pos h
/-- one step of the law's sum -/
theorem at_step {p q : Int} (hq : 0 < q) (pre : List Int) (a : Int) :
    let F := fr (hA p q pre) (q ^ pre.length)
    let W := fr (p ^ pre.length) (q ^ pre.length)
    let M := fr (a * W.1) (1 * W.2)
    fr (F.1 * M.2 + M.1 * F.2) (F.2 * M.2) = fr (hA p q (pre ++ [a])) (q ^ (pre.length + 1)) := by
  intro F W M
  have qk := qpos hq pre.length
  have f2 : 0 < F.2 := fr_pos qk
  have w2 : 0 < W.2 := fr_pos qk
  have w2' : 0 < 1 * W.2 := by omega
  have m2 : 0 < M.2 := fr_pos w2'
  have e1 : F.1 * q ^ pre.length = hA p q pre * F.2 := fr_val qk
  have e2 : W.1 * q ^ pre.length = p ^ pre.length * W.2 := fr_val qk
  have e3 : M.1 * (1 * W.2) = a * W.1 * M.2 := fr_val w2'
  refine fr_eq (Int.mul_pos f2 m2) (qpos hq _) ?_
  generalize F.1 = x1 at *
  generalize F.2 = x2 at *
  generalize M.1 = y1 at *
  generalize M.2 = y2 at *
  generalize W.1 = z1 at *
  generalize W.2 = z2 at *
  rw [hA_snoc, Int.pow_succ]
  generalize hA p q pre = A at *
  generalize p ^ pre.length = pk at *
  generalize q ^ pre.length = Qk at *
  rw [Int.one_mul] at e3
  have e4 : y1 * Qk = a * pk * y2 := by
    refine Int.eq_of_mul_eq_mul_right (Int.ne_of_gt w2) ?_
    calc y1 * Qk * z2 = (y1 * z2) * Qk := by simp only [Int.mul_assoc, Int.mul_comm, Int.mul_left_comm]
      _ = a * z1 * y2 * Qk := by rw [e3]
      _ = a * y2 * (z1 * Qk) := by simp only [Int.mul_assoc, Int.mul_comm, Int.mul_left_comm]
      _ = a * y2 * (pk * z2) := by rw [e2]
      _ = a * pk * y2 * z2 := by simp only [Int.mul_assoc, Int.mul_comm, Int.mul_left_comm]
  calc (x1 * y2 + y1 * x2) * (Qk * q) = (x1 * Qk) * (y2 * q) + (y1 * Qk) * (x2 * q) := by rw [Int.add_mul]; congr 1 <;> simp only [Int.mul_assoc, Int.mul_comm, Int.mul_left_comm]
    _ = (A * x2) * (y2 * q) + (a * pk * y2) * (x2 * q) := by rw [e1, e4]
    _ = (A * q + a * pk * q) * (x2 * y2) := by rw [Int.add_mul]; congr 1 <;> simp only [Int.mul_assoc, Int.mul_comm, Int.mul_left_comm]
theorem pw_step {p q : Int} (hq : 0 < q) (hc : Int.gcd p q = 1) (k : Nat) : fr ((fr (p ^ k) (q ^ k)).1 * p) ((fr (p ^ k) (q ^ k)).2 * q) = fr (p ^ (k + 1)) (q ^ (k + 1)) := by
  have qk := qpos hq k
  have e := fr_val (a := p ^ k) qk
  have f2 := fr_pos (u := p ^ k) qk
  refine fr_eq (Int.mul_pos f2 hq) (qpos hq _) ?_
  rw [Int.pow_succ, Int.pow_succ]
  generalize (fr (p ^ k) (q ^ k)).1 = x at *
  generalize (fr (p ^ k) (q ^ k)).2 = y at *
  generalize p ^ k = pk at *
  generalize q ^ k = Qk at *
  calc x * p * (Qk * q) = (x * Qk) * (p * q) := by simp only [Int.mul_assoc, Int.mul_comm, Int.mul_left_comm]
    _ = (pk * y) * (p * q) := by rw [e]
    _ = pk * p * (y * q) := by simp only [Int.mul_assoc, Int.mul_comm, Int.mul_left_comm]
/-- both tell one number -/
theorem val_same {p q : Int} (hq : 0 < q) (l : List Int) (h : l ≠ []) : fr (hT p q l) (q ^ (l.length - 1)) = fr (hA p q l) (q ^ l.length) := by
  refine fr_eq (qpos hq _) (qpos hq _) ?_
  obtain ⟨n, e⟩ : ∃ n, l.length = n + 1 := ⟨l.length - 1, by have := List.length_pos_iff.mpr h; omega⟩
  rw [e, Nat.add_sub_cancel, Int.pow_succ, ← hT_hA]
  simp only [Int.mul_assoc, Int.mul_comm, Int.mul_left_comm]
end V2


namespace V2
open PySem L2
open PySem.Spec PyProof.Rows
/-- a fraction's tuple at a -/
def Fr (H : Hp) (a : Addr) (p q : Int) : Prop := H a = some (.tup [.int p, .int q])
def Qn (p q : Int) : Prop := 0 < q ∧ Int.gcd p q = 1 ∧ p.natAbs < 2 ^ 50 ∧ q.natAbs < 2 ^ 50
/-- the value of a polynomial at a fraction, a new fraction -/
def spVal : Sp := fun vs H Q _ => ∃ (a b : Addr) (xs : List Int) (p q : Int), vs = [.ref a, .ref b] ∧ Li H a xs ∧ Fr H b p q ∧ Pn xs ∧ Qn p q ∧ RetU [.int (fr (hA p q xs) (q ^ xs.length)).1, .int (fr (hA p q xs) (q ^ xs.length)).2] H Q
/-- its numerator and denominator, not in lowest terms -/
def spScaled : Sp := fun vs H Q _ => ∃ (a b : Addr) (xs : List Int) (p q : Int), vs = [.ref a, .ref b] ∧ Li H a xs ∧ Fr H b p q ∧ Pn xs ∧ Qn p q ∧ RetU [.int (hT p q xs), .int (q ^ (xs.length - 1))] H Q
theorem n64 {x : Int} (h : -(2 ^ 64) < x ∧ x < 2 ^ 64) : x.natAbs < 2 ^ 64 := by
  have e : (2 : Int) ^ 64 = 18446744073709551616 := by decide
  have e2 : (2 : Nat) ^ 64 = 18446744073709551616 := by decide
  rw [e] at h
  rw [e2]
  omega
section
variable {base : Heap} {mg : Str → Option Value} {K : PySem.W.Frag} {w : World} {P : Program}
end
end V2


namespace V2
open PySem L2
open PySem.Spec PyProof.Rows
theorem big {x : Int} {n m : Nat} (h : x.natAbs < 2 ^ n) (l : n ≤ m) : x.natAbs < 2 ^ m := Nat.lt_of_lt_of_le h (Nat.pow_le_pow_right (by decide) l)
theorem take_len {xs : List Int} {i : Nat} (h : i ≤ xs.length) : (xs.take i).length = i := by rw [List.length_take]; omega
theorem take_snoc {xs : List Int} {i : Nat} {x : Int} (h : xs[i]? = some x) : xs.take (i + 1) = xs.take i ++ [x] := by
  rw [List.take_add_one, h]; rfl
section
variable {base : Heap} {mg : Str → Option Value} {K : PySem.W.Frag} {w : World} {P : Program}
end
end V2


namespace V2
open PySem L2
open PySem.Spec PyProof.Rows
structure T3 (mg : Str → Option Value) : Prop where
  isi : mg "isinstance" = none
  int : mg "int" = none
  bool : mg "bool" = none
  lst : mg "list" = none
  tup : mg "tuple" = none
  len : mg "len" = none
  all : mg "all" = none
  gcd : mg "gcd" = some (.builtin "math.gcd")
def spInt : Sp := fun vs H Q _ => ∃ n : Int, vs = [.int n] ∧ Evl.RetV (.bl true) H Q
def spPol : Sp := fun vs H Q _ => ∃ (a : Addr) (ns : List Int), vs = [.ref a] ∧ Li H a ns ∧ Pn ns ∧ Evl.RetV (.bl true) H Q
def spIsFr : Sp := fun vs H Q _ => ∃ (a : Addr) (p q : Int), vs = [.ref a] ∧ Fr H a p q ∧ Qn p q ∧ Evl.RetV (.bl true) H Q
def spChk : Sp := fun vs H Q _ => ∃ (l : Addr) (as : List Addr), vs = [.ref l] ∧ H l = some (.lst (as.map V.ref)) ∧ as.length ≤ 10 ∧ (∀ a ∈ as, ∃ ns, Li H a ns ∧ Pn ns) ∧ Evl.RetV .non H Q
def spChkFr : Sp := fun vs H Q _ => ∃ (a : Addr) (p q : Int), vs = [.ref a] ∧ Fr H a p q ∧ Qn p q ∧ Evl.RetV .non H Q
theorem atI_end {ns : List Int} (h0 : ns ≠ []) : ∃ x, ns[ns.length - 1]? = some x ∧ atI (iV ns) (-1) = some (.int x) := by
  have e := List.dropLast_concat_getLast h0
  refine ⟨ns.getLast h0, ?_, ?_⟩
  · rw [← List.getLast?_eq_getElem?, List.getLast?_eq_some_getLast h0]
  · have e2 : iV ns = iV ns.dropLast ++ [.int (ns.getLast h0)] := by
      conv => lhs; rw [← e]
      unfold iV
      rw [List.map_append]
      rfl
    rw [e2]
    exact atI_last _ _
theorem rep_snoc (n : Nat) (x : V) : List.replicate n x ++ [x] = List.replicate (n + 1) x := by
  rw [List.replicate_succ']
section
variable {base : Heap} {mg : Str → Option Value} {K : PySem.W.Frag} {w : World} {P : Program}
theorem ok_is_integer {f : Addr} {fd : FuncData} (F : Fun K "is_integer" "is_integer" s_is_integer f fd) (T : T3 mg) : FnOk P w K mg base CX0 1 f fd p_is_integer spInt := by
  refine F.ok sc_is_integer (fun vs H Q E h => ?_) (fun cdv A outer s H vs Q E hr h => ?_)
  · obtain ⟨n, rfl, _⟩ := h
    rfl
  · obtain ⟨n, rfl, k⟩ := h
    refine ⟨_, pss_one (ps_ret (pe_and (pe_callB call_isi (by rfl) T.isi (by decide +kernel) (pa_cons (pv 0) (pa_cons (pe_bltn (v := .ty "int") (by rfl) T.int (by decide +kernel) rfl) pa_nil)))
      (pe_one (pe_not (pe_callB call_isi (by rfl) T.isi (by decide +kernel) (pa_cons (pv 0) (pa_cons (pe_bltn (v := .ty "bool") (by rfl) T.bool (by decide +kernel) rfl) pa_nil))))))), ?_⟩
    refine ⟨_, rfl, _, _, _, _, true, rfl, .ty "int", .base (.int n), kit_ty (by decide +kernel), true, rfl, if_t rfl ?_⟩
    refine ⟨_, rfl, _, _, _, _, false, rfl, .ty "bool", .base (.int n), kit_ty (by decide +kernel), false, rfl, ?_⟩
    exact k _ (Evl.Ex.refl _)
theorem ok_is_fraction {f : Addr} {fd : FuncData} (F : Fun K "is_fraction" "is_fraction" s_is_fraction f fd) (T : T3 mg) (cI : Cal P w K mg base 1 "is_integer" p_is_integer spInt) : FnOk P w K mg base CX0 2 f fd p_is_fraction spIsFr := by
  refine F.ok sc_is_fraction (fun vs H Q E h => ?_) (fun cdv A outer s H vs Q E hr h => ?_)
  · obtain ⟨a, p, q, rfl, _⟩ := h
    rfl
  · obtain ⟨a, p, q, rfl, ha, ⟨q0, qc, pb, qb⟩, k⟩ := h
    have nd := sc_is_fraction.nd
    refine ⟨_, pss_cons (ps_if (PW.pt (pw_or (pt_not (pt_val (pe_callB call_isi (by rfl) T.isi (by decide +kernel) (pa_cons (pv 0) (pa_cons (pe_bltn (v := .ty "tuple") (by rfl) T.tup (by decide +kernel) rfl) pa_nil)))))
        (pw_or1 (pt_cmpR op_ne (pe_callB call_len_seq (by rfl) T.len PySem.boot_len (pa_cons (pv 0) pa_nil)) pe_int (nomark _))))) (pss_one (ps_ret pe_bl)) pss_nil)
      (pss_cons (ps_asg (pv 0) (pg_tup rfl (pgs_cons (pg_name (i := 1) nd rfl (Or.inl rfl)) (pgs_cons (pg_name (i := 2) nd rfl (Or.inl rfl)) pgs_nil))))
      (pss_one (ps_ret (pe_and (pe_c cI hr (pa_cons (pv 1) pa_nil)) (pe_and (pe_c cI hr (pa_cons (pv 2) pa_nil)) (pe_and (pe_cmpR op_ge (pv 2) pe_int (nomark _)) (pe_one (pe_cmpR op_eq (pe_callBfun cr_gcd (by rfl) T.gcd (pa_cons (pv 1) (pa_cons (pv 2) pa_nil))) pe_int (nomark _))))))))), ?_⟩
    refine ⟨_, rfl, _, _, _, _, true, rfl, .ty "tuple", .base (.tup ha), kit_ty (by decide +kernel), true, rfl, if_f rfl ?_⟩
    refine ⟨_, rfl, a, _, rfl, .inr (SqT.of ha), rfl, false, rfl, if_f rfl ?_⟩
    refine ⟨_, rfl, a, _, rfl, SqT.of ha, rfl, _, _, rfl, _, _, rfl, rfl, ?_⟩
    refine ⟨_, rfl, p, rfl, fun H1 e1 => ⟨_, rfl, if_t rfl ⟨_, rfl, q, rfl, fun H2 e2 => ⟨_, rfl, if_t rfl ⟨_, rfl, _, _, rfl, rfl, _, rfl, if_t (decide_eq_true (by omega)) ?_⟩⟩⟩⟩⟩
    refine ⟨_, rfl, _, rfl, p, q, rfl, rfl, ?_⟩
    have e : decide (V.int ((Nat.gcd p.natAbs q.natAbs : Nat) : Int) = V.int 1) = true := decide_eq_true (by
      have : Nat.gcd p.natAbs q.natAbs = 1 := qc
      rw [this]; rfl)
    show Q (.bl (decide (V.int ((Nat.gcd p.natAbs q.natAbs : Nat) : Int) = V.int 1))) H2
    rw [e]
    exact k _ (e1.trans e2)
end
end V2


namespace V2
open PySem L2
open PySem.Spec PyProof.Rows
/-- keywords alone -/
def CalK (P : Program) (w : World) (K : PySem.W.Frag) (mg : Str → Option Value) (base : Heap) (k : Nat) (x : Str) (ps ks : List Str) (gV : List V → List V) (sp : Sp) : Prop :=
  ∃ (f : Addr) (fd : FuncData) (g : List Value → List Value → List Value), FnOk P w K mg base CX0 k f fd ps sp ∧ mg x = some (.ref f) ∧ PySem.W.keepIn K (.ref f) = true ∧ KBn K fd ps 0 ks g (fun _ zs => gV zs)
theorem pe_ck {X : Cx} {k : Nat} {x : Str} {ps ks : List Str} {gV : List V → List V} {sp : Sp} {kws : List Keyword} {t : TA} {p pos : Pos} (c : CalK X.prog X.w X.K X.mg X.base k x ps ks gV sp) (hr : Room k X.A) (hkw : PK X kws t) (hg : Gl X x := by rfl)
    (hall : (backToKw pos (keywordEach kws X.env)).all (fun b => b.1.isSome) = true := by rfl)
    (hks : (backToKw pos (keywordEach kws X.env)).filterMap (fun b => b.1) = ks := by rfl) (hdb : (x == ("__debug__" : Str)) = false := by decide)
    (hpl : ((backTo pos (starEach [] X.env)).any (fun b => b.1) || (backToKw pos (keywordEach kws X.env)).any (fun b => b.1.isNone)) = false := by rfl) :
    PE X (.Call (.Name x p) [] kws pos) (fun σ H Q => t σ H fun zs H1 => zs.length = ks.length ∧ sp (gV zs) H1 Q E0) := by
  obtain ⟨f, fd, g, F, hm, hk, hb⟩ := c
  constructor
  intro pins s σ H Q I h
  apply wpAny_Call_Name_kw
  apply ld_glob I hg hm _ hdb
  apply PySem.W.callWith_KW0 (h₀ := X.base) I.ok.mod.kin hk hall _ hpl
  apply thn (hkw.run pos pins s σ H _ I h)
  rintro ws s2 ⟨zs, H2, I2, rz, l2, q2⟩
  rw [hks]
  exact ⟨I2.kIn, run_fnN (us := []) (vs := []) F hr hb pass0 I2 .nil rz rfl l2 q2⟩
section
variable {base : Heap} {mg : Str → Option Value} {K : PySem.W.Frag} {w : World} {P : Program}
end
end V2


namespace V2
open PySem L2
open PySem.Spec PyProof.Rows
/-! ## defs that show things: they are called where no repr is under way -/
structure FnG (P : Program) (w : World) (K : PySem.W.Frag) (mg : Str → Option Value) (base : Heap) (k : Nat) (f : Addr) (fd : FuncData) (ps : List Str) (sp : Sp) : Prop where
  len : ∀ vs H Qv Ee, sp vs H Qv Ee → vs.length = ps.length
  run : ∀ (A : Around) (outer : List Env) (s : Shared) (H : Hp) (args : Args) (us : List Value) (vs : List V) (Q : VK) (E : XK), A.guards = some [] → Room k A → Env0 P w K mg base A outer s H → BindsTo s fd args (ps.zip us) → Vals vs us → sp vs H Q E →
    codeAny (model P w) A (.call (.ref f) args) (CR CX0 outer P w H s Q E) s
theorem guards_deeper (A : Around) (env : Env) : (A.deeper env).guards = A.guards := rfl
/-- a def by its body, the way in told -/
theorem Fun.okG {P : Program} {w : World} {K : PySem.W.Frag} {mg : Str → Option Value} {base : Heap} {x qual : Str} {st : Stmt} {f : Addr} {fd : FuncData} {N ps : List Str} {k : Nat} {sp : Sp} (F : Fun K x qual st f fd) (S : FnScope N ps (defScope st))
    (len : ∀ vs H Qv Ee, sp vs H Qv Ee → vs.length = ps.length)
    (hbody : ∀ (cdv : Value) (A : Around) (outer : List Env) (s : Shared) (H : Hp) (vs : List V) (Q : VK) (E : XK), A.guards = some [] → Room k (A.deeper (envOfC qual (defScope st) s.heap.objs.size f cdv)) → sp vs H Q E →
      ∃ t, PSs (cxOf CX0 P w K mg base N qual (defScope st) f cdv A outer s H E).nox (defBody st) t ∧ t { nx := fun _ H' => Q .non H', rt := Q } (start N vs) H) :
    FnG P w K mg base (k + 1) f fd ps sp := by
  obtain ⟨ow, oe, kw, dc, pn, am, cdv, cu, sl, rfl, lk, hcd⟩ := F.ex
  constructor
  · exact len
  intro A outer s H args us vs Q E hg hr e0 hb r hsp
  have hl := len vs H Q E hsp
  have st1 : ∀ b o, base.get? b = some o → s.heap.get? b = some o := fun b o e => (e0.bs b o e).1
  have KX : K.In s.heap := e0.mod.kin.keeps st1
  have lim := e0.mod.nolimit.keeps st1
  have kinds : ∀ y ∈ ps.zip us, (defScope st).names.lookup y.1 = some .local ∨ ((defScope st).names.lookup y.1 = some .cell ∧ ((cellsFrom (s.heap.objs.size + 1) (defScope st).names []).lookup y.1).isSome = true) := by
    rintro ⟨n, v⟩ hy
    cases S.par n (List.of_mem_zip hy).1 with
    | inl q => exact .inl q
    | inr q => exact .inr ⟨q, PySem.W.cellsFrom_some _ _ _ (.inl q)⟩
  apply codeAny_call_function hr.depth (KX _ _ lk) rfl S.co S.gen rfl (PySem.W.codeRec_of KX hcd)
  apply hb
  apply wpAny_newFunctionEnv_cells S.kind kinds
  rintro env rfl s1 ic
  constructor
  · exact lim.keeps ic.toInCall.keep
  apply codeAny_func
  obtain ⟨t, ht, hq⟩ := hbody cdv A outer s H vs Q E hg (hr.deeper _) hsp
  have I := inv_start (CX := CX0) (E := E) (qual := qual) (f := f) (cd := cdv) S hr.hd e0 hl r ic
  apply wpAny_mono (ht.nox.run [] s1 (start N vs) H _ I hq)
  · intro fl s' hs
    cases fl with
    | ret u =>
      obtain ⟨v, σ', Hb, J, rr, q⟩ := hs
      exact ⟨v, Hb, J.os, J.bare, J.base, J.hok, rr, q⟩
    | next =>
      obtain ⟨σ', H', J, q⟩ := hs
      exact ⟨V.non, H', J.os, J.bare, J.base, J.hok, rfl, q⟩
    | brk => exact hs.elim fun _ z => z.elim fun _ z => z.2.elim
    | cont => exact hs.elim fun _ z => z.elim fun _ z => z.2.elim
  · exact fun e s' hs => hs
theorem FnOk.toG {P : Program} {w : World} {K : PySem.W.Frag} {mg : Str → Option Value} {base : Heap} {k : Nat} {f : Addr} {fd : FuncData} {ps : List Str} {sp : Sp} (F : FnOk P w K mg base CX0 k f fd ps sp) : FnG P w K mg base k f fd ps sp :=
  ⟨F.len, fun A outer s H args us vs Q E _ => F.run A outer s H args us vs Q E⟩
def CalG (P : Program) (w : World) (K : PySem.W.Frag) (mg : Str → Option Value) (base : Heap) (k : Nat) (x : Str) (ps : List Str) (sp : Sp) : Prop :=
  ∃ (f : Addr) (fd : FuncData), FnG P w K mg base k f fd ps sp ∧ mg x = some (.ref f) ∧ PySem.W.keepIn K (.ref f) = true ∧ Binds K fd ps []
theorem pe_cg {X : Cx} {k : Nat} {x : Str} {ps : List Str} {sp : Sp} {e : Expr} {es : List Expr} {t : TA} {p pos : Pos} (c : CalG X.prog X.w X.K X.mg X.base k x ps sp) (hgd : X.A.guards = some []) (hr : Room k X.A) (ha : PA X (e :: es) t) (hg : Gl X x := by rfl)
    (he : starEach (e :: es) X.env = (false, eval e X.env) :: starEach es X.env := by rfl)
    (hpl : (backTo pos (starEach es X.env)).any (fun b => b.1) = false := by rfl) (hdb : (x == ("__debug__" : Str)) = false := by decide) :
    PE X (.Call (.Name x p) (e :: es) [] pos) (tCall sp [] E0 t) := by
  obtain ⟨f, fd, F, hm, hk, hb⟩ := c
  constructor
  intro pins s σ H Q I h
  apply wpAny_Call_Name_kw
  apply ld_glob I hg hm _ hdb
  refine PySem.W.callWith_K (h₀ := X.base) I.ok.mod.kin hk ?_ he hpl
  apply thn (ha.run pos pins s σ H _ I h)
  rintro us s1 ⟨vs, H1, I1, r, q⟩
  refine ⟨I1.kIn, ?_⟩
  (show wpAny _ _ (call (.ref f) us) _ _ _)
  have q : sp (vs ++ []) H1 Q E0 := q
  rw [List.append_nil] at q
  have hl : us.length = ps.length := by rw [← Paired.length r]; exact F.len _ _ _ _ q
  have bb := hb s1 us I1.kIn (by rw [List.append_nil]; exact hl)
  rw [List.append_nil] at bb
  apply wpAny_call
  apply codeAny_mono (F.run X.A X.stack s1 H1 ⟨us, []⟩ us vs Q E0 hgd hr I1.env0 bb r q)
  intro r' s' hq
  cases r' with
  | error e => exact hq.elim
  | ok fl =>
    cases fl with
    | ret u => exact I1.after hq
    | next => exact hq.elim
    | brk => exact hq.elim
    | cont => exact hq.elim
/-- repr of what is data -/
def rShow (K : PySem.W.Frag) : List V → Hp → VK → Prop := fun xs H Q => ∃ (a : Addr) (d : PyData), xs = [.ref a] ∧ Dp K H (.ref a) d ∧ d.showable = true ∧ d.hasDict = false ∧ d.depth ≤ 60 ∧ d.shown.length ≤ sizeLine ∧ Q (.str d.shown) H
theorem call_show {X : Cx} (hgd : X.A.guards = some []) (hu : X.A.units + 64 < cLine) : CallR X (.builtin "repr") (rShow X.K) := by
  intro pins
  intro s σ H xs us Q I r h
  obtain ⟨a, d, rfl, hd, hs, hn, hp, hz, q⟩ := h
  obtain ⟨u, rfl, ru⟩ : ∃ u, us = [u] ∧ RelV (.ref a) u := by
    cases r with
    | cons ra rb =>
      cases rb
      exact ⟨_, rfl, ra⟩
  have eu : u = Value.ref a := ru
  subst eu
  obtain ⟨as, rd⟩ := Dp.reads I d (.ref a) (.ref a) hd rfl
  apply repr_of_reads' rd hs (fun z => by rw [hn] at z; cases z) hgd (by omega) (fun _ _ e => e) _ hz
  intro h' u tk k
  exact ⟨.str d.shown, H, I.kept (t' := tk) k, ⟨u, rfl⟩, q⟩
end V2


namespace V2
open PySem L2
open PySem.Spec PyProof.Rows
/-! ## the law's own call -/
/-- it says True and leaves what it found -/
def Fine (s₁ : Shared) : Result → Shared → Prop := fun r s2 =>
  r = .ok (.ret (.bool true)) ∧ OldK s₁.heap s2.heap ∧ s2.os = s₁.os ∧ AllBare s2.gens
section
variable {P : Program} {w : World} {K : PySem.W.Frag} {mg mb : Str → Option Value} {k : Nat} {fa a : Addr} {fd : FuncData} {x : Str} {sp : Sp} {s₁ : Shared} {vs : List Value} {ns : List Int}
/-- from an abstract heap that tracks the script at most -/
theorem core_G (KX : K.In s₁.heap) (hns : s₁.heap.Ns mainGlobals mg) (hb : s₁.heap.Ns builtinsNs mb) (hbb : ∀ x : Str, x ≠ "__name__" → mb x = bootBuiltins x) (hlim : s₁.heap.NoLimit) (hg : s₁.gens = #[])
    (ha : s₁.heap.get? a = some { cls := .type "list", data := .seq vs.toArray }) (hr : Room k callerA)
    (F : ∀ base : Heap, K.In base → base.Ns mainGlobals mg → FnG P w K mg base k fa fd [x] sp) (hbind : ∀ (s : Shared) (u : Value), BindsTo s fd ⟨[u], []⟩ [(x, u)])
    (H : Hp) (hO : Only H) (hq : sp [.ref a] H (fun v _ => v = .bl true) fun _ _ _ => False) (hok : HOk P w H s₁.heap) (hA : ∀ b u, H b = some u → b = a) (hK : ∀ u, H a = some u → K.lookup a = none) :
    codeAny (model P w) callerA (.call (.ref fa) ⟨[.ref a], []⟩) (Fine s₁) s₁ := by
  have dictNo : ∀ {b : Addr} {o : Obj} {es : Array DictEntry} {ep : Nat}, s₁.heap.get? b = some o → o.data = .dict es ep → H b = none := by
    intro b o es ep e d
    cases q : H b with
    | none => rfl
    | some u =>
      obtain rfl := hA b u q
      rw [ha] at e
      cases e
      cases d
  have hideNs : ∀ {b : Addr} {m : Str → Option Value}, s₁.heap.Ns b m → (hidT s₁.heap H).Ns b m := by
    rintro b m ⟨o, es, ep, e, d, r⟩
    exact ⟨o, es, ep, hidT_get e (dictNo e d), d, r⟩
  have hKb : K.In (hidT s₁.heap H) := by
    intro b o e
    apply hidT_get (KX b o e)
    cases q : H b with
    | none => rfl
    | some u =>
      obtain rfl := hA b u q
      rw [hK u q] at e
      cases e
  have hM : Mod K mg (hidT s₁.heap H) := by
    obtain ⟨mc, h1, h2⟩ := hlim
    exact ⟨hKb, hideNs hns, ⟨mb, hideNs hb, hbb⟩, ⟨mc, hideNs h1, h2⟩⟩
  have none_ : ∀ b ∈ frs [], H b = none := by
    intro b hb
    cases (show b ∈ ([] : List Addr) from hb)
  have e0 : Env0 P w K mg (hidT s₁.heap H) callerA [] s₁ H := ⟨rfl, hM, fun b o e => of_hidT e, Nat.le_of_eq (hidT_size _ _), trivial, none_, hok, .of_eq hg⟩
  apply codeAny_mono ((F _ hKb (hideNs hns)).run callerA [] s₁ H ⟨[.ref a], []⟩ [.ref a] [.ref a] _ _ rfl hr e0 (hbind s₁ (.ref a)) (.cons rfl .nil) hq)
  intro r s' h
  cases r with
  | error e => exact h.elim
  | ok fl =>
    cases fl with
    | next => exact h.elim
    | brk => exact h.elim
    | cont => exact h.elim
    | ret u =>
      obtain ⟨v, H', os, bare, un, hok', r', rfl⟩ := h
      have eu : u = Value.bool true := r'
      subst eu
      refine ⟨rfl, OldK.of_keep ?_, os, bare⟩
      intro b o e
      cases q : H b with
      | none => exact un.keep b o e q (by intro z; cases (show b ∈ ([] : List Addr) from z)) (by intro z; cases z)
      | some u =>
        (rcases hO b with z | ⟨ob, xs, z⟩)
        · rw [q] at z; cases z
        · have e1 := (hok b _ z).1
          have e2 := (hok' b _ (un.frzs b ob _ z)).1
          rw [e] at e1
          cases e1
          exact e2
theorem law_G (KX : K.In s₁.heap) (hns : s₁.heap.Ns mainGlobals mg) (hb : s₁.heap.Ns builtinsNs mb) (hbb : ∀ x : Str, x ≠ "__name__" → mb x = bootBuiltins x) (hlim : s₁.heap.NoLimit) (hg : s₁.gens = #[])
    (ha : s₁.heap.get? a = some { cls := .type "list", data := .seq vs.toArray })
    (hi : IntsAre vs ns) (hl : ns.length ≤ sizeLine) (hr : Room k callerA)
    (F : ∀ base : Heap, K.In base → base.Ns mainGlobals mg → FnG P w K mg base k fa fd [x] sp) (hbind : ∀ (s : Shared) (u : Value), BindsTo s fd ⟨[u], []⟩ [(x, u)])
    (hsp : ∀ H : Hp, Only H → SqL K H a (ns.map V.int) → sp [.ref a] H (fun v _ => v = .bl true) fun _ _ _ => False) :
    codeAny (model P w) callerA (.call (.ref fa) ⟨[.ref a], []⟩) (Fine s₁) s₁ := by
  have rv := vals_ints hi
  have lenV := hi.length
  cases hk : K.lookup a with
  | some o =>
    have e := KX a o hk
    rw [ha] at e
    cases e
    have hS : SqL K (fun _ => none) a (ns.map V.int) := .inr ⟨_, vs.toArray, _, hk, rfl, rfl, rfl, by rw [List.size_toArray, lenV]; exact hl, by simpa using rv⟩
    have hO : Only (fun _ => none) := fun _ => .inl rfl
    exact core_G KX hns hb hbb hlim hg ha hr F hbind _ hO (hsp _ hO hS) (fun b u z => by cases (show (none : Option HO) = some u from z)) (fun b u z => by cases (show (none : Option HO) = some u from z)) fun u z => by cases (show (none : Option HO) = some u from z)
  | none =>
    let H : Hp := fun b => if b = a then some (.frz { cls := .type "list", data := .seq vs.toArray } (.lst (ns.map V.int))) else none
    have at_a : H a = some (.frz { cls := .type "list", data := .seq vs.toArray } (.lst (ns.map V.int))) := if_pos rfl
    have off : ∀ b u, H b = some u → b = a := by
      intro b u z
      by_cases e : b = a
      · exact e
      · rw [show H b = none from if_neg e] at z; cases z
    have hO : Only H := by
      intro b
      by_cases e : b = a
      · exact .inr ⟨_, _, by rw [e]; exact at_a⟩
      · exact .inl (if_neg e)
    have hok : HOk P w H s₁.heap := by
      intro b u z
      obtain rfl := off b u z
      rw [at_a] at z
      cases z
      (exact ⟨ha, by rw [List.length_map]; exact hl, vs, _, rv, ha⟩)
    exact core_G KX hns hb hbb hlim hg ha hr F hbind H hO (hsp H hO (.inl (.inr ⟨_, at_a⟩))) hok off fun _ _ => hk
end
theorem walk_G {l : PySem.W.OpenLaw} {n k : Nat} {q : Program} {loose : List Str} {XP : (Str → Option Value) → Heap → Prop} {YP : World → Heap → Prop} {d : DefRec} {K : Params → PySem.W.Frag} {sp : PySem.W.Frag → Sp} {x : Str}
    (hn : l.most = some n) (hn2 : n ≤ sizeLine)
    (hdf : d.params.defaults = []) (hr : Room k callerA)
    (hY : ∀ (w : World) (hp : Heap), YP w hp → (K w.params).In hp)
    (F : ∀ (w : World) (mg : Str → Option Value) (fa : Addr) (hp : Heap), (K w.params).In hp → hp.Ns mainGlobals mg → mg d.name = some (.ref fa) →
      ∃ fd : FuncData, (∀ (s : Shared) (u : Value), BindsTo s fd ⟨[u], []⟩ [(x, u)]) ∧ ∀ base : Heap, (K w.params).In base → base.Ns mainGlobals mg → FnG l.prog w (K w.params) mg base k fa fd [x] (sp (K w.params)))
    (hsp : ∀ (K : PySem.W.Frag) (H : Hp) (a : Addr) (ns : List Int), ns.length ≤ n → Only H → SqL K H a (ns.map V.int) → sp K [.ref a] H (fun v _ => v = .bl true) fun _ _ _ => False) :
    PySem.W.WalkO q loose XP YP l.row.toRowW d []
      (fun f us => PySem.call f us) := by
  apply Att.attach_call hn hdf
  intro w s₀ s₁ mg mb fa o pm cd doc a vs ns G Y ho hd hcd hmg hobj hints hlen hg
  obtain ⟨fd, hb, hF⟩ := F w mg fa _ (hY w _ Y) G.T.g hmg
  exact law_G (hY w _ Y) G.T.g G.T.b G.T.builtins G.T.nolimit hg hobj hints (Nat.le_trans hlen hn2) hr hF hb fun H hO hS => hsp _ H a ns hlen hO hS
end V2


namespace V2
open PySem L2
open PySem.Spec PyProof.Rows
/-! ## the head by one kernel run: what is looked at behind the top -/
/-- a def, by where it stands -/
structure DfX where
  adr : PySem.W.Frag → Addr
  nm : Str
  ql : Str
  st : Stmt
abbrev RwX : Type := Option (Str × Str × Arguments × FuncBody × Scope × Addr × List (Str × Addr) × Value × Addr)
def DfX.seen (K : PySem.W.Frag) (d : DfX) : RwX := match K.lookup (d.adr K) with
  | some ⟨_, _, .func g, _⟩ => some (g.name, g.qualname, g.params, g.body, g.scope, g.globals, g.closure, g.defaults, g.builtins)
  | _ => none
def DfX.due (d : DfX) : RwX := some (d.nm, d.ql, defArgs d.st, .stmts (defBody d.st), defScope d.st, mainGlobals, [], .none, builtinsNs)
def DfX.good (K : PySem.W.Frag) (d : DfX) : Bool := PySem.W.keepIn K (.ref (d.adr K)) && (match K.lookup (d.adr K) with
  | some ⟨_, _, .func g, _⟩ => PySem.W.codeIn K g.code d.ql
  | _ => false)
theorem DfX.fun_ {K : PySem.W.Frag} {d : DfX} (e : d.seen K = d.due) (c : d.good K = true) : ∃ fd, Fun K d.nm d.ql d.st (d.adr K) fd := by
  obtain ⟨kp, c⟩ := He.ba c
  unfold DfX.seen at e
  cases q : K.lookup (d.adr K) with
  | none =>
    rw [q] at c
    cases c
  | some o =>
    obtain ⟨oc, od, dt, sl⟩ := o
    rw [q] at c e
    cases dt with
    | func g =>
      obtain ⟨g1, g2, g3, g4, g5, g6, g7, g8, g9, g10, g11, g12, g13, g14, g15⟩ := g
      have e : (some (g1, g2, g3, g4, g5, g6, g7, g8, g15) : RwX) = some (d.nm, d.ql, defArgs d.st, .stmts (defBody d.st), defScope d.st, mainGlobals, [], .none, builtinsNs) := e
      simp only [Option.some.injEq, Prod.mk.injEq] at e
      obtain ⟨rfl, rfl, rfl, rfl, rfl, rfl, rfl, rfl, rfl⟩ := e
      exact ⟨_, fun_mk q c kp⟩
    | _ => cases c
/-- the words of a dict -/
abbrev TbX : Type := Option (List (Option Str × Int) × Bool)
def wordOf : Value → Option Str
  | .str x _ => some x
  | _ => none
def tabX (K : PySem.W.Frag) (a : Addr) : TbX := match K.lookup a with
  | some ⟨.type c, none, .dict es _, sl⟩ => some (es.toList.map fun e => (wordOf e.key, e.hash), decide (c = "dict") && (sl.size == 0 && !(a == sysModules)))
  | _ => none
def tabDue (w : World) (xs : List Str) : TbX := some (xs.map fun x => (some x, PyData.keyHash w.params x), true)
theorem lit_of (P : Params) : ∀ (es : List DictEntry) (xs : List Str), (es.map fun e => (wordOf e.key, e.hash)) = (xs.map fun x => (some x, PyData.keyHash P x)) → PySem.W.KeysLit P es
  | [], _, _ => trivial
  | e :: es, [], h => by cases h
  | e :: es, x :: xs, h => by
    simp only [List.map_cons, List.cons.injEq, Prod.mk.injEq] at h
    obtain ⟨⟨h1, h2⟩, h3⟩ := h
    refine ⟨?_, lit_of P es xs h3⟩
    obtain ⟨hh, hk, hv⟩ := e
    cases hk with
    | str y t =>
      cases h1
      exact ⟨_, _, rfl, h2⟩
    | _ => cases h1
theorem tab_ok {K : PySem.W.Frag} {w : World} {a : Addr} {xs : List Str} (e : tabX K a = tabDue w xs) : ∃ es n, KDict K w a es n := by
  unfold tabX at e
  cases q : K.lookup a with
  | none =>
    rw [q] at e
    cases e
  | some o =>
    obtain ⟨oc, od, dt, sl⟩ := o
    rw [q] at e
    cases oc with
    | type c =>
      cases od with
      | none =>
        cases dt with
        | dict es n =>
          have e : (some (es.toList.map fun e => (wordOf e.key, e.hash), decide (c = "dict") && (sl.size == 0 && !(a == sysModules))) : TbX) = some (xs.map fun x => (some x, PyData.keyHash w.params x), true) := e
          simp only [Option.some.injEq, Prod.mk.injEq] at e
          obtain ⟨e1, e2⟩ := e
          obtain ⟨c1, c2⟩ := He.ba e2
          obtain ⟨c3, c4⟩ := He.ba c2
          have hc := of_decide_eq_true c1
          have hs : sl = #[] := Array.eq_empty_of_size_eq_zero (by simpa using c3)
          subst hc
          subst hs
          exact ⟨es, n, q, lit_of _ _ _ e1, by simpa using c4⟩
        | _ => cases e
      | some d => cases dt <;> cases e
    | _ => cases od <;> cases dt <;> cases e
/-- the getter of a property -/
def gt (K : PySem.W.Frag) (C p : Str) : Addr := match PySem.W.recIn K (He.ma K (He.ga K C) p) "property" with
  | some (.ref g :: _) => g
  | _ => 0
def bCls (C : Str) (K : PySem.W.Frag) : Bool := (He.Fa.cls C).ok K
def bMk (C : Str) (K : PySem.W.Frag) : Bool := (He.Fa.mkr C).ok K
def bMeth (C m : Str) (K : PySem.W.Frag) : Bool := (He.Fa.meth C m).ok K
def bNo (C f : Str) (K : PySem.W.Frag) : Bool := (He.Fa.noat C f).ok K
def bGlo (x : Str) (K : PySem.W.Frag) : Bool := (He.Fa.glo x).ok K
def bFree (x : Str) (K : PySem.W.Frag) : Bool := (He.Fa.free x).ok K
def bCal (C : Str) (K : PySem.W.Frag) : Bool := He.eqO (PySem.W.findIn K (.ref (He.ga K C)) "__call__") (some (some (.ref (He.ma K (He.ga K C) "__call__")))) && (PySem.W.isFn K (.ref (He.ma K (He.ga K C) "__call__")) && PySem.W.fnIn K (He.ma K (He.ga K C) "__call__"))
def bProp (C f : Str) (K : PySem.W.Frag) : Bool := He.eqO (PySem.W.findIn K (.ref (He.ga K C)) f) (some (some (.ref (He.ma K (He.ga K C) f)))) && (He.eqO (PySem.W.specialIn K (.ref (He.ma K (He.ga K C) f)) "__get__") (some (some (.builtin "property.__get__"))) && (decide (PySem.W.takesIn K (.ref (He.ma K (He.ga K C) f)) = some true) && (match PySem.W.recIn K (He.ma K (He.ga K C) f) "property" with
  | some (.ref _ :: _) => true
  | _ => false)))
def bBlt (x : Str) (b : String) (K : PySem.W.Frag) : Bool := He.eqO (PySem.W.nsIn K mainGlobals x) (some (some (.builtin b)))
/-- nobody has set the limit of digits -/
def bNoDig (K : PySem.W.Frag) : Bool := He.eqO (PySem.W.nsIn K cStatics "sys.int_max_str_digits") (some none)
/-- an entry of a dict of a global name: a text, an int -/
def bInt (a x : Str) (i : Int) (K : PySem.W.Frag) : Bool := match PySem.W.nsIn K (He.ga K a) x with
  | some (some (.int j _)) => decide (j = i)
  | _ => false
theorem cal_ok {K : PySem.W.Frag} {C : Str} (c : bCal C K = true) : StX.CallO K (He.ga K C) (He.ma K (He.ga K C) "__call__") := by
  obtain ⟨c1, c⟩ := He.ba c
  obtain ⟨c2, c3⟩ := He.ba c
  exact ⟨He.eqO_ok c1, c2, c3⟩
theorem prop_ok {K : PySem.W.Frag} {C f : Str} (c : bProp C f K = true) : PropOf K (He.ga K C) f (He.ma K (He.ga K C) f) (gt K C f) := by
  obtain ⟨c1, c⟩ := He.ba c
  obtain ⟨c2, c⟩ := He.ba c
  obtain ⟨c3, c4⟩ := He.ba c
  refine ⟨He.eqO_ok c1, He.eqO_ok c2, of_decide_eq_true c3, ?_⟩
  unfold gt
  cases q : PySem.W.recIn K (He.ma K (He.ga K C) f) "property" with
  | none =>
    rw [q] at c4
    cases c4
  | some l =>
    rw [q] at c4
    cases l with
    | nil => cases c4
    | cons v r =>
      cases v with
      | ref g => exact ⟨r, rfl⟩
      | _ => cases c4
theorem blt_ok {K : PySem.W.Frag} {h : Heap} {mg : Str → Option Value} (X : K.In h) (G : h.Ns mainGlobals mg) {x : Str} {b : String} (c : bBlt x b K = true) : mg x = some (.builtin b) := PySem.W.mg_of X G (He.eqO_ok c)
theorem dint_ok {K : PySem.W.Frag} {a x : Str} {i : Int} (c : bInt a x i K = true) : ∃ t, PySem.W.nsIn K (He.ga K a) x = some (some (.int i t)) := by
  unfold bInt at c
  cases q : PySem.W.nsIn K (He.ga K a) x with
  | none =>
    rw [q] at c
    cases c
  | some o =>
    rw [q] at c
    cases o with
    | none => cases c
    | some v =>
      cases v with
      | int j t =>
        have e := of_decide_eq_true c
        subst e
        exact ⟨t, rfl⟩
      | _ => cases c
/-! ### the Hook -/
abbrev AlX : Type := Bool × Bool × List RwX × List TbX
structure Lk where
  fb : List (PySem.W.Frag → Bool)
  ds : List DfX
  tb : List (Str × List Str)
def Lk.seen (L : Lk) (K : PySem.W.Frag) : AlX := (L.fb.all fun f => f K, L.ds.all fun d => d.good K, L.ds.map (·.seen K), L.tb.map fun t => tabX K (He.ga K t.1))
def Lk.due (L : Lk) (w : World) : AlX := (true, true, L.ds.map (·.due), L.tb.map fun t => tabDue w t.2)
/-- a list of objects, its addresses read once -/
def frK {α : Type} : PySem.W.Frag → (PySem.W.Frag → α) → α
  | [], k => k []
  | (a, o) :: r, k => HandSHeadRun.frNat a fun a => frK r fun r => k ((a, o) :: r)
theorem frK_eq {α : Type} : ∀ (K : PySem.W.Frag) (k : PySem.W.Frag → α), frK K k = k K
  | [], k => rfl
  | (a, o) :: r, k => by
    show HandSHeadRun.frNat a (fun a => frK r fun r => k ((a, o) :: r)) = _
    rw [HandSHeadRun.frNat_eq, frK_eq r]
/-- the first n objects -/
def Lk.off (L : Lk) (n : Nat) (g : Addr → Option Obj) : AlX := frK (He.frG g (List.range n)) fun K => L.seen K
def Lk.hook (L : Lk) (n : Nat) : PySem.W.Hook where
  α := AlX
  obs := fun s => L.off n s.heap.get?
  val := L.due
  says := fun w h => ∃ K : PySem.W.Frag, K.In h ∧ L.seen K = L.due w
  of := fun _ _ e => ⟨_, He.frG_in, (frK_eq _ _).symm.trans e⟩
  keeps := fun _ _ _ ⟨K, hK, c⟩ k => ⟨K, PySem.W.Frag.In.keeps hK k, c⟩
theorem Lk.off_eq {L : Lk} {n : Nat} {g : Addr → Option Obj} {s : Shared} (h : ∀ a, g a = s.heap.get? a) : L.off n g = (L.hook n).obs s := by
  have e : g = s.heap.get? := funext h
  rw [e] <;> rfl
section
variable {L : Lk} {K : PySem.W.Frag} {w : World}
theorem Lk.fact (c : L.seen K = L.due w) (i : Nat) {f : PySem.W.Frag → Bool} (h : L.fb[i]? = some f := by rfl) : f K = true := List.all_eq_true.mp (congrArg (fun z : AlX => z.1) c) f (List.mem_of_getElem? h)
theorem Lk.df (c : L.seen K = L.due w) (i : Nat) {d : DfX} (h : L.ds[i]? = some d := by rfl) : ∃ fd, Fun K d.nm d.ql d.st (d.adr K) fd := by
  have c2 : (L.ds.all fun d => d.good K) = true := congrArg (fun z : AlX => z.2.1) c
  have e : L.ds.map (·.seen K) = L.ds.map (·.due) := congrArg (fun z : AlX => z.2.2.1) c
  have e2 : (L.ds.map (·.seen K))[i]? = (L.ds.map (·.due))[i]? := by rw [e]
  rw [List.getElem?_map, List.getElem?_map, h] at e2
  exact DfX.fun_ (Option.some.inj e2) (List.all_eq_true.mp c2 d (List.mem_of_getElem? h))
theorem Lk.tab (c : L.seen K = L.due w) (i : Nat) {t : Str × List Str} (h : L.tb[i]? = some t := by rfl) : ∃ es n, KDict K w (He.ga K t.1) es n := by
  have e : (L.tb.map fun t => tabX K (He.ga K t.1)) = L.tb.map fun t => tabDue w t.2 := congrArg (fun z : AlX => z.2.2.2) c
  have e2 : (L.tb.map fun t => tabX K (He.ga K t.1))[i]? = (L.tb.map fun t => tabDue w t.2)[i]? := by rw [e]
  rw [List.getElem?_map, List.getElem?_map, h] at e2
  exact tab_ok (Option.some.inj e2)
end
/-- the run of a program with imports at its head -/
noncomputable abbrev whK (M : Nat) (r : PySem.W.OpenRow) (w : World) : Option (Shared × PySem.W.SharedT) := HandSHeadRun.wholeF (fun p => HandSHeadRun.stepQ (HandSHeadRun.denQ HandSHeadRun.tabQ) p w) HandSHeadRun.fenceQ M r.prog
noncomputable def lk0 (r : PySem.W.OpenRow) (q : Program) (loose : List Str) (x : Shared × PySem.W.SharedT) := (HandSHeadRun.looksF r.prog x.1.heap x.2.abs, HandSHeadRun.seenQ q loose (importedModules r.prog.main.body) (fun s => PySem.W.xlAt q [] s && PySem.W.recOk r.toRowW.records s) x.2.abs)
def lk1 (L : Lk) (n : Nat) (x : Shared × PySem.W.SharedT) : Bool × List TbX := frK (He.frG (HandSHeadRun.getT x.2) (List.range n)) fun K => (L.fb.all fun f => f K, L.tb.map fun t => tabX K (He.ga K t.1))
def lk2 (L : Lk) (n : Nat) (x : Shared × PySem.W.SharedT) : Bool := frK (He.frG (HandSHeadRun.getT x.2) (List.range n)) fun K => L.ds.all fun d => d.good K
def lk3 (L : Lk) (n : Nat) (x : Shared × PySem.W.SharedT) : List RwX := frK (He.frG (HandSHeadRun.getT x.2) (List.range n)) fun K => L.ds.map (·.seen K)
theorem Lk.run_parts {L : Lk} {n M : Nat} {r : PySem.W.OpenRow} {q : Program} {loose : List Str} {w : World} (h0 : (whK M r w).map (lk0 r q loose) = some (true, PySem.W.openGood q loose))
    (h1 : (whK M r w).map (lk1 L n) = some (true, L.tb.map fun t => tabDue w t.2)) (h2 : (whK M r w).map (lk2 L n) = some true) (h3 : (whK M r w).map (lk3 L n) = some (L.ds.map (·.due))) :
    HandSHeadRun.RunEqI r q (L.hook n) (fun s => L.off n (HandSHeadRun.getT s)) M loose w := by
  unfold HandSHeadRun.RunEqI
  show (whK M r w).map _ = _
  cases e : whK M r w with
  | none =>
    rw [e] at h0
    cases h0
  | some x =>
    rw [e] at h0 h1 h2 h3
    have h0 := Option.some.inj h0
    have h1 := Option.some.inj h1
    have h2 := Option.some.inj h2
    have h3 := Option.some.inj h3
    unfold lk0 at h0
    unfold lk1 at h1
    unfold lk2 at h2
    unfold lk3 at h3
    rw [frK_eq] at h1 h2 h3
    obtain ⟨a1, a2⟩ := Prod.mk.inj h0
    obtain ⟨b1, b2⟩ := Prod.mk.inj h1
    refine congrArg some ?_
    refine Prod.ext a1 (Prod.ext a2 ?_)
    show L.off n (HandSHeadRun.getT x.2) = L.due w
    unfold Lk.off
    rw [frK_eq]
    exact Prod.ext b1 (Prod.ext h2 (Prod.ext h3 b2))
theorem walk_GE {l : PySem.W.OpenLaw} {n k : Nat} {q : Program} {loose : List Str} {XP : (Str → Option Value) → Heap → Prop} {YP : World → Heap → Prop} {d : DefRec} {x : Str}
    (hn : l.most = some n) (hn2 : n ≤ sizeLine) (hdf : d.params.defaults = []) (hr : Room k callerA)
    (F : ∀ (w : World) (mg : Str → Option Value) (fa : Addr) (h : Heap), YP w h → h.Ns mainGlobals mg → mg d.name = some (.ref fa) →
      ∃ (K : PySem.W.Frag) (fd : FuncData) (sp : Sp), K.In h ∧ (∀ (s : Shared) (u : Value), BindsTo s fd ⟨[u], []⟩ [(x, u)]) ∧
        (∀ (H : Hp) (a : Addr) (ns : List Int), ns.length ≤ n → Only H → SqL K H a (ns.map V.int) → sp [.ref a] H (fun v _ => v = .bl true) fun _ _ _ => False) ∧
        ∀ base : Heap, K.In base → base.Ns mainGlobals mg → FnG l.prog w K mg base k fa fd [x] sp) :
    PySem.W.WalkO q loose XP YP l.row.toRowW d [] (fun f us => PySem.call f us) := by
  apply Att.attach_call hn hdf
  intro w s₀ s₁ mg mb fa o pm cd doc a vs ns G Y ho hd hcd hmg hobj hints hlen hg
  obtain ⟨K, fd, sp, KX, hb, hsp, hF⟩ := F w mg fa _ Y G.T.g hmg
  exact law_G KX G.T.g G.T.b G.T.builtins G.T.nolimit hg hobj hints (Nat.le_trans hlen hn2) hr hF hb fun H hO hS => hsp H a ns hlen hO hS
end V2


/-! an own class of errors called by keywords alone -/
namespace PySem
namespace HandSPX
open PySem PySem.W PySem.Calls PyProof.Rows
section
variable {M : Model} {A : Around} {E : Value → Shared → Prop} {h : Heap} {g : Array GenState} {d : Drawn} {t : Nat} {os : OsState}
variable {nm q : Str} {C N : Addr} {bs bm bmB : List Value} {hdct : Bool} {sn : List Str} {sub : List Value} {ab : Bool} {col : Option Bool} {dd : Option Addr} {k0 k1 k2 k3 k5 : Option Value} {B newId initId : String}
theorem check_new_ownK (F : ExcBaseFacts B newId initId bmB) (hT : ∀ X : String, bm.contains (.type X) = bmB.contains (.type X)) {kw : List (Str × Value)} {Q : Unit → Shared → Prop}
    (hC : h.get? C = some (excClassObj nm q C N bs bm hdct sn sub ab col dd k0 k1 k2 k3 k5 newId)) (hq : Q () ⟨h, g, d, t, os⟩) : wpAny M A (checkBuiltinCall newId ⟨[.ref C], kw⟩) Q E ⟨h, g, d, t, os⟩ := by
  have hcont : (Value.ref C :: bm).contains (.type B) = true := by rw [List.contains_cons, hT, F.hasB, Bool.or_true]
  have hstar := F.noStar
  simp only [checkBuiltinCall, F.newKind, F.newSplit, F.newRow]
  repeat (first | refine wpAny_loadPart_at hC ?_ | (refine wpAny_isSubtype_exc hC ?_; rw [hcont]) | refine wpAny_staticBase_exc hC ?_ | refine wpAny_madeBy_exc hC ?_ | simp only [bne_self_eq_false, Bool.false_eq_true, if_false] | wp_step)
  exact hq
theorem check_tcK {kw : List (Str × Value)} {Q : Unit → Shared → Prop} (hC : h.get? C = some (excClassObj nm q C N bs bm hdct sn sub ab col dd k0 k1 k2 k3 k5 newId))
    (hq : Q () ⟨h, g, d, t, os⟩) : wpAny M A (checkBuiltinCall "type.__call__" ⟨[.ref C], kw⟩) Q E ⟨h, g, d, t, os⟩ := by
  have f3 := tc_sub
  have hT : (⟨h, g, d, t, os⟩ : Shared).TypeIs (.ref C) "type" := ⟨_, hC, rfl⟩
  simp only [checkBuiltinCall, tc_kind, tc_split]
  repeat (any_goals (first | assumption | with_reducible refine wpAny_loadPart_at hC ?_ | with_reducible refine wpAny_onRaise ?_ | with_reducible refine wpAny_map ?_ | wp_step))
end
section
variable {prog : Program} {w : World} {A : Around} {E : Value → Shared → Prop} {R : Result → Shared → Prop} {h : Heap} {g : Array GenState} {d : Drawn} {t : Nat} {os : OsState}
variable {nm q : Str} {C N : Addr} {bs bm bmB : List Value} {hdct : Bool} {sn : List Str} {sub : List Value} {ab : Bool} {col : Option Bool} {dd : Option Addr} {k0 k1 k2 k3 k5 : Option Value} {B newId initId : String}
theorem new_ownK (F : ExcBaseFacts B newId initId bmB) (hT : ∀ X : String, bm.contains (.type X) = bmB.contains (.type X)) {x : Str} {u : Value}
    (hC : h.get? C = some (excClassObj nm q C N bs bm hdct sn sub ab col dd k0 k1 k2 k3 k5 newId))
    (hq : R (.ok (.ret (.ref (h.objs.size + 1)))) ⟨(h.push { cls := .type "tuple", data := .seq (#[] : Array Value) }).push
      { cls := .ref C, data := .fields #[.ref h.objs.size, .none, .none, .none, .bool false, .none] }, g, d, t, os⟩) :
    codeAny (model prog w) A (.builtin newId ⟨[.ref C], [(x, u)]⟩) R ⟨h, g, d, t, os⟩ := by
  have hends := F.ends
  have hcB : (Value.ref C :: bm).contains (.type B) = true := by rw [List.contains_cons, hT, F.hasB, Bool.or_true]
  have hcA : (Value.ref C :: bm).contains (.type "AttributeError") = false := by rw [List.contains_cons, hT, F.noAttr]; rfl
  have hcN : (Value.ref C :: bm).contains (.type "NameError") = false := by rw [List.contains_cons, hT, F.noName]; rfl
  refine codeAny_builtinAt F.entry ?_
  unfold Builtin.«BaseException.__new__»
  refine wpAt_bind ?_
  show wpAt _ _ _ (stack >>= _) _ _ _
  refine wpAt_bind (wpAt_stack fun p below => wpAt_of_wpAny ?_)
  wp_walk
  refine wpAt_of_wpAny ?_
  rw [F.owner]
  have hrest : ([] : List Value).length ≤ sizeLine := Nat.zero_le _
  repeat (first | with_reducible refine wpAny_madeHere_exc F.canon hC ?_ | with_reducible refine wpAny_loadPart_at hC ?_ | (with_reducible refine wpAny_isSubtype_exc hC ?_; first | rw [hcB] | rw [hcA] | rw [hcN]) | wp_step)
  show R _ _
  rw [Heap.size_push]
  exact hq
theorem type_call_ownK (F : ExcBaseFacts B newId initId bmB) (hT : ∀ X : String, bm.contains (.type X) = bmB.contains (.type X)) {x : Str} {u : Value} {fI : Addr} {Q : Fin → Shared → Prop}
    (hC : h.get? C = some (excClassObj nm q C N bs bm hdct sn sub ab col dd k0 k1 k2 k3 k5 newId))
    (hi : W.Looks (model prog w) h (typeLookup (.ref C) "__init__") (some (.ref fI))) (hb : ∀ self, W.Looks (model prog w) h (bindSpecial (.ref fI) self) (.ref fI, [self]))
    (hq : codeAny (model prog w) A (.call (.ref fI) ⟨[.ref (h.objs.size + 1)], [(x, u)]⟩)
      (fun r s' => match r with | .ok (.ret v) => v = .none ∧ Q (.done (.ret (.ref (h.objs.size + 1)))) s' | .ok _ => False | .error e => E e s')
      ⟨(h.push (W.kdv_tup [])).push (excO C h.objs.size), g, d, t, os⟩) :
    wpAny (model prog w) A (Builtin.«type.__call__» ⟨[.ref C], [(x, u)]⟩) Q E ⟨h, g, d, t, os⟩ := by
  repeat (first | with_reducible refine wpAny_loadPart_at hC ?_ | with_reducible refine wpAny_madeBy_exc hC ?_ | wp_step)
  refine codeAny_call_builtin_code (Code.quiet_builtin _ F.quiet) (check_new_ownK F hT hC ?_)
  refine new_ownK F hT hC ?_
  show wpAny _ _ _ _ _ _
  have k : ∀ b o, h.get? b = some o → ((h.push (W.kdv_tup [])).push (excO C h.objs.size)).get? b = some o := fun b o e => Heap.get?_push_of_some _ (Heap.get?_push_of_some _ e)
  have hC₁ := k _ _ hC
  have hget : ((h.push (W.kdv_tup [])).push (excO C h.objs.size)).get? (h.objs.size + 1) = some (excO C h.objs.size) := by heap_get
  have hcC : (Value.ref C :: bm).contains (.ref C) = true := by simp
  have i1 := hi.keeps k
  have b1 := (hb (.ref (h.objs.size + 1))).keeps k
  unfold isInstance
  repeat (first | with_reducible refine wpAny_loadPart_at hget ?_ | (with_reducible refine wpAny_isSubtype_exc hC₁ ?_; rw [hcC]) | wp_step)
  show wpAny _ _ (typeLookup (.ref C) _) _ _ _
  refine i1.at ?_
  refine wpAny_holding (wpAny_bind (b1.at ?_))
  refine wpAny_bind (wpAny_call (codeAny_mono hq fun r s' z => ?_))
  rcases r with e | (v | _ | _ | _) <;> first | exact z | exact z.elim | skip
  obtain ⟨rfl, z⟩ := z
  first
    | exact wpAny_pure (wpAny_pure z)
    | (wp_walk; exact z)
theorem call_ownK (F : ExcBaseFacts B newId initId bmB) (hT : ∀ X : String, bm.contains (.type X) = bmB.contains (.type X)) {x : Str} {u : Value} {fI : Addr}
    (hC : h.get? C = some (excClassObj nm q C N bs bm hdct sn sub ab col dd k0 k1 k2 k3 k5 newId))
    (hi : W.Looks (model prog w) h (typeLookup (.ref C) "__init__") (some (.ref fI))) (hb : ∀ self, W.Looks (model prog w) h (bindSpecial (.ref fI) self) (.ref fI, [self]))
    (hq : codeAny (model prog w) (A.under (.builtin "type.__call__" ⟨[.ref C], [(x, u)]⟩)) (.call (.ref fI) ⟨[.ref (h.objs.size + 1)], [(x, u)]⟩) (W.InitBack (h.objs.size + 1) R)
      ⟨(h.push (W.kdv_tup [])).push (excO C h.objs.size), g, d, t, os⟩) :
    codeAny (model prog w) A (.call (.ref C) ⟨[], [(x, u)]⟩) R ⟨h, g, d, t, os⟩ := by
  have f1 := tc_lookup
  have f2 := tc_bind (.ref C)
  have hTy : (⟨h, g, d, t, os⟩ : Shared).TypeIs (.ref C) "type" := ⟨_, hC, rfl⟩
  refine codeAny_of_tree ?_
  show wpAny _ _ (callAny (.ref C) _) _ _ _
  repeat (any_goals (first | assumption | with_reducible refine wpAny_loadPart_at hC ?_ | wp_step))
  refine ⟨rfl, ?_⟩
  refine codeAny_call_builtin_at (Code.quiet_builtin _ (by decide +kernel)) entry_typeCall (check_tcK hC (type_call_ownK F hT hC hi hb ?_))
  refine codeAny_mono hq fun r s' z => ?_
  rcases r with e | (v | _ | _ | _) <;> exact z
end
end HandSPX
end PySem


namespace V2
open PySem L2
open PySem.Spec PyProof.Rows
/-! ## own errors as values: made, asked for their class, read -/
/-- what the written part says of an own class of errors, whose __init__ is fI's -/
structure EC (K : PySem.W.Frag) (C fI : Addr) : Prop where
  ox : OexC K C
  noV : PySem.W.findIn K (.ref C) "value" = some none
  iC : PySem.W.findIn K (.ref C) "__init__" = some (some (.ref fI))
  xf : XfC K C
  hcl : (PySem.W.clsIn K C).isSome = true
  ha : PySem.W.findIn K (.ref C) "__class__" = some (some (.builtin "object.__class__"))
  hm : PySem.W.mroIn K C (.type "object") = some true
/-- what is said for all of them -/
structure EG (K : PySem.W.Frag) (fI : Addr) : Prop where
  tI : PySem.W.typeIn K (.ref fI) = some (.type "function")
  hn : PySem.W.specialIn K (.builtin "object.__class__") "__get__" = some (some (.builtin "getset_descriptor.__get__"))
  ht : PySem.W.takesIn K (.builtin "object.__class__") = some true
/-- an error of the class at C, made with v, stands at e with its dict at d -/
structure Er (H : Hp) (e C d : Addr) (v : V) : Prop where
  at_ : H e = some (exo e C (some d))
  dict : H d = some (exd d [("value", v)])
theorem Er.ex {H H' : Hp} {e C d : Addr} {v : V} (h : Er H e C d v) (x : Evl.Ex H H') : Er H' e C d v := ⟨x _ _ h.at_, x _ _ h.dict⟩
def spInit (K : PySem.W.Frag) : Sp := fun vs H Q _ => ∃ (a C : Addr) (y : V), vs = [.ref a, y] ∧ OexC K C ∧ PySem.W.findIn K (.ref C) "value" = some none ∧ H a = some (exo a C none) ∧
  ∀ dx, H dx = none → dx ≠ a → Q .non (upd (upd H dx (exd dx [("value", y)])) a (exo a C (some dx)))
section
variable {base : Heap} {mg : Str → Option Value} {K : PySem.W.Frag} {w : World} {P : Program}
theorem ok_TE_init {f : Addr} {fd : FuncData} (F : Fun K "__init__" "TankError.__init__" s_TE_init f fd) : FnOk P w K mg base CX0 1 f fd p_TE_init (spInit K) := by
  refine F.ok sc_TE_init (fun vs H Q E h => ?_) (fun cdv A outer s H vs Q E hr h => ?_)
  · obtain ⟨a, C, y, rfl, _⟩ := h
    rfl
  · obtain ⟨a, C, y, rfl, T, hno, ha, k⟩ := h
    have nd := sc_TE_init.nd
    refine ⟨_, pss_one (ps_ost (pv 0) (pv 1)), ?_⟩
    exact ⟨_, rfl, _, rfl, a, C, rfl, T, hno, .inl ⟨ha, fun dx hd hn => k dx hd hn⟩⟩
end
/-- C(e) as a value -/
def tExV (C : Addr) (ta : TA) : TE := fun σ H Q => ta σ H fun vs H1 => ∃ y, vs = [y] ∧ ∀ (a d : Addr) (H2 : Hp), H1 a = none → H1 d = none → d ≠ a → Evl.Ex H1 H2 → Er H2 a C d y → Q (.ref a) H2
theorem exv_heap {H1 : Hp} {a d C : Addr} {y : V} (ha : H1 a = none) (hd : H1 d = none) (hn : d ≠ a) :
    Evl.Ex H1 (upd (upd (upd H1 a (exo a C none)) d (exd d [("value", y)])) a (exo a C (some d))) ∧ Er (upd (upd (upd H1 a (exo a C none)) d (exd d [("value", y)])) a (exo a C (some d))) a C d y := by
  refine ⟨fun b o h => ?_, ⟨upd_same, ?_⟩⟩
  · rw [upd_ne (ne_of_none h ha), upd_ne (ne_of_none h hd), upd_ne (ne_of_none h ha)]
    exact h
  · rw [upd_ne hn, upd_same]
section
variable {X : Cx} {x : Str} {C fI : Addr} {k : Nat} {fd : FuncData} {e : Expr} {ta : TA} {p pos : Pos}
theorem run_exv {pins : List (Addr × Obj)} {σ : L2.St} {H1 : Hp} {s1 : Shared} {Q : VK} {us : List Value} {u : Value} {y : V} {args : Args} {hp2 : Heap} {A' : Around}
    (T : EC X.K C fI) (F1 : FnOk X.prog X.w X.K X.mg X.base CX0 k fI fd ["self", "value"] (spInit X.K)) (I1 : Inv X pins σ H1 s1) (ry : RelV y u) (hr : Room k A')
    (e2 : hp2 = (s1.heap.push (PySem.W.kdv_tup us)).push (PySem.HandSPX.excO C s1.heap.objs.size))
    (hE : ∀ (I2 : Inv X pins σ (upd H1 (s1.heap.objs.size + 1) (exo (s1.heap.objs.size + 1) C none)) { s1 with heap := hp2 }), Env0 X.prog X.w X.K X.mg X.base A' X.stack { s1 with heap := hp2 } (upd H1 (s1.heap.objs.size + 1) (exo (s1.heap.objs.size + 1) C none)))
    (hB : X.K.In hp2 → BindsTo { s1 with heap := hp2 } fd args ((["self", "value"] : List Str).zip [Value.ref (s1.heap.objs.size + 1), u]))
    (q : ∀ (a d : Addr) (H2 : Hp), H1 a = none → H1 d = none → d ≠ a → Evl.Ex H1 H2 → Er H2 a C d y → Q (.ref a) H2) :
    codeAny (model X.prog X.w) A' (.call (.ref fI) args) (PySem.W.InitBack (s1.heap.objs.size + 1) fun r s' => match r with | .ok (.ret v) => EP X pins σ Q v s' | _ => False) { s1 with heap := hp2 } := by
  obtain ⟨hp, g, dr, tk, os⟩ := s1
  subst e2
  have hsz : hp.objs.size ≤ hp.objs.size + 1 := Nat.le_succ _
  have hn : H1 (hp.objs.size + 1) = none := I1.hok.fresh hsz
  have kk : ∀ b o, hp.get? b = some o → ((hp.push (PySem.W.kdv_tup us)).push (PySem.HandSPX.excO C hp.objs.size)).get? b = some o := fun b o e => Heap.get?_push_of_some _ (Heap.get?_push_of_some _ e)
  have hget : ((hp.push (PySem.W.kdv_tup us)).push (PySem.HandSPX.excO C hp.objs.size)).get? (hp.objs.size + 1) = some (PySem.HandSPX.excO C hp.objs.size) := by heap_get
  have I2 : Inv X pins σ (upd H1 (hp.objs.size + 1) (exo (hp.objs.size + 1) C none)) ⟨(hp.push (PySem.W.kdv_tup us)).push (PySem.HandSPX.excO C hp.objs.size), g, dr, tk, os⟩ :=
    I1.laid (t' := tk) (a := hp.objs.size + 1) (o := exo (hp.objs.size + 1) C none) (h' := (hp.push (PySem.W.kdv_tup us)).push (PySem.HandSPX.excO C hp.objs.size)) kk hsz (exo_ok hget)
  have r2 : Vals [V.ref (hp.objs.size + 1), y] [Value.ref (hp.objs.size + 1), u] := .cons rfl (.cons ry .nil)
  have hq : spInit X.K [V.ref (hp.objs.size + 1), y] (upd H1 (hp.objs.size + 1) (exo (hp.objs.size + 1) C none)) (fun v H2 => v = .non ∧ Q (.ref (hp.objs.size + 1)) H2) E0 := by
    refine ⟨_, C, y, rfl, T.ox, T.noV, upd_same, fun dx hd hne => ⟨rfl, ?_⟩⟩
    rw [upd_ne hne] at hd
    obtain ⟨z1, z2⟩ := exv_heap (C := C) (y := y) hn hd hne
    exact q _ dx _ hn hd hne z1 z2
  refine codeAny_mono (F1.run _ X.stack _ _ args [Value.ref (hp.objs.size + 1), u] _ _ E0 hr (hE I2) (hB I2.kIn) r2 hq) fun r s' hq' => ?_
  cases r with
  | error er => exact hq'.elim
  | ok fl =>
    cases fl with
    | ret u' =>
      obtain ⟨v, H2, os2, bare2, un2, hok2, rv, ev, q2⟩ := hq'
      subst ev
      refine ⟨rv, ⟨.ref (hp.objs.size + 1), H2, ?_, rfl, q2⟩⟩
      exact I1.call' (ch := []) os2 ((Un.laid kk hsz hn).trans un2) hok2 bare2 (fun b z => absurd z (by simp))
    | next => exact hq'.elim
    | brk => exact hq'.elim
    | cont => exact hq'.elim
theorem pe_exv (T : EC X.K C fI) (G : EG X.K fI) (F1 : FnOk X.prog X.w X.K X.mg X.base CX0 k fI fd ["self", "value"] (spInit X.K)) (hr : Room (k + 1) X.A) (hb : Binds X.K fd ["self", "value"] []) (hg : Gl X x) (hm : X.mg x = some (.ref C)) (ha : PA X [e] ta)
    (hdb : (x == ("__debug__" : Str)) = false := by decide) (he : starEach [e] X.env = (false, eval e X.env) :: starEach [] X.env := by rfl) (hpl : (backTo pos (starEach [] X.env)).any (·.1) = false := by rfl) :
    PE X (.Call (.Name x p) [e] [] pos) (tExV C ta) := by
  refine ⟨fun pins s σ H Q I h => ?_⟩
  obtain ⟨nm, q, N, bs, bm, sn, sub, ab, col, dd, k0, k1, k2, k3, k5, hC, hbm⟩ := T.ox.cls
  refine wpAny_Call_Name_kw (ld_glob I hg hm ?_ hdb)
  refine PySem.W.callWith_K (h₀ := X.base) I.ok.mod.kin T.ox.kC (thn (ha.run pos pins s σ H _ I h) fun us s1 ⟨vs, H1, I1, r1, y, ev, q1⟩ => ⟨I1.kIn, ?_⟩) he hpl
  subst ev
  obtain ⟨u, rfl, ry⟩ : ∃ u, us = [u] ∧ RelV y u := by
    cases r1 with
    | cons ra rb =>
      cases rb
      exact ⟨_, rfl, ra⟩
  · show wpAny _ _ (call (.ref C) [u]) _ _ _
    obtain ⟨hp, g, dr, tk, os⟩ := s1
    have one : [u].length ≤ sizeLine := by show 1 ≤ sizeLine; decide
    refine wpAny_call (PySem.HandSPX.call_own F.excBase_ValueError (fun Y => PySem.HandSPX.refsVE_contains Y bm hbm) (I1.kIn _ _ hC) (PySem.W.looks_findIn I1.kIn T.iC) (fun self => PySem.W.bind_fn I1.kIn self G.tI) one
      (codeAny_mono (run_exv (us := [u]) T F1 I1 ry (hr.make C [u] []) rfl (fun I2 => I2.env0.make C [u] []) (fun Xk => hb _ [Value.ref (hp.objs.size + 1), u] Xk rfl) q1) fun r s' hq' => ?_))
    cases r with
    | error er => exact hq'.elim
    | ok fl =>
      cases fl with
      | ret u' => exact hq'
      | next => exact hq'.elim
      | brk => exact hq'.elim
      | cont => exact hq'.elim
theorem pe_exk {kws : List Keyword} (T : EC X.K C fI) (G : EG X.K fI) (F1 : FnOk X.prog X.w X.K X.mg X.base CX0 k fI fd ["self", "value"] (spInit X.K)) (hr : Room (k + 1) X.A) (hb : KBn X.K fd ["self", "value"] 1 ["value"] (fun us ws => us ++ ws) (fun vs zs => vs ++ zs)) (hg : Gl X x) (hm : X.mg x = some (.ref C)) (hkw : PK X kws ta)
    (hdb : (x == ("__debug__" : Str)) = false := by decide) (hall : (backToKw pos (keywordEach kws X.env)).all (fun b => b.1.isSome) = true := by rfl) (hks : (backToKw pos (keywordEach kws X.env)).filterMap (fun b => b.1) = (["value"] : List Str) := by rfl)
    (hpl : ((backTo pos (starEach [] X.env)).any (fun b => b.1) || (backToKw pos (keywordEach kws X.env)).any (fun b => b.1.isNone)) = false := by rfl) :
    PE X (.Call (.Name x p) [] kws pos) (tExV C ta) := by
  refine ⟨fun pins s σ H Q I h => ?_⟩
  obtain ⟨nm, q, N, bs, bm, sn, sub, ab, col, dd, k0, k1, k2, k3, k5, hC, hbm⟩ := T.ox.cls
  refine wpAny_Call_Name_kw (ld_glob I hg hm ?_ hdb)
  refine PySem.W.callWith_KW0 (h₀ := X.base) I.ok.mod.kin T.ox.kC hall (thn (hkw.run pos pins s σ H _ I h) fun us s1 ⟨vs, H1, I1, r1, y, ev, q1⟩ => ?_) hpl
  subst ev
  rw [hks]
  refine ⟨I1.kIn, ?_⟩
  obtain ⟨u, rfl, ry⟩ : ∃ u, us = [u] ∧ RelV y u := by
    cases r1 with
    | cons ra rb =>
      cases rb
      exact ⟨_, rfl, ra⟩
  · show wpAny _ _ (call (.ref C) [] [("value", u)]) _ _ _
    obtain ⟨hp, g, dr, tk, os⟩ := s1
    refine wpAny_call (PySem.HandSPX.call_ownK F.excBase_ValueError (fun Y => PySem.HandSPX.refsVE_contains Y bm hbm) (I1.kIn _ _ hC) (PySem.W.looks_findIn I1.kIn T.iC) (fun self => PySem.W.bind_fn I1.kIn self G.tI)
      (codeAny_mono (run_exv (us := []) T F1 I1 ry (hr.make C [] [("value", u)]) rfl (fun I2 => I2.env0.make C [] [("value", u)]) (fun Xk => hb.to _ [Value.ref (hp.objs.size + 1)] [u] Xk rfl rfl) q1) fun r s' hq' => ?_))
    cases r with
    | error er => exact hq'.elim
    | ok fl =>
      cases fl with
      | ret u' => exact hq'
      | next => exact hq'.elim
      | brk => exact hq'.elim
      | cont => exact hq'.elim
/-- where an error stands in the heap -/
theorem Er.inst {P : Program} {w : World} {H : Hp} {h : Heap} {a C d : Addr} {v : V} (hok : HOk P w H h) (E : Er H a C d v) : ∃ oe od mA, PySem.W.InstAt h a oe C (some od) ∧ h.get? d = some od ∧ h.Ns1 d mA ∧ (∀ f, RelO (([(("value" : Str), v)]).lookup f) (mA f)) := by
  obtain ⟨t1, ho⟩ := exo_at hok E.at_
  obtain ⟨mA, hns, hr⟩ := exd_at hok E.dict
  obtain ⟨o, es, ep, e1, e2⟩ := id hns
  exact ⟨_, o, mA, ⟨ho, rfl, rfl, e1⟩, e1, hns, hr⟩
/-- isinstance(e, c) -/
def rIsX (K : PySem.W.Frag) (fI : Addr) : List V → Hp → VK → Prop := fun xs H Q => ∃ (a C d : Addr) (v : V) (c : V) (cv : Value) (b : Bool), xs = [.ref a, c] ∧ Er H a C d v ∧ EC K C fI ∧ (∀ u, RelV c u → u = cv) ∧ PySem.W.kitOne K (.ref C) cv = some b ∧ Q (.bl b) H
theorem call_isX (G : EG X.K fI) : CallR X (.builtin "isinstance") (rIsX X.K fI) := by
  intro pins s σ H xs us Q I r h
  obtain ⟨a, C, d, v, c, cv, b, rfl, hE, T, hcv, e, q⟩ := h
  cases r with
  | cons rx rr =>
    cases rr with
    | cons rt rr =>
      cases rr
      cases rx
      have ec := hcv _ rt
      subst ec
      obtain ⟨oe, od, mA, J, _⟩ := hE.inst I.hok
      exact PySem.W.kia_one (PySem.W.kitx_exc T.hcl T.xf.ga T.xf.gg T.xf.exC T.ha G.hn G.ht T.hm) I.kIn J e (fun z => nomatch z) fun tk => ⟨.bl b, H, I.kept (t' := tk) fun _ _ z => z, rfl, q⟩
/-- e.value -/
def tXv (K : PySem.W.Frag) (fI : Addr) (te : TE) : TE := fun σ H Q => te σ H fun x H1 => ∃ (a C d : Addr) (v : V), x = .ref a ∧ Er H1 a C d v ∧ EC K C fI ∧ Q v H1
theorem pe_xv {te : TE} (he : PE X e te) (hb : attributeBase e "value" X.env (eval e X.env) = eval e X.env := by rfl) : PE X (.Attribute e "value" pos) (tXv X.K fI te) := by
  refine ⟨fun pins s σ H Q I h => ?_⟩
  refine attr_of hb (thn (he.run pins s σ H _ I h) fun u s1 hh => ?_)
  obtain ⟨x, H1, I1, rx, a, C, d, v, ex, hE, T, q⟩ := hh
  subst ex
  obtain rfl : u = Value.ref a := rx
  obtain ⟨oe, od, mA, J, hod, hns, hr⟩ := hE.inst I1.hok
  obtain ⟨od', ho, hl⟩ := lookIn_ns hns
  have eo : od' = od := Option.some.inj (ho.symm.trans hod)
  subst eo
  obtain ⟨u, hu, ru⟩ := RelO.some_of (v := v) (o := mA "value") (by have z := hr "value"; exact z)
  exact HandSPX.exc_get I1.kIn J T.xf.ga T.xf.gg T.xf.exC (PySem.W.findObj_own T.xf.hdC T.noV rfl (by rw [hl, hu])) (handed_of ru) ⟨v, H1, I1.tok _, ru, q⟩
end
end V2


namespace V2
open PySem L2
open PySem.Spec PyProof.Rows
/-! ## own errors: what a kernel run looks at -/
abbrev eI (K : PySem.W.Frag) : Addr := He.ma K (He.ga K "TankError") "__init__"
def bObj (K : PySem.W.Frag) (C : Addr) : Bool := match K.lookup C with
  | some ⟨.type "type", _, .cls cd, sl⟩ => (match cd.mro, sl.toList with
    | .ref C' :: bm, [_, _, _, _, some (.builtin n), _] => C' == C && n == "ValueError.__new__" && !cd.hasDel && cd.hasDict && PySem.HandSPX.refsVE bm
    | _, _ => false)
  | _ => false
theorem obj_ok {K : PySem.W.Frag} {C : Addr} (q : bObj K C = true) : ∃ nm qn N bs bm sn sub ab col dd k0 k1 k2 k3 k5, K.lookup C = some (excClassObj nm qn C N bs bm true sn sub ab col dd k0 k1 k2 k3 k5 "ValueError.__new__") ∧ PySem.HandSPX.refsVE bm = true := by
  unfold bObj at q
  split at q
  · rename_i dd cd sl ho
    split at q
    · rename_i C' bm k0 k1 k2 k3 n k5 hm hs
      simp only [Bool.and_eq_true, beq_iff_eq, Bool.not_eq_true'] at q
      obtain ⟨⟨⟨⟨rfl, rfl⟩, hdel⟩, hdi⟩, hbm⟩ := q
      obtain ⟨nm, bs, mro, ns, qn, hd, sn, sub, ab, col, del⟩ := cd
      dsimp only at hm hdel hdi
      subst hm hdel hdi
      have hsl : sl = #[k0, k1, k2, k3, some (.builtin "ValueError.__new__"), k5] := by
        obtain ⟨l⟩ := sl
        simp only at hs
        rw [hs]
      subst hsl
      exact ⟨nm, qn, ns, bs, bm, sn, sub, ab, col, dd, k0, k1, k2, k3, k5, ho, hbm⟩
    · cases q
  · cases q
def bErr (x : Str) (K : PySem.W.Frag) : Bool := bObj K (He.ga K x) && (He.eqO (PySem.W.findIn K (.ref (He.ga K x)) "__setattr__") (some (some (.builtin "object.__setattr__"))) && (decide (PySem.W.typeIn K (.ref (He.ga K x)) = some (.type "type")) && (PySem.W.keepIn K (.ref (He.ga K x)) &&
  (He.eqO (PySem.W.findIn K (.ref (He.ga K x)) "value") (some none) && (He.eqO (PySem.W.findIn K (.ref (He.ga K x)) "__init__") (some (some (.ref (eI K)))) && (xfB K (He.ga K x) && ((PySem.W.clsIn K (He.ga K x)).isSome &&
  (He.eqO (PySem.W.findIn K (.ref (He.ga K x)) "__class__") (some (some (.builtin "object.__class__"))) && decide (PySem.W.mroIn K (He.ga K x) (.type "object") = some true)))))))))
theorem err_ok {K : PySem.W.Frag} {x : Str} (c : bErr x K = true) : EC K (He.ga K x) (eI K) := by
  obtain ⟨c1, c⟩ := He.ba c
  obtain ⟨c2, c⟩ := He.ba c
  obtain ⟨c3, c⟩ := He.ba c
  obtain ⟨c4, c⟩ := He.ba c
  obtain ⟨c5, c⟩ := He.ba c
  obtain ⟨c6, c⟩ := He.ba c
  obtain ⟨c7, c⟩ := He.ba c
  obtain ⟨c8, c⟩ := He.ba c
  obtain ⟨c9, c10⟩ := He.ba c
  have xf := xfB_ok c7
  exact ⟨⟨obj_ok c1, He.eqO_ok c2, xf.exC, of_decide_eq_true c3, c4⟩, He.eqO_ok c5, He.eqO_ok c6, xf, c8, He.eqO_ok c9, of_decide_eq_true c10⟩
def bEG (K : PySem.W.Frag) : Bool := decide (PySem.W.typeIn K (.ref (eI K)) = some (.type "function")) && (He.eqO (PySem.W.specialIn K (.builtin "object.__class__") "__get__") (some (some (.builtin "getset_descriptor.__get__"))) && decide (PySem.W.takesIn K (.builtin "object.__class__") = some true))
theorem eg_ok {K : PySem.W.Frag} (c : bEG K = true) : EG K (eI K) := by
  obtain ⟨c1, c⟩ := He.ba c
  obtain ⟨c2, c3⟩ := He.ba c
  exact ⟨of_decide_eq_true c1, He.eqO_ok c2, of_decide_eq_true c3⟩
def bSub (x y : Str) (b : Bool) (K : PySem.W.Frag) : Bool := decide (PySem.W.subIn K (.ref (He.ga K x)) (.ref (He.ga K y)) = some b)
theorem sub_ok {K : PySem.W.Frag} {x y : Str} {b : Bool} (c : bSub x y b K = true) : PySem.W.subIn K (.ref (He.ga K x)) (.ref (He.ga K y)) = some b := of_decide_eq_true c
def bKit (x y : Str) (b : Bool) (K : PySem.W.Frag) : Bool := decide (PySem.W.kitOne K (.ref (He.ga K x)) (.ref (He.ga K y)) = some b)
theorem kit_ok {K : PySem.W.Frag} {x y : Str} {b : Bool} (c : bKit x y b K = true) : PySem.W.kitOne K (.ref (He.ga K x)) (.ref (He.ga K y)) = some b := of_decide_eq_true c
def bKitV (x : Str) (K : PySem.W.Frag) : Bool := decide (PySem.W.kitOne K (.ref (He.ga K x)) (.type "ValueError") = some true)
theorem kitv_ok {K : PySem.W.Frag} {x : Str} (c : bKitV x K = true) : PySem.W.kitOne K (.ref (He.ga K x)) (.type "ValueError") = some true := of_decide_eq_true c
def bTy (x : Str) (K : PySem.W.Frag) : Bool := He.eqO (PySem.W.findIn K (.ref (He.ga K x)) "__class__") (some (some (.builtin "object.__class__"))) && decide (PySem.W.mroIn K (He.ga K x) (.type "object") = some true)
theorem ty_ok {K : PySem.W.Frag} {x : Str} {H : Hp} {a dx : Addr} {fs : List (Str × V)} (G : bEG K = true) (c : bTy x K = true) (cl : Cls K (He.ga K x)) (e : H a = some (.ins (He.ga K x) dx fs)) : TyX K H (.ref a) (.ref (He.ga K x)) := by
  obtain ⟨c1, c2⟩ := He.ba c
  have g := eg_ok G
  exact .base (.ins e cl (He.eqO_ok c1) g.hn g.ht (of_decide_eq_true c2))
end V2


namespace V2
open PySem L2
open PySem.Spec PyProof.Rows
def nm0 : List Str := ["gcd", "_wall", "order_of_fractions", "sign_of", "cut", "negated", "added", "multiplied", "scaled_value", "sign_at_fraction", "content", "primitive", "upright", "remainder", "quotient", "common_factor", "TankError", "InvalidTank", "InvalidStep", "UnknownTank"]
def nm1 : List Str := ["UnknownStep", "InvalidFraction", "NothingToUndo", "copied", "is_integer", "is_fraction", "check_width", "reduced", "told_widths", "first_water", "sum_of", "together", "after", "opened", "poured", "taken", "lead", "ahead", "levels", "number_of"]
def nm2 : List Str := ["is_ended", "told_levels", "all_water", "THINGS", "is_amount", "is_tank", "check_tanks", "is_ascending", "is_step", "tanks_of", "check_numbers", "check_part", "check_step", "check_index", "Script", "Bench", "_law_pv_sack", "_law_pv_coin", "_law_pv_shared", "_law_pv_ratio"]
def nm3 : List Str := ["_law_pv_add", "_law_pv_mul", "_law_pv_side", "_law_pv_copied", "_law_pv_lists", "_law_pv_marked", "_law_pv_right", "_law_pv_part", "_law_pv_vessels", "_law_pv_two", "_law_pv_deed", "_law_pv_shape", "_law_pv_long", "_law_pv_wide", "_law_pv_heights", "_law_pv_after", "_law_pv_over", "_law_pv_broads", "_law_pv_bench", "_law_pv_does"]
def nm4 : List Str := ["_law_pv_bench_right", "_law_pv_begun", "_law_pv_gone", "_law_pv_total", "_law_pv_capped", "_law_pv_any_shape", "_law_pv_any_wide", "_law_pv_refusal", "_law_pv_no_undo", "_law_pv_deep_right", "_law_pv_checked"]
def nms : List Str := nm0 ++ nm1 ++ nm2 ++ nm3 ++ nm4
def dfs0 : List DfX := [⟨(fun K => He.ga K "order_of_fractions"), "order_of_fractions", "order_of_fractions", s_order_of_fractions⟩, ⟨(fun K => He.ga K "sign_of"), "sign_of", "sign_of", s_sign_of⟩, ⟨(fun K => He.ga K "cut"), "cut", "cut", s_cut⟩, ⟨(fun K => He.ga K "negated"), "negated", "negated", s_negated⟩, ⟨(fun K => He.ga K "added"), "added", "added", s_added⟩, ⟨(fun K => He.ga K "multiplied"), "multiplied", "multiplied", s_multiplied⟩, ⟨(fun K => He.ga K "scaled_value"), "scaled_value", "scaled_value", s_scaled_value⟩, ⟨(fun K => He.ga K "sign_at_fraction"), "sign_at_fraction", "sign_at_fraction", s_sign_at_fraction⟩, ⟨(fun K => He.ga K "content"), "content", "content", s_content⟩, ⟨(fun K => He.ga K "primitive"), "primitive", "primitive", s_primitive⟩, ⟨(fun K => He.ga K "upright"), "upright", "upright", s_upright⟩, ⟨(fun K => He.ga K "remainder"), "remainder", "remainder", s_remainder⟩, ⟨(fun K => He.ga K "quotient"), "quotient", "quotient", s_quotient⟩, ⟨(fun K => He.ga K "common_factor"), "common_factor", "common_factor", s_common_factor⟩, ⟨(fun K => He.ga K "copied"), "copied", "copied", s_copied⟩, ⟨(fun K => He.ga K "is_integer"), "is_integer", "is_integer", s_is_integer⟩, ⟨(fun K => He.ga K "is_fraction"), "is_fraction", "is_fraction", s_is_fraction⟩, ⟨(fun K => He.ga K "check_width"), "check_width", "check_width", s_check_width⟩, ⟨(fun K => He.ga K "reduced"), "reduced", "reduced", s_reduced⟩, ⟨(fun K => He.ga K "told_widths"), "told_widths", "told_widths", s_told_widths⟩]
def dfs1 : List DfX := [⟨(fun K => He.ga K "first_water"), "first_water", "first_water", s_first_water⟩, ⟨(fun K => He.ga K "sum_of"), "sum_of", "sum_of", s_sum_of⟩, ⟨(fun K => He.ga K "together"), "together", "together", s_together⟩, ⟨(fun K => He.ga K "after"), "after", "after", s_after⟩, ⟨(fun K => He.ga K "opened"), "opened", "opened", s_opened⟩, ⟨(fun K => He.ga K "poured"), "poured", "poured", s_poured⟩, ⟨(fun K => He.ga K "taken"), "taken", "taken", s_taken⟩, ⟨(fun K => He.ga K "lead"), "lead", "lead", s_lead⟩, ⟨(fun K => He.ga K "ahead"), "ahead", "ahead", s_ahead⟩, ⟨(fun K => He.ga K "levels"), "levels", "levels", s_levels⟩, ⟨(fun K => He.ga K "number_of"), "number_of", "number_of", s_number_of⟩, ⟨(fun K => He.ga K "is_ended"), "is_ended", "is_ended", s_is_ended⟩, ⟨(fun K => He.ga K "told_levels"), "told_levels", "told_levels", s_told_levels⟩, ⟨(fun K => He.ga K "all_water"), "all_water", "all_water", s_all_water⟩, ⟨(fun K => He.ga K "is_amount"), "is_amount", "is_amount", s_is_amount⟩, ⟨(fun K => He.ga K "is_tank"), "is_tank", "is_tank", s_is_tank⟩, ⟨(fun K => He.ga K "check_tanks"), "check_tanks", "check_tanks", s_check_tanks⟩, ⟨(fun K => He.ga K "is_ascending"), "is_ascending", "is_ascending", s_is_ascending⟩, ⟨(fun K => He.ga K "is_step"), "is_step", "is_step", s_is_step⟩, ⟨(fun K => He.ga K "tanks_of"), "tanks_of", "tanks_of", s_tanks_of⟩]
def dfs2 : List DfX := [⟨(fun K => He.ga K "check_numbers"), "check_numbers", "check_numbers", s_check_numbers⟩, ⟨(fun K => He.ga K "check_part"), "check_part", "check_part", s_check_part⟩, ⟨(fun K => He.ga K "check_step"), "check_step", "check_step", s_check_step⟩, ⟨(fun K => He.ga K "_law_pv_sack"), "_law_pv_sack", "_law_pv_sack", s_l_sack⟩, ⟨(fun K => He.ga K "_law_pv_coin"), "_law_pv_coin", "_law_pv_coin", s_l_coin⟩, ⟨(fun K => He.ga K "_law_pv_shared"), "_law_pv_shared", "_law_pv_shared", s_l_shared⟩, ⟨(fun K => He.ga K "_law_pv_ratio"), "_law_pv_ratio", "_law_pv_ratio", s_l_ratio⟩, ⟨(fun K => He.ga K "_law_pv_add"), "_law_pv_add", "_law_pv_add", s_l_add⟩, ⟨(fun K => He.ga K "_law_pv_mul"), "_law_pv_mul", "_law_pv_mul", s_l_mul⟩, ⟨(fun K => He.ga K "_law_pv_side"), "_law_pv_side", "_law_pv_side", s_l_side⟩, ⟨(fun K => He.ga K "_law_pv_copied"), "_law_pv_copied", "_law_pv_copied", s_l_copied⟩, ⟨(fun K => He.ga K "_law_pv_lists"), "_law_pv_lists", "_law_pv_lists", s_l_lists⟩, ⟨(fun K => He.ga K "_law_pv_marked"), "_law_pv_marked", "_law_pv_marked", s_l_marked⟩, ⟨(fun K => He.ga K "_law_pv_right"), "_law_pv_right", "_law_pv_right", s_l_right⟩, ⟨(fun K => He.ga K "_law_pv_part"), "_law_pv_part", "_law_pv_part", s_l_part⟩, ⟨(fun K => He.ga K "_law_pv_vessels"), "_law_pv_vessels", "_law_pv_vessels", s_l_vessels⟩, ⟨(fun K => He.ga K "_law_pv_two"), "_law_pv_two", "_law_pv_two", s_l_two⟩, ⟨(fun K => He.ga K "_law_pv_deed"), "_law_pv_deed", "_law_pv_deed", s_l_deed⟩, ⟨(fun K => He.ga K "_law_pv_shape"), "_law_pv_shape", "_law_pv_shape", s_l_shape⟩, ⟨(fun K => He.ga K "_law_pv_long"), "_law_pv_long", "_law_pv_long", s_l_long⟩]
def dfs3 : List DfX := [⟨(fun K => He.ga K "_law_pv_wide"), "_law_pv_wide", "_law_pv_wide", s_l_wide⟩, ⟨(fun K => He.ga K "_law_pv_heights"), "_law_pv_heights", "_law_pv_heights", s_l_heights⟩, ⟨(fun K => He.ga K "_law_pv_after"), "_law_pv_after", "_law_pv_after", s_l_after⟩, ⟨(fun K => He.ga K "_law_pv_over"), "_law_pv_over", "_law_pv_over", s_l_over⟩, ⟨(fun K => He.ga K "_law_pv_broads"), "_law_pv_broads", "_law_pv_broads", s_l_broads⟩, ⟨(fun K => He.ga K "_law_pv_bench"), "_law_pv_bench", "_law_pv_bench", s_l_bench⟩, ⟨(fun K => He.ga K "_law_pv_does"), "_law_pv_does", "_law_pv_does", s_l_does⟩, ⟨(fun K => He.ga K "_law_pv_bench_right"), "_law_pv_bench_right", "_law_pv_bench_right", s_l_bench_right⟩, ⟨(fun K => He.ga K "_law_pv_begun"), "_law_pv_begun", "_law_pv_begun", s_l_begun⟩, ⟨(fun K => He.ga K "_law_pv_gone"), "_law_pv_gone", "_law_pv_gone", s_l_gone⟩, ⟨(fun K => He.ga K "_law_pv_total"), "_law_pv_total", "_law_pv_total", s_l_total⟩, ⟨(fun K => He.ga K "_law_pv_capped"), "_law_pv_capped", "_law_pv_capped", s_l_capped⟩, ⟨(fun K => He.ga K "_law_pv_any_shape"), "_law_pv_any_shape", "_law_pv_any_shape", s_l_any_shape⟩, ⟨(fun K => He.ga K "_law_pv_any_wide"), "_law_pv_any_wide", "_law_pv_any_wide", s_l_any_wide⟩, ⟨(fun K => He.ga K "_law_pv_refusal"), "_law_pv_refusal", "_law_pv_refusal", s_l_refusal⟩, ⟨(fun K => He.ga K "_law_pv_no_undo"), "_law_pv_no_undo", "_law_pv_no_undo", s_l_no_undo⟩, ⟨(fun K => He.ga K "_law_pv_deep_right"), "_law_pv_deep_right", "_law_pv_deep_right", s_l_deep_right⟩, ⟨(fun K => He.ga K "_law_pv_checked"), "_law_pv_checked", "_law_pv_checked", s_l_checked⟩, ⟨(fun K => He.ga K "law"), "law", "law", s_law⟩, ⟨(fun K => He.ma K (He.ga K "TankError") "__init__"), "__init__", "TankError.__init__", s_TE_init⟩]
def dfs4 : List DfX := [⟨(fun K => He.ma K (He.ga K "Script") "__init__"), "__init__", "Script.__init__", s_Sc_init⟩, ⟨(fun K => gt K "Script" "tanks"), "tanks", "Script.tanks", s_Sc_tanks⟩, ⟨(fun K => gt K "Script" "steps"), "steps", "Script.steps", s_Sc_steps⟩, ⟨(fun K => He.ma K (He.ga K "Bench") "__init__"), "__init__", "Bench.__init__", s_Be_init⟩, ⟨(fun K => He.ma K (He.ga K "Bench") "__call__"), "__call__", "Bench.__call__", s_Be_call⟩, ⟨(fun K => He.ma K (He.ga K "Bench") "levels"), "levels", "Bench.levels", s_Be_levels⟩, ⟨(fun K => He.ma K (He.ga K "Bench") "water"), "water", "Bench.water", s_Be_water⟩, ⟨(fun K => gt K "Bench" "ended"), "ended", "Bench.ended", s_Be_ended⟩, ⟨(fun K => He.ma K (He.ga K "Bench") "undo"), "undo", "Bench.undo", s_Be_undo⟩, ⟨(fun K => He.ma K (He.ga K "Bench") "script"), "script", "Bench.script", s_Be_script⟩, ⟨(fun K => He.ma K (He.ga K "Bench") "__len__"), "__len__", "Bench.__len__", s_Be_len⟩, ⟨(fun K => He.ma K (He.ga K "Bench") "__eq__"), "__eq__", "Bench.__eq__", s_Be_eq⟩]
def fbs0 : List (PySem.W.Frag → Bool) := [bGlo "order_of_fractions", bGlo "sign_of", bGlo "cut", bGlo "negated", bGlo "added", bGlo "multiplied", bGlo "scaled_value", bGlo "sign_at_fraction", bGlo "content", bGlo "primitive", bGlo "upright", bGlo "remainder", bGlo "quotient", bGlo "common_factor", bGlo "copied", bGlo "is_integer", bGlo "is_fraction", bGlo "check_width", bGlo "reduced", bGlo "told_widths"]
def fbs1 : List (PySem.W.Frag → Bool) := [bGlo "first_water", bGlo "sum_of", bGlo "together", bGlo "after", bGlo "opened", bGlo "poured", bGlo "taken", bGlo "lead", bGlo "ahead", bGlo "levels", bGlo "number_of", bGlo "is_ended", bGlo "told_levels", bGlo "all_water", bGlo "is_amount", bGlo "is_tank", bGlo "check_tanks", bGlo "is_ascending", bGlo "is_step", bGlo "tanks_of"]
def fbs2 : List (PySem.W.Frag → Bool) := [bGlo "check_numbers", bGlo "check_part", bGlo "check_step", bGlo "_law_pv_sack", bGlo "_law_pv_coin", bGlo "_law_pv_shared", bGlo "_law_pv_ratio", bGlo "_law_pv_add", bGlo "_law_pv_mul", bGlo "_law_pv_side", bGlo "_law_pv_copied", bGlo "_law_pv_lists", bGlo "_law_pv_marked", bGlo "_law_pv_right", bGlo "_law_pv_part", bGlo "_law_pv_vessels", bGlo "_law_pv_two", bGlo "_law_pv_deed", bGlo "_law_pv_shape", bGlo "_law_pv_long"]
def fbs3 : List (PySem.W.Frag → Bool) := [bGlo "_law_pv_wide", bGlo "_law_pv_heights", bGlo "_law_pv_after", bGlo "_law_pv_over", bGlo "_law_pv_broads", bGlo "_law_pv_bench", bGlo "_law_pv_does", bGlo "_law_pv_bench_right", bGlo "_law_pv_begun", bGlo "_law_pv_gone", bGlo "_law_pv_total", bGlo "_law_pv_capped", bGlo "_law_pv_any_shape", bGlo "_law_pv_any_wide", bGlo "_law_pv_refusal", bGlo "_law_pv_no_undo", bGlo "_law_pv_deep_right", bGlo "_law_pv_checked", bGlo "law", bEG]
def fbs4 : List (PySem.W.Frag → Bool) := [bGlo "TankError", bErr "TankError", bGlo "InvalidStep", bErr "InvalidStep", bKitV "InvalidStep", bSub "InvalidStep" "TankError" true, bGlo "NothingToUndo", bErr "NothingToUndo", bSub "NothingToUndo" "NothingToUndo" true, bGlo "Script", bCls "Script", bMk "Script", bMeth "Script" "__init__", bProp "Script" "tanks", bProp "Script" "steps", bNo "Script" "_steps", bNo "Script" "_tanks", bGlo "Bench", bCls "Bench", bMk "Bench"]
def fbs5 : List (PySem.W.Frag → Bool) := [bMeth "Bench" "__init__", bMeth "Bench" "__call__", bCal "Bench", bMeth "Bench" "levels", bMeth "Bench" "water", bProp "Bench" "ended", bMeth "Bench" "undo", bMeth "Bench" "script", bMeth "Bench" "__len__", bMeth "Bench" "__eq__", bTy "Bench", bNo "Bench" "_ended", bNo "Bench" "_steps", bNo "Bench" "_tanks", bNo "Bench" "_waters", bNo "Bench" "_width", bNo "Bench" "_widths", bGlo "THINGS", bInt "THINGS" "open" 2, bInt "THINGS" "pour" 3]
def fbs6 : List (PySem.W.Frag → Bool) := [bInt "THINGS" "scoop" 3, bInt "THINGS" "move" 4, bInt "THINGS" "unless" 3, bFree "ValueError", bFree "abs", bFree "all", bFree "bool", bFree "enumerate", bFree "int", bFree "isinstance", bFree "len", bFree "list", bFree "max", bFree "min", bFree "range", bFree "repr", bFree "str", bFree "tuple", bBlt "gcd" "math.gcd", bNoDig]
def lk : Lk := ⟨fbs0 ++ fbs1 ++ fbs2 ++ fbs3 ++ fbs4 ++ fbs5 ++ fbs6, dfs0 ++ dfs1 ++ dfs2 ++ dfs3 ++ dfs4, [("THINGS", ["open", "pour", "scoop", "move", "unless"])]⟩
abbrev rwK : PySem.W.OpenRow := PySem.W.OpenLaw.row PySem.Challenge.rw_valvelevels_k48_steps_taken_back
abbrev vwK : Program := PySem.W.view rwK.prog [0, 100]
theorem run0F (w : World) : (whK 12000 rwK (w.withFollow "special-get-raises" false)).map (lk0 rwK vwK nms) = some (true, PySem.W.openGood vwK nms) := by
  kernel_rfl
theorem run0T (w : World) : (whK 12000 rwK (w.withFollow "special-get-raises" true)).map (lk0 rwK vwK nms) = some (true, PySem.W.openGood vwK nms) := by
  kernel_rfl
theorem run1F (w : World) : (whK 12000 rwK (w.withFollow "special-get-raises" false)).map (lk1 lk 900) = some (true, lk.tb.map fun t => tabDue (w.withFollow "special-get-raises" false) t.2) := by
  kernel_rfl
theorem run1T (w : World) : (whK 12000 rwK (w.withFollow "special-get-raises" true)).map (lk1 lk 900) = some (true, lk.tb.map fun t => tabDue (w.withFollow "special-get-raises" true) t.2) := by
  kernel_rfl
theorem run2F (w : World) : (whK 12000 rwK (w.withFollow "special-get-raises" false)).map (lk2 lk 900) = some true := by
  kernel_rfl
theorem run2T (w : World) : (whK 12000 rwK (w.withFollow "special-get-raises" true)).map (lk2 lk 900) = some true := by
  kernel_rfl
theorem run3F (w : World) : (whK 12000 rwK (w.withFollow "special-get-raises" false)).map (lk3 lk 900) = some (lk.ds.map (·.due)) := by
  kernel_rfl
theorem run3T (w : World) : (whK 12000 rwK (w.withFollow "special-get-raises" true)).map (lk3 lk 900) = some (lk.ds.map (·.due)) := by
  kernel_rfl
theorem runK (w : World) : HandSHeadRun.RunEqI rwK vwK (lk.hook 900) (fun s => lk.off 900 (HandSHeadRun.getT s)) 12000 nms w :=
  PySem.W.byRow2 "special-get-raises" (P := fun w => HandSHeadRun.RunEqI rwK vwK (lk.hook 900) (fun s => lk.off 900 (HandSHeadRun.getT s)) 12000 nms w) (fun w => Lk.run_parts (run0F w) (run1F w) (run2F w) (run3F w)) (fun w => Lk.run_parts (run0T w) (run1T w) (run2T w) (run3T w)) w
end V2


namespace V2
open PySem L2
open PySem.Spec PyProof.Rows
/-! ## several clauses 'except C as e', one name for all -/
abbrev HdT : Type := List (Value × (Addr → Value → Option Addr → TS))
/-- the ends behind a clause: the name is gone -/
def unE (i : Nat) (D : Ends) : Ends := { nx := fun τ G => D.nx (τ.set i none) G, rt := D.rt, bk := fun τ G => D.bk (τ.set i none) G, ct := fun τ G => D.ct (τ.set i none) G }
def wEs (K : PySem.W.Frag) (i : Nat) (W0 : WX) (D : Ends) : HdT → WX
  | [] => W0
  | z :: r => fun k d τ G => ∃ yes, PySem.W.exmOne K k z.1 = some yes ∧ (yes = true → ∀ q, G q = none → z.2 q k d (unE i D) (τ.set i (some (.ref q))) G) ∧ (yes = false → wEs K i W0 D r k d τ G)
inductive HdE (X : Cx) (n : Str) : List ExceptHandler → HdT → Prop
  | nil : HdE X n [] []
  | cons {y : Str} {v : Value} {f : Addr → Value → Option Addr → TS} {b1 : Stmt} {bs : List Stmt} {u1 u2 : Pos} {r : List ExceptHandler} {l : HdT} (nm : Names X y v)
      (su : ∀ q ob k d ps, Zc k d ob → (∃ vs, ob.data = .fields vs) → PSs (X.suite q ((q, ob) :: ps)) (b1 :: bs) (f q k d)) (t : HdE X n r l) : HdE X n (.ExceptHandler (some (.Name y u1)) (some n) (b1 :: bs) u2 :: r) ((v, f) :: l)
section
variable {X : Cx} {n : Str} {i : Nat} {bd : List Stmt} {hh : ExceptHandler} {hr : List ExceptHandler} {l : HdT} {p : Pos} {tb : WX → TS} {W0 : WX}
theorem ps_try_es (st : X.stack = X.env :: X.outer) (fl : X.env.frame = some X.env.locals) (nd : X.N.Nodup) (ni : X.N[i]? = some n) (nk : X.env.kindOf n = some .local) (tk : Takes X W0)
    (hb : ∀ (W : WX) (ps : List (Addr × Obj)) (xe : Value → Shared → Prop), Takes (X.tr ps xe) W → PassesOwn (model X.prog X.w) X.A X.env xe → PSs (X.tr ps xe) bd (tb W)) (hds : HdE X n (hh :: hr) l) : PS X (.Try bd (hh :: hr) [] [] p) (fun D τ G => tb (wEs X.K i W0 D l) D τ G) := by
  constructor
  intro pins s τ G D I h
  have ok := I.ok
  have af : X.A.frames = some (X.env :: X.outer) := ok.frames.trans (congrArg some st)
  have body := (hb (wEs X.K i W0 D l) (X.pn ++ pins) (fun e z => wpAny (model X.prog X.w) X.A (noteFrame e X.env) (fun _ z => wpAny (model X.prog X.w) X.A (setFlight e none) (fun _ z => wpAny (model X.prog X.w) X.A (handleBy e X.env (hh :: hr)) (SP X pins D) X.xe z) X.xe z) X.xe z) (fun _ s' got => by
    obtain ⟨ea, bb, sI, pins', τ', G', k, d, rfl, J', nb, up, sky, na, os, ag, w⟩ := got
    have J : Inv X pins τ' G' sI := J'.ofTry ok
    have sk : Sky bb (X.env :: X.outer) ea (Zc k d) X.env.locals s'.heap := st ▸ sky
    show wpAny (model X.prog X.w) X.A (noteFrame (.ref ea) X.env) _ _ _
    refine Sky.land Zc.steady af fl sk fun h3 fl3 up3 => ?_
    have J3 : Inv X pins τ' G' { s' with heap := h3 } := J.landed nb fl3.1 (up.trans up3) os ag
    obtain ⟨o3, v3, he3, hz3, hd3⟩ := fl3.there
    have out : ea ∉ frs (X.env :: X.outer) := fun hm => by
      obtain ⟨_, o', e', no⟩ := fl3.2.2.1.mem hm
      rw [he3] at e'
      cases e'
      exact no _ hd3
    have oL : ea ≠ X.env.locals := fun z => out (List.mem_filterMap.mpr ⟨_, List.mem_cons_self, fl.trans (congrArg some z.symm)⟩)
    have oF : ea ∉ X.fs := fun hm => let ⟨e, he, q⟩ := List.mem_filterMap.mp hm; out (List.mem_filterMap.mpr ⟨e, List.mem_cons_of_mem _ he, q⟩)
    have S3 := J3.suite he3 hd3 na oL oF
    have go : ∀ {r : List ExceptHandler} {m : HdT}, HdE X n r m → wEs X.K i W0 D m k d τ' G' → wpAny (model X.prog X.w) X.A (handleBy (.ref ea) X.env r) (SP X pins D) X.xe { s' with heap := h3 } := by
      intro r m hk
      induction hk with
      | nil =>
        intro w
        refine wpAny_handleBy_nil ?_
        obtain ⟨k1, k2, k3, o, vs, T, oT, ts', he, hz, hd, h1, hr⟩ := id fl3
        unfold PySem.passOn
        refine wpAny_bind (wpAny_field he hd h1 ?_)
        rw [if_neg (by simp)]
        have fin : wpAny (model X.prog X.w) X.A (setFlight (.ref ea) X.env.frame) (fun _ z => wpAny (model X.prog X.w) X.A (throw (.ref ea) : Sem Flow) (SP X pins D) X.xe z) X.xe { s' with heap := h3 } := by
          rw [fl]
          exact HandSPX.setFlight_upZ fl3 fun h4 hh4 up4 => wpAny_throw (tk _ _ ⟨ea, bb, sI, pins, τ', G', k, d, rfl, J, nb, (up.trans up3).trans up4, .inr (.inr (st ▸ hh4)), na, os, ag, w⟩)
        first
          | exact wpAny_bind (wpAny_pure (wpAny_bind fin))
          | exact wpAny_bind fin
      | @cons y v f b1 bs u1 u2 r2 l2 nm su t ih =>
        rintro ⟨yes, e1, hy, hn⟩
        refine wpAny_handleBy_cons (codeAny_handlers_test ?_) (fun q => nomatch q)
        have LT : PySem.W.Looks (model X.prog X.w) h3 (typeOf (.ref ea)) k := fun _ _ _ _ kp q => wpAny_typeOf_ref (kp _ _ he3) (hz3.1.symm ▸ q)
        have LM := PySem.W.exm_one (M := model X.prog X.w) J3.kIn LT e1
        have asks : ∀ {Q E : Value → Shared → Prop}, Q v { s' with heap := h3 } → wpAny (model X.prog X.w) (X.A.mark (some (.ref ea))) (eval (.Name y u1) X.env) Q E { s' with heap := h3 } := fun q => by
          rcases nm with ⟨g1, g2, g3 | ⟨g3, g4, g5⟩⟩
          · exact ld_glob (X := X.suite ea ((ea, o3) :: (X.pn ++ pins))) S3 g1 g3 q g2
          · exact ld_blt (X := X.suite ea ((ea, o3) :: (X.pn ++ pins))) S3 g1 g3 g4 q g5 g2
        refine asks (LM.here ?_)
        match yes, hy, hn with
        | false, _, hn => exact ih (hn rfl)
        | true, hy, _ =>
          refine codeAny_handlers_suite_as (HandSPX.lands_againZ fl3 fun h4 fl4 up4 => ?_)
          have J4 : Inv X pins τ' G' { s' with heap := h4 } := J.landed nb fl4.1 ((up.trans up3).trans up4) os ag
          obtain ⟨o4, v4, he4, hz4, hd4⟩ := fl4.there
          refine store_ok (X := X.suite ea ((ea, o4) :: (X.pn ++ pins))) (v := .ref ea) (J4.suite he4 hd4 na oL oF) nd ni (.inl nk) rfl (fun s5 S5 => ?_) (.inr nk)
          refine wpAny_mono ((su ea o4 k d (X.pn ++ pins) hz4 ⟨_, hd4⟩).run [] s5 _ G' _ S5 (hy rfl ea na)) (fun g s6 sp => ?_) (fun _ _ z => z.elim)
          have off : ∀ {τ6 : L2.St} {G6 : Hp} {Q : Shared → Prop}, Inv (X.suite ea ((ea, o4) :: (X.pn ++ pins))) [] τ6 G6 s6 → (∀ s7, Inv X pins (τ6.set i none) G6 s7 → Q s7) → wpAny (model X.prog X.w) X.A (do bindName X.env n .none; unbindBehindTheSuite X.env n u2) (fun _ s7 => Q s7) X.xe s6 := fun S6 q => gone_ok (S6.unsuite ok) nd ni nk q
          match g, sp with
          | .next, ⟨τ6, G6, S6, q6⟩ => exact off S6 fun s7 J7 => ⟨_, _, J7, q6⟩
          | .brk, ⟨τ6, G6, S6, q6⟩ => exact off S6 fun s7 J7 => ⟨_, _, J7, q6⟩
          | .cont, ⟨τ6, G6, S6, q6⟩ => exact off S6 fun s7 J7 => ⟨_, _, J7, q6⟩
          | .ret u, ⟨v6, τ6, G6, S6, r6, q6⟩ => exact off S6 fun s7 J7 => ⟨_, _, _, J7, r6, q6⟩
    exact go hds w) PassesOwn.looking).run [] s τ G D (I.toTry _) h
  refine wpAny_Try_except (wpAny_mono body (fun g z sp => ?_) fun _ _ z => z)
  match g, sp with
  | .next, ⟨τ', G', J', q⟩ => exact wpAny_execs_nil ⟨τ', G', J'.ofTry ok, q⟩
  | .brk, ⟨τ', G', J', q⟩ => exact ⟨τ', G', J'.ofTry ok, q⟩
  | .cont, ⟨τ', G', J', q⟩ => exact ⟨τ', G', J'.ofTry ok, q⟩
  | .ret u, ⟨v, τ', G', J', r, q⟩ => exact ⟨v, τ', G', J'.ofTry ok, r, q⟩
end
end V2


namespace V2
/-! ## what is left of a polynomial by another one: mathematics -/
def cont : List Int → Nat
  | [] => 0
  | x :: r => Nat.gcd x.natAbs (cont r)
def prim (ns : List Int) : List Int := ns.map fun x => x / (cont ns : Int)
theorem cont_dvd : ∀ {ns : List Int} {x : Int}, x ∈ ns → (cont ns : Int) ∣ x
  | y :: r, x, h => by
    rcases (List.mem_cons.mp h) with e | h
    · subst e
      exact Int.ofNat_dvd_left.mpr (Nat.gcd_dvd_left _ _)
    · exact Int.dvd_trans (Int.natCast_dvd_natCast.mpr (Nat.gcd_dvd_right _ _)) (cont_dvd h)
theorem cont_scale (a : Nat) : ∀ ns : List Int, cont (ns.map fun x => (a : Int) * x) = a * cont ns
  | [] => rfl
  | x :: r => by
    show Nat.gcd ((a : Int) * x).natAbs (cont (r.map fun x => (a : Int) * x)) = a * Nat.gcd x.natAbs (cont r)
    rw [cont_scale a r, Int.natAbs_mul, Int.natAbs_natCast, Nat.gcd_mul_left]
/-- the greatest common divisor, found from the left -/
theorem cont_fold : ∀ (ns : List Int) (g : Nat), ns.foldl (fun g x => Nat.gcd g x.natAbs) g = Nat.gcd g (cont ns)
  | [], g => by show g = Nat.gcd g 0; rw [Nat.gcd_zero_right]
  | x :: r, g => by
    show r.foldl (fun g x => Nat.gcd g x.natAbs) (Nat.gcd g x.natAbs) = Nat.gcd g (Nat.gcd x.natAbs (cont r))
    rw [cont_fold r, Nat.gcd_assoc]
theorem cont_zero : ∀ {ns : List Int}, cont ns = 0 → ∀ x ∈ ns, x = 0 := by
  intro ns h x hx
  have := cont_dvd hx
  rw [h] at this
  exact Int.zero_dvd.mp this
theorem prim_eq {xs ys : List Int} {a b : Nat} (ha : 0 < a) (hb : 0 < b) (h : (xs.map fun x => (a : Int) * x) = ys.map fun x => (b : Int) * x) : prim xs = prim ys := by
  have hc : a * cont xs = b * cont ys := by rw [← cont_scale, ← cont_scale, h]
  have hl : xs.length = ys.length := by
    have := (congrArg List.length h)
    rwa [List.length_map, List.length_map] at this
  refine List.ext_getElem (by unfold prim; rw [List.length_map, List.length_map, hl]) fun i h1 h2 => ?_
  unfold prim at h1 h2 ⊢
  rw [List.length_map] at h1 h2
  rw [List.getElem_map, List.getElem_map]
  have e : (a : Int) * xs[i] = (b : Int) * ys[i] := by
    have e1 : (xs.map fun x => (a : Int) * x)[i]'(by rw [List.length_map]; exact h1) = (ys.map fun x => (b : Int) * x)[i]'(by rw [List.length_map]; exact h2) := by
      simp only [h]
    rwa [List.getElem_map, List.getElem_map] at e1
  obtain ⟨p, hp⟩ := cont_dvd (List.getElem_mem h1)
  obtain ⟨q, hq⟩ := cont_dvd (List.getElem_mem h2)
  rcases Nat.eq_zero_or_pos (cont xs) with z | z
  · have z2 : cont ys = 0 := by
      rw [z, Nat.mul_zero] at hc
      rcases Nat.mul_eq_zero.mp hc.symm with c | c
      · omega
      · exact c
    rw [cont_zero z _ (List.getElem_mem h1), cont_zero z2 _ (List.getElem_mem h2), Int.zero_ediv, Int.zero_ediv]
  · have z2 : 0 < cont ys := by
      rcases Nat.eq_zero_or_pos (cont ys) with c | c
      · rw [c, Nat.mul_zero] at hc
        have := Nat.mul_pos ha z
        omega
      · exact c
    rw [hp, hq, Int.mul_ediv_cancel_left _ (by omega), Int.mul_ediv_cancel_left _ (by omega)]
    rw [hp, hq, ← Int.mul_assoc, ← Int.mul_assoc] at e
    have hcz : (a : Int) * (cont xs : Int) = (b : Int) * (cont ys : Int) := by
      rw [← Int.natCast_mul, ← Int.natCast_mul, hc]
    rw [hcz] at e
    exact Int.eq_of_mul_eq_mul_left (Int.ne_of_gt (Int.mul_pos (by omega) (by omega))) e
/-! ### products of functions -/
def cfF (f g : Nat → Int) : Nat → Nat → Int
  | 0, _ => 0
  | k + 1, i => cfF f g k i + (if k ≤ i then f k * g (i - k) else 0)
theorem cf_cfF (xs ys : List Int) : ∀ k i, cf xs ys k i = cfF (fun j => xs.getD j 0) (fun j => ys.getD j 0) k i
  | 0, _ => rfl
  | k + 1, i => by
    show cf xs ys k i + _ = cfF _ _ k i + _
    rw [cf_cfF xs ys k i]
theorem cfF_lin (f g h : Nat → Int) (a b : Int) : ∀ k i, cfF f (fun j => a * g j + b * h j) k i = a * cfF f g k i + b * cfF f h k i
  | 0, _ => by show (0 : Int) = a * 0 + b * 0; rw [Int.mul_zero, Int.mul_zero, Int.add_zero]
  | k + 1, i => by
    show cfF f (fun j => a * g j + b * h j) k i + (if k ≤ i then f k * (a * g (i - k) + b * h (i - k)) else 0) = a * (cfF f g k i + (if k ≤ i then f k * g (i - k) else 0)) + b * (cfF f h k i + (if k ≤ i then f k * h (i - k) else 0))
    rw [cfF_lin f g h a b k i]
    split
    · simp only [Int.mul_add, Int.mul_left_comm (f k)]
      omega
    · simp only [Int.add_zero]
theorem cfF_zero (f g : Nat → Int) : ∀ k i, (∀ j, j < k → j ≤ i → f j * g (i - j) = 0) → cfF f g k i = 0
  | 0, _, _ => rfl
  | k + 1, i, h => by
    show cfF f g k i + (if k ≤ i then f k * g (i - k) else 0) = 0
    rw [cfF_zero f g k i fun j h1 h2 => h j (by omega) h2]
    split
    · rename_i c
      rw [h k (by omega) c]
      rfl
    · rfl
/-- one number alone, at place n -/
def dlt (n : Nat) : Nat → Int := fun i => if i = n then 1 else 0
theorem cfF_dlt (f : Nat → Int) (n : Nat) : ∀ k i, cfF f (dlt n) k i = if n ≤ i ∧ i - n < k then f (i - n) else 0
  | 0, i => by show (0 : Int) = _; rw [if_neg (by omega)]
  | k + 1, i => by
    show cfF f (dlt n) k i + (if k ≤ i then f k * dlt n (i - k) else 0) = _
    rw [cfF_dlt f n k i]
    unfold dlt
    by_cases h1 : n ≤ i ∧ i - n < k
    · rw [if_pos h1, if_pos (c := n ≤ i ∧ i - n < k + 1) (by omega)]
      by_cases h3 : k ≤ i
      · rw [if_pos h3, if_neg (by omega), Int.mul_zero, Int.add_zero]
      · rw [if_neg h3, Int.add_zero]
    · rw [if_neg h1, Int.zero_add]
      by_cases h2 : n ≤ i ∧ i - n = k
      · rw [if_pos (c := k ≤ i) (by omega), if_pos (c := i - k = n) (by omega), if_pos (c := n ≤ i ∧ i - n < k + 1) (by omega), Int.mul_one, h2.2]
      · rw [if_neg (c := n ≤ i ∧ i - n < k + 1) (by omega)]
        by_cases h3 : k ≤ i
        · rw [if_pos h3, if_neg (by omega), Int.mul_zero]
        · rw [if_neg h3]
/-- the top of a product -/
theorem cfF_top (f g : Nat → Int) (m n : Nat) (h : ∀ i, n < i → g i = 0) : cfF f g (m + 1) (n + m) = f m * g n := by
  show cfF f g m (n + m) + (if m ≤ n + m then f m * g (n + m - m) else 0) = _
  rw [cfF_zero f g m (n + m) fun j h1 h2 => by rw [h _ (by omega), Int.mul_zero], if_pos (by omega), Nat.add_sub_cancel, Int.zero_add]
theorem cfF_null {f g : Nat → Int} {m : Nat} (hf : f m ≠ 0) (hz : ∀ i, m ≤ i → cfF f g (m + 1) i = 0) : ∀ n, (∀ i, n ≤ i → g i = 0) → ∀ i, g i = 0
  | 0, h, i => h i (Nat.zero_le _)
  | n + 1, h, i => by
    refine cfF_null hf hz n (fun j hj => ?_) i
    rcases Nat.lt_or_ge n j with c | c
    · exact h j c
    · have e : j = n := by omega
      subst e
      have h1 := cfF_top f g m j fun i hi => h i hi
      rw [hz (j + m) (by omega)] at h1
      rcases Int.mul_eq_zero.mp h1.symm with z | z
      · exact absurd z hf
      · exact z
/-- L is what is left of P by B, up to a factor above 0 -/
def Rm (P B L : List Int) : Prop := Pol L ∧ L.length < B.length ∧ ∃ (g : Int) (q : Nat → Int) (N : Nat), 0 < g ∧ (∀ i, N ≤ i → q i = 0) ∧ ∀ i, g * P.getD i 0 = cfF (fun j => B.getD j 0) q B.length i + L.getD i 0
theorem getD_pol {L : List Int} (h : Pol L) {n : Nat} (hn : L.length = n + 1) : L.getD n 0 ≠ 0 := by
  have e : L[n]? = some L[n] := List.getElem?_eq_getElem (by omega)
  rw [getD_at e]
  refine h _ ?_
  have e2 : L.length - 1 = n := by omega
  rw [e2]
  exact e
theorem pol_len {L M : List Int} (hL : Pol L) (hM : Pol M) {a b : Int} (ha : 0 < a) (hb : 0 < b) (h : ∀ i, a * L.getD i 0 = b * M.getD i 0) : L.length ≤ M.length := by
  rcases Nat.lt_or_ge M.length L.length with c | c
  · exfalso
    obtain ⟨n, hn⟩ : ∃ n, L.length = n + 1 := ⟨L.length - 1, by omega⟩
    have h1 := h n
    rw [getD_out (l := M) (by omega), Int.mul_zero] at h1
    rcases Int.mul_eq_zero.mp h1 with z | z
    · omega
    · exact getD_pol hL hn z
  · exact c
theorem Rm.uniq {P B L M : List Int} (hB : Pol B) (h : Rm P B L) (k : Rm P B M) : prim L = prim M := by
  obtain ⟨l1, l2, g, q, N, g0, qz, qe⟩ := h
  obtain ⟨m1, m2, c, r, R, c0, rz, re⟩ := k
  obtain ⟨m, hm⟩ : ∃ m, B.length = m + 1 := ⟨B.length - 1, by omega⟩
  rw [hm] at qe re l2 m2
  have hw : ∀ i, cfF (fun j => B.getD j 0) (fun j => c * q j + (-g) * r j) (m + 1) i = g * M.getD i 0 - c * L.getD i 0 := by
    intro i
    rw [cfF_lin]
    have h1 := qe i
    have h2 := re i
    have h3 : c * (g * P.getD i 0) = g * (c * P.getD i 0) := Int.mul_left_comm _ _ _
    rw [h1, h2, Int.mul_add, Int.mul_add] at h3
    rw [Int.neg_mul]
    omega
  have hz : ∀ i, c * q i + (-g) * r i = 0 := by
    refine cfF_null (f := fun j => B.getD j 0) (g := fun j => c * q j + (-g) * r j) (m := m) (getD_pol hB hm) (fun i hi => ?_) (max N R) (fun i hi => ?_)
    · rw [hw i, getD_out (l := M) (by omega), getD_out (l := L) (by omega), Int.mul_zero, Int.mul_zero]
      rfl
    · show c * q i + (-g) * r i = 0
      rw [qz i (by omega), rz i (by omega), Int.mul_zero, Int.mul_zero]
      rfl
  have he : ∀ i, g * M.getD i 0 = c * L.getD i 0 := by
    intro i
    have := hw i
    rw [cfF_zero _ _ _ _ fun j _ _ => by rw [hz]; exact Int.mul_zero _] at this
    omega
  have hlen : L.length = M.length := Nat.le_antisymm (pol_len l1 m1 c0 g0 fun i => (he i).symm) (pol_len m1 l1 g0 c0 he)
  refine prim_eq (a := c.toNat) (b := g.toNat) (by omega) (by omega) ?_
  refine List.ext_getElem (by rw [List.length_map, List.length_map, hlen]) fun i h1 h2 => ?_
  rw [List.length_map] at h1 h2
  rw [List.getElem_map, List.getElem_map]
  have t := he i
  rw [getD_at (List.getElem?_eq_getElem h1), getD_at (List.getElem?_eq_getElem h2)] at t
  have ec : ((c.toNat : Nat) : Int) = c := Int.toNat_of_nonneg (by omega)
  have eg : ((g.toNat : Nat) : Int) = g := Int.toNat_of_nonneg (by omega)
  exact Eq.trans (congrArg (fun z => z * L[i]) ec) (Eq.trans t.symm (congrArg (fun z => z * M[i]) eg.symm))
theorem trm_getD (ns : List Int) (i : Nat) : (trm ns).getD i 0 = ns.getD i 0 := by
  unfold trm
  by_cases h : i < ns.length - tz ns
  · rw [List.getD_eq_getElem?_getD, List.getD_eq_getElem?_getD, List.getElem?_take, if_pos h]
  · rw [getD_out (by rw [List.length_take]; omega)]
    by_cases h2 : i < ns.length
    · have := tz_in ns (ns.length - 1 - i) (by omega)
      rw [show ns.length - 1 - (ns.length - 1 - i) = i by omega] at this
      rw [getD_at this]
    · rw [getD_out (by omega)]
end V2


namespace V2
def Rs (P B L : List Int) : Prop := ∃ (g : Int) (q : Nat → Int) (N : Nat), 0 < g ∧ (∀ i, N ≤ i → q i = 0) ∧ ∀ i, g * P.getD i 0 = cfF (fun j => B.getD j 0) q B.length i + L.getD i 0
theorem Rs.self (P B : List Int) : Rs P B P := ⟨1, fun _ => 0, 0, by decide, fun _ _ => rfl, fun i => by
  rw [cfF_zero _ _ _ _ fun _ _ _ => Int.mul_zero _, Int.one_mul, Int.zero_add]⟩
def tkn (B : List Int) (off : Nat) (t : Int) : List Int := List.replicate off 0 ++ B.map fun x => t * x
theorem tkn_getD (B : List Int) (off : Nat) (t : Int) (k : Nat) : (tkn B off t).getD k 0 = if off ≤ k then t * B.getD (k - off) 0 else 0 := by
  unfold tkn
  rw [(List.getD_eq_getElem?_getD)]
  by_cases h : off ≤ k
  · rw [if_pos h, List.getElem?_append_right (by rw [List.length_replicate]; exact h), List.length_replicate, List.getElem?_map, List.getD_eq_getElem?_getD]
    cases B[k - off]? with
    | none => show (0 : Int) = t * 0; rw [Int.mul_zero]
    | some x => rfl
  · rw [if_neg h, List.getElem?_append_left (by rw [List.length_replicate]; omega), List.getElem?_replicate, if_pos (by omega)]
    rfl
theorem tkn_len (B : List Int) (off : Nat) (t : Int) : (tkn B off t).length = off + B.length := by
  unfold tkn; rw [List.length_append, List.length_replicate, List.length_map]
/-- one step of the program -/
def stepL (B L : List Int) (g t : Int) : List Int := vec L.length fun k => g * L.getD k 0 - (tkn B (L.length - B.length) t).getD k 0
theorem vec_getD (N : Nat) (f : Nat → Int) (i : Nat) : (vec N f).getD i 0 = if i < N then f i else 0 := by
  by_cases h : i < N
  · rw [if_pos h, getD_at (vec_get h)]
  · rw [if_neg h, getD_out (by rw [vec_len]; omega)]
theorem trm_short {ns : List Int} {n : Nat} (hn : ns.length = n + 1) (h : ns.getD n 0 = 0) : (trm ns).length < ns.length := by
  rcases Nat.eq_zero_or_pos (tz ns) with z | z
  · exfalso
    obtain ⟨x, h1, h2⟩ := tz_at ns (by omega)
    rw [z, hn] at h1
    have h1 : ns[n]? = some x := h1
    rw [getD_at h1] at h
    exact h2 h
  · unfold trm
    rw [List.length_take]
    omega
theorem rs_step {P B L : List Int} (h0 : B ≠ []) (h : Rs P B L) (hl : B.length ≤ L.length) {g t : Int} (hg : 0 < g) (ht : g * L.getD (L.length - 1) 0 = t * B.getD (B.length - 1) 0) : Rs P B (trm (stepL B L g t)) ∧ (trm (stepL B L g t)).length < L.length := by
  have lb : 0 < B.length := List.length_pos_iff.mpr h0
  constructor
  · obtain ⟨c, q, N, c0, qz, qe⟩ := h
    refine ⟨g * c, fun j => g * q j + t * dlt (L.length - B.length) j, max N (L.length - B.length + 1), Int.mul_pos hg c0, fun i hi => ?_, fun i => ?_⟩
    · show g * q i + t * dlt (L.length - B.length) i = 0
      unfold dlt
      rw [qz i (by omega), if_neg (by omega), Int.mul_zero, Int.mul_zero]
      rfl
    · rw [Int.mul_assoc, qe i, cfF_lin, cfF_dlt, trm_getD, Int.mul_add]
      unfold stepL
      rw [vec_getD, tkn_getD]
      have hb : (if L.length - B.length ≤ i ∧ i - (L.length - B.length) < B.length then B.getD (i - (L.length - B.length)) 0 else 0) = if L.length - B.length ≤ i then B.getD (i - (L.length - B.length)) 0 else 0 := by
        by_cases h1 : L.length - B.length ≤ i
        · rw [if_pos h1]
          by_cases h2 : i - (L.length - B.length) < B.length
          · rw [if_pos ⟨h1, h2⟩]
          · rw [if_neg (by omega), getD_out (by omega)]
        · rw [if_neg h1, if_neg (by omega)]
      rw [hb]
      by_cases h3 : i < L.length
      · rw [if_pos h3]
        by_cases h1 : L.length - B.length ≤ i
        · rw [if_pos h1, if_pos h1]; omega
        · rw [if_neg h1, if_neg h1, Int.mul_zero]; omega
      · rw [if_neg h3, getD_out (l := L) (by omega), if_pos (by omega), getD_out (l := B) (by omega), Int.mul_zero, Int.mul_zero]
        omega
  · have := trm_short (ns := stepL B L g t) (n := L.length - 1) (by unfold stepL; rw [vec_len]; omega) (by
      unfold stepL
      rw [vec_getD, if_pos (by omega), tkn_getD, if_pos (by omega), ht, show L.length - 1 - (L.length - B.length) = B.length - 1 by omega]
      omega)
    unfold stepL at this ⊢
    rw [vec_len] at this
    exact this
/-- grow and take -/
theorem grow_take {t d : Int} (hd : d ≠ 0) : ∃ f : Int, ((Nat.gcd t.natAbs d.natAbs : Nat) : Int) = f ∧ 0 < f ∧ f.natAbs ≤ d.natAbs ∧ 0 < (if d < 0 then -d else d) / f ∧ ((if d < 0 then -d else d) / f).natAbs ≤ d.natAbs ∧ (t / f).natAbs ≤ t.natAbs ∧
    (if d < 0 then -d else d) / f * t = (if d < 0 then -(t / f) else t / f) * d := by
  refine ⟨_, rfl, ?_⟩
  have g0 : 0 < Nat.gcd t.natAbs d.natAbs := Nat.gcd_pos_of_pos_right _ (by omega)
  obtain ⟨p, hp⟩ : ((Nat.gcd t.natAbs d.natAbs : Nat) : Int) ∣ t := Int.ofNat_dvd_left.mpr (Nat.gcd_dvd_left _ _)
  obtain ⟨r, hr⟩ : ((Nat.gcd t.natAbs d.natAbs : Nat) : Int) ∣ d := Int.ofNat_dvd_left.mpr (Nat.gcd_dvd_right _ _)
  have gl : Nat.gcd t.natAbs d.natAbs ≤ d.natAbs := Nat.gcd_le_right _ (by omega)
  generalize Nat.gcd t.natAbs d.natAbs = f at *
  have f0 : (0 : Int) < (f : Int) := by omega
  have e1 : t / (f : Int) = p := by rw [hp, Int.mul_ediv_cancel_left _ (by omega)]
  have e2 : (if d < 0 then -d else d) / (f : Int) = if d < 0 then -r else r := by
    split
    · rw [hr, ← Int.mul_neg, Int.mul_ediv_cancel_left _ (by omega)]
    · rw [hr, Int.mul_ediv_cancel_left _ (by omega)]
  have ab : ∀ x : Int, x.natAbs ≤ ((f : Int) * x).natAbs := fun x => by
    rw [Int.natAbs_mul, Int.natAbs_natCast]
    exact Nat.le_mul_of_pos_left _ g0
  have r1 : d < 0 → r < 0 := fun c => by
    rcases Int.lt_or_le r 0 with z | z
    · exact z
    · have := Int.mul_nonneg (Int.le_of_lt f0) z
      omega
  have r2 : ¬ d < 0 → 0 < r := fun c => by
    rcases Int.lt_or_le 0 r with z | z
    · exact z
    · have := Int.mul_nonpos_of_nonneg_of_nonpos (Int.le_of_lt f0) z
      omega
  rw [e1, e2]
  refine ⟨f0, by omega, ?_, ?_, ?_, ?_⟩
  · split
    · have := r1 ‹_›; omega
    · exact r2 ‹_›
  · have := ab r
    rw [← hr] at this
    split <;> omega
  · have := ab p
    rw [← hp] at this
    exact this
  · split
    · conv => lhs; rw [hp]
      conv => rhs; rw [hr]
      rw [Int.neg_mul, Int.neg_mul, Int.mul_left_comm, Int.mul_left_comm p, Int.mul_comm r p]
    · conv => lhs; rw [hp]
      conv => rhs; rw [hr]
      rw [Int.mul_left_comm, Int.mul_left_comm p, Int.mul_comm r p]
end V2


namespace V2
open PySem L2
open PySem.Spec PyProof.Rows
theorem ex_but {p : Addr} {H H1 H2 : Hp} (e : Evl.Ex H H1) (b : But p H1 H2) : But p H H2 := (But.of_ex e).trans b
theorem but_back {p q : Addr} {H H' : Hp} (b : But p H H') (h : H' q = none) (hp : ∃ o, H' p = some o) : H q = none := by
  cases e : H q with
  | none => rfl
  | some o =>
    have n : q ≠ p := by
      intro z
      obtain ⟨o', h2⟩ := hp
      rw [← z, h] at h2
      cases h2
    rw [b q o n e] at h
    cases h
theorem sk_some {H : Hp} {p : Addr} {m : Nat} (h : Sk H p m) : ∃ o, H p = some o := by
  obtain ⟨a, b, c, h1, _⟩ := h
  exact ⟨_, h1⟩
theorem sk_ne {H : Hp} {p q : Addr} {m : Nat} (h : Sk H p m) (hq : H q = none) : q ≠ p := by
  intro z
  obtain ⟨o, h2⟩ := sk_some h
  rw [← z, hq] at h2
  cases h2
/-- small polynomials as the law draws them -/
def Sp6 (ns : List Int) : Prop := Pol ns ∧ ns.length ≤ 8 ∧ ∀ x ∈ ns, -1000000 ≤ x ∧ x ≤ 1000000
theorem Sp6.pn {ns : List Int} (h : Sp6 ns) : Pn ns := by
  refine ⟨h.1, by have := h.2.1; omega, fun x hx => ?_⟩
  have e : (2 : Int) ^ 64 = 18446744073709551616 := by decide
  have := h.2.2 x hx
  rw [e]
  omega
def spPoly : Sp := fun vs H Q _ => ∃ (p : Addr) (m : Nat), vs = [.ref p, .int 8] ∧ Sk H p m ∧ m ≤ 90000 ∧
  ∀ (q : Addr) (ns : List Int) (H' : Hp), But p H H' → Sk H' p (m + 20) → H q = none → Li H' q ns → Sp6 ns → Q (.ref q) H'
def spAny : Sp := fun vs H Q _ => ∃ (p : Addr) (m : Nat), vs = [.ref p] ∧ Sk H p m ∧ m ≤ 90000 ∧
  ∀ (q : Addr) (u d : Int) (H' : Hp), But p H H' → Sk H' p (m + 4) → H q = none → Fr H' q u d → Qn u d → Q (.ref q) H'
theorem at4 {a b c d r : Int} (h0 : 0 ≤ r) (h1 : r < 4) : ∃ v, atI [V.int a, .int b, .int c, .int d] r = some (.int v) ∧ (v = a ∨ v = b ∨ v = c ∨ v = d) := by
  have : r = 0 ∨ r = 1 ∨ r = 2 ∨ r = 3 := by omega
  rcases this with rfl | rfl | rfl | rfl
  · exact ⟨a, rfl, .inl rfl⟩
  · exact ⟨b, rfl, .inr (.inl rfl)⟩
  · exact ⟨c, rfl, .inr (.inr (.inl rfl))⟩
  · exact ⟨d, rfl, .inr (.inr (.inr rfl))⟩
theorem at3_ {a b c r : Int} (h0 : 0 ≤ r) (h1 : r < 3) : ∃ v, atI [V.int a, .int b, .int c] r = some (.int v) ∧ (v = a ∨ v = b ∨ v = c) := by
  have : r = 0 ∨ r = 1 ∨ r = 2 := by omega
  rcases this with rfl | rfl | rfl
  · exact ⟨a, rfl, .inl rfl⟩
  · exact ⟨b, rfl, .inr (.inl rfl)⟩
  · exact ⟨c, rfl, .inr (.inr rfl)⟩
theorem shaped_ints (ns : List Int) : SeqAt.shaped (.list (ns.map .int)) = true := by
  have h1 : ∀ l : List Int, PyData.canLayAll0 (l.map .int) = true := by
    intro l
    induction l with
    | nil => rfl
    | cons n r ih => simp [PyData.canLayAll0, PyData.canLay0, ih]
  have h2 : ∀ l : List Int, PyData.depthAll (l.map .int) ≤ 1 := by
    intro l
    induction l with
    | nil => simp [PyData.depthAll]
    | cons n r ih => simp [PyData.depthAll, PyData.depth]; omega
  unfold SeqAt.shaped
  have h3 := h2 ns
  simp [PyData.canLay0, PyData.depth, h1 ns]
  omega
section
variable {base : Heap} {mg : Str → Option Value} {K : PySem.W.Frag} {w : World} {P : Program}
end
end V2


namespace V2
open PySem L2
open PySem.Spec PyProof.Rows
/-! ## the program: what divides all, the rest -/
def spCont (K : PySem.W.Frag) : Sp := fun vs H Q _ => ∃ (a : Addr) (ns : List Int), vs = [.ref a] ∧ Li H a ns ∧ Evl.RetV (.int (cont ns : Int)) H Q
def spPrim : Sp := fun vs H Q _ => ∃ (a : Addr) (ns : List Int), vs = [.ref a] ∧ Li H a ns ∧ ns.length ≤ 100 ∧ (∀ x ∈ ns, x.natAbs < 2 ^ 9000) ∧ Pol ns ∧ Evl.RetL (iV (prim ns)) H Q
theorem cont_pos {ns : List Int} (h : Pol ns) (h0 : ns ≠ []) : 0 < cont ns := by
  rcases Nat.eq_zero_or_pos (cont ns) with z | z
  · exfalso
    have l0 : 0 < ns.length := List.length_pos_iff.mpr h0
    obtain ⟨n, hn⟩ : ∃ n, ns.length = n + 1 := ⟨ns.length - 1, by omega⟩
    have hg := getD_pol h hn
    have e : ns[n]? = some ns[n] := List.getElem?_eq_getElem (by omega)
    rw [getD_at e] at hg
    exact hg (cont_zero z _ (List.getElem_mem (by omega)))
  · exact z
theorem cont_lt {ns : List Int} {B : Nat} (h : Pol ns) (hb : ∀ x ∈ ns, x.natAbs < 2 ^ B) : cont ns < 2 ^ B := by
  by_cases h0 : ns = []
  · subst h0
    exact Nat.pow_pos (by decide)
  · have l0 : 0 < ns.length := List.length_pos_iff.mpr h0
    obtain ⟨n, hn⟩ : ∃ n, ns.length = n + 1 := ⟨ns.length - 1, by omega⟩
    have hg := getD_pol h hn
    have e : ns[n]? = some ns[n] := List.getElem?_eq_getElem (by omega)
    rw [getD_at e] at hg
    have hm : ns[n] ∈ ns := List.getElem_mem (by omega)
    have := Int.natAbs_dvd_natAbs.mpr (cont_dvd hm)
    rw [Int.natAbs_natCast] at this
    exact Nat.lt_of_le_of_lt (Nat.le_of_dvd (by omega) this) (hb _ hm)
theorem prim_at {ns : List Int} {i : Nat} {n : Int} (h : ns[i]? = some n) : (prim ns)[i]? = some (n / (cont ns : Int)) := by
  unfold prim
  rw [List.getElem?_map, h]
  rfl
theorem prim_len (ns : List Int) : (prim ns).length = ns.length := by unfold prim; rw [List.length_map]
theorem take_next {ns : List Int} {i : Nat} {n : Int} (h : ns[i]? = some n) : iV (ns.take (i + 1)) = iV (ns.take i) ++ [.int n] := by
  rw [List.take_add_one, h]
  unfold iV
  rw [List.map_append]
  rfl
section
variable {base : Heap} {mg : Str → Option Value} {K : PySem.W.Frag} {w : World} {P : Program}
theorem ok_content {f : Addr} {fd : FuncData} (F : Fun K "content" "content" s_content f fd) (mG : mg "gcd" = some (.builtin "math.gcd")) : FnOk P w K mg base CX0 1 f fd p_content (spCont K) := by
  refine F.ok sc_content (fun vs H Q E h => ?_) (fun cdv A outer s H vs Q E hr h => ?_)
  · obtain ⟨a, ns, rfl, _⟩ := h
    rfl
  · obtain ⟨a, ns, rfl, hL, k⟩ := h
    have nd := sc_content.nd
    refine ⟨_, pss_cons (ps_set (i := 1) nd rfl (Or.inl rfl) pe_int)
      (pss_cons (ps_for PassesOwn.never rfl (pi_list (pv 0)) (pg_name (i := 2) nd rfl (Or.inl rfl))
        (pss_one (ps_set (i := 1) nd rfl (Or.inl rfl) (pe_callBfun cr_gcd (by rfl) mG (pa_cons (pv 1) (pa_cons (pv 2) pa_nil))))))
      (pss_one (ps_ret (pv 1))) ), ?_⟩
    refine ⟨_, rfl, a, rfl, ⟨_, SqL.of hL⟩, for_list (xs := iV ns) (fun i σ H' => H' = H ∧ ∃ v, σ = [some (.ref a), some (.int (((ns.take i).foldl (fun g x => Nat.gcd g x.natAbs) 0 : Nat) : Int)), v]) ⟨rfl, none, rfl⟩ (fun i σ H' _ q => by rw [q.1]; exact SqL.of hL) ?_ ?_⟩
    · rintro i x σ H' hi ⟨rfl, v, rfl⟩
      obtain ⟨n, hn, rfl⟩ := iV_get hi
      refine ⟨_, rfl, _, rfl, _, _, rfl, rfl, some (.int n), ?_⟩
      rw [List.take_add_one, hn, List.foldl_append]
      rfl
    · rintro σ H' ⟨rfl, v, rfl⟩
      rw [iV_len, List.take_length, cont_fold, Nat.gcd_zero_left]
      exact ⟨_, rfl, k _ (Evl.Ex.refl _)⟩
theorem ok_primitive {f : Addr} {fd : FuncData} (F : Fun K "primitive" "primitive" s_primitive f fd) (cC : Cal P w K mg base 1 "content" p_content (spCont K)) : FnOk P w K mg base CX0 2 f fd p_primitive spPrim := by
  refine F.ok sc_primitive (fun vs H Q E h => ?_) (fun cdv A outer s H vs Q E hr h => ?_)
  · obtain ⟨a, ns, rfl, _⟩ := h
    rfl
  · obtain ⟨a, ns, rfl, hL, hl, hb, hp, k⟩ := h
    have nd := sc_primitive.nd
    refine ⟨_, pss_cons (ps_set (i := 1) nd rfl (Or.inr rfl) (pe_c cC hr (pa_cons (pv 0) pa_nil)))
      (pss_one (ps_ret (pe_lc (own := [("number", 2)]) (g := gName 2) (tt := tYes) (te := tOp (rI CDivW fun i j => .int (i / j)) (tVar 2) (tVar 1)) rfl nd (pi_list (pv 0)) (blkOk_by (N := n_primitive) (sc := defScope s_primitive) (by decide +kernel)) (fun _ _ _ _ _ => pg_name (i := 2) nd rfl (Or.inl rfl)) (fun _ _ _ _ _ => pts_nil)
          (fun _ _ _ _ _ => pe_op op_fdivW (pv 2) (pv 1))))), ?_⟩
    refine ⟨_, rfl, a, ns, rfl, hL, fun H1 e1 => ?_⟩
    have hL1 : Li H1 a ns := e1 _ _ hL
    refine ⟨_, rfl, a, rfl, ⟨_, SqL.of hL1⟩, fun D hD => lc_list (xs := iV ns) (fun i H' => Evl.Ex H1 H' ∧ H' D = some (.lst (iV ((prim ns).take i)))) ⟨Evl.Ex.new hD, upd_same⟩ (fun i H' _ q => SqL.of (q.1 _ _ hL1)) ?_ ?_⟩
    · rintro i x H' hi ⟨e2, h2⟩
      obtain ⟨n, hn, rfl⟩ := iV_get hi
      have h0 : ns ≠ [] := fun z => by rw [z] at hn; cases hn
      have cp := cont_pos hp h0
      refine ⟨rfl, ?_⟩
      show tOp (rI CDivW fun i j => .int (i / j)) (tVar 2) (tVar 1) _ _ _
      refine ⟨_, rfl, _, rfl, _, _, rfl, rfl, wide_div (b := 9000) (by omega) (by rw [Int.natAbs_natCast]; exact cont_lt hp hb) (by decide) (by decide), _, h2, ?_, Evl.Ex.mut e2 hD, ?_⟩
      · rw [iV_len, List.length_take]
        exact Nat.lt_of_le_of_lt (show _ ≤ 100 by rw [prim_len]; omega) (by decide)
      · rw [upd_same, take_next (prim_at hn)]
    · rintro H' ⟨e2, h2⟩
      rw [iV_len, ← prim_len, List.take_length] at h2
      exact k D H' (Evl.fresh_back e1 hD) (e1.trans e2) h2
end
end V2


namespace V2
open PySem L2
open PySem.Spec PyProof.Rows
/-- the rest: whatever is left, divided by what divides all -/
def spRem : Sp := fun vs H Q _ => ∃ (a b : Addr) (xs ys : List Int), vs = [.ref a, .ref b] ∧ Li H a xs ∧ Li H b ys ∧ Sp6 xs ∧ Sp6 ys ∧ ys ≠ [] ∧ ∀ L, Rm xs ys L → (∀ x ∈ L, x.natAbs < 2 ^ 190) → Evl.RetL (iV (prim L)) H Q
structure T7 (mg : Str → Option Value) : Prop where
  len : mg "len" = none
  abs : mg "abs" = none
  enu : mg "enumerate" = none
  gcd : mg "gcd" = some (.builtin "math.gcd")
theorem tkn_next {ys : List Int} {t n : Int} {i : Nat} (h : ys[i]? = some n) : iV ((ys.map fun x => t * x).take (i + 1)) = iV ((ys.map fun x => t * x).take i) ++ [.int (t * n)] :=
  take_next (by rw [List.getElem?_map, h]; rfl)
theorem vec_mem {N : Nat} {f : Nat → Int} {x : Int} (h : x ∈ vec N f) : ∃ i, i < N ∧ x = f i := by
  unfold vec at h
  obtain ⟨i, hi, e⟩ := List.mem_map.mp h
  exact ⟨i, List.mem_range.mp hi, e.symm⟩
theorem getD_mem {L : List Int} {B : Nat} (hb : ∀ x ∈ L, x.natAbs < 2 ^ B) (i : Nat) : (L.getD i 0).natAbs < 2 ^ B := by
  rw [(List.getD_eq_getElem?_getD)]
  cases e : L[i]? with
  | none => exact Nat.pow_pos (by decide)
  | some x => exact hb x (List.mem_of_getElem? e)
theorem vec_take {N : Nat} {f : Nat → Int} {i : Nat} (h : i < N) : iV ((vec N f).take (i + 1)) = iV ((vec N f).take i) ++ [.int (f i)] := take_next (vec_get h)
theorem tkn_bd {ys : List Int} {t : Int} {B : Nat} (ht : t.natAbs < 2 ^ B) (hy : ∀ x ∈ ys, x.natAbs < 2 ^ 20) (off k : Nat) : ((tkn ys off t).getD k 0).natAbs < 2 ^ (B + 20) := by
  rw [tkn_getD]
  split
  · exact wide_lt ht (getD_mem hy _)
  · exact Nat.pow_pos (by decide)
theorem step_bd {ys L : List Int} {g t : Int} {B : Nat} (hL : ∀ x ∈ L, x.natAbs < 2 ^ B) (hg : g.natAbs < 2 ^ 20) (ht : t.natAbs < 2 ^ B) (hy : ∀ x ∈ ys, x.natAbs < 2 ^ 20) : ∀ x ∈ trm (stepL ys L g t), x.natAbs < 2 ^ (B + 21) := by
  intro x hx
  obtain ⟨i, _, rfl⟩ := vec_mem (trm_mem hx)
  have h1 := tkn_bd ht hy (L.length - ys.length) i
  have h2 := wide_lt hg (getD_mem hL i)
  have e : (2 : Nat) ^ (B + 21) = 2 ^ (B + 20) + 2 ^ (B + 20) := by
    rw [show B + 21 = B + 20 + 1 from rfl, Nat.pow_succ]; omega
  rw [Nat.add_comm 20 B] at h2
  rw [e]
  omega
theorem Sp6.b20 {ns : List Int} (h : Sp6 ns) : ∀ x ∈ ns, x.natAbs < 2 ^ 20 := fun x hx => by
  have := h.2.2 x hx
  have e : (2 : Nat) ^ 20 = 1048576 := (by decide)
  rw [e]; omega
/-- ahead of each turn of the loop -/
def Wh (H : Hp) (a b : Addr) (ld : Int) (xs ys : List Int) (m : Nat) (σ : L2.St) (H' : Hp) : Prop := ∃ (l : Addr) (L : List Int) (v4 v5 v6 v7 v8 : Option V), σ = [some (.ref a), some (.ref b), some (.ref l), some (.int ld), v4, v5, v6, v7, v8, none, none] ∧
  Evl.Ex H H' ∧ Li H' l L ∧ Pol L ∧ L.length = m ∧ m ≤ 8 ∧ (∀ x ∈ L, x.natAbs < 2 ^ (21 * (9 - m))) ∧ Rs xs ys L
theorem more {ns : List Int} {A B : Nat} (h : ∀ x ∈ ns, x.natAbs < 2 ^ A) (hl : A ≤ B) : ∀ x ∈ ns, x.natAbs < 2 ^ B := fun x hx => big (h x hx) hl
section
variable {base : Heap} {mg : Str → Option Value} {K : PySem.W.Frag} {w : World} {P : Program}
end
end V2


namespace V2
/-! ## rows of rests: mathematics -/
def Bs (n : Nat) (ns : List Int) : Prop := ∀ x ∈ ns, x.natAbs < 2 ^ n
theorem Bs.le {n m : Nat} {ns : List Int} (h : Bs n ns) (l : n ≤ m) : Bs m ns := fun x hx => Nat.lt_of_lt_of_le (h x hx) (Nat.pow_le_pow_right (by decide) l)
theorem Bs.at_ {n : Nat} {ns : List Int} (h : Bs n ns) (i : Nat) : (ns.getD i 0).natAbs < 2 ^ n := by
  rw [List.getD_eq_getElem?_getD]
  cases e : ns[i]? with
  | none => exact Nat.pow_pos (by decide)
  | some x => exact h x (List.mem_of_getElem? e)
theorem bs_mul {i j : Int} {n m : Nat} (h1 : i.natAbs < 2 ^ n) (h2 : j.natAbs < 2 ^ m) : (i * j).natAbs < 2 ^ (n + m) := by
  rw [Int.natAbs_mul, Nat.pow_add]
  exact Nat.mul_lt_mul'' h1 h2
theorem vec_in {N : Nat} {f : Nat → Int} {x : Int} (h : x ∈ vec N f) : ∃ i, i < N ∧ x = f i := by
  unfold vec at h
  obtain ⟨i, hi, e⟩ := List.mem_map.mp h
  exact ⟨i, List.mem_range.mp hi, e.symm⟩
theorem bs_trm {n : Nat} {ns : List Int} (h : Bs n ns) : Bs n (trm ns) := fun x hx => h x (trm_mem hx)
theorem bs_step {B L : List Int} {g t : Int} {b c : Nat} (hL : Bs c L) (hg : g.natAbs < 2 ^ b) (ht : t.natAbs < 2 ^ c) (hB : Bs b B) : Bs (c + (b + 1)) (trm (stepL B L g t)) := by
  intro x hx
  obtain ⟨i, _, rfl⟩ := vec_in (trm_mem hx)
  have h2 := bs_mul hg (hL.at_ i)
  have h1 : ((tkn B (L.length - B.length) t).getD i 0).natAbs < 2 ^ (c + b) := by
    rw [tkn_getD]
    split
    · exact bs_mul ht (hB.at_ _)
    · exact Nat.pow_pos (by decide)
  have e : (2 : Nat) ^ (c + (b + 1)) = 2 ^ (c + b) + 2 ^ (c + b) := by
    rw [show c + (b + 1) = c + b + 1 from rfl, Nat.pow_succ]; omega
  rw [Nat.add_comm b c] at h2
  rw [e]
  omega
theorem last_at {ns : List Int} (h : ns ≠ []) : ∃ x, ns[ns.length - 1]? = some x ∧ x ∈ ns := by
  have l := List.length_pos_iff.mpr h
  exact ⟨ns[ns.length - 1]'(by omega), List.getElem?_eq_getElem (by omega), List.getElem_mem _⟩
theorem rem_loop {P B : List Int} {b : Nat} (hB : Pol B) (h0 : B ≠ []) (bb : Bs b B) : ∀ (n : Nat) (L : List Int) (c : Nat), L.length ≤ n → Pol L → Rs P B L → Bs c L → ∃ M, Rm P B M ∧ Bs (c + (L.length + 1 - B.length) * (b + 1)) M := by
  intro n
  have lb := List.length_pos_iff.mpr h0
  induction n with
  | zero =>
    intro L c hl hp hR hb
    exact ⟨L, ⟨hp, by omega, hR⟩, hb.le (by omega)⟩
  | succ n ih =>
    intro L c hl hp hR hb
    by_cases h : L.length < B.length
    · exact ⟨L, ⟨hp, h, hR⟩, hb.le (by omega)⟩
    · have L0 : L ≠ [] := fun z => by
        rw [z] at h
        exact h lb
      obtain ⟨tp, htp, htm⟩ := last_at L0
      obtain ⟨ld, hld, hlm⟩ := last_at h0
      have ld0 := hB ld hld
      obtain ⟨f, hf, f0, fb, g0, gb, tb, ge⟩ := grow_take (t := tp) (d := ld) ld0
      have ge' : (if ld < 0 then -ld else ld) / f * L.getD (L.length - 1) 0 = (if ld < 0 then -(tp / f) else tp / f) * B.getD (B.length - 1) 0 := by
        rw [getD_at htp, getD_at hld]
        exact ge
      obtain ⟨r1, r2⟩ := rs_step h0 hR (by omega) g0 ge'
      have hg : ((if ld < 0 then -ld else ld) / f).natAbs < 2 ^ b := Nat.lt_of_le_of_lt gb (bb ld hlm)
      have ht : (if ld < 0 then -(tp / f) else tp / f).natAbs < 2 ^ c := by
        have h1 := hb tp htm
        have h2 : (if ld < 0 then -(tp / f) else tp / f).natAbs = (tp / f).natAbs := by split <;> omega
        omega
      have hs := bs_step hb hg ht bb
      obtain ⟨M, hM, bM⟩ := ih _ (c + (b + 1)) (by omega) (pol_trm _) r1 hs
      refine ⟨M, hM, bM.le ?_⟩
      generalize (trm (stepL B L ((if ld < 0 then -ld else ld) / f) (if ld < 0 then -(tp / f) else tp / f))).length = k at r2
      have e1 : (k + 1 - B.length) + 1 ≤ L.length + 1 - B.length := by omega
      have e2 := Nat.mul_le_mul_right (b + 1) e1
      rw [Nat.succ_mul] at e2
      omega
theorem rem_ex {A B : List Int} {a b : Nat} (hA : Pol A) (hB : Pol B) (h0 : B ≠ []) (ba : Bs a A) (bb : Bs b B) : ∃ M, Rm A B M ∧ Bs (a + (A.length + 1 - B.length) * (b + 1)) M :=
  rem_loop hB h0 bb A.length A a (Nat.le_refl _) hA (Rs.self _ _) ba
open Classical in
/-- some rest, if there is one -/
noncomputable def remF (A B : List Int) : List Int := if h : ∃ L, Rm A B L then h.choose else []
theorem remF_rm {A B L : List Int} (h : Rm A B L) : Rm A B (remF A B) := by
  have hx : ∃ L, Rm A B L := ⟨L, h⟩
  unfold remF
  rw [dif_pos hx]
  exact hx.choose_spec
def negL (ns : List Int) : List Int := ns.map fun x => -x
/-- the next one of a row -/
noncomputable def nx (A B : List Int) : List Int := negL (prim (remF A B))
theorem nx_eq {A B L : List Int} (hB : Pol B) (h : Rm A B L) : nx A B = negL (prim L) := by
  unfold nx
  rw [(remF_rm h).uniq hB h]
theorem prim_length (ns : List Int) : (prim ns).length = ns.length := by unfold prim; rw [List.length_map]
theorem negL_length (ns : List Int) : (negL ns).length = ns.length := by unfold negL; rw [List.length_map]
theorem nx_len {A B : List Int} (h : B ≠ []) : (nx A B).length < B.length := by
  unfold nx
  rw [negL_length, prim_length]
  by_cases hx : ∃ L, Rm A B L
  · obtain ⟨L, hL⟩ := hx
    exact (remF_rm hL).2.1
  · unfold remF
    rw [dif_neg hx]
    exact List.length_pos_iff.mpr h
theorem bs_prim {L : List Int} {B : Nat} (h : Bs B L) : Bs B (prim L) := by
  intro y hy
  unfold prim at hy
  obtain ⟨x, hx, rfl⟩ := List.mem_map.mp hy
  obtain ⟨p, hp⟩ := cont_dvd hx
  rcases Nat.eq_zero_or_pos (cont L) with z | z
  · rw [z]
    show (x / 0).natAbs < 2 ^ B
    rw [Int.ediv_zero]
    exact Nat.pow_pos (by decide)
  · have e : x / (cont L : Int) = p := by
      conv => lhs; rw [hp]
      rw [Int.mul_ediv_cancel_left _ (by omega)]
    rw [e]
    have h1 := h x hx
    rw [hp, Int.natAbs_mul, Int.natAbs_natCast] at h1
    exact Nat.lt_of_le_of_lt (Nat.le_mul_of_pos_left _ z) h1
theorem bs_neg {L : List Int} {B : Nat} (h : Bs B L) : Bs B (negL L) := by
  intro y hy
  unfold negL at hy
  obtain ⟨x, hx, rfl⟩ := List.mem_map.mp hy
  rw [Int.natAbs_neg]
  exact h x hx
theorem pol_negL {L : List Int} (h : Pol L) : Pol (negL L) := by
  intro y hy
  unfold negL at hy
  rw [List.length_map, List.getElem?_map] at hy
  cases e : L[L.length - 1]? with
  | none => rw [e] at hy; cases hy
  | some x =>
    rw [e] at hy
    have := h x e
    have hy : -x = y := Option.some.inj hy
    omega
theorem pol_prim {L : List Int} (h : Pol L) : Pol (prim L) := by
  intro y hy
  unfold prim at hy
  rw [List.length_map, List.getElem?_map] at hy
  cases e : L[L.length - 1]? with
  | none => rw [e] at hy; cases hy
  | some x =>
    rw [e] at hy
    have hx := h x e
    have hy : x / (cont L : Int) = y := Option.some.inj hy
    have hm : x ∈ L := List.mem_of_getElem? e
    obtain ⟨p, hp⟩ := cont_dvd hm
    intro y0
    have c0 : (cont L : Int) ≠ 0 := fun z => by
      rw [z, Int.zero_mul] at hp
      exact hx hp
    have : x / (cont L : Int) = p := by
      conv => lhs; rw [hp]
      rw [Int.mul_ediv_cancel_left _ c0]
    rw [this, y0] at hy
    rw [hy, Int.mul_zero] at hp
    exact hx hp
theorem prim_one {x : Int} (h : x ≠ 0) : Bs 1 (prim [x]) := by
  intro y hy
  have e : prim [x] = [x / (x.natAbs : Int)] := by
    unfold prim cont cont
    rw [Nat.gcd_zero_right]
    rfl
  rw [e] at hy
  obtain rfl := List.mem_singleton.mp hy
  rcases Int.lt_or_gt_of_ne h with c | c
  · have e1 : (x.natAbs : Int) = -x := by omega
    rw [e1, Int.ediv_neg, Int.ediv_self h]
    decide
  · have e1 : (x.natAbs : Int) = x := by omega
    rw [e1, Int.ediv_self h]
    decide
/-! ### the slope -/
def slopeL (p : List Int) : List Int := vec (p.length - 1) fun k => ((k + 1 : Nat) : Int) * p.getD (k + 1) 0
theorem slopeL_len (p : List Int) : (slopeL p).length = p.length - 1 := vec_len _ _
theorem slopeL_getD (p : List Int) (i : Nat) : (slopeL p).getD i 0 = ((i + 1 : Nat) : Int) * p.getD (i + 1) 0 := by
  unfold slopeL
  rw [vec_getD]
  split
  · rfl
  · rw [getD_out (l := p) (by omega), Int.mul_zero]
theorem pol_slope {p : List Int} (h : Pol p) : Pol (slopeL p) := by
  intro x hx
  rw [slopeL_len] at hx
  have hl : p.length - 1 - 1 < p.length - 1 := by
    have := (List.getElem?_eq_some_iff.mp hx).1
    rwa [slopeL_len] at this
  unfold slopeL at hx
  rw [vec_get hl] at hx
  have hx := Option.some.inj hx
  have e : p[p.length - 1]? = some (p[p.length - 1]'(by omega)) := List.getElem?_eq_getElem (by omega)
  rw [show p.length - 1 - 1 + 1 = p.length - 1 by omega, getD_at e] at hx
  rw [← hx]
  exact Int.mul_ne_zero (by omega) (h _ e)
/-- a polynomial that may be passed: at most eight numbers to 10 ** 6 -/
def P6 (p : List Int) : Prop := Pol p ∧ p.length ≤ 8 ∧ ∀ x ∈ p, -1000000 ≤ x ∧ x ≤ 1000000
theorem P6.at_ {p : List Int} (h : P6 p) (i : Nat) : -1000000 ≤ p.getD i 0 ∧ p.getD i 0 ≤ 1000000 := by
  rw [List.getD_eq_getElem?_getD]
  cases e : p[i]? with
  | none => exact ⟨by decide, by decide⟩
  | some x => exact h.2.2 x (List.mem_of_getElem? e)
theorem small_mul {k : Nat} {x : Int} (hk : k ≤ 7) (h : -1000000 ≤ x ∧ x ≤ 1000000) : (((k : Nat) : Int) * x).natAbs < 2 ^ 23 := by
  rw [Int.natAbs_mul, Int.natAbs_natCast]
  have : k * x.natAbs ≤ 7 * 1000000 := Nat.mul_le_mul hk (by omega)
  have e : (2 : Nat) ^ 23 = 8388608 := by decide
  omega
theorem P6.slope {p : List Int} (h : P6 p) : Bs 23 (slopeL p) := by
  intro x hx
  obtain ⟨i, hi, rfl⟩ := vec_in hx
  have := h.2.1
  exact small_mul (by omega) (h.at_ _)
theorem P6.b20 {p : List Int} (h : P6 p) : Bs 20 p := fun x hx => by
  have := h.2.2 x hx
  have e : (2 : Nat) ^ 20 = 1048576 := (by decide)
  rw [e]; omega
/-- a first step for the rest by the slope -/
def firstL (p : List Int) : List Int := vec (p.length - 1) fun k => (((p.length - 1 - k : Nat) : Int)) * p.getD k 0
theorem first_rs {p : List Int} (h2 : 2 ≤ p.length) : Rs p (slopeL p) (firstL p) := by
  refine ⟨((p.length - 1 : Nat) : Int), dlt 1, 2, by omega, fun i hi => by unfold dlt; rw [if_neg (by omega)], fun i => ?_⟩
  rw [cfF_dlt, slopeL_len]
  unfold firstL
  rw [vec_getD]
  by_cases h1 : 1 ≤ i ∧ i - 1 < p.length - 1
  · rw [if_pos h1, slopeL_getD, show i - 1 + 1 = i by omega]
    by_cases h3 : i < p.length - 1
    · rw [if_pos h3, ← Int.add_mul]
      congr 1
      omega
    · rw [if_neg h3, Int.add_zero]
      congr 2
      omega
  · rw [if_neg h1]
    by_cases h3 : i < p.length - 1
    · rw [if_pos h3, Int.zero_add]
      congr 2
      omega
    · rw [if_neg h3, getD_out (l := p) (by omega), Int.mul_zero]
      rfl
theorem rs_trm {P B L : List Int} (h : Rs P B L) : Rs P B (trm L) := by
  obtain ⟨g, q, N, h1, h2, h3⟩ := h
  exact ⟨g, q, N, h1, h2, fun i => by rw [trm_getD]; exact h3 i⟩
theorem rem_first {p : List Int} (h : P6 p) (h2 : 2 ≤ p.length) : ∃ M, Rm p (slopeL p) M ∧ Bs 47 M := by
  have s0 : slopeL p ≠ [] := fun z => by
    have := slopeL_len p
    rw [z, List.length_nil] at this
    omega
  have fb : Bs 23 (trm (firstL p)) := bs_trm (by
    intro x hx
    obtain ⟨i, hi, rfl⟩ := vec_in hx
    have := h.2.1
    exact small_mul (by omega) (h.at_ _))
  obtain ⟨M, hM, bM⟩ := rem_loop (pol_slope h.1) s0 h.slope _ _ 23 (Nat.le_refl _) (pol_trm _) (rs_trm (first_rs h2)) fb
  refine ⟨M, hM, bM.le ?_⟩
  have l1 := trm_len (firstL p)
  have l2 : (firstL p).length = p.length - 1 := vec_len _ _
  rw [slopeL_len]
  have : (trm (firstL p)).length + 1 - (p.length - 1) ≤ 1 := by omega
  have := Nat.mul_le_mul_right (23 + 1) this
  omega
/-! ### the row -/
noncomputable def rowF : Nat → List Int → List Int → List (List Int)
  | 0, _, _ => []
  | n + 1, A, B => if B = [] then [] else B :: rowF n B (nx A B)
theorem rowF_ext : ∀ (n m : Nat) (A B : List Int), B.length ≤ n → B.length ≤ m → rowF n A B = rowF m A B
  | 0, 0, _, _, _, _ => rfl
  | 0, m + 1, A, B, h, _ => by
    have : B = [] := List.eq_nil_of_length_eq_zero (by omega)
    subst this
    rfl
  | n + 1, 0, A, B, _, h => by
    have : B = [] := List.eq_nil_of_length_eq_zero (by omega)
    subst this
    rfl
  | n + 1, m + 1, A, B, h1, h2 => by
    unfold rowF
    by_cases e : B = []
    · rw [if_pos e, if_pos e]
    · rw [if_neg e, if_neg e]
      have := nx_len (A := A) e
      rw [rowF_ext n m B (nx A B) (by omega) (by omega)]
noncomputable def rowT (A B : List Int) : List (List Int) := rowF B.length A B
theorem rowT_nil (A : List Int) : rowT A [] = [] := rfl
theorem rowT_cons {A B : List Int} (h : B ≠ []) : rowT A B = B :: rowT B (nx A B) := by
  have l := List.length_pos_iff.mpr h
  unfold rowT
  obtain ⟨n, hn⟩ : ∃ n, B.length = n + 1 := ⟨B.length - 1, by omega⟩
  rw [hn]
  show (if B = [] then [] else B :: rowF n B (nx A B)) = _
  rw [if_neg h]
  have := nx_len (A := A) h
  rw [rowF_ext n _ B (nx A B) (by omega) (Nat.le_refl _)]
theorem rowF_len : ∀ (n : Nat) (A B : List Int), (rowF n A B).length ≤ n
  | 0, _, _ => Nat.le_refl _
  | n + 1, A, B => by
    unfold rowF
    split
    · exact Nat.zero_le _
    · have := rowF_len n B (nx A B)
      simp only [List.length_cons]
      omega
noncomputable def rowL (p : List Int) : List (List Int) := p :: rowT p (slopeL p)
theorem rowL_len {p : List Int} (h : p ≠ []) : (rowL p).length ≤ p.length := by
  have l := List.length_pos_iff.mpr h
  unfold rowL rowT
  have := rowF_len (slopeL p).length p (slopeL p)
  rw [slopeL_len] at this ⊢
  simp only [List.length_cons]
  omega
/-- how many bits -/
def gam : Nat → Nat
  | 0 => 20
  | 1 => 23
  | 2 => 47
  | 3 => 119
  | 4 => 287
  | 5 => 695
  | 6 => 1679
  | _ => 4055
/-- two neighbours in a row -/
structure Nb (A B : List Int) : Prop where
  pa : Pol A
  pb : Pol B
  la : A.length ≤ 8
  lt : B.length < A.length
  ba : Bs (gam (8 - A.length)) A
  bb : Bs (gam (9 - A.length)) B
  b1 : B.length = 1 → Bs 23 B
  sm : Bs 1700 A
theorem gam_mono : ∀ i j : Nat, i ≤ j → gam i ≤ gam j := by
  have h1 : ∀ i, i < 9 → gam i ≤ 4055 := by decide
  have h2 : ∀ j, j < 8 → ∀ i, i ≤ j → gam i ≤ gam j := by decide
  intro i j h
  by_cases c : j < 8
  · exact h2 j c i h
  · have e : gam j = 4055 := by
      match j, c with
      | 0, c => exact absurd (by decide) c
      | 1, c => exact absurd (by decide) c
      | 2, c => exact absurd (by decide) c
      | 3, c => exact absurd (by decide) c
      | 4, c => exact absurd (by decide) c
      | 5, c => exact absurd (by decide) c
      | 6, c => exact absurd (by decide) c
      | n + 7, _ => rfl
    rw [e]
    by_cases c2 : i < 9
    · exact h1 i c2
    · have : gam i = 4055 := by
        match i, c2 with
        | n + 7, _ => rfl
        | 0, c => exact absurd (by decide) c
        | 1, c => exact absurd (by decide) c
        | 2, c => exact absurd (by decide) c
        | 3, c => exact absurd (by decide) c
        | 4, c => exact absurd (by decide) c
        | 5, c => exact absurd (by decide) c
        | 6, c => exact absurd (by decide) c
      omega
theorem gam_step : ∀ a, a < 8 → ∀ b, b < a → 2 ≤ b → gam (8 - a) + (a + 1 - b) * (gam (9 - a) + 1) ≤ gam (9 - b) := by decide
theorem gam_room : ∀ a, a < 9 → ∀ b, b < a → 2 ≤ b → gam (8 - a) + (a + 1 - b) * (2 * gam (9 - a) + 1) ≤ 8000 := by decide
theorem gam_room1 : ∀ a, a < 9 → 2 ≤ a → gam (8 - a) + a * 47 ≤ 8000 := by decide
theorem Nb.smb {A B : List Int} (h : Nb A B) : Bs 1700 B := by
  by_cases c : B.length = 1
  · exact (h.b1 c).le (by decide)
  · by_cases c2 : B.length = 0
    · have : B = [] := List.eq_nil_of_length_eq_zero c2
      subst this
      intro x hx
      cases hx
    · refine h.bb.le ?_
      have := h.lt
      have := gam_mono (9 - A.length) 6 (by omega)
      have : gam 6 = 1679 := rfl
      omega
/-- bits of both, and the room that a rest of them takes -/
theorem Nb.room {A B : List Int} (h : Nb A B) (h0 : B ≠ []) : ∃ bx by_ : Nat, Bs bx A ∧ Bs by_ B ∧ bx + (A.length + 1 - B.length) * (2 * by_ + 1) ≤ 8000 ∧ by_ ≤ 4055 := by
  have l := List.length_pos_iff.mpr h0
  have hl := h.lt
  have ha := h.la
  by_cases c : B.length = 1
  · refine ⟨_, 23, h.ba, h.b1 c, ?_, by decide⟩
    have := gam_room1 A.length (by omega) (by omega)
    rw [c]
    simp only [Nat.add_sub_cancel]
    omega
  · refine ⟨_, _, h.ba, h.bb, ?_, ?_⟩
    · exact gam_room A.length (by omega) B.length (by omega) (by omega)
    · exact gam_mono _ 7 (by omega)
theorem pol_one {L : List Int} (h : Pol L) (hl : L.length = 1) : ∃ x, L = [x] ∧ x ≠ 0 := by
  match L, hl with
  | [x], _ => exact ⟨x, rfl, h x rfl⟩
theorem nx_small {A B M : List Int} {m : Nat} (hB : Pol B) (hM : Rm A B M) (bM : Bs m M) : Pol (nx A B) ∧ Bs m (nx A B) ∧ ((nx A B).length = 1 → Bs 23 (nx A B)) := by
  rw [nx_eq hB hM]
  refine ⟨pol_negL (pol_prim hM.1), bs_neg (bs_prim bM), fun h => ?_⟩
  rw [negL_length, prim_length] at h
  obtain ⟨x, rfl, hx⟩ := pol_one hM.1 h
  exact (bs_neg (prim_one hx)).le (by decide)
theorem nb_first {p : List Int} (h : P6 p) (h0 : p ≠ []) : Nb p (slopeL p) where
  pa := h.1
  pb := pol_slope h.1
  la := h.2.1
  lt := by
    have := List.length_pos_iff.mpr h0
    rw [slopeL_len]
    omega
  ba := h.b20.le (gam_mono 0 _ (Nat.zero_le _))
  bb := h.slope.le (gam_mono 1 _ (by have := h.2.1; omega))
  b1 := fun _ => h.slope
  sm := h.b20.le (by decide)
theorem nb_second {p : List Int} (h : P6 p) (s0 : slopeL p ≠ []) : Nb (slopeL p) (nx p (slopeL p)) := by
  have l := List.length_pos_iff.mpr s0
  have sl := slopeL_len p
  obtain ⟨M, hM, bM⟩ := rem_first h (by omega)
  obtain ⟨n1, n2, n3⟩ := nx_small (pol_slope h.1) hM bM
  have h8 := h.2.1
  exact {
    pa := pol_slope h.1
    pb := n1
    la := by omega
    lt := nx_len s0
    ba := h.slope.le (gam_mono 1 _ (by omega))
    bb := n2.le (gam_mono 2 _ (by omega))
    b1 := n3
    sm := h.slope.le (by decide) }
theorem nb_next {A B : List Int} (h : Nb A B) (h7 : A.length ≤ 7) (h0 : B ≠ []) : Nb B (nx A B) := by
  have l := List.length_pos_iff.mpr h0
  have hl := h.lt
  obtain ⟨M, hM, bM⟩ := rem_ex h.pa h.pb h0 h.ba h.bb
  obtain ⟨n1, n2, n3⟩ := nx_small h.pb hM bM
  refine { pa := h.pb, pb := n1, la := by omega, lt := nx_len h0, ba := h.bb.le (gam_mono _ _ (by omega)), bb := ?_, b1 := n3, sm := h.smb }
  by_cases c : B.length = 1
  · have := nx_len (A := A) h0
    have : nx A B = [] := List.eq_nil_of_length_eq_zero (by omega)
    rw [this]
    intro x hx
    cases hx
  · exact n2.le (gam_step A.length (by omega) B.length (by omega) (by omega))
/-- where a row of p stands -/
structure Wr (p : List Int) (pre : List (List Int)) (A B : List Int) : Prop where
  nb : Nb A B
  hd : (A = p ∧ B = slopeL p) ∨ A.length ≤ 7
  all : pre ++ A :: rowT A B = rowL p
theorem Wr.start {p : List Int} (h : P6 p) (h0 : p ≠ []) : Wr p [] p (slopeL p) := ⟨nb_first h h0, .inl ⟨rfl, rfl⟩, rfl⟩
theorem Wr.next {p : List Int} {pre : List (List Int)} {A B : List Int} (hp : P6 p) (h : Wr p pre A B) (h0 : B ≠ []) : Wr p (pre ++ [A]) B (nx A B) := by
  obtain ⟨h1, h2, h3⟩ := h
  refine ⟨?_, .inr (by have := h1.la; have := h1.lt; omega), ?_⟩
  · rcases h2 with ⟨rfl, rfl⟩ | h2
    · exact nb_second hp h0
    · exact nb_next h1 h2 h0
  · rw [← h3, rowT_cons h0, List.append_assoc]
    rfl
theorem Wr.done {p : List Int} {pre : List (List Int)} {A : List Int} (h : Wr p pre A []) : pre ++ [A] = rowL p := by
  rw [← h.all, rowT_nil]
theorem Wr.one {p : List Int} {pre : List (List Int)} {A B : List Int} (h : Wr p pre A B) (h1 : B.length = 1) : pre ++ [A] ++ [B] = rowL p := by
  have h0 : B ≠ [] := fun z => by rw [z] at h1; cases h1
  have : nx A B = [] := List.eq_nil_of_length_eq_zero (by have := nx_len (A := A) h0; omega)
  rw [← h.all, rowT_cons h0, this, rowT_nil, List.append_assoc]
  rfl
theorem Wr.pre_len {p : List Int} {pre : List (List Int)} {A B : List Int} (hp : P6 p) (h0 : p ≠ []) (h : Wr p pre A B) : pre.length ≤ 7 := by
  have h1 := rowL_len h0
  rw [← h.all] at h1
  have := hp.2.1
  simp only [List.length_append, List.length_cons] at h1
  omega
/-- what is known of each one in a row -/
def Rw5 (R : List Int) : Prop := Pol R ∧ R ≠ [] ∧ R.length ≤ 8 ∧ Bs 1700 R
theorem rowF_ok : ∀ (n : Nat) (A B : List Int), Nb A B → A.length ≤ 7 → ∀ R ∈ rowF n A B, Rw5 R
  | 0, _, _, _, _, R, h => by cases h
  | n + 1, A, B, hn, h7, R, h => by
    unfold rowF at h
    by_cases e : B = []
    · rw [if_pos e] at h
      cases h
    · rw [if_neg e] at h
      rcases List.mem_cons.mp h with rfl | h
      · exact ⟨hn.pb, e, by have := hn.lt; omega, hn.smb⟩
      · exact rowF_ok n B (nx A B) (nb_next hn h7 e) (by have := hn.lt; omega) R h
theorem rowL_ok {p : List Int} (h : P6 p) (h0 : p ≠ []) : ∀ R ∈ rowL p, Rw5 R := by
  intro R hR
  have hl := List.length_pos_iff.mpr h0
  rcases List.mem_cons.mp hR with rfl | hR
  · exact ⟨h.1, h0, h.2.1, h.b20.le (by decide)⟩
  · by_cases e : slopeL p = []
    · rw [e] at hR
      rw [rowT_nil] at hR
      cases hR
    · rw [rowT_cons e] at hR
      have sl := slopeL_len p
      have h8 := h.2.1
      rcases List.mem_cons.mp hR with rfl | hR
      · exact ⟨pol_slope h.1, e, by omega, h.slope.le (by decide)⟩
      · exact rowF_ok _ _ _ (nb_second h e) (by omega) R hR
end V2



namespace V2
open PySem L2
open PySem.Spec PyProof.Rows
/-- the rest of greater polynomials -/
def spRemW : Sp := fun vs H Q _ => ∃ (a b : Addr) (xs ys : List Int) (bx by_ : Nat), vs = [.ref a, .ref b] ∧ Li H a xs ∧ Li H b ys ∧ Pol xs ∧ Pol ys ∧ xs.length ≤ 8 ∧ ys.length ≤ 8 ∧ Bs bx xs ∧ Bs by_ ys ∧ ys ≠ [] ∧ bx + (xs.length + 1 - ys.length) * (by_ + 1) ≤ 8900 ∧ by_ ≤ 4455 ∧ ∀ L, Rm xs ys L → Evl.RetL (iV (prim L)) H Q
/-- ahead of each turn of the loop -/
def Wh5 (H : Hp) (a b : Addr) (ld : Int) (xs ys : List Int) (bx by_ : Nat) (m : Nat) (σ : L2.St) (H' : Hp) : Prop := ∃ (l : Addr) (L : List Int) (v4 v5 v6 v7 v8 : Option V) (j : Nat), σ = [some (.ref a), some (.ref b), some (.ref l), some (.int ld), v4, v5, v6, v7, v8, none, none] ∧
  Evl.Ex H H' ∧ Li H' l L ∧ Pol L ∧ L.length = m ∧ m ≤ 8 ∧ j ≤ xs.length + 1 - ys.length ∧ j + m ≤ xs.length ∧ Bs (bx + j * (by_ + 1)) L ∧ Rs xs ys L
section
variable {base : Heap} {mg : Str → Option Value} {K : PySem.W.Frag} {w : World} {P : Program}
theorem ok_remainder {f : Addr} {fd : FuncData} (F : Fun K "remainder" "remainder" s_remainder f fd) (T : T7 mg) (cC : Cal P w K mg base 1 "cut" p_cut (spTrim K)) (cP : Cal P w K mg base 2 "primitive" p_primitive spPrim) : FnOk P w K mg base CX0 3 f fd p_remainder spRemW := by
  refine F.ok sc_remainder (fun vs H Q E h => ?_) (fun cdv A outer s H vs Q E hr h => ?_)
  · obtain ⟨a, b, xs, ys, bx, b2, rfl, _⟩ := h
    rfl
  · obtain ⟨a, b, xs, ys, bx, by_, rfl, ha, hb, px, py, lx8, ly8, hbx, hby, y0, hroom, hby9, k⟩ := h
    have nd := sc_remainder.nd
    have r1 : Room 1 _ := hr.mono (by decide)
    refine ⟨_, pss_cons (ps_set (i := 2) nd rfl (Or.inl rfl) (pv 0))
      (pss_cons (ps_set (i := 3) nd rfl (Or.inl rfl) (pe_ix ix_list (pv 1) (pe_un un_neg pe_int) (fun _ _ => rfl)))
      (pss_cons (ps_while PassesOwn.never (pt_cmpR op_ge (pe_callB call_len_seq (by rfl) T.len PySem.boot_len (pa_cons (pv 2) pa_nil)) (pe_callB call_len_seq (by rfl) T.len PySem.boot_len (pa_cons (pv 1) pa_nil)) (nomark _))
        (pss_cons (ps_set (i := 4) nd rfl (Or.inl rfl) (pe_callBfun cr_gcd (by rfl) T.gcd (pa_cons (pe_ix ix_list (pv 2) (pe_un un_neg pe_int) (fun _ _ => rfl)) (pa_cons (pv 3) pa_nil))))
        (pss_cons (ps_asg (pe_tup (pa_cons (pe_op op_fdivW (pe_callB call_abs (by rfl) T.abs (by decide +kernel) (pa_cons (pv 3) pa_nil)) (pv 4)) (pa_cons (pe_op op_fdivW (pe_ix ix_list (pv 2) (pe_un un_neg pe_int) (fun _ _ => rfl)) (pv 4)) pa_nil)))
            (pg_tup rfl (pgs_cons (pg_name (i := 5) nd rfl (Or.inr rfl)) (pgs_cons (pg_name (i := 6) nd rfl (Or.inr rfl)) pgs_nil))))
        (Evl.pss_cut (ps_if (pt_cmpR op_lt (pv 3) pe_int (nomark _)) (pss_one (ps_set (i := 6) nd rfl (Or.inr rfl) (pe_un un_neg (pv 6)))) pss_nil)
        (pss_cons (ps_set (i := 7) nd rfl (Or.inl rfl) (pe_op op_sub (pe_callB call_len_seq (by rfl) T.len PySem.boot_len (pa_cons (pv 2) pa_nil)) (pe_callB call_len_seq (by rfl) T.len PySem.boot_len (pa_cons (pv 1) pa_nil))))
        (pss_cons (ps_set (i := 8) nd rfl (Or.inr rfl) (pe_op op_cat (pe_op op_rep (pe_lst (pa_cons pe_int pa_nil)) (pv 7))
            (pe_lc (own := [("number", 9)]) (g := gName 9) (tt := tYes) (te := tOp (rI CMulW fun i j => .int (i * j)) (tVar 6) (tVar 9)) rfl nd (pi_list (pv 1)) (blkOk_by (N := n_remainder) (sc := defScope s_remainder) (by decide +kernel)) (fun _ _ _ _ _ => pg_name (i := 9) nd rfl (Or.inl rfl)) (fun _ _ _ _ _ => pts_nil)
              (fun _ _ _ _ _ => pe_op op_mulW (pv 6) (pv 9)))))
        (pss_one (ps_set (i := 2) nd rfl (Or.inl rfl) (pe_c cC r1 (pa_cons
            (pe_lc (own := [("k", 10), ("number", 9)]) (g := gTup K 2 (gCons (gName 10) (gCons (gName 9) gNil))) (tt := tYes) (te := tOp (rI0 fun i j => .int (i - j)) (tOp (rI CMulW fun i j => .int (i * j)) (tVar 5) (tVar 9)) (tOp (rIxL K) (tVar 8) (tVar 10))) rfl nd (pi_enum (by rfl) T.enu (pa_cons (pv 2) pa_nil)) (blkOk_by (N := n_remainder) (sc := defScope s_remainder) (by decide +kernel)) (fun _ _ _ _ _ => pg_tup rfl (pgs_cons (pg_name (i := 10) nd rfl (Or.inl rfl)) (pgs_cons (pg_name (i := 9) nd rfl (Or.inl rfl)) pgs_nil))) (fun _ _ _ _ _ => pts_nil)
              (fun _ _ _ _ _ => pe_op op_sub (pe_op op_mulW (pv 5) (pv 9)) (pe_ix ix_list (pv 8) (pv 10) (fun _ _ => rfl)))) pa_nil)))))))))) 
      (pss_one (ps_ret (pe_c cP (hr.mono (by decide)) (pa_cons (pv 2) pa_nil)))))), ?_⟩
    have one : 1 ≤ sizeLine := by show 1 ≤ sizeLine; decide
    have two : 2 ≤ sizeLine := by show 2 ≤ sizeLine; decide
    obtain ⟨ld, hld, hld2⟩ := atI_end y0
    have ld0 := py ld hld
    have lb : 0 < ys.length := List.length_pos_iff.mpr y0
    have ldb : ld.natAbs < 2 ^ by_ := hby ld (List.mem_of_getElem? hld)
    have by0 : 0 < by_ := by
      rcases Nat.eq_zero_or_pos by_ with z | z
      · rw [z] at ldb
        have : (2 : Nat) ^ 0 = 1 := rfl
        omega
      · exact z
    have room1 : ∀ j, j ≤ xs.length + 1 - ys.length → bx + j * (by_ + 1) ≤ 8900 := fun j hj => by
      have h1 := Nat.mul_le_mul_right (by_ + 1) hj
      omega
    refine ⟨_, rfl, _, rfl, _, rfl, b, _, _, _, rfl, rfl, hb.sq, hld2, ?_⟩
    refine ⟨Wh5 H a b ld xs ys bx by_, ⟨xs.length, a, xs, none, none, none, none, none, 0, rfl, Evl.Ex.refl _, ha, px, rfl, lx8, by omega, by omega, hbx.le (by omega), Rs.self _ _⟩, ?_⟩
    rintro m σ H1 ⟨l, L, v4, v5, v6, v7, v8, j0, rfl, e1, hL, hp, hm, hm8, hj1, hj2, hbd, hR⟩
    subst hm
    have rj := room1 j0 hj1
    refine ⟨_, rfl, l, _, rfl, .inl hL.sq, _, rfl, b, _, rfl, .inl (SqL.of (e1 _ _ hb)), _, _, rfl, rfl, _, rfl, ?_⟩
    by_cases c : ys.length ≤ L.length
    · refine if_t (decide_eq_true (by rw [iV_len, iV_len]; omega)) ?_
      have L0 : L ≠ [] := fun z => by
        rw [z, List.length_nil] at c
        omega
      obtain ⟨tp, htp, htp2⟩ := atI_end L0
      obtain ⟨f, hf, f0, fb, g0, gb, tb, ge⟩ := grow_take (t := tp) (d := ld) ld0
      subst hf
      refine ⟨fun σ H' => ∃ m', m' < L.length ∧ Wh5 H a b ld xs ys bx by_ m' σ H', fun σ H' z => z, ?_⟩
      refine ⟨_, rfl, _, rfl, l, _, _, _, rfl, rfl, hL.sq, htp2, _, rfl, tp, ld, rfl, ?_⟩
      generalize hfe : ((Nat.gcd tp.natAbs ld.natAbs : Nat) : Int) = f at *
      refine ⟨_, rfl, ld, rfl, _, rfl, _, _, rfl, rfl, wide_div (b := by_) f0 (by omega) by0 (by omega), ?_⟩
      refine ⟨_, rfl, _, rfl, l, _, _, _, rfl, rfl, hL.sq, htp2, _, rfl, _, _, rfl, rfl, wide_div (b := by_) f0 (by omega) by0 (by omega), two, fun t ht => ?_⟩
      refine ⟨t, _, rfl, SqT.of upd_same, rfl, _, _, rfl, _, _, rfl, rfl, ?_⟩
      have et := Evl.Ex.new (o := .tup [.int ((if ld < 0 then -ld else ld) / f), .int (tp / f)]) ht
      obtain ⟨g, hg⟩ : ∃ g, (if ld < 0 then -ld else ld) / f = g := ⟨_, rfl⟩
      rw [hg] at g0 gb ge
      generalize htk : (if ld < 0 then -(tp / f) else tp / f) = tk at ge
      refine ⟨fun σ H' => ∃ v7 v8, σ = [some (.ref a), some (.ref b), some (.ref l), some (.int ld), some (.int f), some (.int g), some (.int tk), v7, v8, none, none] ∧ Evl.Ex H1 H', ?_, ?_⟩
      · refine ⟨_, rfl, _, _, rfl, rfl, _, rfl, ?_⟩
        refine ite2 (fun z => ?_) (fun z => ?_)
        · have z1 : ld < 0 := of_decide_eq_true z
          rw [if_pos z1] at htk
          refine ⟨_, rfl, _, rfl, v7, v8, ?_, et⟩
          rw [← htk, ← hg]
          rfl
        · have z1 : ¬ ld < 0 := fun y => z (decide_eq_true y)
          rw [if_neg z1] at htk
          refine ⟨v7, v8, ?_, et⟩
          rw [← htk, ← hg]
          rfl
      have tkb : tk.natAbs < 2 ^ (bx + j0 * (by_ + 1)) := by
        have h1 := hbd tp (List.mem_of_getElem? htp)
        have h2 : tk.natAbs = (tp / f).natAbs := by rw [← htk]; split <;> omega
        omega
      clear et ht
      rintro σ H2 ⟨w7, w8, rfl, e2⟩
      have hL2 : Li H2 l L := e2 _ _ hL
      have hb2 : Li H2 b ys := (e1.trans e2) _ _ hb
      refine ⟨_, rfl, l, _, rfl, .inl hL2.sq, _, rfl, b, _, rfl, .inl hb2.sq, _, _, rfl, rfl, ?_⟩
      refine ⟨one, fun p1 hp1 => ⟨_, rfl, p1, _, _, rfl, rfl, upd_same, by rw [iV_len, iV_len]; omega, by rw [iV_len, iV_len]; omega, ?_, fun p2 hp2 => ?_⟩⟩
      · rw [iV_len, iV_len]
        show 1 * _ ≤ sizeLine
        exact Nat.le_trans (show 1 * ((L.length : Int) - (ys.length : Int)).toNat ≤ 100 by omega) (by decide)
      rw [iV_len, iV_len, rep_flat, ← iV_rep, show ((L.length : Int) - (ys.length : Int)).toNat = L.length - ys.length by omega]
      have e3 : Evl.Ex H2 (upd H2 p1 (.lst [.int 0])) := Evl.Ex.new hp1
      have e4 := e3.trans (Evl.Ex.new (o := .lst (iV (List.replicate (L.length - ys.length) 0))) hp2)
      generalize hH3 : upd (upd H2 p1 (.lst [.int 0])) p2 (.lst (iV (List.replicate (L.length - ys.length) 0))) = H3 at *
      have hp23 : H3 p2 = some (.lst (iV (List.replicate (L.length - ys.length) 0))) := by rw [← hH3]; exact upd_same
      refine ⟨_, rfl, b, rfl, ⟨_, SqL.of (e4 _ _ hb2)⟩, fun D hD => lc_list (xs := iV ys) (fun i H' => Evl.Ex H3 H' ∧ H' D = some (.lst (iV ((ys.map fun x => tk * x).take i)))) ⟨Evl.Ex.new hD, upd_same⟩ (fun i H' _ q => SqL.of (q.1 _ _ (e4 _ _ hb2))) ?_ ?_⟩
      · rintro i x H' hi ⟨e5, h5⟩
        obtain ⟨n, hn, rfl⟩ := iV_get hi
        refine ⟨rfl, ?_⟩
        show tOp (rI CMulW fun i j => .int (i * j)) (tVar 6) (tVar 9) _ _ _
        refine ⟨_, rfl, _, rfl, _, _, rfl, rfl, wide_mul (a := bx + j0 * (by_ + 1) + 1) (big tkb (by omega)) (hby n (List.mem_of_getElem? hn)) (by omega) by0 (by omega), _, h5, ?_, Evl.Ex.mut e5 hD, ?_⟩
        · rw [iV_len, List.length_take, List.length_map]
          exact Nat.lt_of_le_of_lt (show min i ys.length ≤ 8 by omega) (by decide)
        · rw [upd_same, tkn_next hn]
      rintro H4 ⟨e5, h5⟩
      rw [iV_len, List.take_of_length_le (by rw [List.length_map]; exact Nat.le_refl _)] at h5
      refine ⟨p2, D, _, _, rfl, rfl, e5 _ _ hp23, h5, ?_, fun p3 hp3 => ?_⟩
      · rw [iV_len, iV_len, List.length_replicate, List.length_map]
        exact Nat.le_trans (show L.length - ys.length + ys.length ≤ 100 by omega) (by decide)
      rw [iV_app]
      have htkn : List.replicate (L.length - ys.length) 0 ++ ys.map (fun x => tk * x) = tkn ys (L.length - ys.length) tk := rfl
      rw [htkn]
      have e6 : Evl.Ex H4 (upd H4 p3 (.lst (iV (tkn ys (L.length - ys.length) tk)))) := Evl.Ex.new hp3
      have hp34 : Li (upd H4 p3 (.lst (iV (tkn ys (L.length - ys.length) tk)))) p3 (tkn ys (L.length - ys.length) tk) := upd_same
      generalize upd H4 p3 (.lst (iV (tkn ys (L.length - ys.length) tk))) = H5 at e6 hp34
      have e25 : Evl.Ex H2 H5 := (e4.trans e5).trans e6
      have hL5 : Li H5 l L := e25 _ _ hL2
      have gb20 : g.natAbs < 2 ^ by_ := by omega
      have hc := rs_step y0 hR c g0 (t := tk) (by rw [getD_at htp, getD_at hld]; exact ge)
      have hbd2 := bs_step (B := ys) hbd gb20 tkb hby
      have ej : bx + j0 * (by_ + 1) + (by_ + 1) = bx + (j0 + 1) * (by_ + 1) := by rw [Nat.succ_mul]; omega
      rw [ej] at hbd2
      refine ⟨_, rfl, l, _, rfl, hL5.sq, fun D2 hD2 => lc_it walk_enum (fun i H' => Evl.Ex H5 H' ∧ H' D2 = some (.lst (iV ((stepL ys L g tk).take i)))) ⟨Evl.Ex.new hD2, upd_same⟩ (fun i H' _ q => SqL.of (q.1 _ _ hL5)) ?_ ?_⟩
      · rintro i x H' H6 hi ⟨e7, h7⟩ ⟨t3, z, y, rfl, ht3, rfl, hz, hyy⟩
        obtain rfl := (Option.some.inj hz).symm
        obtain ⟨n, hn, rfl⟩ := iV_get hyy
        rw [iV_len] at hi
        have e8 := e7.trans (Evl.Ex.new (o := .tup [.int (i : Nat), .int n]) ht3)
        refine ⟨t3, _, rfl, SqT.of upd_same, rfl, _, _, rfl, _, _, rfl, rfl, rfl, ?_⟩
        show tOp (rI0 fun i j => .int (i - j)) (tOp (rI CMulW fun i j => .int (i * j)) (tVar 5) (tVar 9)) (tOp (rIxL K) (tVar 8) (tVar 10)) _ _ _
        have tl : i < (tkn ys (L.length - ys.length) tk).length := by rw [tkn_len]; omega
        refine ⟨_, rfl, _, rfl, _, _, rfl, rfl, wide_mul (b := bx + j0 * (by_ + 1) + 1) gb20 (big (hbd n (List.mem_of_getElem? hn)) (by omega)) by0 (by omega) (by omega), _, rfl, _, rfl, p3, _, _, _, rfl, rfl, SqL.of (e8 _ _ hp34), atI_nat (iV_at (List.getElem?_eq_getElem tl)), _, _, rfl, rfl, ?_⟩
        have h8 : (upd H' t3 (.tup [.int (i : Nat), .int n])) D2 = some (.lst (iV ((stepL ys L g tk).take i))) := by
          rw [upd_ne (ne_of_none h7 ht3)]
          exact h7
        refine ⟨_, h8, ?_, Evl.Ex.mut e8 hD2, ?_⟩
        · rw [iV_len, List.length_take]
          exact Nat.lt_of_le_of_lt (show min i (stepL ys L g tk).length ≤ 8 by omega) (by decide)
        · rw [upd_same]
          unfold stepL
          rw [vec_take hi, getD_at hn, getD_at (List.getElem?_eq_getElem tl)]
      · rintro H' ⟨e7, h7⟩
        rw [iV_len, show (stepL ys L g tk).take L.length = stepL ys L g tk from List.take_of_length_le (by unfold stepL; rw [vec_len]; exact Nat.le_refl _)] at h7
        refine ⟨D2, _, rfl, SqL.of h7, by unfold stepL; rw [vec_len]; omega, fun q H7 hq e9 h9 => ?_⟩
        have el : (trm (stepL ys L g tk)).length ≤ 8 := by omega
        exact ⟨_, hc.2, q, trm (stepL ys L g tk), _, _, _, _, _, j0 + 1, rfl, (((e1.trans e2).trans e25).trans e7).trans e9, h9, pol_trm _, rfl, el, by omega, by omega, hbd2, hc.1⟩
    · refine if_f (decide_eq_false (by rw [iV_len, iV_len]; omega)) ?_
      refine ⟨_, rfl, l, L, rfl, hL, by omega, hbd.le (by omega), hp, fun q H2 hq e2 h2 => ?_⟩
      exact k L ⟨hp, by omega, hR⟩ q H2 (Evl.fresh_back e1 hq) (e1.trans e2) h2
end
end V2


namespace V2
open PySem L2
open PySem.Spec PyProof.Rows
/-! ## constants: polynomials of one number at most -/
def tRowsInW (K : PySem.W.Frag) : TS := tAsg (tOp (rI0 fun i j => .int (i + j)) (tOp (rIxL K) (tVar 2) (tOp (rI0 fun i j => .int (i + j)) (tVar 3) (tVar 5))) (tOp (rI CMulW fun i j => .int (i * j)) (tVar 4) (tVar 6))) (gSub (tVar 2) (tOp (rI0 fun i j => .int (i + j)) (tVar 3) (tVar 5)) rSetL)
def tRowsW (K : PySem.W.Frag) : TS := tFor (iEnum K (tCons (tVar 0) tNil)) (gTup K 2 (gCons (gName 3) (gCons (gName 4) gNil))) (tFor (iEnum K (tCons (tVar 1) tNil)) (gTup K 2 (gCons (gName 5) (gCons (gName 6) gNil))) (tRowsInW K))
theorem rowsW_read {K : PySem.W.Frag} {D : Ends} {H : Hp} {a b l : Addr} {xs ys : List Int} {N : Nat} {u3 u4 u5 u6 : Option V} (ha : Li H a xs) (hb : Li H b ys) (hl : Li H l (vec N fun _ => 0)) (na : a ≠ l) (nb : b ≠ l) (hN : xs.length + ys.length ≤ N + 1)
    (hx : ∀ x ∈ xs, ∀ y ∈ ys, CMulW x y) (k : ∀ (H' : Hp) v3 v4 v5 v6, But l H H' → Li H' l (vec N (cf xs ys xs.length)) → D.nx [some (.ref a), some (.ref b), some (.ref l), v3, v4, v5, v6] H') :
    tRowsW K D [some (.ref a), some (.ref b), some (.ref l), u3, u4, u5, u6] H := by
  refine ⟨_, rfl, a, _, rfl, ha.sq, for_it walk_enum (fun i σ H' => ∃ v3 v4 v5 v6, σ = [some (.ref a), some (.ref b), some (.ref l), v3, v4, v5, v6] ∧ But l H H' ∧ Li H' l (vec N (rw_ xs ys i 0)))
    ⟨_, _, _, _, rfl, But.refl _ _, ?_⟩ (fun i σ H' _ ⟨_, _, _, _, _, q, _⟩ => SqL.of (q _ _ na ha)) ?_ ?_⟩
  · rw [vec_congr (g := fun _ => 0) fun i _ => by rw [rw_0]; rfl]
    exact hl
  · rintro i x σ H' H2 hi ⟨v3, v4, v5, v6, rfl, q, hL⟩ ⟨T, z, y, rfl, hT, rfl, hz, hy⟩
    obtain rfl := (Option.some.inj hz).symm
    obtain ⟨n, hn, rfl⟩ := iV_get hy
    rw [iV_len] at hi
    have nTl : T ≠ l := (ne_of_none hL hT).symm
    have q2 : But l H (upd H' T (.tup [.int (i : Nat), .int n])) := fun c o nc e => by
      rw [upd_ne (ne_of_none (q c o nc e) hT)]; exact q c o nc e
    refine ⟨T, _, rfl, SqT.of upd_same, rfl, _, _, rfl, _, _, rfl, rfl, ?_⟩
    have hL2 : Li (upd H' T (.tup [.int (i : Nat), .int n])) l (vec N (rw_ xs ys i 0)) := Eq.trans (upd_ne nTl.symm) hL
    refine ⟨_, rfl, b, _, rfl, SqL.of (q2 _ _ nb hb), for_it walk_enum (fun j σ H3 => ∃ v5 v6, σ = [some (.ref a), some (.ref b), some (.ref l), some (.int (i : Nat)), some (.int n), v5, v6] ∧ But l H H3 ∧ Li H3 l (vec N (rw_ xs ys i j)))
      ⟨_, _, rfl, q2, hL2⟩ (fun i σ H' _ ⟨_, _, _, q, _⟩ => SqL.of (q _ _ nb hb)) ?_ ?_⟩
    · rintro j x σ H3 H4 hj ⟨v5, v6, rfl, q3, hL3⟩ ⟨T2, z, y, rfl, hT2, rfl, hz, hy⟩
      obtain rfl := (Option.some.inj hz).symm
      obtain ⟨m, hm, rfl⟩ := iV_get hy
      rw [iV_len] at hj
      have nTl2 : T2 ≠ l := (ne_of_none hL3 hT2).symm
      refine ⟨T2, _, rfl, SqT.of upd_same, rfl, _, _, rfl, _, _, rfl, rfl, ?_⟩
      have hL4 : Li (upd H3 T2 (.tup [.int (j : Nat), .int m])) l (vec N (rw_ xs ys i j)) := Eq.trans (upd_ne nTl2.symm) hL3
      have hp : i + j < N := by omega
      have ep : ((i : Nat) : Int) + ((j : Nat) : Int) = ((i + j : Nat) : Int) := by omega
      refine ⟨_, rfl, _, rfl, _, rfl, _, _, rfl, rfl, l, _, _, .int (rw_ xs ys i j (i + j)), rfl, rfl, SqL.of hL4, ?_, _, rfl, _, rfl, n, m, rfl, rfl, hx n (List.mem_of_getElem? hn) m (List.mem_of_getElem? hm), _, _, rfl, rfl, ?_⟩
      · show atI _ (((i : Nat) : Int) + ((j : Nat) : Int)) = _
        rw [ep]
        exact atI_nat (iV_at (vec_get hp))
      refine ⟨_, rfl, _, rfl, _, rfl, _, _, rfl, rfl, l, _, _, i + j, rfl, rfl, hL4, ?_, ?_⟩
      · show ixN _ (((i : Nat) : Int) + ((j : Nat) : Int)) = _
        rw [ep]
        exact Evl.ixN_nat (by rw [iV_len, vec_len]; exact hp)
      refine ⟨_, _, rfl, fun c o nc e => ?_, ?_⟩
      · rw [upd_ne nc, upd_ne (ne_of_none (q3 c o nc e) hT2)]
        exact q3 c o nc e
      · unfold Li
        rw [upd_same]
        show some (HO.lst ((iV (vec N (rw_ xs ys i j))).set (i + j) (.int (rw_ xs ys i j (i + j) + n * m)))) = _
        rw [iV_set, vec_set (g := rw_ xs ys i (j + 1)) (by rw [rw_step, getD_at hn, getD_at hm]) fun p hp => rw_other hp]
    · rintro σ H3 ⟨v5, v6, rfl, q3, hL3⟩
      refine ⟨_, _, _, _, rfl, q3, ?_⟩
      rw [iV_len, vec_congr (g := rw_ xs ys (i + 1) 0) fun p _ => rw_end xs ys i p] at hL3
      exact hL3
  · rintro σ H' ⟨v3, v4, v5, v6, rfl, q, hL⟩
    rw [iV_len, vec_congr (g := cf xs ys xs.length) fun i _ => rw_0 _ _ _ _] at hL
    exact k H' v3 v4 v5 v6 q hL
/-- at most 16 numbers, of any size -/
def Pw (ns : List Int) : Prop := Pol ns ∧ ns.length ≤ 16
def spTwoW (C : Int → Int → Prop) (m : List Int → List Int → List Int) : Sp := fun vs H Q _ => ∃ (a b : Addr) (xs ys : List Int), vs = [.ref a, .ref b] ∧ Li H a xs ∧ Li H b ys ∧ Pw xs ∧ Pw ys ∧ (∀ x ∈ xs, ∀ y ∈ ys, C x y) ∧ Evl.RetL (iV (m xs ys)) H Q
/-- the constant n -/
def cp (n : Int) : List Int := if n = 0 then [] else [n]
theorem cp_0 : cp 0 = [] := rfl
theorem cp_n {n : Int} (h : n ≠ 0) : cp n = [n] := if_neg h
theorem cp_pw (n : Int) : Pw (cp n) := by
  unfold cp
  split
  · exact ⟨fun x h => (by cases h), Nat.zero_le _⟩
  · rename_i h
    refine ⟨fun x e => ?_, by show 1 ≤ 16; decide⟩
    cases e
    exact h
theorem cp_mem {n x : Int} (h : x ∈ cp n) : x = n := by
  unfold cp at h
  split at h
  · cases h
  · exact List.mem_singleton.mp h
theorem trm_1 (n : Int) : trm [n] = cp n := by
  by_cases h : n = 0
  · subst h
    decide
  · rw [cp_n h]
    exact trm_pol fun x e => by
      cases e
      exact h
theorem cp_add (x y : Int) : trm (padd (cp x) (cp y)) = cp (x + y) := by
  by_cases hx : x = 0
  · by_cases hy : y = 0
    · subst hx hy
      decide
    · have e : padd (cp x) (cp y) = [x + y] := by
        rw [hx, cp_0, cp_n hy]
        simp [padd, vec]
      rw [e, trm_1]
  · by_cases hy : y = 0
    · have e : padd (cp x) (cp y) = [x + y] := by
        rw [hy, cp_0, cp_n hx]
        simp [padd, vec]
      rw [e, trm_1]
    · have e : padd (cp x) (cp y) = [x + y] := by
        rw [cp_n hx, cp_n hy]
        simp [padd, vec]
      rw [e, trm_1]
theorem cp_mul (x y : Int) : trm (pmul (cp x) (cp y)) = cp (x * y) := by
  by_cases hx : x = 0
  · subst hx
    rw [Int.zero_mul, cp_0]
    exact nil_pmul _
  · by_cases hy : y = 0
    · subst hy
      rw [Int.mul_zero, cp_0]
      exact pmul_nil _
    · have e : pmul (cp x) (cp y) = [x * y] := by
        rw [cp_n hx, cp_n hy]
        simp [pmul, vec, cf]
      rw [e, trm_1]
section
variable {base : Heap} {mg : Str → Option Value} {K : PySem.W.Frag} {w : World} {P : Program}
theorem ok_multipliedW {f : Addr} {fd : FuncData} (F : Fun K "multiplied" "multiplied" s_multiplied f fd) (T : T2 mg) : FnOk P w K mg base CX0 1 f fd p_multiplied (spTwoW (fun x y => CMulW x y) fun xs ys => trm (pmul xs ys)) := by
  refine F.ok sc_multiplied (fun vs H Q E h => ?_) (fun cdv A outer s H vs Q E hr h => ?_)
  · obtain ⟨a, b, xs, ys, rfl, _⟩ := h
    rfl
  · obtain ⟨a, b, xs, ys, rfl, ha, hb, hx, hy, hxy, k⟩ := h
    have k : Evl.RetL (iV (trm (pmul xs ys))) H Q := k
    have nd := sc_multiplied.nd
    refine ⟨_, pss_cons (ps_if (PW.pt (pw_or (pt_not (pt_truth (pv 0) (by intro _; rfl))) (pw_or1 (pt_not (pt_truth (pv 1) (by intro _; rfl)))))) (pss_one (ps_ret (pe_lst pa_nil))) pss_nil)
      (pss_cons (ps_set (i := 2) nd rfl (Or.inl rfl) (pe_op op_rep (pe_lst (pa_cons pe_int pa_nil)) (pe_op op_sub (pe_op op_add (pe_callB call_len_seq (by rfl) T.len PySem.boot_len (pa_cons (pv 0) pa_nil)) (pe_callB call_len_seq (by rfl) T.len PySem.boot_len (pa_cons (pv 1) pa_nil))) pe_int)))
      (pss_cons (ps_for PassesOwn.never rfl (pi_enum (by rfl) T.enu (pa_cons (pv 0) pa_nil)) (pg_tup rfl (pgs_cons (pg_name (i := 3) nd rfl (Or.inl rfl)) (pgs_cons (pg_name (i := 4) nd rfl (Or.inl rfl)) pgs_nil)))
        (pss_one (ps_for PassesOwn.never rfl (pi_enum (by rfl) T.enu (pa_cons (pv 1) pa_nil)) (pg_tup rfl (pgs_cons (pg_name (i := 5) nd rfl (Or.inl rfl)) (pgs_cons (pg_name (i := 6) nd rfl (Or.inl rfl)) pgs_nil)))
          (pss_one (ps_asg (pe_op op_add (pe_ix ix_list (pv 2) (pe_op op_add (pv 3) (pv 5)) (fun _ _ => rfl)) (pe_op op_mulW (pv 4) (pv 6))) (pg_sub (pv 2) (pe_op op_add (pv 3) (pv 5)) set_list))))))
      (pss_one (ps_ret (pv 2))))), ?_⟩
    have none_ : xs = [] ∨ ys = [] → trm (pmul xs ys) = [] := by
      rintro (e | e)
      · rw [e]; exact nil_pmul ys
      · rw [e]; exact pmul_nil xs
    refine ⟨_, rfl, _, tru_list ha, ?_⟩
    by_cases ex : xs = []
    · refine if_t (by rw [ex]; rfl) ?_
      refine ite2 (fun _ => ?_) (fun z => absurd rfl z)
      refine ⟨Nat.zero_le _, fun p hp => k p _ hp (Evl.Ex.new hp) ?_⟩
      rw [upd_same, none_ (.inl ex)]; rfl
    refine if_f (by cases xs with | nil => exact absurd rfl ex | cons _ _ => rfl) ⟨_, rfl, _, tru_list hb, ?_⟩
    by_cases ey : ys = []
    · refine if_t (by rw [ey]; rfl) ?_
      refine ⟨Nat.zero_le _, fun p hp => k p _ hp (Evl.Ex.new hp) ?_⟩
      rw [upd_same, none_ (.inr ey)]; rfl
    refine if_f (by cases ys with | nil => exact absurd rfl ey | cons _ _ => rfl) ?_
    have lx : 0 < xs.length := List.length_pos_iff.mpr ex
    have ly : 0 < ys.length := List.length_pos_iff.mpr ey
    obtain ⟨px, hx2⟩ := hx
    obtain ⟨py, hy2⟩ := hy
    refine ⟨(by show 1 ≤ sizeLine; decide), fun p hp => ?_⟩
    have ha1 : Li (upd H p (.lst [.int 0])) a xs := Eq.trans (upd_ne (ne_of_none ha hp)) ha
    have hb1 : Li (upd H p (.lst [.int 0])) b ys := Eq.trans (upd_ne (ne_of_none hb hp)) hb
    refine ⟨_, rfl, a, _, rfl, .inl ha1.sq, _, rfl, b, _, rfl, .inl hb1.sq, _, _, rfl, rfl, _, _, rfl, rfl, p, _, _, rfl, rfl, upd_same, by rw [iV_len, iV_len]; omega, by rw [iV_len, iV_len]; omega, ?_, fun l hl => ?_⟩
    · rw [iV_len, iV_len]
      show 1 * _ ≤ sizeLine
      refine Nat.le_trans ?_ (show 100 ≤ sizeLine by decide)
      omega
    have eN : (((iV xs).length : Int) + ((iV ys).length : Int) - 1).toNat = xs.length + ys.length - 1 := by rw [iV_len, iV_len]; omega
    refine rowsW_read (K := K) (N := xs.length + ys.length - 1) (Eq.trans (upd_ne (ne_of_none ha1 hl)) ha1) (Eq.trans (upd_ne (ne_of_none hb1 hl)) hb1) ?_ (ne_of_none ha1 hl) (ne_of_none hb1 hl) (by omega) hxy fun H' v3 v4 v5 v6 q hL => ?_
    · unfold Li
      rw [upd_same]
      show some (HO.lst (List.replicate (((iV xs).length : Int) + ((iV ys).length : Int) - 1).toNat [V.int 0]).flatten) = _
      rw [eN, rep_flat, vec_zero, iV_rep]
    · refine ⟨_, rfl, k l H' (Evl.fresh_back (Evl.Ex.new hp) hl) (fun c o e => ?_) ?_⟩
      · have e1 : upd H p (.lst [.int 0]) c = some o := Eq.trans (upd_ne (ne_of_none e hp)) e
        exact q c o (ne_of_none e1 hl) (Eq.trans (upd_ne (ne_of_none e1 hl)) e1)
      · rw [trm_pol (pol_pmul px py ex ey)]
        exact hL
theorem ok_addedW {f : Addr} {fd : FuncData} (F : Fun K "added" "added" s_added f fd) (T : T2 mg) (cT : Cal P w K mg base 1 "cut" p_cut (spTrim K)) : FnOk P w K mg base CX0 2 f fd p_added (spTwoW (fun _ _ => True) fun xs ys => trm (padd xs ys)) := by
  refine F.ok sc_added (fun vs H Q E h => ?_) (fun cdv A outer s H vs Q E hr h => ?_)
  · obtain ⟨a, b, xs, ys, rfl, _⟩ := h
    rfl
  · obtain ⟨a, b, xs, ys, rfl, ha, hb, hx, hy, _, k⟩ := h
    have k : Evl.RetL (iV (trm (padd xs ys))) H Q := k
    have nd := sc_added.nd
    refine ⟨_, pss_cons (ps_set (i := 2) nd rfl (Or.inl rfl) (pe_callB (call_max2 rfl) (by rfl) T.max (by decide +kernel) (pa_cons (pe_callB call_len_seq (by rfl) T.len PySem.boot_len (pa_cons (pv 0) pa_nil)) (pa_cons (pe_callB call_len_seq (by rfl) T.len PySem.boot_len (pa_cons (pv 1) pa_nil)) pa_nil))))
      (pss_cons (ps_asg (pe_tup (pa_cons (pe_op op_cat (pv 0) (pe_op op_rep (pe_lst (pa_cons pe_int pa_nil)) (pe_op op_sub (pv 2) (pe_callB call_len_seq (by rfl) T.len PySem.boot_len (pa_cons (pv 0) pa_nil)))))
          (pa_cons (pe_op op_cat (pv 1) (pe_op op_rep (pe_lst (pa_cons pe_int pa_nil)) (pe_op op_sub (pv 2) (pe_callB call_len_seq (by rfl) T.len PySem.boot_len (pa_cons (pv 1) pa_nil))))) pa_nil))) (pg_tup rfl (pgs_cons (pg_name (i := 3) nd rfl (Or.inr rfl)) (pgs_cons (pg_name (i := 4) nd rfl (Or.inr rfl)) pgs_nil))))
      (pss_one (ps_ret (pe_c cT hr (pa_cons (pe_lc (own := [("k", 5)]) (g := gName 5) (tt := tYes) (te := tOp (rI0 fun i j => .int (i + j)) (tOp (rIxL K) (tVar 3) (tVar 5)) (tOp (rIxL K) (tVar 4) (tVar 5))) rfl nd (pi_range1 (by rfl) T.rng (pa_cons (pv 2) pa_nil)) (blkOk_by (N := n_added) (sc := defScope s_added) (by decide +kernel)) (fun _ _ _ _ _ => pg_name (i := 5) nd rfl (Or.inl rfl)) (fun _ _ _ _ _ => pts_nil)
        (fun _ _ _ _ _ => pe_op op_add (pe_ix ix_list (pv 3) (pv 5) (fun _ _ => rfl)) (pe_ix ix_list (pv 4) (pv 5) (fun _ _ => rfl)))) pa_nil))))), ?_⟩
    obtain ⟨px, hx2⟩ := hx
    obtain ⟨py, hy2⟩ := hy
    generalize hn : max xs.length ys.length = n
    have em : (if ((iV ys).length : Int) > ((iV xs).length : Int) then ((iV ys).length : Int) else ((iV xs).length : Int)) = (n : Int) := by
      rw [iV_len, iV_len]; exact gt_len _ _ _ hn.symm
    refine ⟨_, rfl, a, _, rfl, .inl ha.sq, _, rfl, b, _, rfl, .inl hb.sq, _, _, rfl, ?_⟩
    rw [em]
    refine el_pad (K := K) (n := n) (xs := xs) (a := a) rfl rfl ha (by omega) (by omega) H (Evl.Ex.refl _) _ fun p H1 hp e1 h1 => ?_
    refine el_pad (K := K) (n := n) (xs := ys) (a := b) rfl rfl (e1 _ _ hb) (by omega) (by omega) H1 (Evl.Ex.refl _) _ fun q H2 hq e2 h2 => ?_
    refine ⟨(by show 2 ≤ sizeLine; decide), fun t ht => ?_⟩
    have e3 : Evl.Ex H2 (upd H2 t (.tup [.ref p, .ref q])) := Evl.Ex.new ht
    refine ⟨t, _, rfl, SqT.of upd_same, rfl, _, _, rfl, _, _, rfl, rfl, ?_⟩
    have hG := el_sums (K := K) (σ := [some (.ref a), some (.ref b), some (.int (n : Int)), some (.ref p), some (.ref q), none]) (jn := 2) (jk := 5) (im := 3) (iy := 4) (n := n) (xs := xs) (ys := ys) (a := p) (b := q) rfl (e3 _ _ (e2 _ _ h1)) (e3 _ _ h2) (by omega) (by omega) (by omega) (by intro _; rfl) (by intro _; rfl) (by intro _; rfl) (by intro _; rfl) _ (Evl.Ex.refl _) (fun x H1 => spTrim K [x] H1 Q E0) (fun r H4 hr4 e4 h4 => by
      refine ⟨r, _, rfl, SqL.of h4, by rw [vec_len]; omega, fun z H5 hz e5 h5 => ?_⟩
      have e05 := ((e1.trans e2).trans e3).trans e4
      refine k z H5 (Evl.fresh_back e05 hz) (e05.trans e5) ?_
      rw [h5, ← hn]
      rfl)
    exact hG
end
end V2


namespace V2
open PySem L2
open PySem.Spec PyProof.Rows
theorem pe_never {X : Cx} {e : Expr} : PE X e (fun _ _ _ => False) := ⟨fun _ _ _ _ _ _ h => h.elim⟩
theorem cont_1 (b : Int) : cont [b] = b.natAbs := by
  simp [cont]
theorem prim_1 {b : Int} (h : 0 < b) : prim [b] = [1] := by
  unfold prim
  rw [cont_1]
  have e : ((b.natAbs : Nat) : Int) = b := by omega
  rw [List.map_cons, List.map_nil, e, Int.ediv_self (by omega)]
theorem prim_nil : prim [] = [] := rfl
def B26 (n : Int) : Prop := n.natAbs < 2 ^ 4400
/-- the way up of a constant above 0 -/
def spUp1 : Sp := fun vs H Q _ => ∃ (a : Addr) (b : Int), vs = [.ref a] ∧ Li H a [b] ∧ 0 < b ∧ B26 b ∧ Evl.RetL (iV [1]) H Q
def spCf1 : Sp := fun vs H Q _ => ∃ (a b : Addr) (t m : Int), vs = [.ref a, .ref b] ∧ Li H a [t] ∧ Li H b [m] ∧ t ≠ 0 ∧ 0 < m ∧ B26 t ∧ B26 m ∧ Evl.RetL (iV [1]) H Q
def spQ1 : Sp := fun vs H Q _ => ∃ (a b : Addr) (t : Int), vs = [.ref a, .ref b] ∧ Li H a [t] ∧ Li H b [1] ∧ B26 t ∧ Evl.RetL (iV [t]) H Q
section
variable {base : Heap} {mg : Str → Option Value} {K : PySem.W.Frag} {w : World} {P : Program}
theorem ok_upright1 {f : Addr} {fd : FuncData} (F : Fun K "upright" "upright" s_upright f fd) (cP : Cal P w K mg base 2 "primitive" p_primitive spPrim) : FnOk P w K mg base CX0 3 f fd p_upright spUp1 := by
  refine F.ok sc_upright (fun vs H Q E h => ?_) (fun cdv A outer s H vs Q E hr h => ?_)
  · obtain ⟨a, b, rfl, _⟩ := h
    rfl
  · obtain ⟨a, b, rfl, ha, hb, hB, k⟩ := h
    have nd := sc_upright.nd
    refine ⟨_, pss_cons (ps_set (i := 1) nd rfl (Or.inl rfl) (pe_c cP hr (pa_cons (pv 0) pa_nil)))
      (pss_one (ps_ret (pe_ifExp (PW.pt (pw_and (pt_truth (pv 1) (by intro _; rfl)) (pw_and1 (pt_cmpR op_lt (pe_ix ix_list (pv 1) (pe_un un_neg pe_int) (fun _ _ => rfl)) pe_int (nomark _))))) pe_never (pv 1)))), ?_⟩
    refine ⟨_, rfl, a, [b], rfl, ha, by show 1 ≤ 100; decide, ?_, ?_, fun l H1 hl e1 h1 => ?_⟩
    · intro x hx
      obtain rfl := List.mem_singleton.mp hx
      exact Nat.lt_of_lt_of_le hB (Nat.pow_le_pow_right (by decide) (by decide))
    · intro x e
      cases e
      omega
    · rw [prim_1 hb] at h1
      refine ⟨_, rfl, _, tru_list (ns := [1]) h1, if_t rfl ?_⟩
      refine ⟨_, rfl, _, rfl, l, _, _, _, rfl, rfl, SqL.of h1, rfl, _, _, rfl, rfl, _, rfl, if_f (by decide) ?_⟩
      exact ⟨_, rfl, k l H1 hl e1 h1⟩
theorem ok_common1 {f : Addr} {fd : FuncData} (F : Fun K "common_factor" "common_factor" s_common_factor f fd) (cR : Cal P w K mg base 3 "remainder" p_remainder spRemW) (cU : Cal P w K mg base 3 "upright" p_upright spUp1) : FnOk P w K mg base CX0 4 f fd p_common_factor spCf1 := by
  refine F.ok sc_common_factor (fun vs H Q E h => ?_) (fun cdv A outer s H vs Q E hr h => ?_)
  · obtain ⟨a, b, t, m, rfl, _⟩ := h
    rfl
  · obtain ⟨a, b, t, m, rfl, ha, hb, ht, hm, hT, hM, k⟩ := h
    have nd := sc_common_factor.nd
    refine ⟨_, pss_cons (ps_par (i := 2) (j := 3) rfl nd rfl rfl (by decide) rfl rfl (pa_cons (pv 0) (pa_cons (pv 1) pa_nil)) (by rfl))
      (pss_cons (ps_while PassesOwn.never (pt_truth (pv 3) (by intro _; rfl)) (pss_one (ps_par (i := 2) (j := 3) rfl nd rfl rfl (by decide) rfl rfl (pa_cons (pv 3) (pa_cons (pe_c cR hr (pa_cons (pv 2) (pa_cons (pv 3) pa_nil))) pa_nil)) (by rfl))))
      (pss_one (ps_ret (pe_c cU hr (pa_cons (pv 2) pa_nil))))), ?_⟩
    refine ⟨_, rfl, _, rfl, _, _, rfl, ?_⟩
    refine ⟨fun n σ H' => Evl.Ex H H' ∧ ((n = 1 ∧ σ = [some (.ref a), some (.ref b), some (.ref a), some (.ref b)]) ∨ ∃ r, n = 0 ∧ Li H' r [] ∧ σ = [some (.ref a), some (.ref b), some (.ref b), some (.ref r)]), ⟨1, Evl.Ex.refl _, .inl ⟨rfl, rfl⟩⟩, ?_⟩
    rintro n σ H1 ⟨e1, ⟨rfl, rfl⟩ | ⟨r, rfl, hr0, rfl⟩⟩
    · refine ⟨_, rfl, _, tru_list (e1 _ _ hb), if_t rfl ?_⟩
      refine ⟨fun σ H' => ∃ r, Li H' r [] ∧ Evl.Ex H H' ∧ σ = [some (.ref a), some (.ref b), some (.ref b), some (.ref r)], fun σ H' ⟨r, h1, h2, h3⟩ => ⟨0, by decide, h2, .inr ⟨r, rfl, h1, h3⟩⟩, ?_⟩
      have bs : ∀ {x : Int}, B26 x → Bs 4400 [x] := fun h z hz => by
        obtain rfl := List.mem_singleton.mp hz
        exact h
      have p1 : ∀ {x : Int}, x ≠ 0 → Pol [x] := fun h z e => by
        cases e
        exact h
      refine ⟨_, rfl, _, rfl, _, rfl, a, b, [t], [m], 4400, 4400, rfl, e1 _ _ ha, e1 _ _ hb, p1 ht, p1 (by omega), by show 1 ≤ 8; decide, by show 1 ≤ 8; decide, bs hT, bs hM, by simp, by show 4400 + (1 + 1 - 1) * (4400 + 1) ≤ 8900; decide, by decide, fun L hL r H2 hr2 e2 h2 => ?_⟩
      have hL0 : L = [] := List.length_eq_zero_iff.mp (Nat.lt_one_iff.mp hL.2.1)
      subst hL0
      exact ⟨_, _, rfl, r, h2, e1.trans e2, rfl⟩
    · refine ⟨_, rfl, _, tru_list hr0, if_f rfl ?_⟩
      exact ⟨_, rfl, b, m, rfl, e1 _ _ hb, hm, hM, fun l H2 hl e2 h2 => k l H2 (Evl.fresh_back e1 hl) (e1.trans e2) h2⟩
theorem ok_quotient1 {f : Addr} {fd : FuncData} (F : Fun K "quotient" "quotient" s_quotient f fd) (T : T2 mg) (mL : mg "list" = none) : FnOk P w K mg base CX0 1 f fd p_quotient spQ1 := by
  refine F.ok sc_quotient (fun vs H Q E h => ?_) (fun cdv A outer s H vs Q E hr h => ?_)
  · obtain ⟨a, b, t, rfl, _⟩ := h
    rfl
  · obtain ⟨a, b, t, rfl, ha, hb, hT, k⟩ := h
    have nd := sc_quotient.nd
    refine ⟨_, pss_cons (ps_set (i := 2) nd rfl (Or.inl rfl) (pe_callTy call_list_of (by rfl) mL (by decide +kernel) (pa_cons (pv 0) pa_nil)))
      (pss_cons (ps_set (i := 3) nd rfl (Or.inl rfl) (pe_op op_add (pe_op op_sub (pe_callB call_len_seq (by rfl) T.len PySem.boot_len (pa_cons (pv 0) pa_nil)) (pe_callB call_len_seq (by rfl) T.len PySem.boot_len (pa_cons (pv 1) pa_nil))) pe_int))
      (pss_cons (ps_set (i := 4) nd rfl (Or.inl rfl) (pe_op op_rep (pe_lst (pa_cons pe_int pa_nil)) (pv 3)))
      (pss_cons (ps_for PassesOwn.never rfl (pi_range3 (by rfl) T.rng (pa_cons (pe_op op_sub (pv 3) pe_int) (pa_cons (pe_un un_neg pe_int) (pa_cons (pe_un un_neg pe_int) pa_nil)))) (pg_name (i := 5) nd rfl (Or.inl rfl))
        (pss_cons (ps_asg (pe_op op_fdivW (pe_ix ix_list (pv 2) (pe_op op_sub (pe_op op_add (pv 5) (pe_callB call_len_seq (by rfl) T.len PySem.boot_len (pa_cons (pv 1) pa_nil))) pe_int) (fun _ _ => rfl)) (pe_ix ix_list (pv 1) (pe_un un_neg pe_int) (fun _ _ => rfl))) (pg_sub (pv 4) (pv 5) set_list))
        (pss_one (ps_for PassesOwn.never rfl (pi_enum (by rfl) T.enu (pa_cons (pv 1) pa_nil)) (pg_tup rfl (pgs_cons (pg_name (i := 6) nd rfl (Or.inl rfl)) (pgs_cons (pg_name (i := 7) nd rfl (Or.inl rfl)) pgs_nil)))
          (pss_one (ps_asg (pe_op op_sub (pe_ix ix_list (pv 2) (pe_op op_add (pv 5) (pv 6)) (fun _ _ => rfl)) (pe_op op_mulW (pe_ix ix_list (pv 4) (pv 5) (fun _ _ => rfl)) (pv 7))) (pg_sub (pv 2) (pe_op op_add (pv 5) (pv 6)) set_list)))))))
      (pss_one (ps_ret (pv 4)))))), ?_⟩
    have one : 1 ≤ sizeLine := by show 1 ≤ sizeLine; decide
    refine ⟨_, rfl, a, _, rfl, .inl ha.sq, fun l hl => ?_⟩
    have e1 := Evl.Ex.new (o := .lst (iV [t])) hl
    have u1 : Li (upd H l (.lst (iV [t]))) l [t] := upd_same
    generalize upd H l (.lst (iV [t])) = H1 at e1 u1
    refine ⟨_, rfl, a, _, rfl, .inl (SqL.of (e1 _ _ ha)), _, rfl, b, _, rfl, .inl (SqL.of (e1 _ _ hb)), _, _, rfl, rfl, _, _, rfl, rfl, ?_⟩
    have em : ((iV [t]).length : Int) - ((iV [1]).length : Int) + 1 = 1 := rfl
    dsimp only
    rw [em]
    refine ⟨one, fun p hp => ⟨_, rfl, p, _, _, rfl, rfl, upd_same, by decide, by decide, by decide, fun q hq => ?_⟩⟩
    have e2 := (Evl.Ex.new (o := .lst [.int 0]) hp).trans (Evl.Ex.new (o := .lst [.int 0]) hq)
    have hq1 : H1 q = none := Evl.fresh_back (Evl.Ex.new hp) hq
    have u2 : Li (upd (upd H1 p (.lst [.int 0])) q (.lst [.int 0])) q [0] := upd_same
    have nlq : l ≠ q := ne_of_none u1 hq1
    replace u1 := e2 _ _ u1
    have e3 := e1.trans e2
    have e12 : Evl.Ex H (upd H1 p (.lst [.int 0])) := e1.trans (Evl.Ex.new hp)
    have fq : H q = none := Evl.fresh_back e12 hq
    generalize hG : upd (upd H1 p (.lst [.int 0])) q (.lst [.int 0]) = H2 at e3 u1 u2
    have hG' : upd (upd H1 p (.lst [.int 0])) q (.lst (List.replicate (1 : Int).toNat [V.int 0]).flatten) = H2 := hG
    rw [hG']
    refine ⟨_, rfl, _, _, rfl, rfl, _, rfl, _, rfl, 0, -1, -1, 1, rfl, ⟨by decide, by decide, by decide, by decide⟩, for_rangeC (n := 1) (fun i σ H' => ∃ v5 v6 v7, σ = [some (.ref a), some (.ref b), some (.ref l), some (.int 1), some (.ref q), v5, v6, v7] ∧ (∀ c o, c ≠ l → c ≠ q → H2 c = some o → H' c = some o) ∧ Li H' l [if i = 0 then t else 0] ∧ Li H' q [if i = 0 then 0 else t]) ⟨_, _, _, rfl, fun _ _ _ _ h => h, u1, u2⟩ ?_ ?_⟩
    · rintro i σ H3 hi ⟨v5, v6, v7, rfl, k3, u3, q3⟩
      obtain rfl : i = 0 := by omega
      have bl : b ≠ l := ne_of_none (show H b = some _ from hb) hl
      have bq : b ≠ q := ne_of_none (show H b = some _ from hb) fq
      have hb3 : Li H3 b [1] := k3 _ _ bl bq (e3 _ _ hb)
      refine ⟨_, rfl, _, rfl, _, rfl, b, _, rfl, .inl (SqL.of hb3), _, _, rfl, rfl, _, _, rfl, rfl, l, _, _, _, rfl, rfl, SqL.of u3, rfl, _, rfl, _, rfl, b, _, _, _, rfl, rfl, SqL.of hb3, rfl, _, _, rfl, rfl, wide_div (b := 1) (by decide) (by decide) (by decide) (by decide), ?_⟩
      refine ⟨_, rfl, _, rfl, q, _, _, 0, rfl, rfl, q3, by rfl, ?_⟩
      have hb4 : Li (upd H3 q (.lst ((iV [if 0 = 0 then 0 else t]).set 0 (.int ((if 0 = 0 then t else 0) / 1))))) b [1] := Eq.trans (upd_ne bq) hb3
      have l4 : Li (upd H3 q (.lst ((iV [if 0 = 0 then 0 else t]).set 0 (.int ((if 0 = 0 then t else 0) / 1))))) l [t] := Eq.trans (upd_ne nlq) u3
      have q4 : Li (upd H3 q (.lst ((iV [if 0 = 0 then 0 else t]).set 0 (.int ((if 0 = 0 then t else 0) / 1))))) q [t] := by
        unfold Li
        rw [upd_same]
        show some (HO.lst [V.int (t / 1)]) = some (HO.lst [V.int t])
        rw [Int.ediv_one]
      have k4 : ∀ c o, c ≠ l → c ≠ q → H2 c = some o → upd H3 q (.lst ((iV [if 0 = 0 then 0 else t]).set 0 (.int ((if 0 = 0 then t else 0) / 1)))) c = some o := fun c o cl cq h => by
        rw [upd_ne cq]
        exact k3 c o cl cq h
      generalize upd H3 q (.lst ((iV [if 0 = 0 then 0 else t]).set 0 (.int ((if 0 = 0 then t else 0) / 1)))) = H4 at hb4 l4 q4 k4
      refine ⟨_, rfl, b, _, rfl, SqL.of hb4, for_it walk_enum (fun j σ H5 => ∃ v6 v7, σ = [some (.ref a), some (.ref b), some (.ref l), some (.int 1), some (.ref q), some (.int (0 + ((0 : Nat) : Int) * -1)), v6, v7] ∧ (∀ c o, c ≠ l → c ≠ q → H2 c = some o → H5 c = some o) ∧ Li H5 l [if j = 0 then t else 0] ∧ Li H5 q [t])
        ⟨_, _, rfl, k4, l4, q4⟩ (fun j σ H5 _ ⟨_, _, _, kk, _⟩ => SqL.of (kk _ _ bl bq (e3 _ _ hb))) ?_ ?_⟩
      · rintro j x σ H5 H6 hj ⟨v6, v7, rfl, k5, l5, q5⟩ ⟨T2, z, y, rfl, hT2, rfl, hz, hy⟩
        obtain rfl : j = 0 := by
          have : j < 1 := hj
          omega
        obtain rfl := (Option.some.inj hz).symm
        obtain rfl : y = .int 1 := (Option.some.inj hy).symm
        have nT2l : T2 ≠ l := (ne_of_none l5 hT2).symm
        have nT2q : T2 ≠ q := (ne_of_none q5 hT2).symm
        refine ⟨T2, _, rfl, SqT.of upd_same, rfl, _, _, rfl, _, _, rfl, rfl, ?_⟩
        have l6 : Li (upd H5 T2 (.tup [.int ((0 : Nat) : Int), .int 1])) l [t] := Eq.trans (upd_ne nT2l.symm) l5
        have q6 : Li (upd H5 T2 (.tup [.int ((0 : Nat) : Int), .int 1])) q [t] := Eq.trans (upd_ne nT2q.symm) q5
        refine ⟨_, rfl, _, rfl, _, rfl, _, _, rfl, rfl, l, _, _, _, rfl, rfl, SqL.of l6, rfl, _, rfl, _, rfl, q, _, _, _, rfl, rfl, SqL.of q6, rfl, _, rfl, _, _, rfl, rfl, ?_, _, _, rfl, rfl, ?_⟩
        · exact wide_mul (a := 4400) (b := 1) hT (by decide) (by decide) (by decide) (by decide)
        refine ⟨_, rfl, _, rfl, _, rfl, _, _, rfl, rfl, l, _, _, 0, rfl, rfl, l6, by rfl, ?_⟩
        refine ⟨_, _, rfl, fun c o cl cq h => ?_, ?_, ?_⟩
        · rw [upd_ne cl, upd_ne (ne_of_none (k5 c o cl cq h) hT2)]
          exact k5 c o cl cq h
        · unfold Li
          rw [upd_same]
          show some (HO.lst [V.int (t - t * 1)]) = some (HO.lst [V.int 0])
          rw [Int.mul_one, Int.sub_self]
        · exact Eq.trans (upd_ne nlq.symm) q6
      · rintro σ H5 ⟨v6, v7, rfl, k5, l5, q5⟩
        exact ⟨_, _, _, rfl, k5, l5, q5⟩
    · rintro σ H3 ⟨v5, v6, v7, rfl, k3, u3, q3⟩
      refine ⟨_, rfl, k q H3 fq (fun c o h => k3 c o (ne_of_none h hl) (ne_of_none h fq) (e3 _ _ h)) q3⟩
/-- top by bottom, constants: the tuple of two lists -/
def spRed1 : Sp := fun vs H Q _ => ∃ (a b : Addr) (t m : Int), vs = [.ref a, .ref b] ∧ Li H a (cp t) ∧ Li H b [m] ∧ 0 < m ∧ B26 t ∧ B26 m ∧
  ∀ (q x y : Addr) (H' : Hp), H x = none → H y = none → Evl.Ex H H' → H' q = some (.tup [.ref x, .ref y]) → Li H' x (cp (fr t m).1) → Li H' y [(fr t m).2] → Q (.ref q) H'
theorem B26.g {t m : Int} (hm : 0 < m) (h : B26 m) : 0 < ((Int.gcd t m : Nat) : Int) ∧ B26 ((Int.gcd t m : Nat) : Int) := by
  have h0 : 0 < Int.gcd t m := Int.gcd_pos_of_ne_zero_right _ (by omega)
  refine ⟨by omega, ?_⟩
  unfold B26
  rw [Int.natAbs_natCast]
  refine Nat.lt_of_le_of_lt (Nat.le_of_dvd (by omega) ?_) h
  exact Int.natAbs_dvd_natAbs.mpr (Int.gcd_dvd_right _ _) |> (by simpa using ·)
theorem ok_reduced1 {f : Addr} {fd : FuncData} (F : Fun K "reduced" "reduced" s_reduced f fd) (mG : mg "gcd" = some (.builtin "math.gcd")) (cF : Cal P w K mg base 4 "common_factor" p_common_factor spCf1) (cQ : Cal P w K mg base 1 "quotient" p_quotient spQ1) (cC : Cal P w K mg base 1 "content" p_content (spCont K)) : FnOk P w K mg base CX0 5 f fd p_reduced spRed1 := by
  refine F.ok sc_reduced (fun vs H Q E h => ?_) (fun cdv A outer s H vs Q E hr h => ?_)
  · obtain ⟨a, b, t, m, rfl, _⟩ := h
    rfl
  · obtain ⟨a, b, t, m, rfl, ha, hb, hm, hT, hM, k⟩ := h
    have nd := sc_reduced.nd
    have r1 : Room 1 _ := hr.mono (by decide)
    have two : 2 ≤ sizeLine := by show 2 ≤ sizeLine; decide
    refine ⟨_, pss_cons (ps_if (pt_not (pt_truth (pv 0) (by intro _; rfl))) (pss_one (ps_ret (pe_tup (pa_cons (pe_lst pa_nil) (pa_cons (pe_lst (pa_cons pe_int pa_nil)) pa_nil))))) pss_nil)
      (pss_cons (ps_set (i := 2) nd rfl (Or.inl rfl) (pe_c cF hr (pa_cons (pv 0) (pa_cons (pv 1) pa_nil))))
      (pss_cons (ps_par (i := 3) (j := 4) rfl nd rfl rfl (by decide) rfl rfl (pa_cons (pe_c cQ r1 (pa_cons (pv 0) (pa_cons (pv 2) pa_nil))) (pa_cons (pe_c cQ r1 (pa_cons (pv 1) (pa_cons (pv 2) pa_nil))) pa_nil)) (by rfl))
      (pss_cons (ps_set (i := 5) nd rfl (Or.inr rfl) (pe_callBfun cr_gcd (by rfl) mG (pa_cons (pe_c cC r1 (pa_cons (pv 3) pa_nil)) (pa_cons (pe_c cC r1 (pa_cons (pv 4) pa_nil)) pa_nil))))
      (pss_one (ps_ret (pe_tup (pa_cons (pe_lc (own := [("part", 6)]) (g := gName 6) (tt := tYes) (te := tOp (rI CDivW fun i j => .int (i / j)) (tVar 6) (tVar 5)) rfl nd (pi_list (pv 3)) (blkOk_by (N := n_reduced) (sc := defScope s_reduced) (by decide +kernel)) (fun _ _ _ _ _ => pg_name (i := 6) nd rfl (Or.inl rfl)) (fun _ _ _ _ _ => pts_nil) (fun _ _ _ _ _ => pe_op op_fdivW (pv 6) (pv 5)))
        (pa_cons (pe_lc (own := [("part", 6)]) (g := gName 6) (tt := tYes) (te := tOp (rI CDivW fun i j => .int (i / j)) (tVar 6) (tVar 5)) rfl nd (pi_list (pv 4)) (blkOk_by (N := n_reduced) (sc := defScope s_reduced) (by decide +kernel)) (fun _ _ _ _ _ => pg_name (i := 6) nd rfl (Or.inl rfl)) (fun _ _ _ _ _ => pts_nil) (fun _ _ _ _ _ => pe_op op_fdivW (pv 6) (pv 5))) pa_nil)))))))), ?_⟩
    refine ⟨_, rfl, _, tru_list ha, ?_⟩
    by_cases h0 : t = 0
    · subst h0
      refine if_t rfl ⟨Nat.zero_le _, fun x hx => ⟨by show 1 ≤ sizeLine; decide, fun y hy => ⟨two, fun q hq => ?_⟩⟩⟩
      have e1 := Evl.Ex.new (o := .lst []) hx
      have e2 := Evl.Ex.new (o := .lst [.int 1]) hy
      have e3 := Evl.Ex.new (o := .tup [.ref x, .ref y]) hq
      have f0 : fr 0 m = (0, 1) := by
        have := fr_eq (a := 0) (b := m) (c := 0) (d := 1) hm (by decide) (by omega)
        rw [this]
        exact fr_same (by decide) (by decide)
      refine k q x y _ hx (Evl.fresh_back e1 hy) ((e1.trans e2).trans e3) upd_same ?_ ?_
      · rw [f0]
        exact e3 _ _ (e2 _ _ upd_same)
      · rw [f0]
        exact e3 _ _ upd_same
    · rw [cp_n h0] at ha
      obtain ⟨g0, gB⟩ := B26.g (t := t) hm hM
      refine if_f (by rw [cp_n h0]; rfl) ?_
      refine ⟨_, rfl, _, rfl, a, b, t, m, rfl, ha, hb, h0, hm, hT, hM, fun F1 H1 hF1 e1 h1 => ?_⟩
      refine ⟨_, rfl, _, rfl, a, F1, t, rfl, e1 _ _ ha, h1, hT, fun x H2 hx e2 h2 => ?_⟩
      refine ⟨_, rfl, _, rfl, b, F1, m, rfl, e2 _ _ (e1 _ _ hb), e2 _ _ h1, hM, fun y H3 hy e3 h3 => ⟨_, _, rfl, ?_⟩⟩
      refine ⟨_, rfl, x, [t], rfl, e3 _ _ h2, fun H4 e4 => ?_⟩
      refine ⟨_, rfl, y, [m], rfl, e4 _ _ h3, fun H5 e5 => ⟨_, _, rfl, ?_⟩⟩
      rw [cont_1, cont_1]
      have eg : ((Nat.gcd ((t.natAbs : Nat) : Int).natAbs ((m.natAbs : Nat) : Int).natAbs : Nat) : Int) = ((Int.gcd t m : Nat) : Int) := by
        rw [Int.natAbs_natCast, Int.natAbs_natCast]
        rfl
      dsimp only
      rw [eg]
      generalize hge : ((Int.gcd t m : Nat) : Int) = g at g0 gB
      have x5 : Li H5 x [t] := e5 _ _ (e4 _ _ (e3 _ _ h2))
      have y5 : Li H5 y [m] := e5 _ _ (e4 _ _ h3)
      have e05 := ((((e1.trans e2).trans e3).trans e4).trans e5)
      refine ⟨_, rfl, x, rfl, ⟨_, SqL.of x5⟩, fun D hD => lc_list (xs := iV [t]) (fun i H' => Evl.Ex H5 H' ∧ H' D = some (.lst (iV (if i = 0 then [] else [t / g])))) ⟨Evl.Ex.new hD, upd_same⟩ (fun i H' _ q => SqL.of (q.1 _ _ x5)) ?_ ?_⟩
      · rintro i v H6 hi ⟨e6, h6⟩
        have i0 : i = 0 := by
          have : i < 1 := (List.getElem?_eq_some_iff.mp hi).1
          omega
        subst i0
        obtain rfl : v = .int t := (Option.some.inj hi).symm
        refine ⟨rfl, ?_⟩
        show tOp (rI CDivW fun i j => .int (i / j)) (tVar 6) (tVar 5) _ _ _
        exact ⟨_, rfl, _, rfl, _, _, rfl, rfl, wide_div (b := 4400) g0 gB (by decide) (by decide), _, h6, by show 0 < sizeLine; decide, Evl.Ex.mut e6 hD, upd_same⟩
      · rintro H6 ⟨e6, h6⟩
        have y6 : Li H6 y [m] := e6 _ _ y5
        refine ⟨_, rfl, y, rfl, ⟨_, SqL.of y6⟩, fun D2 hD2 => lc_list (xs := iV [m]) (fun i H' => Evl.Ex H6 H' ∧ H' D2 = some (.lst (iV (if i = 0 then [] else [m / g])))) ⟨Evl.Ex.new hD2, upd_same⟩ (fun i H' _ q => SqL.of (q.1 _ _ y6)) ?_ ?_⟩
        · rintro i v H7 hi ⟨e7, h7⟩
          have i0 : i = 0 := by
            have : i < 1 := (List.getElem?_eq_some_iff.mp hi).1
            omega
          subst i0
          obtain rfl : v = .int m := (Option.some.inj hi).symm
          refine ⟨rfl, ?_⟩
          show tOp (rI CDivW fun i j => .int (i / j)) (tVar 6) (tVar 5) _ _ _
          exact ⟨_, rfl, _, rfl, _, _, rfl, rfl, wide_div (b := 4400) g0 gB (by decide) (by decide), _, h7, by show 0 < sizeLine; decide, Evl.Ex.mut e7 hD2, upd_same⟩
        · rintro H7 ⟨e7, h7⟩
          refine ⟨two, fun q hq => ?_⟩
          have e8 := Evl.Ex.new (o := .tup [.ref D, .ref D2]) hq
          have ft : fr t m = (t / g, m / g) := by
            unfold fr
            rw [hge]
          have tg : t / g ≠ 0 := by
            have h1 := (fr_mul (u := t) hm).1
            rw [ft] at h1
            intro z
            rw [show (t / g, m / g).1 = t / g from rfl, z, Int.zero_mul] at h1
            exact h0 h1
          refine k q D D2 _ (Evl.fresh_back e05 hD) (Evl.fresh_back (e05.trans e6) hD2) (((e05.trans e6).trans e7).trans e8) upd_same ?_ ?_
          · rw [ft, cp_n tg]
            exact e8 _ _ (e7 _ _ h6)
          · rw [ft]
            exact e8 _ _ h7
end
end V2


/-! ## what is data, dicts too, and its text -/
namespace PySem
mutual
inductive ReadsS (h : Heap) : Value → PyData → Prop
  | none : ReadsS h .none .none
  | bool (b : Bool) : ReadsS h (.bool b) (.bool b)
  | int (i : Int) (t : Tok) : ReadsS h (.int i t) (.int i)
  | str (x : Str) (t : Tok) : ReadsS h (.str x t) (.str x)
  | list {a : Addr} {o : Obj} {vs : Array Value} {n : Nat} {xs : List PyData} : h.get? a = some o → o.cls = .type "list" → o.data = .seq vs n → ReadsAllS h vs.toList xs → ReadsS h (.ref a) (.list xs)
  | tuple {a : Addr} {o : Obj} {vs : Array Value} {n : Nat} {xs : List PyData} : h.get? a = some o → o.cls = .type "tuple" → o.data = .seq vs n → ReadsAllS h vs.toList xs → ReadsS h (.ref a) (.tuple xs)
  | dict {a : Addr} {o : Obj} {es : Array DictEntry} {n : Nat} {kvs : List (PyData × PyData)} : h.get? a = some o → o.cls = .type "dict" → o.data = .dict es n → (a == sysModules) = false → ReadsAllS h (es.toList.map (·.key)) (kvs.map (·.1)) →
      ReadsAllS h (es.toList.map (·.val)) (kvs.map (·.2)) → ReadsS h (.ref a) (.dict kvs)
inductive ReadsAllS (h : Heap) : List Value → List PyData → Prop
  | nil : ReadsAllS h [] []
  | cons {v : Value} {vs : List Value} {d : PyData} {ds : List PyData} : ReadsS h v d → ReadsAllS h vs ds → ReadsAllS h (v :: vs) (d :: ds)
end
section
variable {h : Heap}
mutual
theorem ReadsS.reads : ∀ {v : Value} {d : PyData}, ReadsS h v d → ∃ as, Reads h v d as
  | _, _, .none => ⟨_, .none⟩
  | _, _, .bool b => ⟨_, .bool b⟩
  | _, _, .int i t => ⟨_, .int i t⟩
  | _, _, .str x t => ⟨_, .str x t⟩
  | _, _, .list h1 h2 h3 h4 => let ⟨_, r⟩ := ReadsAllS.reads h4; ⟨_, .list h1 h2 h3 r⟩
  | _, _, .tuple h1 h2 h3 h4 => let ⟨_, r⟩ := ReadsAllS.reads h4; ⟨_, .tuple h1 h2 h3 r⟩
  | _, _, .dict h1 h2 h3 _ h4 h5 => let ⟨_, r⟩ := ReadsAllS.reads h4; let ⟨_, q⟩ := ReadsAllS.reads h5; ⟨_, .dict h1 h2 h3 r q⟩
theorem ReadsAllS.reads : ∀ {vs : List Value} {ds : List PyData}, ReadsAllS h vs ds → ∃ as, ReadsAll h vs ds as
  | _, _, .nil => ⟨_, .nil⟩
  | _, _, .cons r q => let ⟨_, a⟩ := ReadsS.reads r; let ⟨_, b⟩ := ReadsAllS.reads q; ⟨_, .cons a b⟩
end
end
section
variable {prog : Program} {w : World} {h₀ : Heap}
mutual
theorem ReprK.of_readsS : ∀ {v : Value} {d : PyData}, ReadsS h₀ v d → d.showable = true → d.shown.length ≤ sizeLine → ∃ bs, ReadAtMost h₀ d.depth bs ∧ ReprK prog w bs h₀ d.depth v d.shown
  | _, _, .none, _, _ => ⟨[], (fun _ h => nomatch h), by simp only [PyData.shown]; exact .of_is ReprIs.none _ _ _⟩
  | _, _, .bool b, _, _ => ⟨[], (fun _ h => nomatch h), by simp only [PyData.shown]; exact .of_is (ReprIs.bool b) _ _ _⟩
  | _, _, .int i t, hs, _ => ⟨[], (fun _ h => nomatch h), by simp only [PyData.shown]; exact .of_is (ReprIs.int t (by simpa [PyData.showable] using hs)) _ _ _⟩
  | _, _, .str x t, _, hz => ⟨[], (fun _ h => nomatch h), by simp only [PyData.shown]; exact .of_is (ReprIs.str x t (by simpa only [PyData.shown] using hz)) _ _ _⟩
  | _, _, .list (a := a) (vs := vs) (xs := xs) h1 h2 h3 h4, hs, hz => by
    have hz' : (listText (PyData.shownAll xs)).length ≤ sizeLine := by simpa only [PyData.shown] using hz
    obtain ⟨bs, hb, hk⟩ := ReprAllK.of_readsAllS h4 (by simpa [PyData.showable] using hs) (fun t ht => Nat.le_trans (listText_mem_le ht) hz')
    obtain ⟨_, r4⟩ := h4.reads
    have r : Reads h₀ (.ref a) (.list xs) _ := .list h1 h2 h3 r4
    have hna : a ∉ bs := not_mem_of_deeper r (by simp only [PyData.depth]; omega) hb
    refine ⟨a :: bs, ReadAtMost.cons r (by simp only [PyData.depth]; omega) hb, ?_⟩
    simp only [PyData.depth, PyData.shown]
    obtain ⟨l⟩ := vs
    cases l with
    | nil =>
      have h4' : ReadsAllS h₀ [] xs := h4
      cases h4'
      simp only [PyData.shownAll, listText_nil]
      exact ReprK.listEmpty h1 h2 h3
    | cons x l => exact ReprK.list h1 h2 h3 hna (by simpa using hk.length_eq) (fun i y e => hk.item i y (by simpa using e))
  | _, _, .tuple (a := a) (xs := xs) h1 h2 h3 h4, hs, hz => by
    have hz' : (tupleText (PyData.shownAll xs)).length ≤ sizeLine := by simpa only [PyData.shown] using hz
    obtain ⟨bs, hb, hk⟩ := ReprAllK.of_readsAllS h4 (by simpa [PyData.showable] using hs) (fun t ht => Nat.le_trans (tupleText_mem_le ht) hz')
    obtain ⟨_, r4⟩ := h4.reads
    have r : Reads h₀ (.ref a) (.tuple xs) _ := .tuple h1 h2 h3 r4
    have hna : a ∉ bs := not_mem_of_deeper r (by simp only [PyData.depth]; omega) hb
    refine ⟨a :: bs, ReadAtMost.cons r (by simp only [PyData.depth]; omega) hb, ?_⟩
    simp only [PyData.depth, PyData.shown]
    exact ReprK.tuple h1 h2 h3 hna hk
  | _, _, .dict (a := a) (es := es) (kvs := kvs) h1 h2 h3 hsys h4 h5, hs, hz => by
    have hz' : (dictText (PyData.shownKv kvs)).length ≤ sizeLine := by simpa only [PyData.shown] using hz
    obtain ⟨hs1, hs2⟩ := PyData.showableKv_split kvs (by simpa [PyData.showable] using hs)
    obtain ⟨b1, hb1, k1⟩ := ReprAllK.of_readsAllS h4 hs1 (fun t ht => let ⟨p, hp, hl⟩ := PyData.shownKv_key_le kvs t ht; Nat.le_trans hl (Nat.le_trans (dictText_mem_le hp) hz'))
    obtain ⟨b2, hb2, k2⟩ := ReprAllK.of_readsAllS h5 hs2 (fun t ht => let ⟨p, hp, hl⟩ := PyData.shownKv_val_le kvs t ht; Nat.le_trans hl (Nat.le_trans (dictText_mem_le hp) hz'))
    obtain ⟨_, r4⟩ := h4.reads
    obtain ⟨_, r5⟩ := h5.reads
    have r : Reads h₀ (.ref a) (.dict kvs) _ := .dict h1 h2 h3 r4 r5
    have hb : ReadAtMost h₀ (PyData.depthKv kvs) (b1 ++ b2) := (hb1.mono (PyData.depthAll_keys_le kvs)).append (hb2.mono (PyData.depthAll_vals_le kvs))
    have hna : a ∉ b1 ++ b2 := not_mem_of_deeper r (by simp only [PyData.depth]; omega) hb
    refine ⟨a :: (b1 ++ b2), ReadAtMost.cons r (by simp only [PyData.depth]; omega) hb, ?_⟩
    simp only [PyData.depth, PyData.shown, PyData.shownKv_eq]
    exact ReprK.dict h1 h2 h3 hsys hna (ReprEntriesK.of_two es.toList _ _
      (k1.more_le (fun b hb => List.mem_append_left _ hb) (PyData.depthAll_keys_le kvs)) (k2.more_le (fun b hb => List.mem_append_right _ hb) (PyData.depthAll_vals_le kvs)))
theorem ReprAllK.of_readsAllS : ∀ {vs : List Value} {ds : List PyData}, ReadsAllS h₀ vs ds → PyData.showableAll ds = true → (∀ t ∈ PyData.shownAll ds, t.length ≤ sizeLine) →
    ∃ bs, ReadAtMost h₀ (PyData.depthAll ds) bs ∧ ReprAllK prog w bs h₀ (PyData.depthAll ds) vs (PyData.shownAll ds)
  | _, _, .nil, _, _ => ⟨[], (fun _ h => nomatch h), by simp only [PyData.shownAll]; exact .nil⟩
  | _, _, .cons (d := d) (ds := ds) r rs, hs, hz => by
    have hs' : d.showable = true ∧ PyData.showableAll ds = true := by simpa [PyData.showableAll] using hs
    obtain ⟨b1, hb1, k1⟩ := ReprK.of_readsS r hs'.1 (hz _ (by simp only [PyData.shownAll]; exact List.mem_cons_self ..))
    obtain ⟨b2, hb2, k2⟩ := ReprAllK.of_readsAllS rs hs'.2 (fun t ht => hz t (by simp only [PyData.shownAll]; exact List.mem_cons_of_mem _ ht))
    refine ⟨b1 ++ b2, ?_, ?_⟩
    · intro b hm
      simp only [PyData.depthAll]
      rcases List.mem_append.mp hm with hm | hm
      · obtain ⟨d', as', r', hd'⟩ := hb1 b hm
        exact ⟨d', as', r', Nat.le_trans hd' (Nat.le_max_left _ _)⟩
      · obtain ⟨d', as', r', hd'⟩ := hb2 b hm
        exact ⟨d', as', r', Nat.le_trans hd' (Nat.le_max_right _ _)⟩
    · simp only [PyData.depthAll, PyData.shownAll]
      exact .cons ((k1.more fun b hb => List.mem_append_left _ hb).level_le (Nat.le_max_left _ _)) (k2.more_le (fun b hb => List.mem_append_right _ hb) (Nat.le_max_right _ _))
end
theorem showsBy_of_readsS {a : Addr} {d : PyData} (r : ReadsS h₀ (.ref a) d) (hs : d.showable = true) (hsz : d.shown.length ≤ sizeLine) : ∃ T idr, ShowsBy prog w h₀ a d T idr := by
  cases r with
  | list h1 h2 h3 h4 =>
    rename_i o vs n xs
    have hz' : (listText (PyData.shownAll xs)).length ≤ sizeLine := by simpa only [PyData.shown] using hsz
    obtain ⟨bs, hb, hk⟩ := ReprAllK.of_readsAllS (prog := prog) (w := w) h4 (by simpa [PyData.showable] using hs) (fun t ht => Nat.le_trans (listText_mem_le ht) hz')
    obtain ⟨_, r4⟩ := h4.reads
    have hna : a ∉ bs := not_mem_of_deeper (.list h1 h2 h3 r4) (by simp only [PyData.depth]; omega) hb
    refine ⟨"list", "list.__repr__", F.slot_list_repr.toG, F.slot_list_str, F.slot_list_format, fun s hk0 => ⟨o, hk0 _ _ h1, h2⟩, fun A E s Q hg hu hk0 hQ => ?_⟩
    simp only [PyData.depth] at hu
    simp only [PyData.shown] at hQ
    obtain ⟨l⟩ := vs
    cases l with
    | nil =>
      have h4' : ReadsAllS h₀ [] xs := h4
      cases h4'
      simp only [PyData.shownAll, listText_nil] at hQ
      exact call_list_repr_empty ⟨o, hk0 _ _ h1, h2⟩ (hk0 _ _ h1) h3 (hQ s.heap _ _ fun _ _ e => e)
    | cons x l =>
      exact call_list_reprK h1 h2 h3 hna (by simpa using hk.length_eq) (fun i y e => hk.item i y (by simpa using e)) hg (fun b _ => Clear.nil b) hu hk0 hQ hz'
  | tuple h1 h2 h3 h4 =>
    rename_i o vs n xs
    have hz' : (tupleText (PyData.shownAll xs)).length ≤ sizeLine := by simpa only [PyData.shown] using hsz
    obtain ⟨bs, hb, hk⟩ := ReprAllK.of_readsAllS (prog := prog) (w := w) h4 (by simpa [PyData.showable] using hs) (fun t ht => Nat.le_trans (tupleText_mem_le ht) hz')
    obtain ⟨_, r4⟩ := h4.reads
    have hna : a ∉ bs := not_mem_of_deeper (.tuple h1 h2 h3 r4) (by simp only [PyData.depth]; omega) hb
    refine ⟨"tuple", "tuple.__repr__", F.slot_tuple_repr, F.slot_tuple_str, F.slot_tuple_format, fun s hk0 => ⟨o, hk0 _ _ h1, h2⟩, fun A E s Q hg hu hk0 hQ => ?_⟩
    simp only [PyData.depth] at hu
    simp only [PyData.shown] at hQ
    exact call_tuple_reprK h1 h2 h3 hna hk hg (fun b _ => Clear.nil b) hu hk0 hQ hz'
  | dict h1 h2 h3 hsys h4 h5 =>
    rename_i o es n kvs
    have hz' : (dictText (PyData.shownKv kvs)).length ≤ sizeLine := by simpa only [PyData.shown] using hsz
    obtain ⟨hs1, hs2⟩ := PyData.showableKv_split kvs (by simpa [PyData.showable] using hs)
    obtain ⟨b1, hb1, k1⟩ := ReprAllK.of_readsAllS (prog := prog) (w := w) h4 hs1 (fun t ht => let ⟨p, hp, hl⟩ := PyData.shownKv_key_le kvs t ht; Nat.le_trans hl (Nat.le_trans (dictText_mem_le hp) hz'))
    obtain ⟨b2, hb2, k2⟩ := ReprAllK.of_readsAllS (prog := prog) (w := w) h5 hs2 (fun t ht => let ⟨p, hp, hl⟩ := PyData.shownKv_val_le kvs t ht; Nat.le_trans hl (Nat.le_trans (dictText_mem_le hp) hz'))
    obtain ⟨_, r4⟩ := h4.reads
    obtain ⟨_, r5⟩ := h5.reads
    have hb : ReadAtMost h₀ (PyData.depthKv kvs) (b1 ++ b2) := (hb1.mono (PyData.depthAll_keys_le kvs)).append (hb2.mono (PyData.depthAll_vals_le kvs))
    have hna : a ∉ b1 ++ b2 := not_mem_of_deeper (.dict h1 h2 h3 r4 r5) (by simp only [PyData.depth]; omega) hb
    refine ⟨"dict", "dict.__repr__", F.slot_dict_repr, F.slot_dict_str, F.slot_dict_format, fun s hk0 => ⟨o, hk0 _ _ h1, h2⟩, fun A E s Q hg hu hk0 hQ => ?_⟩
    simp only [PyData.depth] at hu
    simp only [PyData.shown, PyData.shownKv_eq] at hQ
    exact call_dict_reprK h1 h2 h3 hsys hna (ReprEntriesK.of_two es.toList _ _
      (k1.more_le (fun b hb => List.mem_append_left _ hb) (PyData.depthAll_keys_le kvs)) (k2.more_le (fun b hb => List.mem_append_right _ hb) (PyData.depthAll_vals_le kvs))) hg (fun b _ => Clear.nil b) hu hk0 hQ (by rw [← PyData.shownKv_eq]; exact hz')
theorem repr_of_readsS {a : Addr} {d : PyData} {A : Around} {E : Value → Shared → Prop} {s : Shared} {Q : Value → Shared → Prop} (r : ReadsS h₀ (.ref a) d) (hs : d.showable = true) (hg : A.guards = some []) (hu : A.units + (d.depth + 1) < cLine) (hk0 : ∀ b o, h₀.get? b = some o → s.heap.get? b = some o)
    (hQ : ∀ h' u tk, (∀ b o, s.heap.get? b = some o → h'.get? b = some o) → Q (.str d.shown u) { s with heap := h', toks := tk })
    (hsz : d.shown.length ≤ sizeLine) : wpAny (model prog w) A (call (.builtin "repr") [.ref a]) Q E s := by
  obtain ⟨T, idr, S⟩ := showsBy_of_readsS (prog := prog) (w := w) r hs hsz
  exact call_repr_slot (by omega) (S.typeIs s hk0) S.slotRepr (S.call A.in1 E s _ hg (by show A.units + 1 + d.depth < cLine; omega) hk0 fun h' u tk hk => ⟨_, _, rfl, hQ h' u tk hk⟩)
end
end PySem
namespace V2
open PySem L2
open PySem.Spec PyProof.Rows
mutual
/-- v is the data d, where the abstract heap is H -/
inductive Dq (H : Hp) : V → PyData → Prop
  | non : Dq H .non .none
  | bl (b : Bool) : Dq H (.bl b) (.bool b)
  | int (i : Int) : Dq H (.int i) (.int i)
  | str (x : Str) : Dq H (.str x) (.str x)
  | lst {a : Addr} {xs : List V} {ds : List PyData} : H a = some (.lst xs) → DqAll H xs ds → Dq H (.ref a) (.list ds)
  | tup {a : Addr} {xs : List V} {ds : List PyData} : H a = some (.tup xs) → DqAll H xs ds → Dq H (.ref a) (.tuple ds)
  | dct {a : Addr} {x : Str} {w : V} {d : PyData} : H a = some (.dK [(.inr x, w)]) → Dq H w d → Dq H (.ref a) (.dict [(.str x, d)])
inductive DqAll (H : Hp) : List V → List PyData → Prop
  | nil : DqAll H [] []
  | cons {v : V} {vs : List V} {d : PyData} {ds : List PyData} : Dq H v d → DqAll H vs ds → DqAll H (v :: vs) (d :: ds)
end
mutual
theorem Dq.go {H H' : Hp} : ∀ {d : PyData} {v : V}, Dq H v d → Evl.Ex H H' → Dq H' v d
  | _, _, .non, _ => .non
  | _, _, .bl b, _ => .bl b
  | _, _, .int i, _ => .int i
  | _, _, .str x, _ => .str x
  | _, _, .lst h r, e => .lst (e _ _ h) (DqAll.go r e)
  | _, _, .tup h r, e => .tup (e _ _ h) (DqAll.go r e)
  | _, _, .dct h r, e => .dct (e _ _ h) (Dq.go r e)
theorem DqAll.go {H H' : Hp} : ∀ {ds : List PyData} {vs : List V}, DqAll H vs ds → Evl.Ex H H' → DqAll H' vs ds
  | _, _, .nil, _ => .nil
  | _, _, .cons a b, e => .cons (Dq.go a e) (DqAll.go b e)
end
section
variable {X : Cx} {pins : List (Addr × Obj)} {σ : L2.St} {H : Hp} {s : Shared}
mutual
theorem Dq.reads (I : Inv X pins σ H s) : ∀ {d : PyData} {v : V}, Dq H v d → ∀ {u : Value}, RelV v u → ReadsS s.heap u d
  | _, _, .non, _, r => by
    cases r
    exact .none
  | _, _, .bl b, _, r => by
    cases r
    exact .bool b
  | _, _, .int i, _, r => by
    obtain ⟨t, rfl⟩ := r
    exact .int i t
  | _, _, .str x, _, r => by
    obtain ⟨t, rfl⟩ := r
    exact .str x t
  | _, _, .lst h q, _, r => by
    cases r
    obtain ⟨_, its, n, rv, ho⟩ := I.hok _ _ h
    exact .list ho rfl rfl (by simpa using DqAll.reads I q rv)
  | _, _, .tup h q, _, r => by
    cases r
    obtain ⟨_, its, rv, o, ho, hc, n, hd⟩ := I.hok _ _ h
    exact .tuple ho hc hd (by simpa using DqAll.reads I q rv)
  | _, _, .dct h q, _, r => by
    cases r
    obtain ⟨_, hsys, vs, kv, o, es, ep, ho, ⟨hc, _, _⟩, hd, _, hp, _⟩ := dk_of I.hok h
    obtain ⟨p1, p2, rfl, e1, e2⟩ : ∃ p1 p2, vs = [(p1, p2)] ∧ Sum.inr _ = p1 ∧ RelV _ p2 := by
      cases kv with
      | cons r1 r2 =>
        cases r2
        exact ⟨_, _, rfl, r1.1, r1.2⟩
    · subst e1
      refine .dict ho hc hd hsys ?_ ?_
      · generalize es.toList = l at hp
        cases hp with
        | cons a1 a2 a3 =>
          cases a3
          have z1 := a1
          rw [mixKind_is] at z1
          rcases keyIs_shape z1 with ⟨_, _, z, _⟩ | ⟨x', t, z, ht⟩
          · cases z
          cases z
          rw [List.map_cons, List.map_nil, ht]
          exact .cons (.str _ _) .nil
      · generalize es.toList = l at hp
        cases hp with
        | cons a1 a2 a3 =>
          cases a3
          rw [List.map_cons, List.map_nil, a2]
          exact .cons (Dq.reads I q e2) .nil
theorem DqAll.reads (I : Inv X pins σ H s) : ∀ {ds : List PyData} {vs : List V}, DqAll H vs ds → ∀ {us : List Value}, Vals vs us → ReadsAllS s.heap us ds
  | _, _, .nil, _, r => by
    cases r
    exact .nil
  | _, _, .cons a b, _, r => by
    cases r with
    | cons r1 r2 => exact .cons (Dq.reads I a r1) (DqAll.reads I b r2)
end
end
/-- repr of what is data -/
def rShowS : List V → Hp → VK → Prop := fun xs H Q => ∃ (v : V) (d : PyData), xs = [v] ∧ Dq H v d ∧ d.showable = true ∧ d.depth ≤ 60 ∧ d.shown.length ≤ sizeLine ∧ Q (.str d.shown) H
theorem call_showS {X : Cx} (hgd : X.A.guards = some []) (hu : X.A.units + 64 < cLine) : CallR X (.builtin "repr") rShowS := by
  intro pins s σ H xs us Q I r h
  obtain ⟨v, d, rfl, hd, hs, hp, hz, q⟩ := h
  obtain ⟨u, rfl, ru⟩ : ∃ u, us = [u] ∧ RelV v u := by
    cases r with
    | cons ra rb =>
      cases rb
      exact ⟨_, rfl, ra⟩
  cases hd with
  | non =>
    cases ru
    exact PySem.P.repr_of_none ⟨.str _, H, I.tok _, ⟨_, rfl⟩, by simpa only [PyData.shown] using q⟩
  | bl b =>
    cases ru
    exact PySem.P.repr_of_bool ⟨.str _, H, I.tok _, ⟨_, rfl⟩, by simpa only [PyData.shown] using q⟩
  | int i =>
    obtain ⟨t, rfl⟩ := ru
    exact PySem.P.repr_of_int (by simpa [PyData.showable] using hs) ⟨.str _, H, I.tok _, ⟨_, rfl⟩, by simpa only [PyData.shown] using q⟩
  | str x =>
    obtain ⟨t, rfl⟩ := ru
    exact PySem.P.repr_of_str ⟨.str _, H, I.tok _, ⟨_, rfl⟩, by simpa only [PyData.shown] using q⟩ (by simpa only [PyData.shown] using hz)
  | lst h1 h2 =>
    have rd := Dq.reads I (.lst h1 h2) ru
    cases ru
    exact repr_of_readsS rd hs hgd (by omega) (fun _ _ e => e) (fun h' u tk k => ⟨.str _, H, I.kept (t' := tk) k, ⟨u, rfl⟩, q⟩) hz
  | tup h1 h2 =>
    have rd := Dq.reads I (.tup h1 h2) ru
    cases ru
    exact repr_of_readsS rd hs hgd (by omega) (fun _ _ e => e) (fun h' u tk k => ⟨.str _, H, I.kept (t' := tk) k, ⟨u, rfl⟩, q⟩) hz
  | dct h1 h2 =>
    have rd := Dq.reads I (.dct h1 h2) ru
    cases ru
    exact repr_of_readsS rd hs hgd (by omega) (fun _ _ e => e) (fun h' u tk k => ⟨.str _, H, I.kept (t' := tk) k, ⟨u, rfl⟩, q⟩) hz
end V2


namespace V2
open PySem L2
open PySem.Spec PyProof.Rows
/-! ## copies of data -/
/-- what is new -/
def Nw (H H' : Hp) : Hp := fun b => if (H b).isSome = true then none else H' b
theorem Nw.ex {H H' : Hp} : Evl.Ex (Nw H H') H' := fun b o h => by
  unfold Nw at h
  split at h
  · cases h
  · exact h
theorem nw_at {H H' : Hp} {b : Addr} {o : HO} (n : H b = none) (h : H' b = some o) : Nw H H' b = some o := by
  unfold Nw
  rw [n]
  exact h
theorem nw_none {H H' : Hp} {b : Addr} {o : HO} (h : Nw H H' b = some o) : H b = none := by
  unfold Nw at h
  split at h
  · cases h
  · rename_i z
    cases e : H b with
    | none => rfl
    | some x =>
      rw [e] at z
      exact absurd rfl z
/-- data of lists and tuples, n deep at most -/
inductive Cp : Nat → PyData → Prop
  | non {n : Nat} : Cp n .none
  | bl {n : Nat} (b : Bool) : Cp n (.bool b)
  | int {n : Nat} (i : Int) : Cp n (.int i)
  | str {n : Nat} (x : Str) : Cp n (.str x)
  | lst {n : Nat} {ds : List PyData} : ds.length ≤ 100 → (∀ d ∈ ds, Cp n d) → Cp (n + 1) (.list ds)
  | tup {n : Nat} {ds : List PyData} : ds.length ≤ 100 → (∀ d ∈ ds, Cp n d) → Cp (n + 1) (.tuple ds)
theorem DqAll.len {H : Hp} : ∀ {ds : List PyData} {vs : List V}, DqAll H vs ds → vs.length = ds.length
  | _, _, .nil => rfl
  | _, _, .cons _ b => congrArg Nat.succ b.len
theorem DqAll.get {H : Hp} : ∀ {ds : List PyData} {vs : List V} {i : Nat} {v : V}, DqAll H vs ds → vs[i]? = some v → ∃ d, ds[i]? = some d ∧ Dq H v d
  | _, _, _, _, .nil, h => by cases h
  | _, _, 0, _, .cons a _, h => by
    cases h
    exact ⟨_, rfl, a⟩
  | _, _, i + 1, _, .cons _ b, h => b.get (i := i) h
theorem DqAll.snoc {H : Hp} : ∀ {ds : List PyData} {vs : List V} {v : V} {d : PyData}, DqAll H vs ds → Dq H v d → DqAll H (vs ++ [v]) (ds ++ [d])
  | _, _, _, _, .nil, h => .cons h .nil
  | _, _, _, _, .cons a b, h => .cons a (b.snoc h)
theorem ds_take {ds : List PyData} {i : Nat} {d : PyData} (h : ds[i]? = some d) : ds.take (i + 1) = ds.take i ++ [d] := by
  rw [List.take_add_one, h]
  rfl
def spCp (n : Nat) : Sp := fun vs H Q _ => ∃ (v : V) (d : PyData), vs = [v] ∧ Dq H v d ∧ Cp n d ∧ ∀ v' H', Evl.Ex H H' → Dq (Nw H H') v' d → Q v' H'
structure T5 (mg : Str → Option Value) : Prop where
  isi : mg "isinstance" = none
  lst : mg "list" = none
  tup : mg "tuple" = none
section
variable {base : Heap} {mg : Str → Option Value} {K : PySem.W.Frag} {w : World} {P : Program}
theorem ok_copied0 {f : Addr} {fd : FuncData} (F : Fun K "copied" "copied" s_copied f fd) (T : T5 mg) : FnOk P w K mg base CX0 1 f fd p_copied (spCp 0) := by
  refine F.ok sc_copied (fun vs H Q E h => ?_) (fun cdv A outer s H vs Q E hr h => ?_)
  · obtain ⟨v, d, rfl, _⟩ := h
    rfl
  · obtain ⟨v, d, rfl, hd, hc, k⟩ := h
    refine ⟨_, pss_cons (ps_if (pt_val (pe_callB call_isi (by rfl) T.isi (by decide +kernel) (pa_cons (pv 0) (pa_cons (pe_bltn (v := .ty "list") (by rfl) T.lst (by decide +kernel) rfl) pa_nil)))) (pss_one ps_never) pss_nil)
      (pss_cons (ps_if (pt_val (pe_callB call_isi (by rfl) T.isi (by decide +kernel) (pa_cons (pv 0) (pa_cons (pe_bltn (v := .ty "tuple") (by rfl) T.tup (by decide +kernel) rfl) pa_nil)))) (pss_one ps_never) pss_nil)
      (pss_one (ps_ret (pv 0)))), ?_⟩
    cases hc with
    | non =>
      cases hd
      exact ⟨_, rfl, _, _, _, _, false, rfl, .ty "list", .base .non, kit_ty (by decide +kernel), false, rfl, if_f rfl ⟨_, rfl, _, _, _, _, false, rfl, .ty "tuple", .base .non, kit_ty (by decide +kernel), false, rfl, if_f rfl ⟨_, rfl, k _ _ (Evl.Ex.refl _) .non⟩⟩⟩
    | bl b =>
      cases hd
      exact ⟨_, rfl, _, _, _, _, false, rfl, .ty "list", .base (.bl b), kit_ty (by decide +kernel), false, rfl, if_f rfl ⟨_, rfl, _, _, _, _, false, rfl, .ty "tuple", .base (.bl b), kit_ty (by decide +kernel), false, rfl, if_f rfl ⟨_, rfl, k _ _ (Evl.Ex.refl _) (.bl b)⟩⟩⟩
    | int i =>
      cases hd
      exact ⟨_, rfl, _, _, _, _, false, rfl, .ty "list", .base (.int i), kit_ty (by decide +kernel), false, rfl, if_f rfl ⟨_, rfl, _, _, _, _, false, rfl, .ty "tuple", .base (.int i), kit_ty (by decide +kernel), false, rfl, if_f rfl ⟨_, rfl, k _ _ (Evl.Ex.refl _) (.int i)⟩⟩⟩
    | str x =>
      cases hd
      exact ⟨_, rfl, _, _, _, _, false, rfl, .ty "list", .base (.str x), kit_ty (by decide +kernel), false, rfl, if_f rfl ⟨_, rfl, _, _, _, _, false, rfl, .ty "tuple", .base (.str x), kit_ty (by decide +kernel), false, rfl, if_f rfl ⟨_, rfl, k _ _ (Evl.Ex.refl _) (.str x)⟩⟩⟩
/-- the turns of the comprehension -/
theorem cp_turns {H H1 H2 H3 : Hp} {D : Addr} {v' : V} {acc : List V} {ds : List PyData} {d : PyData} (hD : H1 D = none) (e0 : Evl.Ex H H1) (e1 : Evl.Ex H1 H2) (hD2 : H2 D = some (.lst acc)) (ha : DqAll (Nw H (fun b => if b = D then none else H2 b)) acc ds) (e2 : Evl.Ex H2 H3) (hd : Dq (Nw H2 H3) v' d) :
    DqAll (Nw H (fun b => if b = D then none else upd H3 D (.lst (acc ++ [v'])) b)) (acc ++ [v']) (ds ++ [d]) := by
  have hHD : H D = none := Evl.fresh_back e0 hD
  refine DqAll.snoc (ha.go fun b o h => ?_) (hd.go fun b o h => ?_)
  · have n := nw_none h
    have z := Nw.ex _ _ h
    by_cases hb : b = D
    · rw [if_pos hb] at z
      cases z
    · rw [if_neg hb] at z
      refine nw_at n ?_
      show (if b = D then none else upd H3 D (.lst (acc ++ [v'])) b) = some o
      rw [if_neg hb, upd_ne hb]
      exact e2 _ _ z
  · have n := nw_none h
    have z := Nw.ex _ _ h
    have hb : b ≠ D := fun q => by
      rw [q, hD2] at n
      cases n
    refine nw_at (Evl.fresh_back (e0.trans e1) n) ?_
    show (if b = D then none else upd H3 D (.lst (acc ++ [v'])) b) = some o
    rw [if_neg hb, upd_ne hb]
    exact z
theorem ok_copiedS {n k : Nat} {f : Addr} {fd : FuncData} (F : Fun K "copied" "copied" s_copied f fd) (T : T5 mg) (c0 : Cal P w K mg base k "copied" p_copied (spCp n)) : FnOk P w K mg base CX0 (k + 1) f fd p_copied (spCp (n + 1)) := by
  refine F.ok sc_copied (fun vs H Q E h => ?_) (fun cdv A outer s H vs Q E hr h => ?_)
  · obtain ⟨v, d, rfl, _⟩ := h
    rfl
  · obtain ⟨v, d, rfl, hd, hc, kk⟩ := h
    have nd := sc_copied.nd
    cases hc with
    | non =>
      cases hd
      refine ⟨_, pss_cons (ps_if (pt_val (pe_callB call_isi (by rfl) T.isi (by decide +kernel) (pa_cons (pv 0) (pa_cons (pe_bltn (v := .ty "list") (by rfl) T.lst (by decide +kernel) rfl) pa_nil)))) (pss_one ps_never) pss_nil)
        (pss_cons (ps_if (pt_val (pe_callB call_isi (by rfl) T.isi (by decide +kernel) (pa_cons (pv 0) (pa_cons (pe_bltn (v := .ty "tuple") (by rfl) T.tup (by decide +kernel) rfl) pa_nil)))) (pss_one ps_never) pss_nil)
        (pss_one (ps_ret (pv 0)))), ?_⟩
      exact ⟨_, rfl, _, _, _, _, false, rfl, .ty "list", .base .non, kit_ty (by decide +kernel), false, rfl, if_f rfl ⟨_, rfl, _, _, _, _, false, rfl, .ty "tuple", .base .non, kit_ty (by decide +kernel), false, rfl, if_f rfl ⟨_, rfl, kk _ _ (Evl.Ex.refl _) .non⟩⟩⟩
    | bl b =>
      cases hd
      refine ⟨_, pss_cons (ps_if (pt_val (pe_callB call_isi (by rfl) T.isi (by decide +kernel) (pa_cons (pv 0) (pa_cons (pe_bltn (v := .ty "list") (by rfl) T.lst (by decide +kernel) rfl) pa_nil)))) (pss_one ps_never) pss_nil)
        (pss_cons (ps_if (pt_val (pe_callB call_isi (by rfl) T.isi (by decide +kernel) (pa_cons (pv 0) (pa_cons (pe_bltn (v := .ty "tuple") (by rfl) T.tup (by decide +kernel) rfl) pa_nil)))) (pss_one ps_never) pss_nil)
        (pss_one (ps_ret (pv 0)))), ?_⟩
      exact ⟨_, rfl, _, _, _, _, false, rfl, .ty "list", .base (.bl b), kit_ty (by decide +kernel), false, rfl, if_f rfl ⟨_, rfl, _, _, _, _, false, rfl, .ty "tuple", .base (.bl b), kit_ty (by decide +kernel), false, rfl, if_f rfl ⟨_, rfl, kk _ _ (Evl.Ex.refl _) (.bl b)⟩⟩⟩
    | int i =>
      cases hd
      refine ⟨_, pss_cons (ps_if (pt_val (pe_callB call_isi (by rfl) T.isi (by decide +kernel) (pa_cons (pv 0) (pa_cons (pe_bltn (v := .ty "list") (by rfl) T.lst (by decide +kernel) rfl) pa_nil)))) (pss_one ps_never) pss_nil)
        (pss_cons (ps_if (pt_val (pe_callB call_isi (by rfl) T.isi (by decide +kernel) (pa_cons (pv 0) (pa_cons (pe_bltn (v := .ty "tuple") (by rfl) T.tup (by decide +kernel) rfl) pa_nil)))) (pss_one ps_never) pss_nil)
        (pss_one (ps_ret (pv 0)))), ?_⟩
      exact ⟨_, rfl, _, _, _, _, false, rfl, .ty "list", .base (.int i), kit_ty (by decide +kernel), false, rfl, if_f rfl ⟨_, rfl, _, _, _, _, false, rfl, .ty "tuple", .base (.int i), kit_ty (by decide +kernel), false, rfl, if_f rfl ⟨_, rfl, kk _ _ (Evl.Ex.refl _) (.int i)⟩⟩⟩
    | str x =>
      cases hd
      refine ⟨_, pss_cons (ps_if (pt_val (pe_callB call_isi (by rfl) T.isi (by decide +kernel) (pa_cons (pv 0) (pa_cons (pe_bltn (v := .ty "list") (by rfl) T.lst (by decide +kernel) rfl) pa_nil)))) (pss_one ps_never) pss_nil)
        (pss_cons (ps_if (pt_val (pe_callB call_isi (by rfl) T.isi (by decide +kernel) (pa_cons (pv 0) (pa_cons (pe_bltn (v := .ty "tuple") (by rfl) T.tup (by decide +kernel) rfl) pa_nil)))) (pss_one ps_never) pss_nil)
        (pss_one (ps_ret (pv 0)))), ?_⟩
      exact ⟨_, rfl, _, _, _, _, false, rfl, .ty "list", .base (.str x), kit_ty (by decide +kernel), false, rfl, if_f rfl ⟨_, rfl, _, _, _, _, false, rfl, .ty "tuple", .base (.str x), kit_ty (by decide +kernel), false, rfl, if_f rfl ⟨_, rfl, kk _ _ (Evl.Ex.refl _) (.str x)⟩⟩⟩
    | @lst _ ds hl hcs =>
      cases hd with
      | @lst a xs _ ha hds =>
      refine ⟨_, pss_cons (ps_if (pt_val (pe_callB call_isi (by rfl) T.isi (by decide +kernel) (pa_cons (pv 0) (pa_cons (pe_bltn (v := .ty "list") (by rfl) T.lst (by decide +kernel) rfl) pa_nil))))
          (pss_one (ps_ret (pe_lc (own := [("part", 1)]) (g := gName 1) (tt := tYes) (te := tCall (spCp n) [] E0 (tCons (tVar 1) tNil)) rfl nd (pi_list (pv 0)) (blkOk_by (N := n_copied) (sc := defScope s_copied) (by decide +kernel)) (fun _ _ _ _ _ => pg_name (i := 1) nd rfl (Or.inl rfl)) (fun _ _ _ _ _ => pts_nil)
            (fun _ _ _ _ _ => pe_c c0 hr (pa_cons (pv 1) pa_nil))))) pss_nil)
        (pss_cons ps_never (pss_one ps_never)), ?_⟩
      refine ⟨_, rfl, _, _, _, _, true, rfl, .ty "list", .base (.lst ha), kit_ty (by decide +kernel), true, rfl, if_t rfl ?_⟩
      have hlen := hds.len
      refine ⟨_, rfl, a, rfl, ⟨_, SqL.of ha⟩, fun D hD => lc_list (xs := xs) (fun i H' => Evl.Ex H H' ∧ ∃ acc, H' D = some (.lst acc) ∧ DqAll (Nw H (fun b => if b = D then none else H' b)) acc (ds.take i)) ⟨Evl.Ex.new hD, [], upd_same, .nil⟩ (fun i H' _ q => SqL.of (q.1 _ _ ha)) ?_ ?_⟩
      · rintro i x H2 hi ⟨e2, acc, hD2, hacc⟩
        obtain ⟨d, hdi, hdx⟩ := hds.get hi
        refine ⟨rfl, ?_⟩
        show tCall (spCp n) [] E0 (tCons (tVar 1) tNil) _ _ _
        refine ⟨_, rfl, x, d, rfl, hdx.go e2, hcs d (List.mem_of_getElem? hdi), fun v' H3 e3 hv' => ⟨acc, e3 _ _ hD2, ?_, Evl.Ex.mut (e2.trans e3) hD, _, upd_same, ?_⟩⟩
        · have h1 := hacc.len
          rw [List.length_take] at h1
          exact Nat.lt_of_le_of_lt (show acc.length ≤ 100 by omega) (by decide)
        · rw [ds_take hdi]
          exact cp_turns hD (Evl.Ex.refl _) e2 hD2 hacc e3 hv'
      · rintro H2 ⟨e2, acc, hD2, hacc⟩
        rw [hlen, List.take_length] at hacc
        refine kk _ _ e2 (.lst (nw_at hD hD2) (hacc.go fun b o h => nw_at (nw_none h) ?_))
        have z := Nw.ex _ _ h
        by_cases hb : b = D
        · rw [if_pos hb] at z
          cases z
        · rw [if_neg hb] at z
          exact z
    | @tup _ ds hl hcs =>
      cases hd with
      | @tup a xs _ ha hds =>
      refine ⟨_, pss_cons (ps_if (pt_val (pe_callB call_isi (by rfl) T.isi (by decide +kernel) (pa_cons (pv 0) (pa_cons (pe_bltn (v := .ty "list") (by rfl) T.lst (by decide +kernel) rfl) pa_nil)))) (pss_one ps_never) pss_nil)
        (pss_cons (ps_if (pt_val (pe_callB call_isi (by rfl) T.isi (by decide +kernel) (pa_cons (pv 0) (pa_cons (pe_bltn (v := .ty "tuple") (by rfl) T.tup (by decide +kernel) rfl) pa_nil))))
          (pss_one (ps_ret (pe_callTy call_tuple_of (by rfl) T.tup (by decide +kernel) (pa_cons (pe_lc (own := [("part", 1)]) (g := gName 1) (tt := tYes) (te := tCall (spCp n) [] E0 (tCons (tVar 1) tNil)) rfl nd (pi_tup (pv 0)) (blkOk_by (N := n_copied) (sc := defScope s_copied) (by decide +kernel)) (fun _ _ _ _ _ => pg_name (i := 1) nd rfl (Or.inl rfl)) (fun _ _ _ _ _ => pts_nil)
            (fun _ _ _ _ _ => pe_c c0 hr (pa_cons (pv 1) pa_nil))) pa_nil)))) pss_nil)
        (pss_one ps_never)), ?_⟩
      refine ⟨_, rfl, _, _, _, _, false, rfl, .ty "list", .base (.tup ha), kit_ty (by decide +kernel), false, rfl, if_f rfl ?_⟩
      refine ⟨_, rfl, _, _, _, _, true, rfl, .ty "tuple", .base (.tup ha), kit_ty (by decide +kernel), true, rfl, if_t rfl ?_⟩
      have hlen := hds.len
      refine ⟨_, rfl, a, rfl, ⟨_, SqT.of ha⟩, fun D hD => lc_tup (xs := xs) (fun i H' => Evl.Ex H H' ∧ ∃ acc, H' D = some (.lst acc) ∧ DqAll (Nw H (fun b => if b = D then none else H' b)) acc (ds.take i)) ⟨Evl.Ex.new hD, [], upd_same, .nil⟩ (fun i H' _ q => SqT.of (q.1 _ _ ha)) ?_ ?_⟩
      · rintro i x H2 hi ⟨e2, acc, hD2, hacc⟩
        obtain ⟨d, hdi, hdx⟩ := hds.get hi
        refine ⟨rfl, ?_⟩
        show tCall (spCp n) [] E0 (tCons (tVar 1) tNil) _ _ _
        refine ⟨_, rfl, x, d, rfl, hdx.go e2, hcs d (List.mem_of_getElem? hdi), fun v' H3 e3 hv' => ⟨acc, e3 _ _ hD2, ?_, Evl.Ex.mut (e2.trans e3) hD, _, upd_same, ?_⟩⟩
        · have h1 := hacc.len
          rw [List.length_take] at h1
          exact Nat.lt_of_le_of_lt (show acc.length ≤ 100 by omega) (by decide)
        · rw [ds_take hdi]
          exact cp_turns hD (Evl.Ex.refl _) e2 hD2 hacc e3 hv'
      · rintro H2 ⟨e2, acc, hD2, hacc⟩
        rw [hlen, List.take_length] at hacc
        refine ⟨D, _, rfl, .inl ⟨SqL.of hD2, fun l hl2 => ?_⟩⟩
        have e3 := Evl.Ex.new (o := .tup acc) hl2
        refine kk _ _ (e2.trans e3) (.tup (nw_at (Evl.fresh_back e2 hl2) upd_same) (hacc.go fun b o h => nw_at (nw_none h) (e3 _ _ ?_)))
        have z := Nw.ex _ _ h
        by_cases hb : b = D
        · rw [if_pos hb] at z
          cases z
        · rw [if_neg hb] at z
          exact z
end
end V2


namespace V2
open PySem L2
open PySem.Spec PyProof.Rows
/-! ## tanks and steps that are right -/
abbrev Tk := Option Int × Int
def wV : Option Int → V
  | none => .non
  | some z => .int z
def wD : Option Int → PyData
  | none => .none
  | some z => .int z
def tkD (t : Tk) : PyData := .tuple [wD t.1, .int t.2]
def okT (ts : List Tk) : Prop := ts.length ≤ 20 ∧ (∀ t ∈ ts, (∀ z, t.1 = some z → 1 ≤ z) ∧ 0 ≤ t.2) ∧ ts.countP (fun t => t.1.isNone) = 1
def TksAt (H : Hp) (l : Addr) (ts : List Tk) : Prop := ∃ as : List Addr, H l = some (.lst (as.map V.ref)) ∧ as.length = ts.length ∧ ∀ (i : Nat) (a : Addr) (t : Tk), as[i]? = some a → ts[i]? = some t → H a = some (.tup [wV t.1, .int t.2])
theorem TksAt.ex {H H' : Hp} {l : Addr} {ts : List Tk} (h : TksAt H l ts) (e : Evl.Ex H H') : TksAt H' l ts := by
  obtain ⟨as, h1, h2, h3⟩ := h
  exact ⟨as, e _ _ h1, h2, fun i a t x y => e _ _ (h3 i a t x y)⟩
theorem dq_w {H : Hp} {v : V} {w : Option Int} (h : Dq H v (wD w)) : v = wV w := by
  cases w with
  | none => cases h; rfl
  | some z => cases h; rfl
theorem dq_tk {H : Hp} {v : V} {t : Tk} (h : Dq H v (tkD t)) : ∃ a, v = .ref a ∧ H a = some (.tup [wV t.1, .int t.2]) := by
  cases h with
  | tup h1 h2 =>
    cases h2 with
    | cons a b =>
      cases b with
      | cons b c =>
        cases c
        cases b
        rw [dq_w a] at h1
        exact ⟨_, rfl, h1⟩
theorem dq_tks {H : Hp} : ∀ {ts : List Tk} {vs : List V}, DqAll H vs (ts.map tkD) → ∃ as : List Addr, vs = as.map V.ref ∧ as.length = ts.length ∧ ∀ (i : Nat) (a : Addr) (t : Tk), as[i]? = some a → ts[i]? = some t → H a = some (.tup [wV t.1, .int t.2])
  | [], _, .nil => ⟨[], rfl, rfl, fun i a t h => (by cases h)⟩
  | t :: ts, _, .cons a b => by
    obtain ⟨x, rfl, hx⟩ := dq_tk a
    obtain ⟨as, rfl, h2, h3⟩ := dq_tks b
    refine ⟨x :: as, rfl, congrArg Nat.succ h2, fun i a t' h1 h2 => ?_⟩
    cases i with
    | zero =>
      cases h1
      cases h2
      exact hx
    | succ i => exact h3 i a t' h1 h2
theorem Dq.tks {H : Hp} {v : V} {ts : List Tk} (h : Dq H v (.list (ts.map tkD))) : ∃ l, v = .ref l ∧ TksAt H l ts := by
  cases h with
  | lst h1 h2 =>
    obtain ⟨as, rfl, h3, h4⟩ := dq_tks h2
    exact ⟨_, rfl, as, h1, h3, h4⟩
theorem cp_tks {ts : List Tk} (h : ts.length ≤ 100) : Cp 2 (.list (ts.map tkD)) := by
  refine .lst (by rw [List.length_map]; exact h) fun d hd => ?_
  obtain ⟨t, _, rfl⟩ := List.mem_map.mp hd
  refine .tup (by show 2 ≤ 100; decide) fun x hx => ?_
  simp only [List.mem_cons, List.not_mem_nil, or_false] at hx
  rcases hx with rfl | rfl
  · cases t.1 with
    | none => exact .non
    | some z => exact .int z
  · exact .int _
def spAmt : Sp := fun vs H Q _ => ∃ n : Int, vs = [.int n] ∧ 0 ≤ n ∧ Evl.RetV (.bl true) H Q
def spTank : Sp := fun vs H Q _ => ∃ (a : Addr) (t : Tk), vs = [.ref a] ∧ H a = some (.tup [wV t.1, .int t.2]) ∧ (∀ z, t.1 = some z → 1 ≤ z) ∧ 0 ≤ t.2 ∧ Evl.RetV (.bl true) H Q
def spChkT : Sp := fun vs H Q _ => ∃ (l : Addr) (ts : List Tk), vs = [.ref l] ∧ TksAt H l ts ∧ okT ts ∧ Evl.RetV .non H Q
section
variable {base : Heap} {mg : Str → Option Value} {K : PySem.W.Frag} {w : World} {P : Program}
theorem ok_is_amount {f : Addr} {fd : FuncData} (F : Fun K "is_amount" "is_amount" s_is_amount f fd) (cI : Cal P w K mg base 1 "is_integer" p_is_integer spInt) : FnOk P w K mg base CX0 2 f fd p_is_amount spAmt := by
  refine F.ok sc_is_amount (fun vs H Q E h => ?_) (fun cdv A outer s H vs Q E hr h => ?_)
  · obtain ⟨n, rfl, _⟩ := h
    rfl
  · obtain ⟨n, rfl, h0, k⟩ := h
    refine ⟨_, pss_one (ps_ret (pe_and (pe_c cI hr (pa_cons (pv 0) pa_nil)) (pe_one (pe_cmpR op_ge (pv 0) pe_int (nomark _))))), ?_⟩
    refine ⟨_, rfl, n, rfl, fun H1 e1 => ⟨_, rfl, if_t rfl ?_⟩⟩
    refine ⟨_, rfl, _, _, rfl, rfl, ?_⟩
    have e : decide (n ≥ 0) = true := decide_eq_true h0
    show Q (.bl (decide (n ≥ 0))) H1
    rw [e]
    exact k _ e1
theorem ok_is_tank {f : Addr} {fd : FuncData} (F : Fun K "is_tank" "is_tank" s_is_tank f fd) (T : T3 mg) (cI : Cal P w K mg base 1 "is_integer" p_is_integer spInt) (cA : Cal P w K mg base 2 "is_amount" p_is_amount spAmt) : FnOk P w K mg base CX0 3 f fd p_is_tank spTank := by
  refine F.ok sc_is_tank (fun vs H Q E h => ?_) (fun cdv A outer s H vs Q E hr h => ?_)
  · obtain ⟨a, t, rfl, _⟩ := h
    rfl
  · obtain ⟨a, t, rfl, ha, hw, h0, k⟩ := h
    have nd := sc_is_tank.nd
    have r1 : Room 1 _ := hr.mono (by decide)
    refine ⟨_, pss_cons (ps_if (PW.pt (pw_or (pt_not (pt_val (pe_callB call_isi (by rfl) T.isi (by decide +kernel) (pa_cons (pv 0) (pa_cons (pe_bltn (v := .ty "tuple") (by rfl) T.tup (by decide +kernel) rfl) pa_nil)))))
        (pw_or1 (pt_cmpR op_ne (pe_callB call_len_seq (by rfl) T.len PySem.boot_len (pa_cons (pv 0) pa_nil)) pe_int (nomark _))))) (pss_one (ps_ret pe_bl)) pss_nil)
      (pss_cons (ps_asg (pv 0) (pg_tup rfl (pgs_cons (pg_name (i := 1) nd rfl (Or.inl rfl)) (pgs_cons (pg_name (i := 2) nd rfl (Or.inl rfl)) pgs_nil))))
      (pss_one (ps_ret (pe_and (pe_or (pe_cmp (pc_isN (pv 1))) (pe_one (pe_and (pe_c cI r1 (pa_cons (pv 1) pa_nil)) (pe_one (pe_cmpR op_ge (pv 1) pe_int (nomark _)))))) (pe_one (pe_c cA hr (pa_cons (pv 2) pa_nil))))))), ?_⟩
    refine ⟨_, rfl, _, _, _, _, true, rfl, .ty "tuple", .base (.tup ha), kit_ty (by decide +kernel), true, rfl, if_f rfl ?_⟩
    refine ⟨_, rfl, a, _, rfl, .inr (SqT.of ha), rfl, false, rfl, if_f rfl ?_⟩
    refine ⟨_, rfl, a, _, rfl, SqT.of ha, rfl, _, _, rfl, _, _, rfl, rfl, ?_⟩
    obtain ⟨tw, ta⟩ := t
    cases tw with
    | none => exact ⟨_, rfl, _, rfl, _, rfl, if_t rfl ⟨_, rfl, ta, rfl, h0, k⟩⟩
    | some z =>
      have hz := hw z rfl
      refine ⟨_, rfl, _, rfl, if_f rfl ⟨_, rfl, z, rfl, fun H1 e1 => ⟨_, rfl, if_t rfl ?_⟩⟩⟩
      refine ⟨_, rfl, _, _, rfl, rfl, _, rfl, if_t (decide_eq_true (by omega)) ?_⟩
      exact ⟨_, rfl, ta, rfl, h0, fun H' e' => k H' (e1.trans e')⟩
theorem cntN {ts : List Tk} {i : Nat} {t : Tk} (h : ts[i]? = some t) : (ts.take (i + 1)).countP (fun t => t.1.isNone) = (ts.take i).countP (fun t => t.1.isNone) + (if t.1 = none then 1 else 0) := by
  rw [List.take_add_one, h, List.countP_append]
  obtain ⟨w, a⟩ := t
  cases w <;> simp
theorem ok_check_tanks {f : Addr} {fd : FuncData} (F : Fun K "check_tanks" "check_tanks" s_check_tanks f fd) (mL : mg "len" = none) (cT : Cal P w K mg base 3 "is_tank" p_is_tank spTank) : FnOk P w K mg base CX0 4 f fd p_check_tanks spChkT := by
  refine F.ok sc_check_tanks (fun vs H Q E h => ?_) (fun cdv A outer s H vs Q E hr h => ?_)
  · obtain ⟨l, ts, rfl, _⟩ := h
    rfl
  · obtain ⟨l, ts, rfl, hT, ⟨h20, hts, hone⟩, k⟩ := h
    obtain ⟨as, hl, hlen, hat⟩ := hT
    have nd := sc_check_tanks.nd
    refine ⟨_, pss_cons (ps_for PassesOwn.never rfl (pi_list (pv 0)) (pg_name (i := 1) nd rfl (Or.inl rfl)) (pss_one (ps_if (pt_not (pt_val (pe_c cT hr (pa_cons (pv 1) pa_nil)))) (pss_one ps_never) pss_nil)))
      (pss_one (ps_if (pt_cmpR op_ne (pe_callB call_len_seq (by rfl) mL PySem.boot_len (pa_cons (pe_lc (own := [("tank", 1)]) (g := gName 1) (tt := tB (tIsN (tOp (rIxT K) (tVar 1) (tC (.int 0))))) (te := tVar 1) rfl nd (pi_list (pv 0)) (blkOk_by (N := n_check_tanks) (sc := defScope s_check_tanks) (by decide +kernel)) (fun _ _ _ _ _ => pg_name (i := 1) nd rfl (Or.inl rfl))
          (fun _ _ _ _ _ => pts_one (pt_cmp (pc_isN (pe_ix ix_tup (pv 1) pe_int (fun _ _ => rfl))))) (fun _ _ _ _ _ => pv 1)) pa_nil)) pe_int (nomark _)) (pss_one ps_never) pss_nil)), ?_⟩
    have get : ∀ {i : Nat} {x : V}, (as.map V.ref)[i]? = some x → ∃ a t, x = .ref a ∧ as[i]? = some a ∧ ts[i]? = some t ∧ H a = some (.tup [wV t.1, .int t.2]) := fun {i x} hx => by
      rw [List.getElem?_map] at hx
      cases e : as[i]? with
      | none =>
        rw [e] at hx
        cases hx
      | some a =>
        rw [e] at hx
        have hi : i < ts.length := by
          have := (List.getElem?_eq_some_iff.mp e).1
          omega
        exact ⟨a, ts[i], (Option.some.inj hx).symm, rfl, List.getElem?_eq_getElem hi, hat i a _ e (List.getElem?_eq_getElem hi)⟩
    refine ⟨_, rfl, l, rfl, ⟨_, SqL.of hl⟩, for_list (xs := as.map V.ref) (fun i σ H' => Evl.Ex H H' ∧ ∃ v, σ = [some (.ref l), v]) ⟨Evl.Ex.refl _, none, rfl⟩ (fun i σ H' _ q => SqL.of (q.1 _ _ hl)) ?_ ?_⟩
    · rintro i x σ H1 hi ⟨e1, v, rfl⟩
      obtain ⟨a, t, rfl, _, ht, ha⟩ := get hi
      obtain ⟨t1, t2⟩ := hts t (List.mem_of_getElem? ht)
      exact ⟨_, rfl, a, t, rfl, e1 _ _ ha, t1, t2, fun H2 e2 => ⟨true, rfl, if_f rfl ⟨e1.trans e2, _, rfl⟩⟩⟩
    · rintro σ H1 ⟨e1, v, rfl⟩
      refine ⟨_, rfl, l, rfl, ⟨_, SqL.of (e1 _ _ hl)⟩, fun D hD => lc_list (xs := as.map V.ref) (fun i H' => Evl.Ex H1 H' ∧ ∃ acc, H' D = some (.lst acc) ∧ acc.length = (ts.take i).countP (fun t => t.1.isNone)) ⟨Evl.Ex.new hD, [], upd_same, rfl⟩ (fun i H' _ q => SqL.of (q.1 _ _ (e1 _ _ hl))) ?_ ?_⟩
      · rintro i x H2 hi ⟨e2, acc, h2, hc⟩
        obtain ⟨a, t, rfl, _, ht, ha⟩ := get hi
        have hcn := cntN ht
        refine ⟨rfl, ?_⟩
        show tB (tIsN (tOp (rIxT K) (tVar 1) (tC (.int 0)))) _ _ _
        refine ⟨_, rfl, a, _, _, _, rfl, rfl, SqT.of (e2 _ _ (e1 _ _ ha)), rfl, _, rfl, ?_⟩
        obtain ⟨tw, ta⟩ := t
        cases tw with
        | none =>
          refine if_t rfl ?_
          show tVar 1 _ _ _
          refine ⟨_, rfl, acc, h2, ?_, Evl.Ex.mut e2 hD, _, upd_same, ?_⟩
          · have := List.countP_le_length (p := fun t : Tk => t.1.isNone) (l := ts.take i)
            rw [List.length_take] at this
            exact Nat.lt_of_le_of_lt (show acc.length ≤ 20 by omega) (by decide)
          · rw [List.length_append, hcn, hc]
            rfl
        | some z =>
          refine if_f rfl ⟨e2, acc, h2, ?_⟩
          rw [hcn, hc]
          rfl
      · rintro H2 ⟨e2, acc, h2, hc⟩
        rw [List.length_map, hlen, List.take_length, hone] at hc
        refine ⟨D, _, rfl, .inl (SqL.of h2), ?_⟩
        rw [hc]
        exact ⟨rfl, _, rfl, if_f rfl (k _ (e1.trans e2))⟩
end
end V2


namespace V2
open PySem L2
open PySem.Spec PyProof.Rows
/-! ## steps that are right -/
inductive Deed
  | op (ks : List Int)
  | po (k a : Int)
  | sc (k p q : Int)
  | mv (k m p q : Int)
  | un (k m : Int)
def dD : Deed → PyData
  | .op ks => .tuple [.str "open", .list (ks.map .int)]
  | .po k a => .tuple [.str "pour", .int k, .int a]
  | .sc k p q => .tuple [.str "scoop", .int k, .tuple [.int p, .int q]]
  | .mv k m p q => .tuple [.str "move", .int k, .int m, .tuple [.int p, .int q]]
  | .un k m => .tuple [.str "unless", .int k, .int m]
def DAt (H : Hp) (a : Addr) : Deed → Prop
  | .op ks => ∃ l, H a = some (.tup [.str "open", .ref l]) ∧ Li H l ks
  | .po k x => H a = some (.tup [.str "pour", .int k, .int x])
  | .sc k p q => ∃ f, H a = some (.tup [.str "scoop", .int k, .ref f]) ∧ Fr H f p q
  | .mv k m p q => ∃ f, H a = some (.tup [.str "move", .int k, .int m, .ref f]) ∧ Fr H f p q
  | .un k m => H a = some (.tup [.str "unless", .int k, .int m])
theorem DAt.ex {H H' : Hp} {a : Addr} {d : Deed} (h : DAt H a d) (e : Evl.Ex H H') : DAt H' a d := by
  cases d with
  | op ks =>
    obtain ⟨l, h1, h2⟩ := h
    exact ⟨l, e _ _ h1, e _ _ h2⟩
  | po k x => exact e _ _ h
  | sc k p q =>
    obtain ⟨f, h1, h2⟩ := h
    exact ⟨f, e _ _ h1, e _ _ h2⟩
  | mv k m p q =>
    obtain ⟨f, h1, h2⟩ := h
    exact ⟨f, e _ _ h1, e _ _ h2⟩
  | un k m => exact e _ _ h
def Pt (p q : Int) : Prop := 0 ≤ p ∧ p ≤ q ∧ Qn p q
/-- a step that is right, for n tanks -/
def okD (n : Int) : Deed → Prop
  | .op ks => 2 ≤ ks.length ∧ ks.length ≤ 20 ∧ (∀ (i : Nat) (x y : Int), ks[i]? = some x → ks[i + 1]? = some y → x < y) ∧ ∀ k ∈ ks, 0 ≤ k ∧ k < n
  | .po k a => (0 ≤ k ∧ k < n) ∧ 0 ≤ a
  | .sc k p q => (0 ≤ k ∧ k < n) ∧ Pt p q
  | .mv k m p q => (0 ≤ k ∧ k < n) ∧ (0 ≤ m ∧ m < n) ∧ k ≠ m ∧ Pt p q
  | .un k m => (0 ≤ k ∧ k < n) ∧ (0 ≤ m ∧ m < n) ∧ k ≠ m
structure Th (K : PySem.W.Frag) (w : World) (mg : Str → Option Value) (aT : Addr) (es : Array DictEntry) (n : Nat) (t1 t2 t3 t4 t5 : Tok) : Prop where
  g : mg "THINGS" = some (.ref aT)
  D : KDict K w aT es n
  n1 : PySem.W.nsIn K aT "open" = some (some (.int 2 t1))
  n2 : PySem.W.nsIn K aT "pour" = some (some (.int 3 t2))
  n3 : PySem.W.nsIn K aT "scoop" = some (some (.int 3 t3))
  n4 : PySem.W.nsIn K aT "move" = some (some (.int 4 t4))
  n5 : PySem.W.nsIn K aT "unless" = some (some (.int 3 t5))
def spAsc : Sp := fun vs H Q _ => ∃ (l : Addr) (ks : List Int), vs = [.ref l] ∧ Li H l ks ∧ 2 ≤ ks.length ∧ ks.length ≤ 20 ∧ (∀ (i : Nat) (x y : Int), ks[i]? = some x → ks[i + 1]? = some y → x < y) ∧ Evl.RetV (.bl true) H Q
def spStep : Sp := fun vs H Q _ => ∃ (a : Addr) (d : Deed) (n : Int), vs = [.ref a] ∧ DAt H a d ∧ okD n d ∧ Evl.RetV (.bl true) H Q
section
variable {base : Heap} {mg : Str → Option Value} {K : PySem.W.Frag} {w : World} {P : Program} {aT : Addr} {es : Array DictEntry} {nT : Nat} {t1 t2 t3 t4 t5 : Tok}
theorem ok_is_ascending {f : Addr} {fd : FuncData} (F : Fun K "is_ascending" "is_ascending" s_is_ascending f fd) (T : T3 mg) (mR : mg "range" = none) (cI : Cal P w K mg base 1 "is_integer" p_is_integer spInt) : FnOk P w K mg base CX0 2 f fd p_is_ascending spAsc := by
  refine F.ok sc_is_ascending (fun vs H Q E h => ?_) (fun cdv A outer s H vs Q E hr h => ?_)
  · obtain ⟨l, ks, rfl, _⟩ := h
    rfl
  · obtain ⟨l, ks, rfl, hl, h2, h20, hasc, k⟩ := h
    have nd := sc_is_ascending.nd
    refine ⟨_, pss_cons (ps_if (PW.pt (pw_or (pt_not (pt_val (pe_callB call_isi (by rfl) T.isi (by decide +kernel) (pa_cons (pv 0) (pa_cons (pe_bltn (v := .ty "list") (by rfl) T.lst (by decide +kernel) rfl) pa_nil)))))
        (pw_or (pt_cmpR op_lt (pe_callB call_len_seq (by rfl) T.len PySem.boot_len (pa_cons (pv 0) pa_nil)) pe_int (nomark _))
        (pw_or1 (pt_not (pt_val (pe_callB (cr_all rfl) (by rfl) T.all (by decide +kernel) (pa_cons (pe_lc (own := [("number", 1)]) (g := gName 1) (tt := tYes) (te := tCall spInt [] E0 (tCons (tVar 1) tNil)) rfl nd (pi_list (pv 0)) (blkOk_by (N := n_is_ascending) (sc := defScope s_is_ascending) (by decide +kernel)) (fun _ _ _ _ _ => pg_name (i := 1) nd rfl (Or.inl rfl)) (fun _ _ _ _ _ => pts_nil)
          (fun _ _ _ _ _ => pe_c cI hr (pa_cons (pv 1) pa_nil))) pa_nil)))))))) (pss_one (ps_ret pe_bl)) pss_nil)
      (pss_one (ps_ret (pe_callB (cr_all rfl) (by rfl) T.all (by decide +kernel) (pa_cons (pe_lc (own := [("k", 2)]) (g := gName 2) (tt := tYes) (te := tOp (rI0 fun i j => .bl (decide (i < j))) (tOp (rIxL K) (tVar 0) (tVar 2)) (tOp (rIxL K) (tVar 0) (tOp (rI0 fun i j => .int (i + j)) (tVar 2) (tC (.int 1))))) rfl nd (pi_range1 (by rfl) mR (pa_cons (pe_op op_sub (pe_callB call_len_seq (by rfl) T.len PySem.boot_len (pa_cons (pv 0) pa_nil)) pe_int) pa_nil)) (blkOk_by (N := n_is_ascending) (sc := defScope s_is_ascending) (by decide +kernel)) (fun _ _ _ _ _ => pg_name (i := 2) nd rfl (Or.inl rfl)) (fun _ _ _ _ _ => pts_nil)
          (fun _ _ _ _ _ => pe_cmpR op_lt (pe_ix ix_list (pv 0) (pv 2) (fun _ _ => rfl)) (pe_ix ix_list (pv 0) (pe_op op_add (pv 2) pe_int) (fun _ _ => rfl)) (nomark _))) pa_nil)))), ?_⟩
    refine ⟨_, rfl, _, _, _, _, true, rfl, .ty "list", .base (.lst hl), kit_ty (by decide +kernel), true, rfl, if_f rfl ?_⟩
    refine ⟨_, rfl, l, _, rfl, .inl hl.sq, _, _, rfl, rfl, _, rfl, if_f (decide_eq_false (by rw [iV_len]; omega)) ?_⟩
    refine ⟨_, rfl, l, rfl, ⟨_, hl.sq⟩, fun D hD => lc_list (xs := iV ks) (fun i H' => Evl.Ex H H' ∧ H' D = some (.lst (List.replicate i (.bl true)))) ⟨Evl.Ex.new hD, upd_same⟩ (fun i H' _ q => SqL.of (q.1 _ _ hl)) ?_ ?_⟩
    · rintro i x H' hi ⟨e1, h1⟩
      obtain ⟨n, hn, rfl⟩ := iV_get hi
      have hlt : i < ks.length := (List.getElem?_eq_some_iff.mp hn).1
      refine ⟨rfl, ?_⟩
      show tCall spInt [] E0 (tCons (tVar 1) tNil) _ _ _
      refine ⟨_, rfl, n, rfl, fun H2 e2 => ⟨_, e2 _ _ h1, ?_, ?_, ?_⟩⟩
      · rw [List.length_replicate]; exact Nat.lt_of_lt_of_le (show i < 100 by omega) (by decide)
      · exact Evl.Ex.mut (e1.trans e2) hD
      · rw [upd_same, rep_snoc]
    · rintro H1 ⟨e1, h1⟩
      rw [iV_len] at h1
      refine ⟨D, List.replicate ks.length true, rfl, SqL.of (by rw [h1, List.map_replicate]), true, by simp, if_f rfl ?_⟩
      have hl1 : Li H1 l ks := e1 _ _ hl
      refine ⟨_, rfl, l, _, rfl, .inl hl1.sq, _, _, rfl, rfl, _, rfl, ?_, ?_, fun D2 hD2 => ?_⟩
      · rw [iV_len]; omega
      · rw [iV_len]; omega
      have en : (((iV ks).length : Int) - 1).toNat = ks.length - 1 := by rw [iV_len]; omega
      refine lc_range (n := (((iV ks).length : Int) - 1).toNat) (fun i H' => Evl.Ex H1 H' ∧ H' D2 = some (.lst (List.replicate i (.bl true)))) ⟨Evl.Ex.new hD2, upd_same⟩ ?_ ?_
      · rintro i H2 hi ⟨e2, h2'⟩
        rw [en] at hi
        obtain ⟨xa, g1⟩ : ∃ x, ks[i]? = some x := ⟨_, List.getElem?_eq_getElem (by omega)⟩
        obtain ⟨xb, g2⟩ : ∃ x, ks[i + 1]? = some x := ⟨_, List.getElem?_eq_getElem (by omega)⟩
        refine ⟨rfl, ?_⟩
        show tOp (rI0 fun i j => .bl (decide (i < j))) (tOp (rIxL K) (tVar 0) (tVar 2)) (tOp (rIxL K) (tVar 0) (tOp (rI0 fun i j => .int (i + j)) (tVar 2) (tC (.int 1)))) _ _ _
        refine ⟨_, rfl, _, rfl, l, _, _, _, rfl, rfl, SqL.of (e2 _ _ hl1), by rw [Int.zero_add]; exact atI_nat (iV_at g1), ?_⟩
        refine ⟨_, rfl, _, rfl, _, _, rfl, rfl, l, _, _, .int xb, rfl, rfl, SqL.of (e2 _ _ hl1), ?_, _, _, rfl, rfl, _, h2', ?_, Evl.Ex.mut e2 hD2, ?_⟩
        · show atI _ (0 + (i : Int) + 1) = _
          rw [show (0 + (i : Int) + 1) = ((i + 1 : Nat) : Int) by omega]
          exact atI_nat (iV_at g2)
        · rw [List.length_replicate]; exact Nat.lt_of_lt_of_le (show i < 100 by omega) (by decide)
        · rw [upd_same]
          show some (HO.lst (List.replicate i (V.bl true) ++ [V.bl (decide (xa < xb))])) = _
          rw [decide_eq_true (hasc i _ _ g1 g2), rep_snoc]
      · rintro H2 ⟨e2, h2'⟩
        rw [en] at h2'
        refine ⟨D2, List.replicate (ks.length - 1) true, rfl, SqL.of (by rw [h2', List.map_replicate]), ?_⟩
        have e : (List.replicate (ks.length - 1) true).all id = true := by simp
        rw [e]
        exact k _ (e1.trans e2)
theorem ok_is_step {f : Addr} {fd : FuncData} (F : Fun K "is_step" "is_step" s_is_step f fd) (T : T3 mg) (mS : mg "str" = none) (th : Th K w mg aT es nT t1 t2 t3 t4 t5) (cA : Cal P w K mg base 2 "is_ascending" p_is_ascending spAsc) (cM : Cal P w K mg base 2 "is_amount" p_is_amount spAmt) : FnOk P w K mg base CX0 3 f fd p_is_step spStep := by
  refine F.ok sc_is_step (fun vs H Q E h => ?_) (fun cdv A outer s H vs Q E hr h => ?_)
  · obtain ⟨a, d, n, rfl, _⟩ := h
    rfl
  · obtain ⟨a, d, n, rfl, hd, hok, k⟩ := h
    have nd := sc_is_step.nd
    refine ⟨_, pss_cons (ps_if (PW.pt (pw_or (pt_not (pt_val (pe_callB call_isi (by rfl) T.isi (by decide +kernel) (pa_cons (pv 0) (pa_cons (pe_bltn (v := .ty "tuple") (by rfl) T.tup (by decide +kernel) rfl) pa_nil)))))
        (pw_or (pt_not (pt_truth (pv 0) (by intro _; rfl)))
        (pw_or (pt_not (pt_val (pe_callB call_isi (by rfl) T.isi (by decide +kernel) (pa_cons (pe_ix ix_tup (pv 0) pe_int (fun _ _ => rfl)) (pa_cons (pe_bltn (v := .ty "str") (by rfl) mS (by decide +kernel) rfl) pa_nil)))))
        (pw_or1 (pt_cmpR (op_notIn_kd th.D) (pe_ix ix_tup (pv 0) pe_int (fun _ _ => rfl)) (pe_glob (v := .ref aT) (by rfl) th.g rfl) (by rfl))))))) (pss_one (ps_ret pe_bl)) pss_nil)
      (pss_cons (ps_set (i := 1) nd rfl (Or.inl rfl) (pe_ix ix_tup (pv 0) pe_int (fun _ _ => rfl)))
      (pss_cons (ps_if (pt_cmpR op_ne (pe_callB call_len_seq (by rfl) T.len PySem.boot_len (pa_cons (pv 0) pa_nil)) (pe_ix ix_kdict (pe_glob (v := .ref aT) (by rfl) th.g rfl) (pv 1) (fun _ _ => rfl)) (nomark _)) (pss_one (ps_ret pe_bl)) pss_nil)
      (pss_cons (ps_if (pt_cmpR op_eq (pv 1) pe_str (nomark _)) (pss_one (ps_ret (pe_c cA hr (pa_cons (pe_ix ix_tup (pv 0) pe_int (fun _ _ => rfl)) pa_nil)))) pss_nil)
      (pss_cons (ps_if (pt_cmpR op_eq (pv 1) pe_str (nomark _)) (pss_one (ps_ret (pe_c cM hr (pa_cons (pe_ix ix_tup (pv 0) pe_int (fun _ _ => rfl)) pa_nil)))) pss_nil)
      (pss_one (ps_ret (pe_or (pe_cmpR op_eq (pv 1) pe_str (nomark _)) (pe_one (pe_cmpR op_ne (pe_ix ix_tup (pv 0) pe_int (fun _ _ => rfl)) (pe_ix ix_tup (pv 0) pe_int (fun _ _ => rfl)) (nomark _)))))))))), ?_⟩
    cases d with
    | op ks =>
      obtain ⟨l, ha, hl⟩ := hd
      obtain ⟨h2, h20, hasc, _⟩ := hok
      refine ⟨_, rfl, _, _, _, _, true, rfl, .ty "tuple", .base (.tup ha), kit_ty (by decide +kernel), true, rfl, if_f rfl ?_⟩
      refine ⟨_, rfl, _, .inr (.inl ⟨_, SqT.of ha, rfl⟩), if_f rfl ?_⟩
      refine ⟨_, rfl, a, _, _, _, rfl, rfl, SqT.of ha, rfl, _, _, _, _, true, rfl, .ty "str", .base (.str _), kit_ty (by decide +kernel), true, rfl, if_f rfl ?_⟩
      refine ⟨_, rfl, a, _, _, _, rfl, rfl, SqT.of ha, rfl, _, _, rfl, rfl, th.n1, _, rfl, if_f rfl ?_⟩
      refine ⟨_, rfl, a, _, _, _, rfl, rfl, SqT.of ha, rfl, ?_⟩
      refine ⟨_, rfl, a, _, rfl, .inr (SqT.of ha), _, rfl, aT, _, .int 2, rfl, rfl, ⟨_, _, _, th.D.at_, th.D.lit, th.n1, ⟨_, rfl⟩⟩, rfl, _, rfl, if_f rfl ?_⟩
      refine ⟨_, rfl, rfl, _, rfl, if_t (by decide) ?_⟩
      exact ⟨_, rfl, a, _, _, _, rfl, rfl, SqT.of ha, rfl, l, ks, rfl, hl, h2, h20, hasc, k⟩
    | po j x =>
      have ha : H a = some (.tup [.str "pour", .int j, .int x]) := hd
      refine ⟨_, rfl, _, _, _, _, true, rfl, .ty "tuple", .base (.tup ha), kit_ty (by decide +kernel), true, rfl, if_f rfl ?_⟩
      refine ⟨_, rfl, _, .inr (.inl ⟨_, SqT.of ha, rfl⟩), if_f rfl ?_⟩
      refine ⟨_, rfl, a, _, _, _, rfl, rfl, SqT.of ha, rfl, _, _, _, _, true, rfl, .ty "str", .base (.str _), kit_ty (by decide +kernel), true, rfl, if_f rfl ?_⟩
      refine ⟨_, rfl, a, _, _, _, rfl, rfl, SqT.of ha, rfl, _, _, rfl, rfl, th.n2, _, rfl, if_f rfl ?_⟩
      refine ⟨_, rfl, a, _, _, _, rfl, rfl, SqT.of ha, rfl, ?_⟩
      refine ⟨_, rfl, a, _, rfl, .inr (SqT.of ha), _, rfl, aT, _, .int 3, rfl, rfl, ⟨_, _, _, th.D.at_, th.D.lit, th.n2, ⟨_, rfl⟩⟩, rfl, _, rfl, if_f rfl ?_⟩
      refine ⟨_, rfl, rfl, _, rfl, if_f (by decide) ?_⟩
      refine ⟨_, rfl, rfl, _, rfl, if_t (by decide) ?_⟩
      exact ⟨_, rfl, a, _, _, _, rfl, rfl, SqT.of ha, rfl, x, rfl, hok.2, k⟩
    | sc j p q =>
      obtain ⟨g, ha, hg⟩ := hd
      refine ⟨_, rfl, _, _, _, _, true, rfl, .ty "tuple", .base (.tup ha), kit_ty (by decide +kernel), true, rfl, if_f rfl ?_⟩
      refine ⟨_, rfl, _, .inr (.inl ⟨_, SqT.of ha, rfl⟩), if_f rfl ?_⟩
      refine ⟨_, rfl, a, _, _, _, rfl, rfl, SqT.of ha, rfl, _, _, _, _, true, rfl, .ty "str", .base (.str _), kit_ty (by decide +kernel), true, rfl, if_f rfl ?_⟩
      refine ⟨_, rfl, a, _, _, _, rfl, rfl, SqT.of ha, rfl, _, _, rfl, rfl, th.n3, _, rfl, if_f rfl ?_⟩
      refine ⟨_, rfl, a, _, _, _, rfl, rfl, SqT.of ha, rfl, ?_⟩
      refine ⟨_, rfl, a, _, rfl, .inr (SqT.of ha), _, rfl, aT, _, .int 3, rfl, rfl, ⟨_, _, _, th.D.at_, th.D.lit, th.n3, ⟨_, rfl⟩⟩, rfl, _, rfl, if_f rfl ?_⟩
      refine ⟨_, rfl, rfl, _, rfl, if_f (by decide) ?_⟩
      refine ⟨_, rfl, rfl, _, rfl, if_f (by decide) ?_⟩
      refine ⟨_, rfl, rfl, _, rfl, if_t (by decide) (k _ (Evl.Ex.refl _))⟩
    | mv j m p q =>
      obtain ⟨g, ha, hg⟩ := hd
      refine ⟨_, rfl, _, _, _, _, true, rfl, .ty "tuple", .base (.tup ha), kit_ty (by decide +kernel), true, rfl, if_f rfl ?_⟩
      refine ⟨_, rfl, _, .inr (.inl ⟨_, SqT.of ha, rfl⟩), if_f rfl ?_⟩
      refine ⟨_, rfl, a, _, _, _, rfl, rfl, SqT.of ha, rfl, _, _, _, _, true, rfl, .ty "str", .base (.str _), kit_ty (by decide +kernel), true, rfl, if_f rfl ?_⟩
      refine ⟨_, rfl, a, _, _, _, rfl, rfl, SqT.of ha, rfl, _, _, rfl, rfl, th.n4, _, rfl, if_f rfl ?_⟩
      refine ⟨_, rfl, a, _, _, _, rfl, rfl, SqT.of ha, rfl, ?_⟩
      refine ⟨_, rfl, a, _, rfl, .inr (SqT.of ha), _, rfl, aT, _, .int 4, rfl, rfl, ⟨_, _, _, th.D.at_, th.D.lit, th.n4, ⟨_, rfl⟩⟩, rfl, _, rfl, if_f rfl ?_⟩
      refine ⟨_, rfl, rfl, _, rfl, if_f (by decide) ?_⟩
      refine ⟨_, rfl, rfl, _, rfl, if_f (by decide) ?_⟩
      refine ⟨_, rfl, rfl, _, rfl, if_f (by decide) ?_⟩
      refine ⟨_, rfl, a, _, _, _, rfl, rfl, SqT.of ha, rfl, _, rfl, a, _, _, _, rfl, rfl, SqT.of ha, rfl, rfl, ?_⟩
      have e : (!decide (V.int j = V.int m)) = true := by
        rw [decide_eq_false fun z => hok.2.2.1 (by injection z)]
        rfl
      rw [e]
      exact k _ (Evl.Ex.refl _)
    | un j m =>
      have ha : H a = some (.tup [.str "unless", .int j, .int m]) := hd
      refine ⟨_, rfl, _, _, _, _, true, rfl, .ty "tuple", .base (.tup ha), kit_ty (by decide +kernel), true, rfl, if_f rfl ?_⟩
      refine ⟨_, rfl, _, .inr (.inl ⟨_, SqT.of ha, rfl⟩), if_f rfl ?_⟩
      refine ⟨_, rfl, a, _, _, _, rfl, rfl, SqT.of ha, rfl, _, _, _, _, true, rfl, .ty "str", .base (.str _), kit_ty (by decide +kernel), true, rfl, if_f rfl ?_⟩
      refine ⟨_, rfl, a, _, _, _, rfl, rfl, SqT.of ha, rfl, _, _, rfl, rfl, th.n5, _, rfl, if_f rfl ?_⟩
      refine ⟨_, rfl, a, _, _, _, rfl, rfl, SqT.of ha, rfl, ?_⟩
      refine ⟨_, rfl, a, _, rfl, .inr (SqT.of ha), _, rfl, aT, _, .int 3, rfl, rfl, ⟨_, _, _, th.D.at_, th.D.lit, th.n5, ⟨_, rfl⟩⟩, rfl, _, rfl, if_f rfl ?_⟩
      refine ⟨_, rfl, rfl, _, rfl, if_f (by decide) ?_⟩
      refine ⟨_, rfl, rfl, _, rfl, if_f (by decide) ?_⟩
      refine ⟨_, rfl, rfl, _, rfl, if_f (by decide) ?_⟩
      refine ⟨_, rfl, a, _, _, _, rfl, rfl, SqT.of ha, rfl, _, rfl, a, _, _, _, rfl, rfl, SqT.of ha, rfl, rfl, ?_⟩
      have e : (!decide (V.int j = V.int m)) = true := by
        rw [decide_eq_false fun z => hok.2.2 (by injection z)]
        rfl
      rw [e]
      exact k _ (Evl.Ex.refl _)
end
end V2


namespace V2
open PySem L2
open PySem.Spec PyProof.Rows
def sgn (x : Int) : Int := if x = 0 then 0 else if x > 0 then 1 else -1
theorem sgn_le {x : Int} (h : x ≤ 0) : sgn x ≤ 0 := by
  unfold sgn
  split
  · omega
  · split <;> omega
def spSgn : Sp := fun vs H Q _ => ∃ x : Int, vs = [.int x] ∧ Evl.RetV (.int (sgn x)) H Q
def spOrd : Sp := fun vs H Q _ => ∃ (a b : Addr) (p q x y : Int), vs = [.ref a, .ref b] ∧ Fr H a p q ∧ Fr H b x y ∧ p.natAbs < 2 ^ 50 ∧ q.natAbs < 2 ^ 50 ∧ x.natAbs < 2 ^ 50 ∧ y.natAbs < 2 ^ 50 ∧ Evl.RetV (.int (sgn (p * y - x * q))) H Q
def spTof (n : Int) : Sp := fun vs H Q _ => ∃ (a : Addr) (d : Deed), vs = [.ref a] ∧ DAt H a d ∧ okD n d ∧ ∀ (l : Addr) (ks : List Int) (H' : Hp), Evl.Ex H H' → Li H' l ks → ks.length ≤ 20 → (∀ k ∈ ks, 0 ≤ k ∧ k < n) → Q (.ref l) H'
def spNums : Sp := fun vs H Q _ => ∃ (l : Addr) (ks : List Int) (n : Int), vs = [.ref l, .int n] ∧ Li H l ks ∧ ks.length ≤ 20 ∧ (∀ k ∈ ks, 0 ≤ k ∧ k < n) ∧ Evl.RetV .non H Q
def spPart : Sp := fun vs H Q _ => ∃ (a : Addr) (p q : Int), vs = [.ref a] ∧ Fr H a p q ∧ Pt p q ∧ Evl.RetV .non H Q
def spChkS : Sp := fun vs H Q _ => ∃ (a : Addr) (d : Deed) (n : Int), vs = [.ref a, .int n] ∧ DAt H a d ∧ okD n d ∧ Evl.RetV .non H Q
section
variable {base : Heap} {mg : Str → Option Value} {K : PySem.W.Frag} {w : World} {P : Program} {aT : Addr} {es : Array DictEntry} {nT : Nat} {t1 t2 t3 t4 t5 : Tok}
theorem ok_sign_of {f : Addr} {fd : FuncData} (F : Fun K "sign_of" "sign_of" s_sign_of f fd) : FnOk P w K mg base CX0 1 f fd p_sign_of spSgn := by
  refine F.ok sc_sign_of (fun vs H Q E h => ?_) (fun cdv A outer s H vs Q E hr h => ?_)
  · obtain ⟨x, rfl, _⟩ := h
    rfl
  · obtain ⟨x, rfl, k⟩ := h
    refine ⟨_, pss_cons (ps_if (pt_cmpR op_eq (pv 0) pe_int (nomark _)) (pss_one (ps_ret pe_int)) pss_nil) (pss_one (ps_ret (pe_ifExp (pt_cmpR op_gt (pv 0) pe_int (nomark _)) pe_int (pe_un un_neg pe_int)))), ?_⟩
    refine ⟨_, rfl, rfl, _, rfl, ?_⟩
    unfold sgn at k
    by_cases h0 : x = 0
    · refine if_t (decide_eq_true (by rw [h0])) ?_
      rw [if_pos h0] at k
      exact k _ (Evl.Ex.refl _)
    · refine if_f (decide_eq_false (fun z => h0 (by injection z))) ?_
      rw [if_neg h0] at k
      by_cases h1 : x > 0
      · rw [if_pos h1] at k
        exact ⟨_, rfl, _, _, rfl, rfl, _, rfl, if_t (decide_eq_true h1) (k _ (Evl.Ex.refl _))⟩
      · rw [if_neg h1] at k
        exact ⟨_, rfl, _, _, rfl, rfl, _, rfl, if_f (decide_eq_false h1) ⟨_, rfl, k _ (Evl.Ex.refl _)⟩⟩
theorem ok_order {f : Addr} {fd : FuncData} (F : Fun K "order_of_fractions" "order_of_fractions" s_order_of_fractions f fd) (cS : Cal P w K mg base 1 "sign_of" p_sign_of spSgn) : FnOk P w K mg base CX0 2 f fd p_order_of_fractions spOrd := by
  refine F.ok sc_order_of_fractions (fun vs H Q E h => ?_) (fun cdv A outer s H vs Q E hr h => ?_)
  · obtain ⟨a, b, p, q, x, y, rfl, _⟩ := h
    rfl
  · obtain ⟨a, b, p, q, x, y, rfl, ha, hb, h1, h2, h3, h4, k⟩ := h
    refine ⟨_, pss_one (ps_ret (pe_c cS hr (pa_cons (pe_op op_sub (pe_op op_mulW (pe_ix ix_tup (pv 0) pe_int (fun _ _ => rfl)) (pe_ix ix_tup (pv 1) pe_int (fun _ _ => rfl))) (pe_op op_mulW (pe_ix ix_tup (pv 1) pe_int (fun _ _ => rfl)) (pe_ix ix_tup (pv 0) pe_int (fun _ _ => rfl)))) pa_nil))), ?_⟩
    refine ⟨_, rfl, a, _, _, _, rfl, rfl, SqT.of ha, rfl, _, rfl, b, _, _, _, rfl, rfl, SqT.of hb, rfl, p, y, rfl, rfl, wide_mul (a := 50) (b := 50) h1 h4 (by decide) (by decide) (by decide), ?_⟩
    refine ⟨_, rfl, b, _, _, _, rfl, rfl, SqT.of hb, rfl, _, rfl, a, _, _, _, rfl, rfl, SqT.of ha, rfl, x, q, rfl, rfl, wide_mul (a := 50) (b := 50) h3 h2 (by decide) (by decide) (by decide), _, _, rfl, rfl, ?_⟩
    exact ⟨_, rfl, k⟩
theorem ok_tanks_of {n : Int} {f : Addr} {fd : FuncData} (F : Fun K "tanks_of" "tanks_of" s_tanks_of f fd) : FnOk P w K mg base CX0 1 f fd p_tanks_of (spTof n) := by
  refine F.ok sc_tanks_of (fun vs H Q E h => ?_) (fun cdv A outer s H vs Q E hr h => ?_)
  · obtain ⟨a, d, rfl, _⟩ := h
    rfl
  · obtain ⟨a, d, rfl, hd, hok, k⟩ := h
    have one : 1 ≤ sizeLine := by show 1 ≤ sizeLine; decide
    have two : 2 ≤ sizeLine := by show 2 ≤ sizeLine; decide
    refine ⟨_, pss_cons (ps_if (pt_cmpR op_eq (pe_ix ix_tup (pv 0) pe_int (fun _ _ => rfl)) pe_str (nomark _)) (pss_one (ps_ret (pe_ix ix_tup (pv 0) pe_int (fun _ _ => rfl)))) pss_nil)
      (pss_one (ps_ret (pe_ifExp (pt_cmpR op_in_seq (pe_ix ix_tup (pv 0) pe_int (fun _ _ => rfl)) (pe_tup (pa_cons pe_str (pa_cons pe_str pa_nil))) (by rfl))
        (pe_lst (pa_cons (pe_ix ix_tup (pv 0) pe_int (fun _ _ => rfl)) (pa_cons (pe_ix ix_tup (pv 0) pe_int (fun _ _ => rfl)) pa_nil))) (pe_lst (pa_cons (pe_ix ix_tup (pv 0) pe_int (fun _ _ => rfl)) pa_nil))))), ?_⟩
    cases d with
    | op ks =>
      obtain ⟨l, ha, hl⟩ := hd
      refine ⟨_, rfl, a, _, _, _, rfl, rfl, SqT.of ha, rfl, rfl, _, rfl, if_t (by decide) ?_⟩
      exact ⟨_, rfl, a, _, _, _, rfl, rfl, SqT.of ha, rfl, k l ks H (Evl.Ex.refl _) hl hok.2.1 hok.2.2.2⟩
    | po j x =>
      have ha : H a = some (.tup [.str "pour", .int j, .int x]) := hd
      refine ⟨_, rfl, a, _, _, _, rfl, rfl, SqT.of ha, rfl, rfl, _, rfl, if_f (by decide) ?_⟩
      refine ⟨_, rfl, a, _, _, _, rfl, rfl, SqT.of ha, rfl, two, fun t ht => ?_⟩
      have e1 := Evl.Ex.new (o := .tup [.str "move", .str "unless"]) ht
      refine ⟨t, _, rfl, .inr (SqT.of upd_same), rfl, rfl, _, rfl, if_f (by decide) ?_⟩
      refine ⟨_, rfl, a, _, _, _, rfl, rfl, SqT.of (e1 _ _ ha), rfl, one, fun l hl => k l [j] _ (e1.trans (Evl.Ex.new hl)) upd_same (by show 1 ≤ 20; decide) fun z hz => ?_⟩
      obtain rfl := List.mem_singleton.mp hz
      exact hok.1
    | sc j p q =>
      obtain ⟨g, ha, hg⟩ := hd
      refine ⟨_, rfl, a, _, _, _, rfl, rfl, SqT.of ha, rfl, rfl, _, rfl, if_f (by decide) ?_⟩
      refine ⟨_, rfl, a, _, _, _, rfl, rfl, SqT.of ha, rfl, two, fun t ht => ?_⟩
      have e1 := Evl.Ex.new (o := .tup [.str "move", .str "unless"]) ht
      refine ⟨t, _, rfl, .inr (SqT.of upd_same), rfl, rfl, _, rfl, if_f (by decide) ?_⟩
      refine ⟨_, rfl, a, _, _, _, rfl, rfl, SqT.of (e1 _ _ ha), rfl, one, fun l hl => k l [j] _ (e1.trans (Evl.Ex.new hl)) upd_same (by show 1 ≤ 20; decide) fun z hz => ?_⟩
      obtain rfl := List.mem_singleton.mp hz
      exact hok.1
    | mv j m p q =>
      obtain ⟨g, ha, hg⟩ := hd
      refine ⟨_, rfl, a, _, _, _, rfl, rfl, SqT.of ha, rfl, rfl, _, rfl, if_f (by decide) ?_⟩
      refine ⟨_, rfl, a, _, _, _, rfl, rfl, SqT.of ha, rfl, two, fun t ht => ?_⟩
      have e1 := Evl.Ex.new (o := .tup [.str "move", .str "unless"]) ht
      refine ⟨t, _, rfl, .inr (SqT.of upd_same), rfl, rfl, _, rfl, if_t (by decide) ?_⟩
      refine ⟨_, rfl, a, _, _, _, rfl, rfl, SqT.of (e1 _ _ ha), rfl, _, rfl, a, _, _, _, rfl, rfl, SqT.of (e1 _ _ ha), rfl, two, fun l hl => k l [j, m] _ (e1.trans (Evl.Ex.new hl)) upd_same (by show 2 ≤ 20; decide) fun z hz => ?_⟩
      simp only [List.mem_cons, List.not_mem_nil, or_false] at hz
      rcases hz with rfl | rfl
      · exact hok.1
      · exact hok.2.1
    | un j m =>
      have ha : H a = some (.tup [.str "unless", .int j, .int m]) := hd
      refine ⟨_, rfl, a, _, _, _, rfl, rfl, SqT.of ha, rfl, rfl, _, rfl, if_f (by decide) ?_⟩
      refine ⟨_, rfl, a, _, _, _, rfl, rfl, SqT.of ha, rfl, two, fun t ht => ?_⟩
      have e1 := Evl.Ex.new (o := .tup [.str "move", .str "unless"]) ht
      refine ⟨t, _, rfl, .inr (SqT.of upd_same), rfl, rfl, _, rfl, if_t (by decide) ?_⟩
      refine ⟨_, rfl, a, _, _, _, rfl, rfl, SqT.of (e1 _ _ ha), rfl, _, rfl, a, _, _, _, rfl, rfl, SqT.of (e1 _ _ ha), rfl, two, fun l hl => k l [j, m] _ (e1.trans (Evl.Ex.new hl)) upd_same (by show 2 ≤ 20; decide) fun z hz => ?_⟩
      simp only [List.mem_cons, List.not_mem_nil, or_false] at hz
      rcases hz with rfl | rfl
      · exact hok.1
      · exact hok.2.1
theorem ok_check_numbers {f : Addr} {fd : FuncData} (F : Fun K "check_numbers" "check_numbers" s_check_numbers f fd) (cA : Cal P w K mg base 2 "is_amount" p_is_amount spAmt) : FnOk P w K mg base CX0 3 f fd p_check_numbers spNums := by
  refine F.ok sc_check_numbers (fun vs H Q E h => ?_) (fun cdv A outer s H vs Q E hr h => ?_)
  · obtain ⟨l, ks, n, rfl, _⟩ := h
    rfl
  · obtain ⟨l, ks, n, rfl, hl, h20, hks, k⟩ := h
    have nd := sc_check_numbers.nd
    refine ⟨_, pss_one (ps_for PassesOwn.never rfl (pi_list (pv 0)) (pg_name (i := 2) nd rfl (Or.inl rfl)) (pss_one (ps_if (PW.pt (pw_or (pt_not (pt_val (pe_c cA hr (pa_cons (pv 2) pa_nil)))) (pw_or1 (pt_cmpR op_ge (pv 2) (pv 1) (nomark _))))) (pss_one ps_never) pss_nil))), ?_⟩
    refine ⟨_, rfl, l, rfl, ⟨_, hl.sq⟩, for_list (xs := iV ks) (fun i σ H' => Evl.Ex H H' ∧ ∃ v, σ = [some (.ref l), some (.int n), v]) ⟨Evl.Ex.refl _, none, rfl⟩ (fun i σ H' _ q => SqL.of (q.1 _ _ hl)) ?_ ?_⟩
    · rintro i x σ H1 hi ⟨e1, v, rfl⟩
      obtain ⟨z, hz, rfl⟩ := iV_get hi
      obtain ⟨z0, z1⟩ := hks z (List.mem_of_getElem? hz)
      refine ⟨_, rfl, z, rfl, z0, fun H2 e2 => ⟨true, rfl, if_f rfl ?_⟩⟩
      exact ⟨_, rfl, _, rfl, _, _, rfl, rfl, _, rfl, if_f (decide_eq_false (by omega)) ⟨e1.trans e2, _, rfl⟩⟩
    · rintro σ H1 ⟨e1, v, rfl⟩
      exact k _ e1
theorem ok_check_part {f : Addr} {fd : FuncData} (F : Fun K "check_part" "check_part" s_check_part f fd) (cF : Cal P w K mg base 2 "is_fraction" p_is_fraction spIsFr) (cO : Cal P w K mg base 2 "order_of_fractions" p_order_of_fractions spOrd) : FnOk P w K mg base CX0 3 f fd p_check_part spPart := by
  refine F.ok sc_check_part (fun vs H Q E h => ?_) (fun cdv A outer s H vs Q E hr h => ?_)
  · obtain ⟨a, p, q, rfl, _⟩ := h
    rfl
  · obtain ⟨a, p, q, rfl, ha, ⟨p0, pq, hQ⟩, k⟩ := h
    have two : 2 ≤ sizeLine := by show 2 ≤ sizeLine; decide
    refine ⟨_, pss_one (ps_if (PW.pt (pw_or (pt_not (pt_val (pe_c cF hr (pa_cons (pv 0) pa_nil)))) (pw_or (pt_cmpR op_lt (pe_ix ix_tup (pv 0) pe_int (fun _ _ => rfl)) pe_int (nomark _))
      (pw_or1 (pt_cmpR op_gt (pe_c cO hr (pa_cons (pv 0) (pa_cons (pe_tup (pa_cons pe_int (pa_cons pe_int pa_nil))) pa_nil))) pe_int (nomark _)))))) (pss_one ps_never) pss_nil), ?_⟩
    refine ⟨_, rfl, a, p, q, rfl, ha, hQ, fun H1 e1 => ⟨true, rfl, if_f rfl ?_⟩⟩
    refine ⟨_, rfl, a, _, _, _, rfl, rfl, SqT.of (e1 _ _ ha), rfl, _, _, rfl, rfl, _, rfl, if_f (decide_eq_false (by omega)) ?_⟩
    refine ⟨_, rfl, two, fun t ht => ?_⟩
    have e2 := Evl.Ex.new (o := .tup [.int 1, .int 1]) ht
    refine ⟨a, t, p, q, 1, 1, rfl, e2 _ _ (e1 _ _ ha), upd_same, hQ.2.2.1, hQ.2.2.2, by decide, by decide, fun H2 e3 => ⟨_, _, rfl, rfl, _, rfl, if_f (decide_eq_false ?_) (k _ ((e1.trans e2).trans e3))⟩⟩
    have := sgn_le (x := p * 1 - 1 * q) (by omega)
    omega
theorem ok_check_step {f : Addr} {fd : FuncData} (F : Fun K "check_step" "check_step" s_check_step f fd) (cS : Cal P w K mg base 3 "is_step" p_is_step spStep) (cT : ∀ n, Cal P w K mg base 1 "tanks_of" p_tanks_of (spTof n)) (cN : Cal P w K mg base 3 "check_numbers" p_check_numbers spNums) (cP : Cal P w K mg base 3 "check_part" p_check_part spPart) : FnOk P w K mg base CX0 4 f fd p_check_step spChkS := by
  refine F.ok sc_check_step (fun vs H Q E h => ?_) (fun cdv A outer s H vs Q E hr h => ?_)
  · obtain ⟨a, d, n, rfl, _⟩ := h
    rfl
  · obtain ⟨a, d, n, rfl, hd, hok, k⟩ := h
    have two : 2 ≤ sizeLine := by show 2 ≤ sizeLine; decide
    have r1 : Room 1 _ := hr.mono (by decide)
    refine ⟨_, pss_cons (ps_if (pt_not (pt_val (pe_c cS hr (pa_cons (pv 0) pa_nil)))) (pss_one ps_never) pss_nil)
      (pss_cons (ps_expr (pe_c cN hr (pa_cons (pe_c (cT n) r1 (pa_cons (pv 0) pa_nil)) (pa_cons (pv 1) pa_nil))))
      (pss_one (ps_if (pt_cmpR op_in_seq (pe_ix ix_tup (pv 0) pe_int (fun _ _ => rfl)) (pe_tup (pa_cons pe_str (pa_cons pe_str pa_nil))) (by rfl)) (pss_one (ps_expr (pe_c cP hr (pa_cons (pe_ix ix_tup (pv 0) (pe_un un_neg pe_int) (fun _ _ => rfl)) pa_nil)))) pss_nil))), ?_⟩
    refine ⟨_, rfl, a, d, n, rfl, hd, hok, fun H1 e1 => ⟨true, rfl, if_f rfl ?_⟩⟩
    refine ⟨_, rfl, a, d, rfl, hd.ex e1, hok, fun l ks H2 e2 hl h20 hks => ⟨_, rfl, l, ks, n, rfl, hl, h20, hks, fun H3 e3 => ?_⟩⟩
    have e13 := (e1.trans e2).trans e3
    cases d with
    | op ks =>
      obtain ⟨l, ha, hl⟩ := hd
      refine ⟨_, rfl, a, _, _, _, rfl, rfl, SqT.of (e13 _ _ ha), rfl, two, fun t ht => ⟨t, _, rfl, .inr (SqT.of upd_same), rfl, rfl, _, rfl, if_f (by decide) (k _ (e13.trans (Evl.Ex.new ht)))⟩⟩
    | po j x =>
      have ha : H a = some (.tup [.str "pour", .int j, .int x]) := hd
      refine ⟨_, rfl, a, _, _, _, rfl, rfl, SqT.of (e13 _ _ ha), rfl, two, fun t ht => ⟨t, _, rfl, .inr (SqT.of upd_same), rfl, rfl, _, rfl, if_f (by decide) (k _ (e13.trans (Evl.Ex.new ht)))⟩⟩
    | sc j p q =>
      obtain ⟨g, ha, hg⟩ := hd
      refine ⟨_, rfl, a, _, _, _, rfl, rfl, SqT.of (e13 _ _ ha), rfl, two, fun t ht => ⟨t, _, rfl, .inr (SqT.of upd_same), rfl, rfl, _, rfl, if_t (by decide) ?_⟩⟩
      have e4 := e13.trans (Evl.Ex.new (o := .tup [.str "scoop", .str "move"]) ht)
      exact ⟨_, rfl, _, rfl, a, _, _, _, rfl, rfl, SqT.of (e4 _ _ ha), rfl, g, p, q, rfl, e4 _ _ hg, hok.2, fun H5 e5 => k _ (e4.trans e5)⟩
    | mv j m p q =>
      obtain ⟨g, ha, hg⟩ := hd
      refine ⟨_, rfl, a, _, _, _, rfl, rfl, SqT.of (e13 _ _ ha), rfl, two, fun t ht => ⟨t, _, rfl, .inr (SqT.of upd_same), rfl, rfl, _, rfl, if_t (by decide) ?_⟩⟩
      have e4 := e13.trans (Evl.Ex.new (o := .tup [.str "scoop", .str "move"]) ht)
      exact ⟨_, rfl, _, rfl, a, _, _, _, rfl, rfl, SqT.of (e4 _ _ ha), rfl, g, p, q, rfl, e4 _ _ hg, hok.2.2.2, fun H5 e5 => k _ (e4.trans e5)⟩
    | un j m =>
      have ha : H a = some (.tup [.str "unless", .int j, .int m]) := hd
      refine ⟨_, rfl, a, _, _, _, rfl, rfl, SqT.of (e13 _ _ ha), rfl, two, fun t ht => ⟨t, _, rfl, .inr (SqT.of upd_same), rfl, rfl, _, rfl, if_f (by decide) (k _ (e13.trans (Evl.Ex.new ht)))⟩⟩
end
end V2


namespace V2
open PySem L2
open PySem.Spec PyProof.Rows
/-! ## scripts -/
def DObj : HO → Prop
  | .lst _ => True
  | .tup _ => True
  | .dK _ => True
  | _ => False
mutual
theorem Dq.keep {H H' : Hp} (e : ∀ b o, DObj o → H b = some o → H' b = some o) : ∀ {d : PyData} {v : V}, Dq H v d → Dq H' v d
  | _, _, .non => .non
  | _, _, .bl b => .bl b
  | _, _, .int i => .int i
  | _, _, .str x => .str x
  | _, _, .lst h r => .lst (e _ _ trivial h) (DqAll.keep e r)
  | _, _, .tup h r => .tup (e _ _ trivial h) (DqAll.keep e r)
  | _, _, .dct h r => .dct (e _ _ trivial h) (Dq.keep e r)
theorem DqAll.keep {H H' : Hp} (e : ∀ b o, DObj o → H b = some o → H' b = some o) : ∀ {ds : List PyData} {vs : List V}, DqAll H vs ds → DqAll H' vs ds
  | _, _, .nil => .nil
  | _, _, .cons a b => .cons (Dq.keep e a) (DqAll.keep e b)
end
theorem keep_ins {H H' : Hp} {x C dx : Addr} {fs : List (Str × V)} (hx : H x = some (.ins C dx fs)) (b : But x H H') : ∀ c o, DObj o → H c = some o → H' c = some o := fun c o d h => b c o (fun z => by
  rw [z, hx] at h
  cases h
  exact d) h
theorem cp_ints {n : Nat} {ks : List Int} (h : ks.length ≤ 100) : Cp (n + 1) (.list (ks.map .int)) := .lst (by rw [List.length_map]; exact h) fun d hd => by
  obtain ⟨t, _, rfl⟩ := List.mem_map.mp hd
  exact .int t
theorem cp_dD {d : Deed} {n : Int} (h : okD n d) : Cp 2 (dD d) := by
  cases d with
  | op ks =>
    refine .tup (by show 2 ≤ 100; decide) fun x hx => ?_
    simp only [List.mem_cons, List.not_mem_nil, or_false] at hx
    rcases hx with rfl | rfl
    · exact .str _
    · exact cp_ints (Nat.le_trans h.2.1 (by decide))
  | po k a =>
    refine .tup (by show 3 ≤ 100; decide) fun x hx => ?_
    simp only [List.mem_cons, List.not_mem_nil, or_false] at hx
    rcases hx with rfl | rfl | rfl
    · exact .str _
    · exact .int _
    · exact .int _
  | sc k p q =>
    refine .tup (by show 3 ≤ 100; decide) fun x hx => ?_
    simp only [List.mem_cons, List.not_mem_nil, or_false] at hx
    rcases hx with rfl | rfl | rfl
    · exact .str _
    · exact .int _
    · exact .tup (by show 2 ≤ 100; decide) fun y hy => by
        simp only [List.mem_cons, List.not_mem_nil, or_false] at hy
        rcases hy with rfl | rfl
        · exact .int _
        · exact .int _
  | mv k m p q =>
    refine .tup (by show 4 ≤ 100; decide) fun x hx => ?_
    simp only [List.mem_cons, List.not_mem_nil, or_false] at hx
    rcases hx with rfl | rfl | rfl | rfl
    · exact .str _
    · exact .int _
    · exact .int _
    · exact .tup (by show 2 ≤ 100; decide) fun y hy => by
        simp only [List.mem_cons, List.not_mem_nil, or_false] at hy
        rcases hy with rfl | rfl
        · exact .int _
        · exact .int _
  | un k m =>
    refine .tup (by show 3 ≤ 100; decide) fun x hx => ?_
    simp only [List.mem_cons, List.not_mem_nil, or_false] at hx
    rcases hx with rfl | rfl | rfl
    · exact .str _
    · exact .int _
    · exact .int _
theorem cp_deeds {ds : List Deed} {n : Int} (h : ∀ d ∈ ds, okD n d) (hl : ds.length ≤ 100) : Cp 3 (.list (ds.map dD)) := .lst (by rw [List.length_map]; exact hl) fun d hd => by
  obtain ⟨t, ht, rfl⟩ := List.mem_map.mp hd
  exact cp_dD (h t ht)
theorem dq_ints {H : Hp} : ∀ {ks : List Int} {vs : List V}, DqAll H vs (ks.map .int) → vs = iV ks
  | [], _, .nil => rfl
  | k :: ks, _, .cons a b => by
    cases a
    rw [dq_ints b]
    rfl
theorem dq_deed {H : Hp} {v : V} {d : Deed} (h : Dq H v (dD d)) : ∃ a, v = .ref a ∧ DAt H a d := by
  cases d with
  | op ks =>
    cases h with
    | tup h1 h2 =>
      cases h2 with
      | cons a b =>
        cases a
        cases b with
        | cons b c =>
          cases c
          cases b with
          | lst h3 h4 =>
            rw [dq_ints h4] at h3
            exact ⟨_, rfl, _, h1, h3⟩
  | po k x =>
    cases h with
    | tup h1 h2 =>
      cases h2 with
      | cons a b =>
        cases a
        cases b with
        | cons b c =>
          cases b
          cases c with
          | cons c e =>
            cases c
            cases e
            exact ⟨_, rfl, h1⟩
  | sc k p q =>
    cases h with
    | tup h1 h2 =>
      cases h2 with
      | cons a b =>
        cases a
        cases b with
        | cons b c =>
          cases b
          cases c with
          | cons c e =>
            cases e
            cases c with
            | tup h3 h4 =>
              rw [dq_ints (ks := [p, q]) h4] at h3
              exact ⟨_, rfl, _, h1, h3⟩
  | mv k m p q =>
    cases h with
    | tup h1 h2 =>
      cases h2 with
      | cons a b =>
        cases a
        cases b with
        | cons b c =>
          cases b
          cases c with
          | cons c e =>
            cases c
            cases e with
            | cons e g =>
              cases g
              cases e with
              | tup h3 h4 =>
                rw [dq_ints (ks := [p, q]) h4] at h3
                exact ⟨_, rfl, _, h1, h3⟩
  | un k m =>
    cases h with
    | tup h1 h2 =>
      cases h2 with
      | cons a b =>
        cases a
        cases b with
        | cons b c =>
          cases b
          cases c with
          | cons c e =>
            cases c
            cases e
            exact ⟨_, rfl, h1⟩
/-- the steps that stand in a list -/
def DsAt (H : Hp) (l : Addr) (ds : List Deed) : Prop := ∃ as : List Addr, H l = some (.lst (as.map V.ref)) ∧ as.length = ds.length ∧ ∀ (i : Nat) (a : Addr) (d : Deed), as[i]? = some a → ds[i]? = some d → DAt H a d
theorem DsAt.ex {H H' : Hp} {l : Addr} {ds : List Deed} (h : DsAt H l ds) (e : Evl.Ex H H') : DsAt H' l ds := by
  obtain ⟨as, h1, h2, h3⟩ := h
  exact ⟨as, e _ _ h1, h2, fun i a t x y => (h3 i a t x y).ex e⟩
theorem dq_deeds {H : Hp} : ∀ {ds : List Deed} {vs : List V}, DqAll H vs (ds.map dD) → ∃ as : List Addr, vs = as.map V.ref ∧ as.length = ds.length ∧ ∀ (i : Nat) (a : Addr) (d : Deed), as[i]? = some a → ds[i]? = some d → DAt H a d
  | [], _, .nil => ⟨[], rfl, rfl, fun i a t h => (by cases h)⟩
  | t :: ts, _, .cons a b => by
    obtain ⟨x, rfl, hx⟩ := dq_deed a
    obtain ⟨as, rfl, h2, h3⟩ := dq_deeds b
    refine ⟨x :: as, rfl, congrArg Nat.succ h2, fun i a t' h1 h2 => ?_⟩
    cases i with
    | zero =>
      cases h1
      cases h2
      exact hx
    | succ i => exact h3 i a t' h1 h2
theorem Dq.deeds {H : Hp} {v : V} {ds : List Deed} (h : Dq H v (.list (ds.map dD))) : ∃ l, v = .ref l ∧ DsAt H l ds := by
  cases h with
  | lst h1 h2 =>
    obtain ⟨as, rfl, h3, h4⟩ := dq_deeds h2
    exact ⟨_, rfl, as, h1, h3, h4⟩
structure ScC (K : PySem.W.Frag) (C fI fT fS pT pS : Addr) : Prop where
  cls : Cls K C
  na1 : NoAttr K C "_tanks"
  na2 : NoAttr K C "_steps"
  mkI : Mk K C fI
  prT : PropOf K C "tanks" pT fT
  prS : PropOf K C "steps" pS fS
/-- a script's shape that is right -/
def okS (ts : List Tk) (ds : List Deed) : Prop := okT ts ∧ ds.length ≤ 60 ∧ ∀ d ∈ ds, okD ts.length d
def scF (v u : V) : List (Str × V) := [("_tanks", v), ("_steps", u)]
def spScI (C : Addr) : Sp := fun vs H Q _ => ∃ (x dx : Addr) (v u : V) (ts : List Tk) (ds : List Deed), vs = [.ref x, v, u] ∧ H x = some (.ins C dx []) ∧ Dq H v (.list (ts.map tkD)) ∧ Dq H u (.list (ds.map dD)) ∧ okS ts ds ∧
  ∀ (v' u' : V) (fs : List (Str × V)) (H' : Hp), But x H H' → H' x = some (.ins C dx fs) → fs.lookup ("_tanks" : Str) = some v' → fs.lookup ("_steps" : Str) = some u' → Dq (Nw H H') v' (.list (ts.map tkD)) → Dq (Nw H H') u' (.list (ds.map dD)) → fs = scF v' u' → Q .non H'
def spGet (C : Addr) (n : Nat) (f : Str) : Sp := fun vs H Q _ => ∃ (x dx : Addr) (fs : List (Str × V)) (v : V) (d : PyData), vs = [.ref x] ∧ H x = some (.ins C dx fs) ∧ fs.lookup f = some v ∧ Dq H v d ∧ Cp n d ∧ ∀ v' H', Evl.Ex H H' → Dq (Nw H H') v' d → Q v' H'
section
variable {base : Heap} {mg : Str → Option Value} {K : PySem.W.Frag} {w : World} {P : Program} {C fI fT fS pT pS : Addr}
theorem ok_Sc_tanks {f : Addr} {fd : FuncData} (F : Fun K "tanks" "Script.tanks" s_Sc_tanks f fd) (c : ScC K C fI fT fS pT pS) (c2 : Cal P w K mg base 3 "copied" p_copied (spCp 2)) : FnOk P w K mg base CX0 4 f fd p_Sc_tanks (spGet C 2 "_tanks") := by
  refine F.ok sc_Sc_tanks (fun vs H Q E h => ?_) (fun cdv A outer s H vs Q E hr h => ?_)
  · obtain ⟨x, dx, fs, v, d, rfl, _⟩ := h
    rfl
  · obtain ⟨x, dx, fs, v, d, rfl, hx, hf, hd, hc, k⟩ := h
    refine ⟨_, pss_one (ps_ret (pe_c c2 hr (pa_cons (pe_fld (pv 0) rfl) pa_nil))), ?_⟩
    exact ⟨_, rfl, x, C, dx, fs, v, rfl, hx, c.cls, c.na1, hf, v, d, rfl, hd, hc, k⟩
theorem ok_Sc_steps {f : Addr} {fd : FuncData} (F : Fun K "steps" "Script.steps" s_Sc_steps f fd) (c : ScC K C fI fT fS pT pS) (c3 : Cal P w K mg base 4 "copied" p_copied (spCp 3)) : FnOk P w K mg base CX0 5 f fd p_Sc_steps (spGet C 3 "_steps") := by
  refine F.ok sc_Sc_steps (fun vs H Q E h => ?_) (fun cdv A outer s H vs Q E hr h => ?_)
  · obtain ⟨x, dx, fs, v, d, rfl, _⟩ := h
    rfl
  · obtain ⟨x, dx, fs, v, d, rfl, hx, hf, hd, hc, k⟩ := h
    refine ⟨_, pss_one (ps_ret (pe_c c3 hr (pa_cons (pe_fld (pv 0) rfl) pa_nil))), ?_⟩
    exact ⟨_, rfl, x, C, dx, fs, v, rfl, hx, c.cls, c.na2, hf, v, d, rfl, hd, hc, k⟩
theorem ok_Sc_init {f : Addr} {fd : FuncData} (F : Fun K "__init__" "Script.__init__" s_Sc_init f fd) (mL : mg "len" = none) (c : ScC K C fI fT fS pT pS) (c2 : Cal P w K mg base 3 "copied" p_copied (spCp 2)) (c3 : Cal P w K mg base 4 "copied" p_copied (spCp 3)) (cT : Cal P w K mg base 4 "check_tanks" p_check_tanks spChkT) (cS : Cal P w K mg base 4 "check_step" p_check_step spChkS) : FnOk P w K mg base CX0 5 f fd p_Sc_init (spScI C) := by
  refine F.ok sc_Sc_init (fun vs H Q E h => ?_) (fun cdv A outer s H vs Q E hr h => ?_)
  · obtain ⟨x, dx, v, u, ts, ds, rfl, _⟩ := h
    rfl
  · obtain ⟨x, dx, v, u, ts, ds, rfl, hx, hv, hu, ⟨hT, h60, hD⟩, k⟩ := h
    have nd := sc_Sc_init.nd
    have r3 : Room 3 _ := hr.mono (by decide)
    obtain ⟨lt, rfl, hlt⟩ := hv.tks
    obtain ⟨ls, rfl, hls⟩ := hu.deeds
    refine ⟨_, pss_cons (ps_expr (pe_c cT hr (pa_cons (pv 1) pa_nil)))
      (pss_cons (ps_for PassesOwn.never rfl (pi_list (pv 2)) (pg_name (i := 3) nd rfl (Or.inl rfl)) (pss_one (ps_expr (pe_c cS hr (pa_cons (pv 3) (pa_cons (pe_callB call_len_seq (by rfl) mL PySem.boot_len (pa_cons (pv 1) pa_nil)) pa_nil))))))
      (pss_cons (ps_fld (pv 0) (pe_c c2 r3 (pa_cons (pv 1) pa_nil)) (by rfl))
      (pss_one (ps_fld (pv 0) (pe_c c3 hr (pa_cons (pv 2) pa_nil)) (by rfl))))), ?_⟩
    obtain ⟨as, hl, hlen, hat⟩ := id hls
    obtain ⟨bs, hlb, hlenb, hatb⟩ := id hlt
    refine ⟨_, rfl, lt, ts, rfl, hlt, hT, fun H1 e1 => ?_⟩
    refine ⟨_, rfl, ls, rfl, ⟨_, SqL.of (e1 _ _ hl)⟩, for_list (xs := as.map V.ref) (fun i σ H' => Evl.Ex H H' ∧ ∃ v, σ = [some (.ref x), some (.ref lt), some (.ref ls), v]) ⟨e1, none, rfl⟩ (fun i σ H' _ q => SqL.of (q.1 _ _ hl)) ?_ ?_⟩
    · rintro i y σ H2 hi ⟨e2, v, rfl⟩
      rw [List.getElem?_map] at hi
      obtain ⟨a, ha, rfl⟩ : ∃ a, as[i]? = some a ∧ y = .ref a := by
        cases e : as[i]? with
        | none =>
          rw [e] at hi
          cases hi
        | some a =>
          rw [e] at hi
          exact ⟨a, rfl, (Option.some.inj hi).symm⟩
      have hi2 : i < ds.length := by
        have := (List.getElem?_eq_some_iff.mp ha).1
        omega
      have hd : ds[i]? = some ds[i] := List.getElem?_eq_getElem hi2
      refine ⟨_, rfl, _, rfl, lt, _, rfl, .inl (SqL.of (e2 _ _ hlb)), a, ds[i], _, rfl, (hat i a _ ha hd).ex e2, ?_, fun H3 e3 => ⟨e2.trans e3, _, rfl⟩⟩
      have z := hD ds[i] (List.getElem_mem hi2)
      rw [List.length_map, hlenb]
      exact z
    · rintro σ H2 ⟨e2, v, rfl⟩
      refine ⟨_, rfl, _, _, rfl, hv.go e2, cp_tks (Nat.le_trans hT.1 (by decide)), fun v' H3 e3 hv' => ?_⟩
      have hx3 : H3 x = some (.ins C dx []) := e3 _ _ (e2 _ _ hx)
      refine ⟨_, rfl, x, C, dx, [], rfl, hx3, c.cls, c.na1, by decide, ?_⟩
      have b3 : But x H3 (upd H3 x (.ins C dx (putF "_tanks" v' []))) := But.upd
      have x4 : upd H3 x (.ins C dx (putF "_tanks" v' [])) x = some (.ins C dx (putF "_tanks" v' [])) := upd_same
      have hv4 : Dq (upd H3 x (.ins C dx (putF "_tanks" v' []))) v' (.list (ts.map tkD)) := (hv'.go Nw.ex).keep (keep_ins hx3 b3)
      have hu4 := ((hu.go e2).go e3).keep (keep_ins hx3 b3)
      have b4 : But x H (upd H3 x (.ins C dx (putF "_tanks" v' []))) := (But.of_ex (e2.trans e3)).trans b3
      generalize upd H3 x (.ins C dx (putF "_tanks" v' [])) = H4 at b3 x4 hv4 hu4 b4
      refine ⟨_, rfl, _, _, rfl, hu4, cp_deeds hD (Nat.le_trans h60 (by decide)), fun u' H5 e5 hu' => ?_⟩
      refine ⟨_, rfl, x, C, dx, _, rfl, e5 _ _ x4, c.cls, c.na2, by show 1 < 1000; decide, ?_⟩
      have b6 : But x H5 (upd H5 x (.ins C dx (putF "_steps" u' (putF "_tanks" v' [])))) := But.upd
      refine k v' u' _ _ ((b4.trans (But.of_ex e5)).trans b6) upd_same (by rfl) (by rfl) (hv'.go fun b o z => ?_) (hu'.go fun b o z => ?_) rfl
      · have n := nw_none z
        have nx : b ≠ x := fun q => by
          rw [q, e2 _ _ hx] at n
          cases n
        exact nw_at (Evl.fresh_back e2 n) (b6 _ _ nx (e5 _ _ (b3 _ _ nx (Nw.ex _ _ z))))
      · have n := nw_none z
        have nx : b ≠ x := fun q => by
          rw [q, x4] at n
          cases n
        refine nw_at ?_ (b6 _ _ nx (Nw.ex _ _ z))
        cases q : H b with
        | none => rfl
        | some o' =>
          rw [b4 _ _ nx q] at n
          cases n
end
end V2


namespace V2
open PySem L2
open PySem.Spec PyProof.Rows
/-! ## lists of constants -/
def CsAt (H : Hp) (l : Addr) (ns : List Int) : Prop := ∃ as : List Addr, H l = some (.lst (as.map V.ref)) ∧ as.length = ns.length ∧ ∀ (i : Nat) (a : Addr) (n : Int), as[i]? = some a → ns[i]? = some n → Li H a (cp n)
theorem CsAt.ex {H H' : Hp} {l : Addr} {ns : List Int} (h : CsAt H l ns) (e : Evl.Ex H H') : CsAt H' l ns := by
  obtain ⟨as, h1, h2, h3⟩ := h
  exact ⟨as, e _ _ h1, h2, fun i a t x y => e _ _ (h3 i a t x y)⟩
theorem CsAt.get {H : Hp} {l : Addr} {ns : List Int} (h : CsAt H l ns) {i : Nat} {n : Int} (hn : ns[i]? = some n) : ∃ (xs : List V) (a : Addr), H l = some (.lst xs) ∧ xs[i]? = some (.ref a) ∧ Li H a (cp n) := by
  obtain ⟨as, h1, h2, h3⟩ := h
  have hi : i < as.length := by
    have := (List.getElem?_eq_some_iff.mp hn).1
    omega
  have ha : as[i]? = some as[i] := List.getElem?_eq_getElem hi
  exact ⟨_, as[i], h1, by rw [List.getElem?_map, ha]; rfl, h3 i _ n ha hn⟩
/-- while the list at D is being made: i of them are there -/
def CsN (H : Hp) (D : Addr) (ns : List Int) (i : Nat) : Prop := ∃ as : List Addr, H D = some (.lst (as.map V.ref)) ∧ as.length = i ∧ ∀ (j : Nat) (a : Addr) (n : Int), as[j]? = some a → ns[j]? = some n → a ≠ D ∧ Li H a (cp n)
theorem CsN.start {H : Hp} {D : Addr} {ns : List Int} (h : H D = some (.lst [])) : CsN H D ns 0 := ⟨[], h, rfl, fun j a n h => by cases h⟩
theorem get_app {α : Type} {as : List α} {r a : α} {j : Nat} (h : (as ++ [r])[j]? = some a) : (as[j]? = some a ∧ j < as.length) ∨ (j = as.length ∧ a = r) := by
  by_cases hj : j < as.length
  · rw [List.getElem?_append_left hj] at h
    exact .inl ⟨h, hj⟩
  · rw [List.getElem?_append_right (by omega)] at h
    have h1 : j - as.length < 1 := (List.getElem?_eq_some_iff.mp h).1
    have h2 : j = as.length := by omega
    subst h2
    rw [Nat.sub_self] at h
    exact .inr ⟨rfl, (Option.some.inj h).symm⟩
/-- one more: r, which is no part of the list -/
theorem CsN.more {H2 H3 : Hp} {D r : Addr} {ns : List Int} {i : Nat} {n : Int} (h : CsN H2 D ns i) (e : Evl.Ex H2 H3) (hr : r ≠ D) (h3 : Li H3 r (cp n)) (hn : ns[i]? = some n) (hi : i ≤ 100) :
    ∃ acc, H3 D = some (.lst acc) ∧ acc.length < sizeLine ∧ CsN (upd H3 D (.lst (acc ++ [.ref r]))) D ns (i + 1) := by
  obtain ⟨as, h1, h2, h4⟩ := h
  refine ⟨_, e _ _ h1, ?_, as ++ [r], ?_, ?_, fun j a m ha hm => ?_⟩
  · rw [List.length_map, h2]
    exact Nat.lt_of_le_of_lt hi (by decide)
  · rw [upd_same, List.map_append]
    rfl
  · rw [List.length_append, h2]
    rfl
  · rcases get_app ha with ⟨h5, _⟩ | ⟨h5, rfl⟩
    · obtain ⟨n1, n2⟩ := h4 j a m h5 hm
      exact ⟨n1, Eq.trans (upd_ne n1) (e _ _ n2)⟩
    · rw [h5, h2, hn] at hm
      cases hm
      exact ⟨hr, Eq.trans (upd_ne hr) h3⟩
theorem CsN.done {H : Hp} {D : Addr} {ns : List Int} (h : CsN H D ns ns.length) : CsAt H D ns := by
  obtain ⟨as, h1, h2, h3⟩ := h
  exact ⟨as, h1, h2, fun i a n x y => (h3 i a n x y).2⟩
/-- the widths, times what is below in the told one -/
def wid (u b : Int) (t : Tk) : Int := match t.1 with
  | none => u
  | some z => z * b
def spTold : Sp := fun vs H Q _ => ∃ (l f : Addr) (ts : List Tk) (u b : Int), vs = [.ref l, .ref f] ∧ TksAt H l ts ∧ okT ts ∧ (∀ t ∈ ts, ∀ z, t.1 = some z → z ≤ 1000) ∧ Fr H f u b ∧ 0 < u ∧ 0 < b ∧ u.natAbs < 2 ^ 50 ∧ b.natAbs < 2 ^ 50 ∧ ∀ D H', H D = none → Evl.Ex H H' → CsAt H' D (ts.map (wid u b)) → Q (.ref D) H'
def spFirst : Sp := fun vs H Q _ => ∃ (l : Addr) (ts : List Tk), vs = [.ref l] ∧ TksAt H l ts ∧ ts.length ≤ 20 ∧ ∀ t x y H', Evl.Ex H H' → H' t = some (.tup [.ref x, .ref y]) → CsAt H' x (ts.map (·.2)) → Li H' y [1] → Q (.ref t) H'
def spSum : Sp := fun vs H Q _ => ∃ (l : Addr) (ns : List Int), vs = [.ref l] ∧ CsAt H l ns ∧ Evl.RetL (iV (cp ns.sum)) H Q
theorem tks_get {H : Hp} {l : Addr} {ts : List Tk} (h : TksAt H l ts) : ∃ xs, H l = some (.lst xs) ∧ xs.length = ts.length ∧ ∀ (i : Nat) (x : V), xs[i]? = some x → ∃ a t, x = .ref a ∧ ts[i]? = some t ∧ H a = some (.tup [wV t.1, .int t.2]) := by
  obtain ⟨as, h1, h2, h3⟩ := h
  refine ⟨_, h1, by rw [List.length_map]; exact h2, fun i x hx => ?_⟩
  rw [List.getElem?_map] at hx
  cases e : as[i]? with
  | none =>
    rw [e] at hx
    cases hx
  | some a =>
    rw [e] at hx
    have hi : i < ts.length := by
      have := (List.getElem?_eq_some_iff.mp e).1
      omega
    exact ⟨a, ts[i], (Option.some.inj hx).symm, List.getElem?_eq_getElem hi, h3 i a _ e (List.getElem?_eq_getElem hi)⟩
section
variable {base : Heap} {mg : Str → Option Value} {K : PySem.W.Frag} {w : World} {P : Program}
theorem ok_told_widths {f : Addr} {fd : FuncData} (F : Fun K "told_widths" "told_widths" s_told_widths f fd) : FnOk P w K mg base CX0 1 f fd p_told_widths spTold := by
  refine F.ok sc_told_widths (fun vs H Q E h => ?_) (fun cdv A outer s H vs Q E hr h => ?_)
  · obtain ⟨l, g, ts, u, b, rfl, _⟩ := h
    rfl
  · obtain ⟨l, g, ts, u, b, rfl, hT, ⟨h20, hts, _⟩, h1000, hg, hu, hb, hub, hbb, k⟩ := h
    have nd := sc_told_widths.nd
    have one : 1 ≤ sizeLine := by show 1 ≤ sizeLine; decide
    refine ⟨_, pss_cons (ps_asg (pv 1) (pg_tup rfl (pgs_cons (pg_name (i := 2) nd rfl (Or.inr rfl)) (pgs_cons (pg_name (i := 3) nd rfl (Or.inr rfl)) pgs_nil))))
      (pss_one (ps_ret (pe_lc (own := [("width", 4), ("_", 5)]) (g := gTup K 2 (gCons (gName 4) (gCons (gName 5) gNil))) (tt := tYes) (te := tIf (tB (tIsN (tVar 4))) (tLst (tCons (tVar 2) tNil)) (tLst (tCons (tOp (rI CMulW fun i j => .int (i * j)) (tVar 4) (tVar 3)) tNil))) rfl nd (pi_list (pv 0)) (blkOk_by (N := n_told_widths) (sc := defScope s_told_widths) (by decide +kernel)) (fun _ _ _ _ _ => pg_tup rfl (pgs_cons (pg_name (i := 4) nd rfl (Or.inl rfl)) (pgs_cons (pg_name (i := 5) nd rfl (Or.inl rfl)) pgs_nil))) (fun _ _ _ _ _ => pts_nil)
        (fun _ _ _ _ _ => pe_ifExp (pt_cmp (pc_isN (pv 4))) (pe_lst (pa_cons (pv 2) pa_nil)) (pe_lst (pa_cons (pe_op op_mulW (pv 4) (pv 3)) pa_nil)))))), ?_⟩
    obtain ⟨xs, hl, hlen, hx⟩ := tks_get hT
    refine ⟨_, rfl, g, _, rfl, SqT.of hg, rfl, _, _, rfl, _, _, rfl, rfl, ?_⟩
    refine ⟨_, rfl, l, rfl, ⟨_, SqL.of hl⟩, fun D hD => lc_list (xs := xs) (fun i H' => Evl.Ex H H' ∧ CsN H' D (ts.map (wid u b)) i) ⟨Evl.Ex.new hD, CsN.start upd_same⟩ (fun i H' _ q => SqL.of (q.1 _ _ hl)) ?_ ?_⟩
    · rintro i x H2 hi ⟨e2, hN⟩
      obtain ⟨a, t, rfl, ht, ha⟩ := hx i x hi
      have ht2 : (ts.map (wid u b))[i]? = some (wid u b t) := by rw [List.getElem?_map, ht]; rfl
      have hi20 : i ≤ 100 := by
        have := (List.getElem?_eq_some_iff.mp ht).1
        omega
      have hmem := List.mem_of_getElem? ht
      refine ⟨a, _, rfl, SqT.of (e2 _ _ ha), rfl, _, _, rfl, _, _, rfl, rfl, rfl, ?_⟩
      show tIf (tB (tIsN (tVar 4))) (tLst (tCons (tVar 2) tNil)) (tLst (tCons (tOp (rI CMulW fun i j => .int (i * j)) (tVar 4) (tVar 3)) tNil)) _ _ _
      obtain ⟨tw, ta⟩ := t
      have fin : ∀ r n, H2 r = none → n = wid u b (tw, ta) → n ≠ 0 → ∃ acc, upd H2 r (.lst [.int n]) D = some (.lst acc) ∧ acc.length < sizeLine ∧ Evl.Ex H (upd (upd H2 r (.lst [.int n])) D (.lst (acc ++ [.ref r]))) ∧ CsN (upd (upd H2 r (.lst [.int n])) D (.lst (acc ++ [.ref r]))) D (ts.map (wid u b)) (i + 1) := fun r n hr hn h0 => by
        have e3 := Evl.Ex.new (o := .lst [.int n]) hr
        obtain ⟨as0, hD0, _⟩ := id hN
        have l3 : Li (upd H2 r (.lst [.int n])) r (cp n) := by
          rw [cp_n h0]
          exact upd_same
        obtain ⟨acc, a1, a2, a3⟩ := hN.more e3 (ne_of_none hD0 hr).symm l3 (hn ▸ ht2) hi20
        exact ⟨acc, a1, a2, Evl.Ex.mut (e2.trans e3) hD, a3⟩
      cases tw with
      | none =>
        refine ⟨_, rfl, _, rfl, if_t rfl ⟨_, rfl, one, fun r hr => fin r u hr rfl (by omega)⟩⟩
      | some z =>
        have z1 := (hts _ hmem).1 z rfl
        have z2 := h1000 _ hmem z rfl
        have hzb : z * b ≠ 0 := Int.ne_of_gt (Int.mul_pos (by omega) hb)
        refine ⟨_, rfl, _, rfl, if_f rfl ⟨_, rfl, _, rfl, z, b, rfl, rfl, wide_mul (a := 10) (b := 50) (Nat.lt_of_le_of_lt (show z.natAbs ≤ 1000 by omega) (by decide)) hbb (by decide) (by decide) (by decide), one, fun r hr => fin r (z * b) hr rfl hzb⟩⟩
    · rintro H2 ⟨e2, hN⟩
      rw [hlen, show ts.length = (ts.map (wid u b)).length by rw [List.length_map]] at hN
      exact k D H2 hD e2 hN.done
theorem ok_first_water {f : Addr} {fd : FuncData} (F : Fun K "first_water" "first_water" s_first_water f fd) (cC : Cal P w K mg base 1 "cut" p_cut (spTrim K)) : FnOk P w K mg base CX0 2 f fd p_first_water spFirst := by
  refine F.ok sc_first_water (fun vs H Q E h => ?_) (fun cdv A outer s H vs Q E hr h => ?_)
  · obtain ⟨l, ts, rfl, _⟩ := h
    rfl
  · obtain ⟨l, ts, rfl, hT, h20, k⟩ := h
    have nd := sc_first_water.nd
    have one : 1 ≤ sizeLine := by show 1 ≤ sizeLine; decide
    have two : 2 ≤ sizeLine := by show 2 ≤ sizeLine; decide
    refine ⟨_, pss_one (ps_ret (pe_tup (pa_cons (pe_lc (own := [("_", 1), ("amount", 2)]) (g := gTup K 2 (gCons (gName 1) (gCons (gName 2) gNil))) (tt := tYes) (te := tCall (spTrim K) [] E0 (tCons (tLst (tCons (tVar 2) tNil)) tNil)) rfl nd (pi_list (pv 0)) (blkOk_by (N := n_first_water) (sc := defScope s_first_water) (by decide +kernel)) (fun _ _ _ _ _ => pg_tup rfl (pgs_cons (pg_name (i := 1) nd rfl (Or.inl rfl)) (pgs_cons (pg_name (i := 2) nd rfl (Or.inl rfl)) pgs_nil))) (fun _ _ _ _ _ => pts_nil)
        (fun _ _ _ _ _ => pe_c cC hr (pa_cons (pe_lst (pa_cons (pv 2) pa_nil)) pa_nil))) (pa_cons (pe_lst (pa_cons pe_int pa_nil)) pa_nil)))), ?_⟩
    obtain ⟨xs, hl, hlen, hx⟩ := tks_get hT
    refine ⟨_, rfl, l, rfl, ⟨_, SqL.of hl⟩, fun D hD => lc_list (xs := xs) (fun i H' => Evl.Ex H H' ∧ CsN H' D (ts.map (·.2)) i) ⟨Evl.Ex.new hD, CsN.start upd_same⟩ (fun i H' _ q => SqL.of (q.1 _ _ hl)) ?_ ?_⟩
    · rintro i x H2 hi ⟨e2, hN⟩
      obtain ⟨a, t, rfl, ht, ha⟩ := hx i x hi
      have ht2 : (ts.map (·.2))[i]? = some t.2 := by rw [List.getElem?_map, ht]; rfl
      have hi20 : i ≤ 100 := by
        have := (List.getElem?_eq_some_iff.mp ht).1
        omega
      refine ⟨a, _, rfl, SqT.of (e2 _ _ ha), rfl, _, _, rfl, _, _, rfl, rfl, rfl, ?_⟩
      show tCall (spTrim K) [] E0 (tCons (tLst (tCons (tVar 2) tNil)) tNil) _ _ _
      refine ⟨_, rfl, one, fun r hr2 => ⟨r, [t.2], rfl, SqL.of upd_same, by show 1 ≤ 1000; decide, fun q H3 hq e3 h3 => ?_⟩⟩
      have e4 := (Evl.Ex.new (o := .lst [.int t.2]) hr2).trans e3
      obtain ⟨as0, hD0, _⟩ := id hN
      have qD : q ≠ D := (ne_of_none (Evl.Ex.new hr2 _ _ hD0) hq).symm
      rw [trm_1] at h3
      obtain ⟨acc, a1, a2, a3⟩ := hN.more e4 qD h3 ht2 hi20
      exact ⟨acc, a1, a2, Evl.Ex.mut (e2.trans e4) hD, a3⟩
    · rintro H2 ⟨e2, hN⟩
      rw [hlen, show ts.length = (ts.map (·.2)).length by rw [List.length_map]] at hN
      have hC := hN.done
      refine ⟨one, fun y hy => ⟨two, fun t ht => ?_⟩⟩
      have e3 := Evl.Ex.new (o := .lst [.int 1]) hy
      have e4 := Evl.Ex.new (o := .tup [.ref D, .ref y]) ht
      exact k t D y _ ((e2.trans e3).trans e4) upd_same ((hC.ex e3).ex e4) (e4 _ _ upd_same)
theorem sum_take {ns : List Int} {i : Nat} {n : Int} (h : ns[i]? = some n) : (ns.take (i + 1)).sum = (ns.take i).sum + n := by
  rw [List.take_add_one, h, List.sum_append]
  simp
theorem ok_sum_of {f : Addr} {fd : FuncData} (F : Fun K "sum_of" "sum_of" s_sum_of f fd) (cA : Cal P w K mg base 2 "added" p_added (spTwoW (fun _ _ => True) fun xs ys => trm (padd xs ys))) : FnOk P w K mg base CX0 3 f fd p_sum_of spSum := by
  refine F.ok sc_sum_of (fun vs H Q E h => ?_) (fun cdv A outer s H vs Q E hr h => ?_)
  · obtain ⟨l, ns, rfl, _⟩ := h
    rfl
  · obtain ⟨l, ns, rfl, hC, k⟩ := h
    have nd := sc_sum_of.nd
    refine ⟨_, pss_cons (ps_set (i := 1) nd rfl (Or.inl rfl) (pe_lst pa_nil))
      (pss_cons (ps_for PassesOwn.never rfl (pi_list (pv 0)) (pg_name (i := 2) nd rfl (Or.inl rfl)) (pss_one (ps_set (i := 1) nd rfl (Or.inl rfl) (pe_c cA hr (pa_cons (pv 1) (pa_cons (pv 2) pa_nil))))))
      (pss_one (ps_ret (pv 1)))), ?_⟩
    obtain ⟨as, hl, hlen, hat⟩ := id hC
    refine ⟨Nat.zero_le _, fun t0 ht0 => ?_⟩
    refine ⟨_, rfl, l, rfl, ⟨_, SqL.of (Evl.Ex.new ht0 _ _ hl)⟩, for_list (xs := as.map V.ref) (fun i σ H' => Evl.Ex H H' ∧ ∃ t v, σ = [some (.ref l), some (.ref t), v] ∧ H t = none ∧ Li H' t (cp (ns.take i).sum)) ⟨Evl.Ex.new ht0, t0, none, rfl, ht0, upd_same⟩ (fun i σ H' _ q => SqL.of (q.1 _ _ hl)) ?_ ?_⟩
    · rintro i x σ H2 hi ⟨e2, t, v, rfl, ht, hLi⟩
      rw [List.getElem?_map] at hi
      obtain ⟨a, ha, rfl⟩ : ∃ a, as[i]? = some a ∧ x = .ref a := by
        cases e : as[i]? with
        | none =>
          rw [e] at hi
          cases hi
        | some a =>
          rw [e] at hi
          exact ⟨a, rfl, (Option.some.inj hi).symm⟩
      have hi2 : i < ns.length := by
        have := (List.getElem?_eq_some_iff.mp ha).1
        omega
      have hn : ns[i]? = some ns[i] := List.getElem?_eq_getElem hi2
      refine ⟨_, rfl, _, rfl, t, a, _, _, rfl, hLi, e2 _ _ (hat i a _ ha hn), cp_pw _, cp_pw _, fun _ _ _ _ => trivial, fun r H3 hr2 e3 h3 => ⟨e2.trans e3, r, _, rfl, Evl.fresh_back e2 hr2, ?_⟩⟩
      have h3 : H3 r = some (.lst (iV (trm (padd (cp (ns.take i).sum) (cp ns[i]))))) := h3
      rw [cp_add, ← sum_take hn] at h3
      exact h3
    · rintro σ H2 ⟨e2, t, v, rfl, ht, hLi⟩
      rw [List.length_map, hlen, List.take_length] at hLi
      exact ⟨_, rfl, k t H2 ht e2 hLi⟩
end
end V2


namespace V2
open PySem L2
open PySem.Spec PyProof.Rows
/-! ## what steps do to water -/
def pick (ns : List Int) (ks : List Int) : List Int := ks.map fun k => ns.getD k.toNat 0
/-- numbers of less than n bits -/
def Bn (n : Nat) (x : Int) : Prop := x.natAbs < 2 ^ n
theorem Bn.le {n m : Nat} {x : Int} (h : Bn n x) (l : n ≤ m) : Bn m x := Nat.lt_of_lt_of_le h (Nat.pow_le_pow_right (by decide) l)
theorem Bn.mul {n m : Nat} {x y : Int} (h : Bn n x) (k : Bn m y) : Bn (n + m) (x * y) := wide_lt h k
theorem Bn.add {n : Nat} {x y : Int} (h : Bn n x) (k : Bn n y) : Bn (n + 1) (x + y) := by
  unfold Bn at *
  rw [Nat.pow_succ]
  omega
/-- water: the amounts A by W -/
structure Wat (H : Hp) (t : Addr) (A : List Int) (W : Int) : Prop where
  at_ : ∃ la lw, H t = some (.tup [.ref la, .ref lw]) ∧ CsAt H la A ∧ Li H lw [W]
  pos : 0 < W
theorem Wat.ex {H H' : Hp} {t : Addr} {A : List Int} {W : Int} (h : Wat H t A W) (e : Evl.Ex H H') : Wat H' t A W := by
  obtain ⟨⟨la, lw, h1, h2, h3⟩, p⟩ := h
  exact ⟨⟨la, lw, e _ _ h1, h2.ex e, e _ _ h3⟩, p⟩
def okK (n : Nat) (ks : List Int) : Prop := ks.length ≤ 20 ∧ ∀ k ∈ ks, 0 ≤ k ∧ k < n
def spTog : Sp := fun vs H Q _ => ∃ (lk la lw : Addr) (ks A ws : List Int), vs = [.ref lk, .ref la, .ref lw] ∧ Li H lk ks ∧ CsAt H la A ∧ CsAt H lw ws ∧ okK A.length ks ∧ ws.length = A.length ∧
  ∀ q x y H', Evl.Ex H H' → H' q = some (.tup [.ref x, .ref y]) → Li H' x (cp (pick A ks).sum) → Li H' y (cp (pick ws ks).sum) → Q (.ref q) H'
theorem pick_get {ns ks : List Int} {i : Nat} {k : Int} (h : ks[i]? = some k) : (pick ns ks)[i]? = some (ns.getD k.toNat 0) := by
  unfold pick
  rw [List.getElem?_map, h]
  rfl
theorem getD_some {ns : List Int} {j : Nat} (h : j < ns.length) : ns[j]? = some (ns.getD j 0) := by
  rw [List.getD_eq_getElem?_getD, List.getElem?_eq_getElem h]
  rfl
/-- a list of some of the constants of another one -/
theorem picked {H H' : Hp} {D la : Addr} {A ks : List Int} {as : List Addr} {i : Nat} {k : Int} (hA : ∀ (i : Nat) (a : Addr) (n : Int), as[i]? = some a → A[i]? = some n → Li H a (cp n)) (hla : as.length = A.length) (hk : ks[i]? = some k) (hok : okK A.length ks) :
    ∃ a, as[k.toNat]? = some a ∧ atI (as.map V.ref) k = some (.ref a) ∧ Li H a (cp (A.getD k.toNat 0)) := by
  obtain ⟨k0, k1⟩ := hok.2 k (List.mem_of_getElem? hk)
  obtain ⟨j, rfl⟩ : ∃ j : Nat, k = j := ⟨k.toNat, by omega⟩
  rw [Int.toNat_natCast]
  have hlt : j < A.length := by omega
  obtain ⟨a, ha⟩ : ∃ a, as[j]? = some a := ⟨_, List.getElem?_eq_getElem (by omega)⟩
  exact ⟨a, ha, atI_nat (by rw [List.getElem?_map, ha]; rfl), hA _ _ _ ha (getD_some hlt)⟩
section
variable {base : Heap} {mg : Str → Option Value} {K : PySem.W.Frag} {w : World} {P : Program}
theorem ok_together {f : Addr} {fd : FuncData} (F : Fun K "together" "together" s_together f fd) (cS : Cal P w K mg base 3 "sum_of" p_sum_of spSum) : FnOk P w K mg base CX0 4 f fd p_together spTog := by
  refine F.ok sc_together (fun vs H Q E h => ?_) (fun cdv A outer s H vs Q E hr h => ?_)
  · obtain ⟨lk, la, lw, ks, A, ws, rfl, _⟩ := h
    rfl
  · obtain ⟨lk, la, lw, ks, A, ws, rfl, hk, hA, hw, hok, hl, k⟩ := h
    have nd := sc_together.nd
    have two : 2 ≤ sizeLine := by show 2 ≤ sizeLine; decide
    refine ⟨_, pss_one (ps_ret (pe_tup (pa_cons (pe_c cS hr (pa_cons (pe_lc (own := [("k", 3)]) (g := gName 3) (tt := tYes) (te := tOp (rIxL K) (tVar 1) (tVar 3)) rfl nd (pi_list (pv 0)) (blkOk_by (N := n_together) (sc := defScope s_together) (by decide +kernel)) (fun _ _ _ _ _ => pg_name (i := 3) nd rfl (Or.inl rfl)) (fun _ _ _ _ _ => pts_nil) (fun _ _ _ _ _ => pe_ix ix_list (pv 1) (pv 3) (fun _ _ => rfl))) pa_nil))
      (pa_cons (pe_c cS hr (pa_cons (pe_lc (own := [("k", 3)]) (g := gName 3) (tt := tYes) (te := tOp (rIxL K) (tVar 2) (tVar 3)) rfl nd (pi_list (pv 0)) (blkOk_by (N := n_together) (sc := defScope s_together) (by decide +kernel)) (fun _ _ _ _ _ => pg_name (i := 3) nd rfl (Or.inl rfl)) (fun _ _ _ _ _ => pts_nil) (fun _ _ _ _ _ => pe_ix ix_list (pv 2) (pv 3) (fun _ _ => rfl))) pa_nil)) pa_nil)))), ?_⟩
    obtain ⟨as, ha, hla, haa⟩ := id hA
    obtain ⟨bs, hb, hlb, hbb⟩ := id hw
    have hokw : okK ws.length ks := by rw [hl]; exact hok
    refine ⟨_, rfl, lk, rfl, ⟨_, hk.sq⟩, fun D hD => lc_list (xs := iV ks) (fun i H' => Evl.Ex H H' ∧ CsN H' D (pick A ks) i) ⟨Evl.Ex.new hD, CsN.start upd_same⟩ (fun i H' _ q => SqL.of (q.1 _ _ hk)) ?_ ?_⟩
    · rintro i x H2 hi ⟨e2, hN⟩
      obtain ⟨z, hz, rfl⟩ := iV_get hi
      obtain ⟨a, h1, h2, h3⟩ := picked (H' := H) (D := D) (la := la) haa hla hz hok
      have hi20 : i ≤ 100 := by
        have := (List.getElem?_eq_some_iff.mp hz).1
        have := hok.1
        omega
      refine ⟨rfl, ?_⟩
      show tOp (rIxL K) (tVar 1) (tVar 3) _ _ _
      obtain ⟨acc, a1, a2, a3⟩ := hN.more (Evl.Ex.refl _) (ne_of_none (show H a = some _ from h3) hD) (e2 _ _ h3) (pick_get hz) hi20
      exact ⟨_, rfl, _, rfl, la, _, _, _, rfl, rfl, SqL.of (e2 _ _ ha), h2, acc, a1, a2, Evl.Ex.mut e2 hD, a3⟩
    · rintro H2 ⟨e2, hN⟩
      rw [iV_len, show ks.length = (pick A ks).length by unfold pick; rw [List.length_map]] at hN
      refine ⟨D, _, rfl, hN.done, fun x H3 hx e3 h3 => ?_⟩
      have e03 := e2.trans e3
      refine ⟨_, rfl, lk, rfl, ⟨_, SqL.of (e03 _ _ hk)⟩, fun D2 hD2 => lc_list (xs := iV ks) (fun i H' => Evl.Ex H3 H' ∧ CsN H' D2 (pick ws ks) i) ⟨Evl.Ex.new hD2, CsN.start upd_same⟩ (fun i H' _ q => SqL.of (q.1 _ _ (e03 _ _ hk))) ?_ ?_⟩
      · rintro i v H4 hi ⟨e4, hN4⟩
        obtain ⟨z, hz, rfl⟩ := iV_get hi
        obtain ⟨a, h1, h2, h4⟩ := picked (H' := H) (D := D) (la := la) hbb hlb hz hokw
        have hi20 : i ≤ 100 := by
          have := (List.getElem?_eq_some_iff.mp hz).1
          have := hok.1
          omega
        refine ⟨rfl, ?_⟩
        show tOp (rIxL K) (tVar 2) (tVar 3) _ _ _
        have h5 : Li H3 a (cp (ws.getD z.toNat 0)) := e03 _ _ h4
        obtain ⟨acc, a1, a2, a3⟩ := hN4.more (Evl.Ex.refl _) (ne_of_none (show H3 a = some _ from h5) hD2) (e4 _ _ h5) (pick_get hz) hi20
        exact ⟨_, rfl, _, rfl, lw, _, _, _, rfl, rfl, SqL.of (e4 _ _ (e03 _ _ hb)), h2, acc, a1, a2, Evl.Ex.mut e4 hD2, a3⟩
      · rintro H4 ⟨e4, hN4⟩
        rw [iV_len, show ks.length = (pick ws ks).length by unfold pick; rw [List.length_map]] at hN4
        refine ⟨D2, _, rfl, hN4.done, fun y H5 hy e5 h5 => ⟨two, fun q hq => ?_⟩⟩
        have e6 := Evl.Ex.new (o := .tup [.ref x, .ref y]) hq
        exact k q x y _ (((e03.trans e4).trans e5).trans e6) upd_same (e6 _ _ (e5 _ _ (e4 _ _ h3))) (e6 _ _ h5)
end
end V2


namespace V2
open PySem L2
open PySem.Spec PyProof.Rows
theorem fn_weak {P : Program} {w : World} {K : PySem.W.Frag} {mg : Str → Option Value} {base : Heap} {CX : CXT} {k : Nat} {f : Addr} {fd : FuncData} {ps : List Str} {sp sp' : Sp} (F : FnOk P w K mg base CX k f fd ps sp) (h : ∀ vs H Q E, sp' vs H Q E → sp vs H Q E) : FnOk P w K mg base CX k f fd ps sp' :=
  ⟨fun vs H Q E z => F.len vs H Q E (h _ _ _ _ z), fun A outer s H args us vs Q E hr e0 hb r z => F.run A outer s H args us vs Q E hr e0 hb r (h _ _ _ _ z)⟩
theorem Cal.weak {P : Program} {w : World} {K : PySem.W.Frag} {mg : Str → Option Value} {base : Heap} {k : Nat} {x : Str} {ps : List Str} {sp sp' : Sp} (c : Cal P w K mg base k x ps sp) (h : ∀ vs H Q E, sp' vs H Q E → sp vs H Q E) : Cal P w K mg base k x ps sp' := by
  obtain ⟨f, fd, F, a, b, d⟩ := c
  exact ⟨f, fd, fn_weak F h, a, b, d⟩
/-- products and sums of constants -/
def spMc : Sp := fun vs H Q _ => ∃ (a b : Addr) (x y : Int), vs = [.ref a, .ref b] ∧ Li H a (cp x) ∧ Li H b (cp y) ∧ Bn 4400 x ∧ Bn 4400 y ∧ Evl.RetL (iV (cp (x * y))) H Q
def spAc : Sp := fun vs H Q _ => ∃ (a b : Addr) (x y : Int), vs = [.ref a, .ref b] ∧ Li H a (cp x) ∧ Li H b (cp y) ∧ Evl.RetL (iV (cp (x + y))) H Q
theorem mc_of : ∀ vs H Q E, spMc vs H Q E → spTwoW (fun x y => CMulW x y) (fun xs ys => trm (pmul xs ys)) vs H Q E := by
  rintro vs H Q E ⟨a, b, x, y, rfl, ha, hb, hx, hy, k⟩
  refine ⟨a, b, _, _, rfl, ha, hb, cp_pw _, cp_pw _, fun u hu v hv => ?_, ?_⟩
  · rw [cp_mem hu, cp_mem hv]
    exact wide_mul (a := 4400) (b := 4400) hx hy (by decide) (by decide) (by decide)
  · show Evl.RetL (iV (trm (pmul (cp x) (cp y)))) H Q
    rw [cp_mul]
    exact k
theorem ac_of : ∀ vs H Q E, spAc vs H Q E → spTwoW (fun _ _ => True) (fun xs ys => trm (padd xs ys)) vs H Q E := by
  rintro vs H Q E ⟨a, b, x, y, rfl, ha, hb, k⟩
  refine ⟨a, b, _, _, rfl, ha, hb, cp_pw _, cp_pw _, fun _ _ _ _ => trivial, ?_⟩
  show Evl.RetL (iV (trm (padd (cp x) (cp y)))) H Q
  rw [cp_add]
  exact k
/-- the amounts behind a valve -/
def openA (A ws ks : List Int) : List Int := (List.range A.length).map fun (k : Nat) => if (k : Int) ∈ ks then (pick A ks).sum * ws.getD k 0 else A.getD k 0 * (pick ws ks).sum
theorem map_range_get {n i : Nat} {f : Nat → Int} (h : i < n) : ((List.range n).map f)[i]? = some (f i) := by
  rw [List.getElem?_map, List.getElem?_range h]
  rfl
theorem inV_ints (k : Int) (ks : List Int) : inV (.int k) (iV ks) = decide (k ∈ ks) := by
  induction ks with
  | nil => rfl
  | cons x r ih =>
    have e : inV (.int k) (iV (x :: r)) = (eqV (.int x) (.int k) || inV (.int k) (iV r)) := rfl
    rw [e, ih]
    have e2 : eqV (.int x) (.int k) = decide (x = k) := by
      by_cases h : x = k
      · subst h
        simp [eqV]
      · simp [eqV, h]
    rw [e2]
    by_cases h : x = k
    · simp [h]
    · have h' : ¬ k = x := fun z => h z.symm
      simp [h, h']
theorem flat_ints (ks : List Int) : (iV ks).all flatV = true := by
  unfold iV
  rw [List.all_map]
  exact List.all_eq_true.mpr fun x _ => rfl
def spOpen : Sp := fun vs H Q _ => ∃ (lk t lw : Addr) (ks A ws : List Int) (W : Int), vs = [.ref lk, .ref t, .ref lw] ∧ Li H lk ks ∧ Wat H t A W ∧ CsAt H lw ws ∧ okK A.length ks ∧ ws.length = A.length ∧ A.length ≤ 20 ∧
  (∀ x ∈ A, Bn 4400 x) ∧ Bn 4400 W ∧ (∀ x ∈ ws, Bn 4400 x) ∧ Bn 4400 (pick A ks).sum ∧ Bn 4400 (pick ws ks).sum ∧ 0 < (pick ws ks).sum ∧ ∀ t' H', Evl.Ex H H' → Wat H' t' (openA A ws ks) (W * (pick ws ks).sum) → Q (.ref t') H'
theorem cs_items {H : Hp} {l : Addr} {ns : List Int} (h : CsAt H l ns) : ∃ xs, H l = some (.lst xs) ∧ xs.length = ns.length ∧ ∀ (i : Nat) (x : V), xs[i]? = some x → ∃ a, x = .ref a ∧ i < ns.length ∧ Li H a (cp (ns.getD i 0)) := by
  obtain ⟨as, h1, h2, h3⟩ := h
  refine ⟨_, h1, by rw [List.length_map]; exact h2, fun i x hx => ?_⟩
  rw [List.getElem?_map] at hx
  cases e : as[i]? with
  | none =>
    rw [e] at hx
    cases hx
  | some a =>
    rw [e] at hx
    have hi : i < ns.length := by
      have := (List.getElem?_eq_some_iff.mp e).1
      omega
    exact ⟨a, (Option.some.inj hx).symm, hi, h3 i a _ e (getD_some hi)⟩
theorem getD_mem' {ns : List Int} {i : Nat} (h : i < ns.length) : ns.getD i 0 ∈ ns := List.mem_of_getElem? (getD_some h)
section
variable {base : Heap} {mg : Str → Option Value} {K : PySem.W.Frag} {w : World} {P : Program}
theorem ok_opened {f : Addr} {fd : FuncData} (F : Fun K "opened" "opened" s_opened f fd) (T : T2 mg) (cT : Cal P w K mg base 4 "together" p_together spTog) (cM : Cal P w K mg base 1 "multiplied" p_multiplied spMc) : FnOk P w K mg base CX0 5 f fd p_opened spOpen := by
  refine F.ok sc_opened (fun vs H Q E h => ?_) (fun cdv A outer s H vs Q E hr h => ?_)
  · obtain ⟨lk, t, lw, ks, A, ws, W, rfl, _⟩ := h
    rfl
  · obtain ⟨lk, t, lw, ks, Am, ws, W, rfl, hk, ⟨⟨la, lo, ht, hA, hW⟩, W0⟩, hw, hok, hl, h20, bA, bW, bw, bT, bS, S0, k⟩ := h
    have nd := sc_opened.nd
    have r1 : Room 1 _ := hr.mono (by decide)
    have two : 2 ≤ sizeLine := by show 2 ≤ sizeLine; decide
    refine ⟨_, pss_cons (ps_asg (pv 1) (pg_tup rfl (pgs_cons (pg_name (i := 3) nd rfl (Or.inl rfl)) (pgs_cons (pg_name (i := 4) nd rfl (Or.inl rfl)) pgs_nil))))
      (pss_cons (ps_asg (pe_c cT hr (pa_cons (pv 0) (pa_cons (pv 3) (pa_cons (pv 2) pa_nil)))) (pg_tup rfl (pgs_cons (pg_name (i := 5) nd rfl (Or.inr rfl)) (pgs_cons (pg_name (i := 6) nd rfl (Or.inr rfl)) pgs_nil))))
      (pss_cons (ps_setLc (i := 7) (own := [("k", 8), ("one", 9)]) (g := gTup K 2 (gCons (gName 8) (gCons (gName 9) gNil))) (tt := tYes) (te := tIf (tTest (tOp (rIn K false) (tVar 8) (tVar 0))) (tCall spMc [] E0 (tCons (tVar 5) (tCons (tOp (rIxL K) (tVar 2) (tVar 8)) tNil))) (tCall spMc [] E0 (tCons (tVar 9) (tCons (tVar 6) tNil)))) rfl nd rfl rfl (sw_true rfl rfl rfl (by decide +kernel)) (pi_enum (by rfl) T.enu (pa_cons (pv 3) pa_nil)) (blkOk_by (N := n_opened) (sc := defScope s_opened) (by decide +kernel))
          (fun _ _ _ _ _ => pg_tup rfl (pgs_cons (pg_name (i := 8) nd rfl (Or.inl rfl)) (pgs_cons (pg_name (i := 9) nd rfl (Or.inl rfl)) pgs_nil))) (fun _ _ _ _ _ => pts_nil)
          (fun _ _ _ _ _ => pe_ifExp (pt_cmpR op_in_seq (pv 8) (pv 0) (by rfl)) (pe_c cM r1 (pa_cons (pv 5) (pa_cons (pe_ix ix_list (pv 2) (pv 8) (fun _ _ => rfl)) pa_nil))) (pe_c cM r1 (pa_cons (pv 9) (pa_cons (pv 6) pa_nil)))))
      (pss_one (ps_ret (pe_tup (pa_cons (pv 7) (pa_cons (pe_c cM r1 (pa_cons (pv 4) (pa_cons (pv 6) pa_nil))) pa_nil))))))), ?_⟩
    refine ⟨_, rfl, t, _, rfl, SqT.of ht, rfl, _, _, rfl, _, _, rfl, rfl, ?_⟩
    refine ⟨_, rfl, _, rfl, _, rfl, lk, la, lw, ks, Am, ws, rfl, hk, hA, hw, hok, hl, fun q x y H1 e1 hq hx hy => ?_⟩
    refine ⟨q, _, rfl, SqT.of hq, rfl, _, _, rfl, _, _, rfl, rfl, ?_⟩
    obtain ⟨xs, hxs, hxl, hxi⟩ := cs_items (hA.ex e1)
    obtain ⟨ys, hys, hyl, hyi⟩ := cs_items (hw.ex e1)
    refine ⟨_, rfl, la, _, rfl, SqL.of hxs, fun D hD => lc_it walk_enum (fun i H' => Evl.Ex H1 H' ∧ CsN H' D (openA Am ws ks) i) ⟨Evl.Ex.new hD, CsN.start upd_same⟩ (fun i H' _ q => SqL.of (q.1 _ _ hxs)) ?_ ?_⟩
    · rintro i v H2 H3 hi ⟨e2, hN⟩ ⟨t3, z, o, rfl, ht3, rfl, hz, ho⟩
      obtain rfl := (Option.some.inj hz).symm
      obtain ⟨a, rfl, hia, hLa⟩ := hxi i _ ho
      have e3 := Evl.Ex.new (o := .tup [.int (i : Nat), .ref a]) ht3
      have e23 := e2.trans e3
      refine ⟨t3, _, rfl, SqT.of upd_same, rfl, _, _, rfl, _, _, rfl, rfl, rfl, ?_⟩
      show tIf (tTest (tOp (rIn K false) (tVar 8) (tVar 0))) (tCall spMc [] E0 (tCons (tVar 5) (tCons (tOp (rIxL K) (tVar 2) (tVar 8)) tNil))) (tCall spMc [] E0 (tCons (tVar 9) (tCons (tVar 6) tNil))) _ _ _
      obtain ⟨as0, hD0, _⟩ := id hN
      have fin : ∀ (r : Addr) (H4 : Hp) (n : Int), upd H2 t3 (.tup [.int (i : Nat), .ref a]) r = none → Evl.Ex (upd H2 t3 (.tup [.int (i : Nat), .ref a])) H4 → Li H4 r (cp n) → (openA Am ws ks)[i]? = some n → ∃ acc, H4 D = some (.lst acc) ∧ acc.length < sizeLine ∧ Evl.Ex H1 (upd H4 D (.lst (acc ++ [.ref r]))) ∧ CsN (upd H4 D (.lst (acc ++ [.ref r]))) D (openA Am ws ks) (i + 1) := fun r H4 n hr4 e4 h4 hn => by
        obtain ⟨acc, a1, a2, a3⟩ := hN.more (e3.trans e4) (ne_of_none (e3 _ _ hD0) hr4).symm h4 hn (by omega)
        exact ⟨acc, a1, a2, Evl.Ex.mut (e23.trans e4) hD, a3⟩
      have hget : (openA Am ws ks)[i]? = some (if (i : Int) ∈ ks then (pick Am ks).sum * ws.getD i 0 else Am.getD i 0 * (pick ws ks).sum) := map_range_get hia
      refine ⟨_, rfl, _, rfl, lk, _, rfl, .inl (SqL.of (e23 _ _ (e1 _ _ hk))), rfl, flat_ints ks, _, rfl, ?_⟩
      have em : (if false = true then !inV (.int (i : Nat)) (iV ks) else inV (.int (i : Nat)) (iV ks)) = decide (((i : Nat) : Int) ∈ ks) := inV_ints _ _
      rw [em]
      by_cases hm : ((i : Nat) : Int) ∈ ks
      · rw [if_pos hm] at hget
        refine if_t (decide_eq_true hm) ?_
        have hiw : i < ws.length := by omega
        have hyx : ys[i]? = some ys[i] := List.getElem?_eq_getElem (by omega)
        obtain ⟨b, hb, _, hLb⟩ := hyi i _ hyx
        rw [hb] at hyx
        refine ⟨_, rfl, _, rfl, _, rfl, lw, _, _, _, rfl, rfl, SqL.of (e23 _ _ hys), atI_nat hyx, x, b, _, _, rfl, e23 _ _ hx, e23 _ _ hLb, bT, bw _ (getD_mem' hiw), fun r H4 hr4 e4 h4 => fin r H4 _ hr4 e4 h4 hget⟩
      · rw [if_neg hm] at hget
        refine if_f (decide_eq_false hm) ?_
        refine ⟨_, rfl, _, rfl, a, y, _, _, rfl, e23 _ _ hLa, e23 _ _ hy, bA _ (getD_mem' hia), bS, fun r H4 hr4 e4 h4 => fin r H4 _ hr4 e4 h4 hget⟩
    · rintro H2 ⟨e2, hN⟩
      rw [hxl, show Am.length = (openA Am ws ks).length by unfold openA; rw [List.length_map, List.length_range]] at hN
      have hC := hN.done
      have e12 := e1.trans e2
      refine ⟨_, rfl, _, rfl, _, rfl, lo, y, W, _, rfl, ?_, e2 _ _ hy, bW, bS, fun r H3 hr3 e3 h3 => ⟨two, fun q2 hq2 => ?_⟩⟩
      · rw [cp_n (by omega)]
        exact e12 _ _ hW
      have e4 := Evl.Ex.new (o := .tup [.ref D, .ref r]) hq2
      have WS : 0 < W * (pick ws ks).sum := Int.mul_pos W0 S0
      refine k q2 _ ((e12.trans e3).trans e4) ⟨⟨D, r, upd_same, (hC.ex e3).ex e4, ?_⟩, WS⟩
      have h5 : H3 r = some (.lst (iV (cp (W * (pick ws ks).sum)))) := h3
      rw [cp_n (Int.ne_of_gt WS)] at h5
      exact e4 _ _ h5
end
end V2


namespace V2
open PySem L2
open PySem.Spec PyProof.Rows
def pourA (A : List Int) (W k a : Int) : List Int := (List.range A.length).map fun (j : Nat) => if (j : Int) = k then A.getD j 0 + a * W else A.getD j 0
def spPour : Sp := fun vs H Q _ => ∃ (t : Addr) (A : List Int) (W k a : Int), vs = [.int k, .int a, .ref t] ∧ Wat H t A W ∧ A.length ≤ 20 ∧ Bn 4400 W ∧ Bn 4400 a ∧ ∀ t' H', Evl.Ex H H' → Wat H' t' (pourA A W k a) W → Q (.ref t') H'
/-- an element of a list of constants is not the list -/
theorem cs_ne {H : Hp} {l a : Addr} {as : List Addr} {i : Nat} {n : Int} (hl : H l = some (.lst (as.map V.ref))) (ha : as[i]? = some a) (h : Li H a (cp n)) : a ≠ l := by
  intro z
  have h : H a = some (.lst (iV (cp n))) := h
  rw [z, hl] at h
  injection h with h
  injection h with h
  have h2 := congrArg (fun x => x[i]?) h
  simp only [List.getElem?_map, ha] at h2
  have h2 : some (V.ref a) = (iV (cp n))[i]? := h2
  unfold iV at h2
  rw [List.getElem?_map] at h2
  cases e : (cp n)[i]? with
  | none =>
    rw [e] at h2
    cases h2
  | some x =>
    rw [e] at h2
    cases h2
/-- an element put anew -/
theorem cs_set {H : Hp} {l r : Addr} {as : List Addr} {ns : List Int} {j : Nat} {n : Int} (hl : H l = some (.lst (as.map V.ref))) (hlen : as.length = ns.length) (hat : ∀ (i : Nat) (a : Addr) (n : Int), as[i]? = some a → ns[i]? = some n → Li H a (cp n)) (hr : r ≠ l) (h : Li H r (cp n)) (hj : j < ns.length) :
    CsAt (upd H l (.lst ((as.map V.ref).set j (.ref r)))) l (ns.set j n) := by
  refine ⟨as.set j r, ?_, by rw [List.length_set, List.length_set, hlen], fun i a m ha hm => ?_⟩
  · rw [upd_same, List.map_set]
  · by_cases hij : j = i
    · subst hij
      rw [List.getElem?_set_self (by omega)] at ha hm
      cases ha
      cases hm
      exact Eq.trans (upd_ne hr) h
    · rw [List.getElem?_set_ne hij] at ha hm
      have h3 := hat i a m ha hm
      exact Eq.trans (upd_ne (cs_ne hl ha h3)) h3
section
variable {base : Heap} {mg : Str → Option Value} {K : PySem.W.Frag} {w : World} {P : Program}
theorem ok_poured {f : Addr} {fd : FuncData} (F : Fun K "poured" "poured" s_poured f fd) (T : T2 mg) (cC : Cal P w K mg base 1 "cut" p_cut (spTrim K)) (cM : Cal P w K mg base 1 "multiplied" p_multiplied spMc) (cA : Cal P w K mg base 2 "added" p_added spAc) : FnOk P w K mg base CX0 3 f fd p_poured spPour := by
  refine F.ok sc_poured (fun vs H Q E h => ?_) (fun cdv A outer s H vs Q E hr h => ?_)
  · obtain ⟨t, A, W, k, a, rfl, _⟩ := h
    rfl
  · obtain ⟨t, Am, W, j, x, rfl, ⟨⟨la, lo, ht, hA, hW⟩, W0⟩, h20, bW, bx, k⟩ := h
    have nd := sc_poured.nd
    have r1 : Room 1 _ := hr.mono (by decide)
    have one : 1 ≤ sizeLine := by show 1 ≤ sizeLine; decide
    have two : 2 ≤ sizeLine := by show 2 ≤ sizeLine; decide
    refine ⟨_, pss_cons (ps_asg (pv 2) (pg_tup rfl (pgs_cons (pg_name (i := 3) nd rfl (Or.inl rfl)) (pgs_cons (pg_name (i := 4) nd rfl (Or.inl rfl)) pgs_nil))))
      (pss_cons (ps_set (i := 5) nd rfl (Or.inr rfl) (pe_c cM r1 (pa_cons (pe_c cC r1 (pa_cons (pe_lst (pa_cons (pv 1) pa_nil)) pa_nil)) (pa_cons (pv 4) pa_nil))))
      (pss_one (ps_ret (pe_tup (pa_cons (pe_lc (own := [("k", 6), ("one", 7)]) (g := gTup K 2 (gCons (gName 6) (gCons (gName 7) gNil))) (tt := tYes) (te := tIf (tTest (tOp rEq (tVar 6) (tVar 0))) (tCall spAc [] E0 (tCons (tVar 7) (tCons (tVar 5) tNil))) (tVar 7)) rfl nd (pi_enum (by rfl) T.enu (pa_cons (pv 3) pa_nil)) (blkOk_by (N := n_poured) (sc := defScope s_poured) (by decide +kernel))
          (fun _ _ _ _ _ => pg_tup rfl (pgs_cons (pg_name (i := 6) nd rfl (Or.inl rfl)) (pgs_cons (pg_name (i := 7) nd rfl (Or.inl rfl)) pgs_nil))) (fun _ _ _ _ _ => pts_nil)
          (fun _ _ _ _ _ => pe_ifExp (pt_cmpR op_eq (pv 6) (pv 0) (nomark _)) (pe_c cA hr (pa_cons (pv 7) (pa_cons (pv 5) pa_nil))) (pv 7))) (pa_cons (pv 4) pa_nil)))))), ?_⟩
    refine ⟨_, rfl, t, _, rfl, SqT.of ht, rfl, _, _, rfl, _, _, rfl, rfl, ?_⟩
    refine ⟨_, rfl, one, fun r0 hr0 => ⟨r0, [x], rfl, SqL.of upd_same, by show 1 ≤ 1000; decide, fun r H1 hr1 e1 h1 => ?_⟩⟩
    rw [trm_1] at h1
    have e01 := (Evl.Ex.new (o := .lst [.int x]) hr0).trans e1
    refine ⟨_, rfl, r, lo, x, W, rfl, h1, ?_, bx, bW, fun y H2 hy e2 h2 => ?_⟩
    · rw [cp_n (by omega)]
      exact e01 _ _ hW
    have e02 := e01.trans e2
    have hA2 := hA.ex e02
    obtain ⟨xs, hxs, hxl, hxi⟩ := cs_items hA2
    refine ⟨_, rfl, la, _, rfl, SqL.of hxs, fun D hD => lc_it walk_enum (fun i H' => Evl.Ex H2 H' ∧ CsN H' D (pourA Am W j x) i) ⟨Evl.Ex.new hD, CsN.start upd_same⟩ (fun i H' _ q => SqL.of (q.1 _ _ hxs)) ?_ ?_⟩
    · rintro i v H3 H4 hi ⟨e3, hN⟩ ⟨t3, z, o, rfl, ht3, rfl, hz, ho⟩
      obtain rfl := (Option.some.inj hz).symm
      obtain ⟨a, rfl, hia, hLa⟩ := hxi i _ ho
      have e4 := Evl.Ex.new (o := .tup [.int (i : Nat), .ref a]) ht3
      have e34 := e3.trans e4
      refine ⟨t3, _, rfl, SqT.of upd_same, rfl, _, _, rfl, _, _, rfl, rfl, rfl, ?_⟩
      show tIf (tTest (tOp rEq (tVar 6) (tVar 0))) (tCall spAc [] E0 (tCons (tVar 7) (tCons (tVar 5) tNil))) (tVar 7) _ _ _
      obtain ⟨as0, hD0, _⟩ := id hN
      have hget : (pourA Am W j x)[i]? = some (if (i : Int) = j then Am.getD i 0 + x * W else Am.getD i 0) := map_range_get hia
      refine ⟨_, rfl, _, rfl, rfl, _, rfl, ?_⟩
      by_cases hm : ((i : Nat) : Int) = j
      · rw [if_pos hm] at hget
        refine if_t (decide_eq_true (by rw [hm])) ?_
        refine ⟨_, rfl, _, rfl, a, y, _, _, rfl, e34 _ _ hLa, e34 _ _ h2, fun r H5 hr5 e5 h5 => ?_⟩
        obtain ⟨acc, a1, a2, a3⟩ := hN.more (e4.trans e5) (ne_of_none (e4 _ _ hD0) hr5).symm h5 hget (by omega)
        exact ⟨acc, a1, a2, Evl.Ex.mut (e34.trans e5) hD, a3⟩
      · rw [if_neg hm] at hget
        refine if_f (decide_eq_false fun z => hm (by injection z)) ?_
        obtain ⟨acc, a1, a2, a3⟩ := hN.more e4 (ne_of_none (show H2 a = some _ from hLa) hD) (e34 _ _ hLa) hget (by omega)
        exact ⟨_, rfl, acc, a1, a2, Evl.Ex.mut e34 hD, a3⟩
    · rintro H3 ⟨e3, hN⟩
      rw [hxl, show Am.length = (pourA Am W j x).length by unfold pourA; rw [List.length_map, List.length_range]] at hN
      have hC := hN.done
      refine ⟨_, rfl, two, fun q hq => ?_⟩
      have e5 := Evl.Ex.new (o := .tup [.ref D, .ref lo]) hq
      exact k q _ ((e02.trans e3).trans e5) ⟨⟨D, lo, upd_same, hC.ex e5, e5 _ _ (e3 _ _ (e02 _ _ hW))⟩, W0⟩
end
end V2


namespace V2
open PySem L2
open PySem.Spec PyProof.Rows
def oV : Option Int → V
  | none => .non
  | some m => .int m
/-- the amounts when p of q of tank k are taken, put into the tank o -/
def takeA (A : List Int) (k p q : Int) (o : Option Int) : List Int :=
  let B := (A.map (· * q)).set k.toNat (A.getD k.toNat 0 * (q - p))
  match o with
  | none => B
  | some m => B.set m.toNat (B.getD m.toNat 0 + A.getD k.toNat 0 * p)
def spTake : Sp := fun vs H Q _ => ∃ (f t : Addr) (A : List Int) (W k p q : Int) (o : Option Int), vs = [.int k, oV o, .ref f, .ref t] ∧ Wat H t A W ∧ A.length ≤ 20 ∧ (∀ x ∈ A, Bn 4400 x) ∧ Bn 4400 W ∧ Fr H f p q ∧ Pt p q ∧ (0 ≤ k ∧ k < A.length) ∧
  (∀ m, o = some m → 0 ≤ m ∧ m < A.length) ∧ ∀ t' H', Evl.Ex H H' → Wat H' t' (takeA A k p q o) (W * q) → Q (.ref t') H'
section
variable {base : Heap} {mg : Str → Option Value} {K : PySem.W.Frag} {w : World} {P : Program}
theorem ok_taken {f : Addr} {fd : FuncData} (F : Fun K "taken" "taken" s_taken f fd) (cC : Cal P w K mg base 1 "cut" p_cut (spTrim K)) (cM : Cal P w K mg base 1 "multiplied" p_multiplied spMc) (cA : Cal P w K mg base 2 "added" p_added spAc) : FnOk P w K mg base CX0 3 f fd p_taken spTake := by
  refine F.ok sc_taken (fun vs H Q E h => ?_) (fun cdv A outer s H vs Q E hr h => ?_)
  · obtain ⟨g, t, A, W, k, p, q, o, rfl, _⟩ := h
    rfl
  · obtain ⟨g, t, Am, W, j, p, q, o, rfl, ⟨⟨la, lo, ht, hA, hW⟩, W0⟩, h20, bA, bW, hg, ⟨p0, pq, hQn⟩, ⟨j0, j1⟩, hm, k⟩ := h
    have nd := sc_taken.nd
    have r1 : Room 1 _ := hr.mono (by decide)
    have one : 1 ≤ sizeLine := by show 1 ≤ sizeLine; decide
    have two : 2 ≤ sizeLine := by show 2 ≤ sizeLine; decide
    obtain ⟨q0, qc, pb, qb⟩ := hQn
    have bq : Bn 4400 q := Nat.lt_of_lt_of_le qb (Nat.pow_le_pow_right (by decide) (by decide))
    have bp : Bn 4400 p := Nat.lt_of_lt_of_le pb (Nat.pow_le_pow_right (by decide) (by decide))
    have bqp : Bn 4400 (q - p) := Nat.lt_of_le_of_lt (show (q - p).natAbs ≤ q.natAbs by omega) bq
    refine ⟨_, pss_cons (ps_asg (pv 3) (pg_tup rfl (pgs_cons (pg_name (i := 4) nd rfl (Or.inl rfl)) (pgs_cons (pg_name (i := 5) nd rfl (Or.inl rfl)) pgs_nil))))
      (pss_cons (ps_asg (pv 2) (pg_tup rfl (pgs_cons (pg_name (i := 6) nd rfl (Or.inl rfl)) (pgs_cons (pg_name (i := 7) nd rfl (Or.inr rfl)) pgs_nil))))
      (pss_cons (ps_setLc (i := 8) (own := [("one", 9)]) (g := gName 9) (tt := tYes) (te := tCall spMc [] E0 (tCons (tVar 9) (tCons (tLst (tCons (tVar 7) tNil)) tNil))) rfl nd rfl rfl (sw_true rfl rfl rfl (by decide +kernel)) (pi_list (pv 4)) (blkOk_by (N := n_taken) (sc := defScope s_taken) (by decide +kernel)) (fun _ _ _ _ _ => pg_name (i := 9) nd rfl (Or.inl rfl)) (fun _ _ _ _ _ => pts_nil)
          (fun _ _ _ _ _ => pe_c cM r1 (pa_cons (pv 9) (pa_cons (pe_lst (pa_cons (pv 7) pa_nil)) pa_nil))))
      (pss_cons (ps_asg (pe_c cM r1 (pa_cons (pe_ix ix_list (pv 4) (pv 0) (fun _ _ => rfl)) (pa_cons (pe_c cC r1 (pa_cons (pe_lst (pa_cons (pe_op op_sub (pv 7) (pv 6)) pa_nil)) pa_nil)) pa_nil))) (pg_sub (pv 8) (pv 0) set_list))
      (Evl.pss_cut (ps_if (pt_cmp (pc_notN (pv 1))) (pss_one (ps_asg (pe_c cA hr (pa_cons (pe_ix ix_list (pv 8) (pv 1) (fun _ _ => rfl)) (pa_cons (pe_c cM r1 (pa_cons (pe_ix ix_list (pv 4) (pv 0) (fun _ _ => rfl)) (pa_cons (pe_c cC r1 (pa_cons (pe_lst (pa_cons (pv 6) pa_nil)) pa_nil)) pa_nil))) pa_nil))) (pg_sub (pv 8) (pv 1) set_list))) pss_nil)
      (pss_one (ps_ret (pe_tup (pa_cons (pv 8) (pa_cons (pe_c cM r1 (pa_cons (pv 5) (pa_cons (pe_lst (pa_cons (pv 7) pa_nil)) pa_nil))) pa_nil))))))))), ?_⟩
    refine ⟨_, rfl, t, _, rfl, SqT.of ht, rfl, _, _, rfl, _, _, rfl, rfl, ?_⟩
    refine ⟨_, rfl, g, _, rfl, SqT.of hg, rfl, _, _, rfl, _, _, rfl, rfl, ?_⟩
    obtain ⟨xs, hxs, hxl, hxi⟩ := cs_items hA
    have hjn : j.toNat < Am.length := by omega
    obtain ⟨jn, rfl⟩ : ∃ n : Nat, j = n := ⟨j.toNat, by omega⟩
    rw [Int.toNat_natCast] at hjn
    have hxj : xs[jn]? = some xs[jn] := List.getElem?_eq_getElem (by omega)
    obtain ⟨aj, haj, _, hLj⟩ := hxi jn _ hxj
    rw [haj] at hxj
    have bAj := bA _ (getD_mem' hjn)
    refine ⟨_, rfl, la, rfl, ⟨_, SqL.of hxs⟩, fun D hD => lc_list (xs := xs) (fun i H' => Evl.Ex H H' ∧ CsN H' D (Am.map (· * q)) i) ⟨Evl.Ex.new hD, CsN.start upd_same⟩ (fun i H' _ z => SqL.of (z.1 _ _ hxs)) ?_ ?_⟩
    · rintro i v H2 hi ⟨e2, hN⟩
      obtain ⟨a, rfl, hia, hLa⟩ := hxi i _ hi
      refine ⟨rfl, ?_⟩
      show tCall spMc [] E0 (tCons (tVar 9) (tCons (tLst (tCons (tVar 7) tNil)) tNil)) _ _ _
      obtain ⟨as0, hD0, _⟩ := id hN
      have hget : (Am.map (· * q))[i]? = some (Am.getD i 0 * q) := by
        rw [List.getElem?_map, getD_some hia]
        rfl
      refine ⟨_, rfl, _, rfl, one, fun r0 hr0 => ⟨a, r0, Am.getD i 0, q, rfl, Evl.Ex.new hr0 _ _ (e2 _ _ hLa), ?_, bA _ (getD_mem' hia), bq, fun r H4 hr4 e4 h4 => ?_⟩⟩
      · rw [cp_n (by omega)]
        exact upd_same
      · have e3 := Evl.Ex.new (o := .lst [.int q]) hr0
        obtain ⟨acc, a1, a2, a3⟩ := hN.more (e3.trans e4) (ne_of_none (e3 _ _ hD0) hr4).symm h4 hget (by omega)
        exact ⟨acc, a1, a2, Evl.Ex.mut ((e2.trans e3).trans e4) hD, a3⟩
    · rintro H2 ⟨e2, hN⟩
      rw [hxl, show Am.length = (Am.map (· * q)).length by rw [List.length_map]] at hN
      obtain ⟨as, hDa, hDl, hDi⟩ := hN.done
      -- found[tank]
      refine ⟨_, rfl, _, rfl, la, xs, _, _, rfl, rfl, SqL.of (e2 _ _ hxs), atI_nat hxj, _, rfl, _, rfl, _, _, rfl, rfl, one, fun r0 hr0 => ⟨r0, [q - p], rfl, SqL.of upd_same, by show 1 ≤ 1000; decide, fun r1' H3 hr3 e3 h3 => ?_⟩⟩
      rw [trm_1] at h3
      have e23 := (Evl.Ex.new (o := .lst [.int (q - p)]) hr0).trans e3
      have e03 := e2.trans e23
      refine ⟨aj, r1', _, _, rfl, e03 _ _ hLj, h3, bAj, bqp, fun r2 H4 hr4 e4 h4 => ?_⟩
      have e24 := e23.trans e4
      have e04 := e2.trans e24
      have hD4 : H4 D = some (.lst (as.map V.ref)) := e24 _ _ hDa
      have r2D : r2 ≠ D := (ne_of_none (e23 _ _ hDa) hr4).symm
      have hDi4 : ∀ (i : Nat) (a : Addr) (n : Int), as[i]? = some a → (Am.map (· * q))[i]? = some n → Li H4 a (cp n) := fun i a n x y => e24 _ _ (hDi i a n x y)
      have hset := cs_set (r := r2) (j := jn) hD4 hDl hDi4 r2D h4 (by rw [List.length_map]; exact hjn)
      refine ⟨_, rfl, _, rfl, D, _, _, jn, rfl, rfl, hD4, Evl.ixN_nat (by rw [List.length_map, hDl, List.length_map]; exact hjn), ?_⟩
      have x5 : Evl.Ex H (upd H4 D (.lst ((as.map V.ref).set jn (.ref r2)))) := Evl.Ex.mut e04 hD
      generalize upd H4 D (.lst ((as.map V.ref).set jn (.ref r2))) = H5 at hset x5
      -- the other tank
      refine ⟨fun σ H' => Evl.Ex H H' ∧ σ = [some (.int (jn : Int)), some (oV o), some (.ref g), some (.ref t), some (.ref la), some (.ref lo), some (.int p), some (.int q), some (.ref D), none] ∧ CsAt H' D (takeA Am jn p q o), ?_, ?_⟩
      · refine ⟨_, rfl, _, rfl, ?_⟩
        cases o with
        | none => exact ⟨x5, rfl, by unfold takeA; rw [Int.toNat_natCast]; exact hset⟩
        | some m =>
          obtain ⟨m0, m1⟩ := hm m rfl
          obtain ⟨mn, rfl⟩ : ∃ n : Nat, m = n := ⟨m.toNat, by omega⟩
          have hmn : mn < Am.length := by omega
          obtain ⟨bs, hDb, hDbl, hDbi⟩ := id hset
          have hBl : ((Am.map (· * q)).set jn (Am.getD jn 0 * (q - p))).length = Am.length := by rw [List.length_set, List.length_map]
          have hbm : bs[mn]? = some bs[mn] := List.getElem?_eq_getElem (by rw [hDbl, hBl]; exact hmn)
          have hbL := hDbi mn _ _ hbm (getD_some (by rw [hBl]; exact hmn))
          refine ⟨_, rfl, _, rfl, D, _, _, _, rfl, rfl, SqL.of hDb, atI_nat (by rw [List.getElem?_map, hbm]; rfl), ?_⟩
          refine ⟨_, rfl, _, rfl, la, xs, _, _, rfl, rfl, SqL.of (x5 _ _ hxs), atI_nat hxj, _, rfl, one, fun s0 hs0 => ⟨s0, [p], rfl, SqL.of upd_same, by show 1 ≤ 1000; decide, fun s1 H6 hs6 e6 h6 => ?_⟩⟩
          rw [trm_1] at h6
          have e56 := (Evl.Ex.new (o := .lst [.int p]) hs0).trans e6
          refine ⟨aj, s1, _, _, rfl, e56 _ _ (x5 _ _ hLj), h6, bAj, bp, fun s2 H7 hs7 e7 h7 => ?_⟩
          have e57 := e56.trans e7
          refine ⟨bs[mn], s2, _, _, rfl, e57 _ _ hbL, h7, fun s3 H8 hs8 e8 h8 => ?_⟩
          have e58 := e57.trans e8
          have hD8 : H8 D = some (.lst (bs.map V.ref)) := e58 _ _ hDb
          have s3D : s3 ≠ D := (ne_of_none (e57 _ _ hDb) hs8).symm
          have hset2 := cs_set (r := s3) (j := mn) hD8 hDbl (fun i a n x y => e58 _ _ (hDbi i a n x y)) s3D h8 (by rw [hBl]; exact hmn)
          refine ⟨_, rfl, _, rfl, D, _, _, mn, rfl, rfl, hD8, Evl.ixN_nat (by rw [List.length_map, hDbl, hBl]; exact hmn), ?_⟩
          refine ⟨Evl.Ex.mut (x5.trans e58) hD, rfl, ?_⟩
          unfold takeA
          rw [Int.toNat_natCast]
          exact hset2
      · rintro σ H6 ⟨e6, rfl, hC⟩
        refine ⟨_, rfl, _, rfl, _, rfl, one, fun r0 hr0 => ⟨lo, r0, W, q, rfl, ?_, ?_, bW, bq, fun y H7 hy e7 h7 => ⟨two, fun z hz => ?_⟩⟩⟩
        · rw [cp_n (by omega)]
          exact Evl.Ex.new hr0 _ _ (e6 _ _ hW)
        · rw [cp_n (by omega)]
          exact upd_same
        · have e67 := (Evl.Ex.new (o := .lst [.int q]) hr0).trans e7
          have e8 := Evl.Ex.new (o := .tup [.ref D, .ref y]) hz
          have Wq : 0 < W * q := Int.mul_pos W0 q0
          have h7 : H7 y = some (.lst (iV (cp (W * q)))) := h7
          rw [cp_n (Int.ne_of_gt Wq)] at h7
          exact k z _ ((e6.trans e67).trans e8) ⟨⟨D, y, upd_same, (hC.ex e67).ex e8, e8 _ _ h7⟩, Wq⟩
end
end V2


namespace V2
open PySem L2
open PySem.Spec PyProof.Rows
/-- what a step does -/
def stepA (ws : List Int) (S : List Int × Int) : Deed → List Int × Int
  | .op ks => (openA S.1 ws ks, S.2 * (pick ws ks).sum)
  | .po k a => (pourA S.1 S.2 k a, S.2)
  | .sc k p q => (takeA S.1 k p q none, S.2 * q)
  | .mv k m p q => (takeA S.1 k p q (some m), S.2 * q)
  | .un _ _ => S
theorem bn_sum {N : Nat} : ∀ xs : List Int, (∀ x ∈ xs, Bn N x) → xs.sum.natAbs ≤ xs.length * 2 ^ N
  | [], _ => by simp
  | x :: r, h => by
    have h1 := bn_sum r fun y hy => h y (List.mem_cons_of_mem _ hy)
    have h2 : x.natAbs < 2 ^ N := h x List.mem_cons_self
    have h3 : (x :: r).sum = x + r.sum := List.sum_cons
    rw [h3, List.length_cons, Nat.succ_mul r.length (2 ^ N)]
    omega
theorem bn_sum20 {N : Nat} {xs : List Int} (h : ∀ x ∈ xs, Bn N x) (hl : xs.length ≤ 20) : Bn (N + 5) xs.sum := by
  have h1 := bn_sum xs h
  have h2 := Nat.mul_le_mul_right (2 ^ N) hl
  have h3 : (2 : Nat) ^ (N + 5) = 32 * 2 ^ N := by rw [Nat.pow_add, Nat.mul_comm]
  have h4 : 0 < 2 ^ N := Nat.pow_pos (by decide)
  unfold Bn
  omega
theorem pick_mem {ns ks : List Int} (hok : okK ns.length ks) {x : Int} (h : x ∈ pick ns ks) : x ∈ ns := by
  unfold pick at h
  obtain ⟨k, hk, rfl⟩ := List.mem_map.mp h
  obtain ⟨k0, k1⟩ := hok.2 k hk
  exact getD_mem' (by omega)
theorem pick_len (ns ks : List Int) : (pick ns ks).length = ks.length := by unfold pick; rw [List.length_map]
theorem sum_pos : ∀ {xs : List Int}, xs ≠ [] → (∀ x ∈ xs, 0 < x) → 0 < xs.sum
  | [], h, _ => absurd rfl h
  | [x], _, h => by
    have := h x List.mem_cons_self
    simpa using this
  | x :: y :: r, _, h => by
    have h1 := sum_pos (xs := y :: r) (by simp) fun z hz => h z (List.mem_cons_of_mem _ hz)
    have h2 := h x List.mem_cons_self
    rw [List.sum_cons]
    omega
/-- the state of the water: amounts from 0 on, of at most N bits -/
structure OkW (N : Nat) (A : List Int) (W : Int) : Prop where
  nn : ∀ x ∈ A, 0 ≤ x
  bA : ∀ x ∈ A, Bn N x
  bW : Bn N W
  pos : 0 < W
structure OkV (n : Nat) (ws : List Int) : Prop where
  len : ws.length = n
  pos : ∀ x ∈ ws, 0 < x
  bit : ∀ x ∈ ws, Bn 60 x
def spAfter : Sp := fun vs H Q _ => ∃ (s t lw : Addr) (d : Deed) (A ws : List Int) (W : Int) (N : Nat), vs = [.ref s, .ref t, .ref lw] ∧ DAt H s d ∧ okD A.length d ∧ (∀ k a, d = .po k a → Bn 60 a) ∧ Wat H t A W ∧ CsAt H lw ws ∧ A.length ≤ 20 ∧ OkV A.length ws ∧ OkW N A W ∧ N ≤ 4300 ∧
  ∀ t' H', Evl.Ex H H' → Wat H' t' (stepA ws (A, W) d).1 (stepA ws (A, W) d).2 → Q (.ref t') H'
/-- the level of a tank -/
def lvl (A ws : List Int) (W b : Int) (i : Nat) : Int × Int := fr (A.getD i 0 * b) (W * ws.getD i 0)
def FmAt (H : Hp) (l : Addr) (fs : List (Int × Int)) : Prop := ∃ as : List Addr, H l = some (.lst (as.map V.ref)) ∧ as.length = fs.length ∧ ∀ (i : Nat) (a : Addr) (f : Int × Int), as[i]? = some a → fs[i]? = some f → ∃ x y, H a = some (.tup [.ref x, .ref y]) ∧ Li H x (cp f.1) ∧ Li H y [f.2]
def spLev : Sp := fun vs H Q _ => ∃ (t lw : Addr) (A ws : List Int) (W b : Int) (N : Nat), vs = [.ref t, .ref lw, .int b] ∧ Wat H t A W ∧ CsAt H lw ws ∧ A.length ≤ 20 ∧ OkV A.length ws ∧ OkW N A W ∧ N ≤ 4300 ∧ 0 < b ∧ Bn 50 b ∧
  ∀ D H', H D = none → Evl.Ex H H' → FmAt H' D ((List.range A.length).map (lvl A ws W b)) → Q (.ref D) H'
section
variable {base : Heap} {mg : Str → Option Value} {K : PySem.W.Frag} {w : World} {P : Program}
theorem ok_after {f : Addr} {fd : FuncData} (F : Fun K "after" "after" s_after f fd) (cO : Cal P w K mg base 5 "opened" p_opened spOpen) (cP : Cal P w K mg base 3 "poured" p_poured spPour) (cT : Cal P w K mg base 3 "taken" p_taken spTake) : FnOk P w K mg base CX0 6 f fd p_after spAfter := by
  refine F.ok sc_after (fun vs H Q E h => ?_) (fun cdv A outer s H vs Q E hr h => ?_)
  · obtain ⟨s, t, lw, d, A, ws, W, N, rfl, _⟩ := h
    rfl
  · obtain ⟨s, t, lw, d, Am, ws, W, N, rfl, hd, hok, hpo, hWt, hw, h20, hV, hW, hN, k⟩ := h
    have nd := sc_after.nd
    have r3 : Room 3 _ := hr.mono (by decide)
    refine ⟨_, pss_cons (ps_set (i := 3) nd rfl (Or.inl rfl) (pe_ix ix_tup (pv 0) pe_int (fun _ _ => rfl)))
      (pss_cons (ps_if (pt_cmpR op_eq (pv 3) pe_str (nomark _)) (pss_one (ps_ret (pe_c cO hr (pa_cons (pe_ix ix_tup (pv 0) pe_int (fun _ _ => rfl)) (pa_cons (pv 1) (pa_cons (pv 2) pa_nil)))))) pss_nil)
      (pss_cons (ps_if (pt_cmpR op_eq (pv 3) pe_str (nomark _)) (pss_one (ps_ret (pe_c cP r3 (pa_cons (pe_ix ix_tup (pv 0) pe_int (fun _ _ => rfl)) (pa_cons (pe_ix ix_tup (pv 0) pe_int (fun _ _ => rfl)) (pa_cons (pv 1) pa_nil)))))) pss_nil)
      (pss_cons (ps_if (pt_cmpR op_eq (pv 3) pe_str (nomark _)) (pss_one (ps_ret (pe_c cT r3 (pa_cons (pe_ix ix_tup (pv 0) pe_int (fun _ _ => rfl)) (pa_cons pe_non (pa_cons (pe_ix ix_tup (pv 0) pe_int (fun _ _ => rfl)) (pa_cons (pv 1) pa_nil))))))) pss_nil)
      (pss_cons (ps_if (pt_cmpR op_eq (pv 3) pe_str (nomark _)) (pss_one (ps_ret (pe_c cT r3 (pa_cons (pe_ix ix_tup (pv 0) pe_int (fun _ _ => rfl)) (pa_cons (pe_ix ix_tup (pv 0) pe_int (fun _ _ => rfl)) (pa_cons (pe_ix ix_tup (pv 0) pe_int (fun _ _ => rfl)) (pa_cons (pv 1) pa_nil))))))) pss_nil)
      (pss_one (ps_ret (pv 1))))))), ?_⟩
    cases d with
    | op ks =>
      obtain ⟨l, ha, hl⟩ := hd
      obtain ⟨h2, hk20, _, hks⟩ := hok
      have ok1 : okK Am.length ks := ⟨hk20, hks⟩
      have ok2 : okK ws.length ks := by rw [hV.len]; exact ok1
      have l20 : ∀ ns : List Int, (pick ns ks).length ≤ 20 := fun ns => by rw [pick_len]; exact hk20
      refine ⟨_, rfl, s, _, _, _, rfl, rfl, SqT.of ha, rfl, _, rfl, rfl, _, rfl, if_t (by decide) ?_⟩
      refine ⟨_, rfl, s, _, _, _, rfl, rfl, SqT.of ha, rfl, _, rfl, _, rfl, l, t, lw, ks, Am, ws, W, rfl, hl, hWt, hw, ok1, hV.len, h20, fun x hx => (hW.bA x hx).le (by omega), hW.bW.le (by omega), fun x hx => (hV.bit x hx).le (by decide), ?_, ?_, ?_, k⟩
      · exact (bn_sum20 (fun x hx => hW.bA x (pick_mem ok1 hx)) (l20 _)).le (by omega)
      · exact (bn_sum20 (fun x hx => hV.bit x (pick_mem ok2 hx)) (l20 _)).le (by decide)
      · refine sum_pos (fun z => ?_) fun x hx => hV.pos x (pick_mem ok2 hx)
        have := congrArg List.length z
        rw [pick_len, List.length_nil] at this
        omega
    | po j x =>
      have ha : H s = some (.tup [.str "pour", .int j, .int x]) := hd
      refine ⟨_, rfl, s, _, _, _, rfl, rfl, SqT.of ha, rfl, _, rfl, rfl, _, rfl, if_f (by decide) ?_⟩
      refine ⟨_, rfl, rfl, _, rfl, if_t (by decide) ?_⟩
      exact ⟨_, rfl, s, _, _, _, rfl, rfl, SqT.of ha, rfl, _, rfl, s, _, _, _, rfl, rfl, SqT.of ha, rfl, _, rfl, t, Am, W, j, x, rfl, hWt, h20, hW.bW.le (by omega), (hpo j x rfl).le (by decide), k⟩
    | sc j p q =>
      obtain ⟨g, ha, hg⟩ := hd
      refine ⟨_, rfl, s, _, _, _, rfl, rfl, SqT.of ha, rfl, _, rfl, rfl, _, rfl, if_f (by decide) ?_⟩
      refine ⟨_, rfl, rfl, _, rfl, if_f (by decide) ?_⟩
      refine ⟨_, rfl, rfl, _, rfl, if_t (by decide) ?_⟩
      exact ⟨_, rfl, s, _, _, _, rfl, rfl, SqT.of ha, rfl, _, rfl, s, _, _, _, rfl, rfl, SqT.of ha, rfl, _, rfl, g, t, Am, W, j, p, q, none, rfl, hWt, h20, fun x hx => (hW.bA x hx).le (by omega), hW.bW.le (by omega), hg, hok.2, hok.1, fun m hm => (by cases hm), k⟩
    | mv j m p q =>
      obtain ⟨g, ha, hg⟩ := hd
      refine ⟨_, rfl, s, _, _, _, rfl, rfl, SqT.of ha, rfl, _, rfl, rfl, _, rfl, if_f (by decide) ?_⟩
      refine ⟨_, rfl, rfl, _, rfl, if_f (by decide) ?_⟩
      refine ⟨_, rfl, rfl, _, rfl, if_f (by decide) ?_⟩
      refine ⟨_, rfl, rfl, _, rfl, if_t (by decide) ?_⟩
      exact ⟨_, rfl, s, _, _, _, rfl, rfl, SqT.of ha, rfl, _, rfl, s, _, _, _, rfl, rfl, SqT.of ha, rfl, _, rfl, s, _, _, _, rfl, rfl, SqT.of ha, rfl, _, rfl, g, t, Am, W, j, p, q, some m, rfl, hWt, h20, fun x hx => (hW.bA x hx).le (by omega), hW.bW.le (by omega), hg, hok.2.2.2, hok.1, fun m' hm => (by cases hm; exact hok.2.1), k⟩
    | un j m =>
      have ha : H s = some (.tup [.str "unless", .int j, .int m]) := hd
      refine ⟨_, rfl, s, _, _, _, rfl, rfl, SqT.of ha, rfl, _, rfl, rfl, _, rfl, if_f (by decide) ?_⟩
      refine ⟨_, rfl, rfl, _, rfl, if_f (by decide) ?_⟩
      refine ⟨_, rfl, rfl, _, rfl, if_f (by decide) ?_⟩
      refine ⟨_, rfl, rfl, _, rfl, if_f (by decide) ?_⟩
      exact ⟨_, rfl, k t H (Evl.Ex.refl _) hWt⟩
end
end V2


namespace V2
open PySem L2
open PySem.Spec PyProof.Rows
/-- while the list of forms at D is being made -/
def FmN (H : Hp) (D : Addr) (fs : List (Int × Int)) (i : Nat) : Prop := ∃ as : List Addr, H D = some (.lst (as.map V.ref)) ∧ as.length = i ∧ ∀ (j : Nat) (a : Addr) (f : Int × Int), as[j]? = some a → fs[j]? = some f → ∃ x y, a ≠ D ∧ x ≠ D ∧ y ≠ D ∧ H a = some (.tup [.ref x, .ref y]) ∧ Li H x (cp f.1) ∧ Li H y [f.2]
theorem FmN.start {H : Hp} {D : Addr} {fs : List (Int × Int)} (h : H D = some (.lst [])) : FmN H D fs 0 := ⟨[], h, rfl, fun j a n h => by cases h⟩
theorem FmN.more {H2 H3 : Hp} {D r x y : Addr} {fs : List (Int × Int)} {i : Nat} {f : Int × Int} (h : FmN H2 D fs i) (e : Evl.Ex H2 H3) (hx : x ≠ D) (hy : y ≠ D) (hr : H3 r = some (.tup [.ref x, .ref y])) (h3 : Li H3 x (cp f.1)) (h4 : Li H3 y [f.2]) (hn : fs[i]? = some f) (hi : i ≤ 100) :
    ∃ acc, H3 D = some (.lst acc) ∧ acc.length < sizeLine ∧ FmN (upd H3 D (.lst (acc ++ [.ref r]))) D fs (i + 1) := by
  obtain ⟨as, h1, h2, h5⟩ := h
  have h1' := e _ _ h1
  have rD : r ≠ D := ne_of hr h1' (fun z => by cases z)
  refine ⟨_, h1', ?_, as ++ [r], ?_, ?_, fun j a m ha hm => ?_⟩
  · rw [List.length_map, h2]
    exact Nat.lt_of_le_of_lt hi (by decide)
  · rw [upd_same, List.map_append]
    rfl
  · rw [List.length_append, h2]
    rfl
  · rcases get_app ha with ⟨h6, _⟩ | ⟨h6, rfl⟩
    · obtain ⟨x', y', n1, n2, n3, g1, g2, g3⟩ := h5 j a m h6 hm
      exact ⟨x', y', n1, n2, n3, by rw [upd_ne n1]; exact e _ _ g1, Eq.trans (upd_ne n2) (e _ _ g2), Eq.trans (upd_ne n3) (e _ _ g3)⟩
    · rw [h6, h2, hn] at hm
      cases hm
      exact ⟨x, y, rD, hx, hy, by rw [upd_ne rD]; exact hr, Eq.trans (upd_ne hx) h3, Eq.trans (upd_ne hy) h4⟩
theorem FmN.done {H : Hp} {D : Addr} {fs : List (Int × Int)} (h : FmN H D fs fs.length) : FmAt H D fs := by
  obtain ⟨as, h1, h2, h3⟩ := h
  exact ⟨as, h1, h2, fun i a f x y => let ⟨u, v, _, _, _, g⟩ := h3 i a f x y; ⟨u, v, g⟩⟩
section
variable {base : Heap} {mg : Str → Option Value} {K : PySem.W.Frag} {w : World} {P : Program}
theorem ok_levels {f : Addr} {fd : FuncData} (F : Fun K "levels" "levels" s_levels f fd) (T : T2 mg) (cM : Cal P w K mg base 1 "multiplied" p_multiplied spMc) (cR : Cal P w K mg base 5 "reduced" p_reduced spRed1) : FnOk P w K mg base CX0 6 f fd p_levels spLev := by
  refine F.ok sc_levels (fun vs H Q E h => ?_) (fun cdv A outer s H vs Q E hr h => ?_)
  · obtain ⟨t, lw, A, ws, W, b, N, rfl, _⟩ := h
    rfl
  · obtain ⟨t, lw, Am, ws, W, b, N, rfl, ⟨⟨la, lo, ht, hA, hW⟩, _⟩, hw, h20, hV, hOk, hN, b0, bb, k⟩ := h
    have nd := sc_levels.nd
    have r1 : Room 1 _ := hr.mono (by decide)
    have one : 1 ≤ sizeLine := by show 1 ≤ sizeLine; decide
    refine ⟨_, pss_cons (ps_asg (pv 0) (pg_tup rfl (pgs_cons (pg_name (i := 3) nd rfl (Or.inl rfl)) (pgs_cons (pg_name (i := 4) nd rfl (Or.inr rfl)) pgs_nil))))
      (pss_one (ps_ret (pe_lc (own := [("k", 5), ("one", 6)]) (g := gTup K 2 (gCons (gName 5) (gCons (gName 6) gNil))) (tt := tYes) (te := tCall spRed1 [] E0 (tCons (tCall spMc [] E0 (tCons (tVar 6) (tCons (tLst (tCons (tVar 2) tNil)) tNil))) (tCons (tCall spMc [] E0 (tCons (tVar 4) (tCons (tOp (rIxL K) (tVar 1) (tVar 5)) tNil))) tNil))) rfl nd (pi_enum (by rfl) T.enu (pa_cons (pv 3) pa_nil)) (blkOk_by (N := n_levels) (sc := defScope s_levels) (by decide +kernel))
          (fun _ _ _ _ _ => pg_tup rfl (pgs_cons (pg_name (i := 5) nd rfl (Or.inl rfl)) (pgs_cons (pg_name (i := 6) nd rfl (Or.inl rfl)) pgs_nil))) (fun _ _ _ _ _ => pts_nil)
          (fun _ _ _ _ _ => pe_c cR hr (pa_cons (pe_c cM r1 (pa_cons (pv 6) (pa_cons (pe_lst (pa_cons (pv 2) pa_nil)) pa_nil))) (pa_cons (pe_c cM r1 (pa_cons (pv 4) (pa_cons (pe_ix ix_list (pv 1) (pv 5) (fun _ _ => rfl)) pa_nil))) pa_nil)))))), ?_⟩
    refine ⟨_, rfl, t, _, rfl, SqT.of ht, rfl, _, _, rfl, _, _, rfl, rfl, ?_⟩
    obtain ⟨xs, hxs, hxl, hxi⟩ := cs_items hA
    obtain ⟨ys, hys, hyl, hyi⟩ := cs_items hw
    refine ⟨_, rfl, la, _, rfl, SqL.of hxs, fun D hD => lc_it walk_enum (fun i H' => Evl.Ex H H' ∧ FmN H' D ((List.range Am.length).map (lvl Am ws W b)) i) ⟨Evl.Ex.new hD, FmN.start upd_same⟩ (fun i H' _ q => SqL.of (q.1 _ _ hxs)) ?_ ?_⟩
    · rintro i v H3 H4 hi ⟨e3, hN3⟩ ⟨t3, z, o, rfl, ht3, rfl, hz, ho⟩
      obtain rfl := (Option.some.inj hz).symm
      obtain ⟨a, rfl, hia, hLa⟩ := hxi i _ ho
      have e4 := Evl.Ex.new (o := .tup [.int (i : Nat), .ref a]) ht3
      have e34 := e3.trans e4
      refine ⟨t3, _, rfl, SqT.of upd_same, rfl, _, _, rfl, _, _, rfl, rfl, rfl, ?_⟩
      show tCall spRed1 [] E0 (tCons (tCall spMc [] E0 (tCons (tVar 6) (tCons (tLst (tCons (tVar 2) tNil)) tNil))) (tCons (tCall spMc [] E0 (tCons (tVar 4) (tCons (tOp (rIxL K) (tVar 1) (tVar 5)) tNil))) tNil)) _ _ _
      have hiw : i < ws.length := by rw [hV.len]; exact hia
      have hyx : ys[i]? = some ys[i] := List.getElem?_eq_getElem (by omega)
      obtain ⟨bq, hb, _, hLb⟩ := hyi i _ hyx
      rw [hb] at hyx
      have bAi := hOk.bA _ (getD_mem' hia)
      have bwi := hV.bit _ (getD_mem' hiw)
      have pwi := hV.pos _ (getD_mem' hiw)
      have hget : ((List.range Am.length).map (lvl Am ws W b))[i]? = some (lvl Am ws W b i) := by
        rw [List.getElem?_map, List.getElem?_range hia]
        rfl
      obtain ⟨as0, hD0, _⟩ := id hN3
      have hD4 := e4 _ _ hD0
      generalize upd H3 t3 (.tup [.int (i : Nat), .ref a]) = H4 at e4 e34 hD4
      refine ⟨_, rfl, _, rfl, one, fun r0 hr0 => ⟨a, r0, Am.getD i 0, b, rfl, Evl.Ex.new hr0 _ _ (e34 _ _ hLa), ?_, bAi.le (by omega), bb.le (by decide), fun r H5 hr5 e5 h5 => ?_⟩⟩
      · rw [cp_n (by omega)]
        exact upd_same
      have e45 := (Evl.Ex.new (o := .lst [.int b]) hr0).trans e5
      have e05 := e34.trans e45
      refine ⟨_, rfl, _, rfl, _, rfl, lw, _, _, _, rfl, rfl, SqL.of (e05 _ _ hys), atI_nat hyx, lo, bq, W, ws.getD i 0, rfl, ?_, e05 _ _ hLb, hOk.bW.le (by omega), bwi.le (by decide), fun r2 H6 hr6 e6 h6 => ?_⟩
      · rw [cp_n (by have := hOk.pos; omega)]
        exact e05 _ _ hW
      have Ww : 0 < W * ws.getD i 0 := Int.mul_pos hOk.pos pwi
      have h6 : H6 r2 = some (.lst (iV (cp (W * ws.getD i 0)))) := h6
      rw [cp_n (Int.ne_of_gt Ww)] at h6
      refine ⟨r, r2, Am.getD i 0 * b, W * ws.getD i 0, rfl, e6 _ _ h5, h6, Ww, (bAi.mul bb).le (by omega), (hOk.bW.mul bwi).le (by omega), fun q x y H7 hx hy e7 hq hLx hLy => ?_⟩
      have e47 := (e45.trans e6).trans e7
      have hD6 := e6 _ _ (e45 _ _ hD4)
      obtain ⟨acc, a1, a2, a3⟩ := hN3.more (e4.trans e47) (ne_of_none hD6 hx).symm (ne_of_none hD6 hy).symm hq hLx hLy hget (by omega)
      exact ⟨acc, a1, a2, Evl.Ex.mut (e34.trans e47) hD, a3⟩
    · rintro H2 ⟨e2, hN2⟩
      rw [hxl] at hN2
      exact k D H2 hD e2 (FmN.done (by rw [List.length_map, List.length_range]; exact hN2))
end
end V2


namespace V2
open PySem L2
/-! ## the sizes of what stands in the tanks -/
theorem sum_nn : ∀ {xs : List Int}, (∀ x ∈ xs, 0 ≤ x) → 0 ≤ xs.sum
  | [], _ => by simp
  | x :: r, h => by
    have h1 := sum_nn fun z hz => h z (List.mem_cons_of_mem _ hz)
    have h2 := h x List.mem_cons_self
    rw [List.sum_cons]
    omega
theorem openA_len (A ws ks : List Int) : (openA A ws ks).length = A.length := by unfold openA; rw [List.length_map, List.length_range]
theorem pourA_len (A : List Int) (W k a : Int) : (pourA A W k a).length = A.length := by unfold pourA; rw [List.length_map, List.length_range]
theorem takeA_len (A : List Int) (k p q : Int) (o : Option Int) : (takeA A k p q o).length = A.length := by
  unfold takeA
  cases o with
  | none => simp
  | some m => simp
theorem stepA_len (ws A : List Int) (W : Int) (d : Deed) : (stepA ws (A, W) d).1.length = A.length := by
  cases d with
  | op ks => exact openA_len _ _ _
  | po k a => exact pourA_len _ _ _ _
  | sc k p q => exact takeA_len A k p q none
  | mv k m p q => exact takeA_len A k p q (some m)
  | un k m => rfl
theorem mem_set' {α : Type} {l : List α} {i : Nat} {x y : α} (h : y ∈ l.set i x) : y ∈ l ∨ y = x := by
  rcases List.mem_or_eq_of_mem_set h with h | h
  · exact .inl h
  · exact .inr h
theorem getD_or (A : List Int) (i : Nat) : A.getD i 0 ∈ A ∨ A.getD i 0 = 0 := by
  by_cases h : i < A.length
  · exact .inl (getD_mem' h)
  · right
    rw [List.getD_eq_getElem?_getD, List.getElem?_eq_none (by omega)]
    rfl
theorem bn0 (N : Nat) : Bn N 0 := Nat.pow_pos (by decide)
theorem takeA_ok {N : Nat} {A : List Int} {k p q : Int} {o : Option Int} (nn : ∀ x ∈ A, 0 ≤ x) (bA : ∀ x ∈ A, Bn N x) (h : Pt p q) : ∀ x ∈ takeA A k p q o, 0 ≤ x ∧ Bn (N + 51) x := by
  obtain ⟨p0, pq, q0, qc, pb, qb⟩ := h
  have bq : Bn 50 q := qb
  have bp : Bn 50 p := pb
  have bqp : Bn 50 (q - p) := Nat.lt_of_le_of_lt (show (q - p).natAbs ≤ q.natAbs by omega) bq
  have g : 0 ≤ A.getD k.toNat 0 ∧ Bn N (A.getD k.toNat 0) := by
    rcases getD_or A k.toNat with z | z
    · exact ⟨nn _ z, bA _ z⟩
    · rw [z]
      exact ⟨Int.le_refl _, bn0 _⟩
  have hB : ∀ x ∈ (A.map (· * q)).set k.toNat (A.getD k.toNat 0 * (q - p)), 0 ≤ x ∧ Bn (N + 50) x := by
    intro x hx
    rcases mem_set' hx with hx | rfl
    · obtain ⟨y, hy, rfl⟩ := List.mem_map.mp hx
      exact ⟨Int.mul_nonneg (nn y hy) (by omega), (bA y hy).mul bq⟩
    · exact ⟨Int.mul_nonneg g.1 (by omega), g.2.mul bqp⟩
  intro x hx
  unfold takeA at hx
  cases o with
  | none => exact ⟨(hB x hx).1, (hB x hx).2.le (by omega)⟩
  | some m =>
    rcases mem_set' hx with hx | rfl
    · exact ⟨(hB x hx).1, (hB x hx).2.le (by omega)⟩
    · have gm : 0 ≤ ((A.map (· * q)).set k.toNat (A.getD k.toNat 0 * (q - p))).getD m.toNat 0 ∧ Bn (N + 50) (((A.map (· * q)).set k.toNat (A.getD k.toNat 0 * (q - p))).getD m.toNat 0) := by
        rcases getD_or ((A.map (· * q)).set k.toNat (A.getD k.toNat 0 * (q - p))) m.toNat with z | z
        · exact hB _ z
        · rw [z]
          exact ⟨Int.le_refl _, bn0 _⟩
      have z1 := Int.mul_nonneg g.1 p0
      exact ⟨by omega, gm.2.add (g.2.mul bp)⟩
theorem okW_step {N n : Nat} {A ws : List Int} {W : Int} {d : Deed} (hA : A.length = n) (hV : OkV n ws) (hW : OkW N A W) (hd : okD n d) (hpo : ∀ k a, d = .po k a → Bn 60 a) : OkW (N + 66) (stepA ws (A, W) d).1 (stepA ws (A, W) d).2 := by
  subst hA
  cases d with
  | op ks =>
    obtain ⟨h2, hk20, _, hks⟩ := hd
    have ok1 : okK A.length ks := ⟨hk20, hks⟩
    have ok2 : okK ws.length ks := by rw [hV.len]; exact ok1
    have l20 : ∀ ns : List Int, (pick ns ks).length ≤ 20 := fun ns => by rw [pick_len]; exact hk20
    have bT := bn_sum20 (fun x hx => hW.bA x (pick_mem ok1 hx)) (l20 _)
    have bS := bn_sum20 (fun x hx => hV.bit x (pick_mem ok2 hx)) (l20 _)
    have nT := sum_nn (xs := pick A ks) fun x hx => hW.nn x (pick_mem ok1 hx)
    have pS : 0 < (pick ws ks).sum := by
      refine sum_pos (fun z => ?_) fun x hx => hV.pos x (pick_mem ok2 hx)
      have := congrArg List.length z
      rw [pick_len, List.length_nil] at this
      omega
    have each : ∀ x ∈ openA A ws ks, 0 ≤ x ∧ Bn (N + 66) x := by
      intro x hx
      unfold openA at hx
      obtain ⟨i, hi, rfl⟩ := List.mem_map.mp hx
      have hi := List.mem_range.mp hi
      split
      · have m := getD_mem' (ns := ws) (i := i) (by rw [hV.len]; exact hi)
        exact ⟨Int.mul_nonneg nT (Int.le_of_lt (hV.pos _ m)), (bT.mul (hV.bit _ m)).le (by omega)⟩
      · have m := getD_mem' hi
        exact ⟨Int.mul_nonneg (hW.nn _ m) (Int.le_of_lt pS), ((hW.bA _ m).mul bS).le (by omega)⟩
    exact ⟨fun x hx => (each x hx).1, fun x hx => (each x hx).2, (hW.bW.mul bS).le (by omega), Int.mul_pos hW.pos pS⟩
  | po k a =>
    have ba := hpo k a rfl
    have a0 : 0 ≤ a := hd.2
    have aW := Int.mul_nonneg a0 (Int.le_of_lt hW.pos)
    have baW : Bn (N + 60) (a * W) := (ba.mul hW.bW).le (by omega)
    have each : ∀ x ∈ pourA A W k a, 0 ≤ x ∧ Bn (N + 66) x := by
      intro x hx
      unfold pourA at hx
      obtain ⟨i, hi, rfl⟩ := List.mem_map.mp hx
      have m := getD_mem' (List.mem_range.mp hi)
      have n1 := hW.nn _ m
      split
      · exact ⟨by omega, (((hW.bA _ m).le (show N ≤ N + 60 by omega)).add baW).le (by omega)⟩
      · exact ⟨n1, (hW.bA _ m).le (by omega)⟩
    exact ⟨fun x hx => (each x hx).1, fun x hx => (each x hx).2, hW.bW.le (by omega), hW.pos⟩
  | sc k p q =>
    have hp := hd.2
    have z := takeA_ok (k := k) (o := none) hW.nn hW.bA hp
    have bq : Bn 50 q := hp.2.2.2.2.2
    exact ⟨fun x hx => (z x hx).1, fun x hx => (z x hx).2.le (by omega), (hW.bW.mul bq).le (by omega), Int.mul_pos hW.pos hp.2.2.1⟩
  | mv k m p q =>
    have hp := hd.2.2.2
    have z := takeA_ok (k := k) (o := some m) hW.nn hW.bA hp
    have bq : Bn 50 q := hp.2.2.2.2.2
    exact ⟨fun x hx => (z x hx).1, fun x hx => (z x hx).2.le (by omega), (hW.bW.mul bq).le (by omega), Int.mul_pos hW.pos hp.2.2.1⟩
  | un k m => exact ⟨hW.nn, fun x hx => (hW.bA x hx).le (by omega), hW.bW.le (by omega), hW.pos⟩
/-- behind all steps -/
def runA (ws : List Int) (S : List Int × Int) (ds : List Deed) : List Int × Int := ds.foldl (stepA ws) S
theorem runA_take {ws : List Int} {S : List Int × Int} {ds : List Deed} {i : Nat} {d : Deed} (h : ds[i]? = some d) : runA ws S (ds.take (i + 1)) = stepA ws (runA ws S (ds.take i)) d := by
  unfold runA
  rw [List.take_add_one, h, List.foldl_append]
  rfl
theorem runA_ok {n : Nat} {ws : List Int} (hV : OkV n ws) : ∀ {ds : List Deed} {N : Nat} {S : List Int × Int}, S.1.length = n → OkW N S.1 S.2 → (∀ d ∈ ds, okD n d ∧ ∀ k a, d = .po k a → Bn 60 a) → (runA ws S ds).1.length = n ∧ OkW (N + 66 * ds.length) (runA ws S ds).1 (runA ws S ds).2
  | [], N, S, h, hW, _ => ⟨h, hW⟩
  | d :: ds, N, S, h, hW, hd => by
    obtain ⟨h1, h2⟩ := hd d List.mem_cons_self
    have z := runA_ok hV (ds := ds) (N := N + 66) (S := stepA ws S d) (by rw [stepA_len]; exact h) (okW_step h hV hW h1 h2) fun x hx => hd x (List.mem_cons_of_mem _ hx)
    refine ⟨z.1, ?_⟩
    have e : N + 66 * (d :: ds).length = N + 66 + 66 * ds.length := by rw [List.length_cons]; omega
    rw [e]
    exact z.2
end V2


namespace V2
open PySem L2
open PySem.Spec PyProof.Rows
/-! ## an `unless` at a told width; levels; all water -/
/-- pairs of ints that stand in a list, as tuples -/
def PrAt (H : Hp) (l : Addr) (fs : List (Int × Int)) : Prop := ∃ as : List Addr, H l = some (.lst (as.map V.ref)) ∧ as.length = fs.length ∧ ∀ (i : Nat) (a : Addr) (f : Int × Int), as[i]? = some a → fs[i]? = some f → Fr H a f.1 f.2
theorem PrAt.ex {H H' : Hp} {l : Addr} {fs : List (Int × Int)} (h : PrAt H l fs) (e : Evl.Ex H H') : PrAt H' l fs := by
  obtain ⟨as, h1, h2, h3⟩ := h
  exact ⟨as, e _ _ h1, h2, fun i a t x y => e _ _ (h3 i a t x y)⟩
theorem ds_items {H : Hp} {l : Addr} {ds : List Deed} (h : DsAt H l ds) : ∃ xs, H l = some (.lst xs) ∧ xs.length = ds.length ∧ ∀ (i : Nat) (x : V), xs[i]? = some x → ∃ a d, x = .ref a ∧ ds[i]? = some d ∧ DAt H a d := by
  obtain ⟨as, h1, h2, h3⟩ := h
  refine ⟨_, h1, by rw [List.length_map]; exact h2, fun i x hx => ?_⟩
  rw [List.getElem?_map] at hx
  cases e : as[i]? with
  | none =>
    rw [e] at hx
    cases hx
  | some a =>
    rw [e] at hx
    have hi : i < ds.length := by
      have := (List.getElem?_eq_some_iff.mp e).1
      omega
    exact ⟨a, ds[i], (Option.some.inj hx).symm, List.getElem?_eq_getElem hi, h3 i a _ e (List.getElem?_eq_getElem hi)⟩
def spNum : Sp := fun vs H Q _ => ∃ (a x y : Addr) (f : Int × Int), vs = [.ref a] ∧ H a = some (.tup [.ref x, .ref y]) ∧ Li H x (cp f.1) ∧ Li H y [f.2] ∧ RetU [.int f.1, .int f.2] H Q
def spTL : Sp := fun vs H Q _ => ∃ (t lw g : Addr) (A ws : List Int) (W u b : Int) (N : Nat), vs = [.ref t, .ref lw, .ref g] ∧ Wat H t A W ∧ CsAt H lw ws ∧ Fr H g u b ∧ A.length ≤ 20 ∧ OkV A.length ws ∧ OkW N A W ∧ N ≤ 4300 ∧ 0 < b ∧ Bn 50 b ∧
  ∀ D H', H D = none → Evl.Ex H H' → PrAt H' D ((List.range A.length).map (lvl A ws W b)) → Q (.ref D) H'

def spNeg1 : Sp := fun vs H Q _ => ∃ (a : Addr) (x : Int), vs = [.ref a] ∧ Li H a (cp x) ∧ Evl.RetL (iV (cp (-x))) H Q
def spSc1 : Sp := fun vs H Q _ => ∃ (a b : Addr) (x : Int), vs = [.ref a, .ref b] ∧ Li H a (cp x) ∧ Fr H b 1 1 ∧ Bn 9000 x ∧ RetU [.int x, .int 1] H Q
def spSg1 : Sp := fun vs H Q _ => ∃ (a b : Addr) (x : Int), vs = [.ref a, .ref b] ∧ Li H a (cp x) ∧ Fr H b 1 1 ∧ Bn 9000 x ∧ Evl.RetV (.int (sgn x)) H Q
/-- the sign of one level less another one -/
def spLead : Sp := fun vs H Q _ => ∃ (a1 w1 a2 w2 l : Addr) (x1 y1 x2 y2 W : Int), vs = [.ref a1, .ref w1, .ref a2, .ref w2, .ref l] ∧ Li H a1 (cp x1) ∧ Li H w1 (cp y1) ∧ Li H a2 (cp x2) ∧ Li H w2 (cp y2) ∧ Li H l (cp W) ∧ Bn 4100 x1 ∧ Bn 4100 x2 ∧ Bn 60 y1 ∧ Bn 60 y2 ∧ Bn 4100 W ∧ 0 < y1 ∧ 0 < y2 ∧ 0 < W ∧
  ∀ (p : Addr) (z : Int) (H' : Hp), Evl.Ex H H' → Li H' p (cp z) → Bn 9000 z → (0 < z ↔ x2 * y1 < x1 * y2) → Q (.ref p) H'
def spAhead : Sp := fun vs H Q _ => ∃ (s t lw : Addr) (j m : Int) (A ws : List Int) (W : Int), vs = [.ref s, .ref t, .ref lw] ∧ H s = some (.tup [.str "unless", .int j, .int m]) ∧ (0 ≤ j ∧ j < A.length) ∧ (0 ≤ m ∧ m < A.length) ∧ Wat H t A W ∧ CsAt H lw ws ∧ A.length ≤ 20 ∧ OkV A.length ws ∧ OkW 4000 A W ∧
  ∀ (p : Addr) (z : Int) (H' : Hp), Evl.Ex H H' → Li H' p (cp z) → Bn 9000 z → (0 < z ↔ A.getD m.toNat 0 * ws.getD j.toNat 0 < A.getD j.toNat 0 * ws.getD m.toNat 0) → Q (.ref p) H'
/-- whether a step ends the script -/
def endB (ws : List Int) (A : List Int) : Deed → Bool
  | .un j m => decide (A.getD m.toNat 0 * ws.getD j.toNat 0 < A.getD j.toNat 0 * ws.getD m.toNat 0)
  | _ => false
def spEnd : Sp := fun vs H Q _ => ∃ (s t lw : Addr) (d : Deed) (A ws : List Int) (W : Int), vs = [.ref s, .ref t, .ref lw] ∧ DAt H s d ∧ okD A.length d ∧ Wat H t A W ∧ CsAt H lw ws ∧ A.length ≤ 20 ∧ OkV A.length ws ∧ OkW 4000 A W ∧ Evl.RetV (.bl (endB ws A d)) H Q
def spAll : Sp := fun vs H Q _ => ∃ (t : Addr) (A : List Int) (W : Int) (N : Nat), vs = [.ref t] ∧ Wat H t A W ∧ A.length ≤ 20 ∧ OkW N A W ∧ N ≤ 4300 ∧ RetU [.int (fr A.sum W).1, .int (fr A.sum W).2] H Q
theorem dat_unless {H : Hp} {a : Addr} {d : Deed} (h : DAt H a d) : (∃ k m, d = .un k m) ∨ ∃ (x : Str) (r : List V), H a = some (.tup (.str x :: r)) ∧ decide (V.str x = V.str "unless") = false := by
  cases d with
  | op ks =>
    obtain ⟨l, h1, _⟩ := h
    exact .inr ⟨_, _, h1, by decide⟩
  | po k x => exact .inr ⟨_, _, h, by decide⟩
  | sc k p q =>
    obtain ⟨l, h1, _⟩ := h
    exact .inr ⟨_, _, h1, by decide⟩
  | mv k m p q =>
    obtain ⟨l, h1, _⟩ := h
    exact .inr ⟨_, _, h1, by decide⟩
  | un k m => exact .inl ⟨k, m, rfl⟩
section
variable {base : Heap} {mg : Str → Option Value} {K : PySem.W.Frag} {w : World} {P : Program}
theorem ok_number_of {f : Addr} {fd : FuncData} (F : Fun K "number_of" "number_of" s_number_of f fd) : FnOk P w K mg base CX0 1 f fd p_number_of spNum := by
  refine F.ok sc_number_of (fun vs H Q E h => ?_) (fun cdv A outer s H vs Q E hr h => ?_)
  · obtain ⟨a, x, y, f, rfl, _⟩ := h
    rfl
  · obtain ⟨a, x, y, f, rfl, ha, hx, hy, k⟩ := h
    have nd := sc_number_of.nd
    have two : 2 ≤ sizeLine := by show 2 ≤ sizeLine; decide
    refine ⟨_, pss_cons (ps_asg (pv 0) (pg_tup rfl (pgs_cons (pg_name (i := 1) nd rfl (Or.inl rfl)) (pgs_cons (pg_name (i := 2) nd rfl (Or.inl rfl)) pgs_nil))))
      (pss_one (ps_ret (pe_tup (pa_cons (pe_ifExp (pt_truth (pv 1) (by intro _; rfl)) (pe_ix ix_list (pv 1) pe_int (fun _ _ => rfl)) pe_int) (pa_cons (pe_ix ix_list (pv 2) pe_int (fun _ _ => rfl)) pa_nil))))), ?_⟩
    refine ⟨_, rfl, a, _, rfl, SqT.of ha, rfl, _, _, rfl, _, _, rfl, rfl, ?_⟩
    refine ⟨_, rfl, _, tru_list hx, ?_⟩
    have fin : ∀ r, H r = none → Q (.ref r) (upd H r (.tup [.int f.1, .int f.2])) := fun r hr5 => k r _ hr5 (Evl.Ex.new hr5) upd_same
    by_cases h0 : f.1 = 0
    · refine if_f (by rw [h0]; rfl) ?_
      rw [h0] at fin
      exact ⟨_, rfl, y, _, _, _, rfl, rfl, SqL.of hy, rfl, two, fun r hr5 => fin r hr5⟩
    · rw [cp_n h0] at hx
      refine if_t (by rw [cp_n h0]; rfl) ?_
      exact ⟨_, rfl, x, _, _, _, rfl, rfl, SqL.of hx, rfl, _, rfl, y, _, _, _, rfl, rfl, SqL.of hy, rfl, two, fun r hr5 => fin r hr5⟩
theorem ok_told_levels {f : Addr} {fd : FuncData} (F : Fun K "told_levels" "told_levels" s_told_levels f fd) (cN : Cal P w K mg base 1 "number_of" p_number_of spNum) (cL : Cal P w K mg base 6 "levels" p_levels spLev) : FnOk P w K mg base CX0 7 f fd p_told_levels spTL := by
  refine F.ok sc_told_levels (fun vs H Q E h => ?_) (fun cdv A outer s H vs Q E hr h => ?_)
  · obtain ⟨t, lw, g, A, ws, W, u, b, N, rfl, _⟩ := h
    rfl
  · obtain ⟨t, lw, g, Am, ws, W, u, b, N, rfl, hWt, hw, hg, h20, hV, hOk, hN, b0, bb, k⟩ := h
    have nd := sc_told_levels.nd
    have r1 : Room 1 _ := hr.mono (by decide)
    refine ⟨_, pss_one (ps_ret (pe_lc (own := [("form", 3)]) (g := gName 3) (tt := tYes) (te := tCall spNum [] E0 (tCons (tVar 3) tNil)) rfl nd (pi_list (pe_c cL hr (pa_cons (pv 0) (pa_cons (pv 1) (pa_cons (pe_ix ix_tup (pv 2) pe_int (fun _ _ => rfl)) pa_nil))))) (blkOk_by (N := n_told_levels) (sc := defScope s_told_levels) (by decide +kernel))
          (fun _ _ _ _ _ => pg_name (i := 3) nd rfl (Or.inl rfl)) (fun _ _ _ _ _ => pts_nil)
          (fun _ _ _ _ _ => pe_c cN r1 (pa_cons (pv 3) pa_nil)))), ?_⟩
    refine ⟨_, rfl, _, rfl, _, rfl, g, _, _, _, rfl, rfl, SqT.of hg, rfl, t, lw, _, ws, _, b, N, rfl, hWt, hw, h20, hV, hOk, hN, b0, bb, fun D H4 hDn e4 hF => ?_⟩
    have fl : ((List.range Am.length).map (lvl Am ws W b)).length ≤ 20 := by
      rw [List.length_map, List.length_range]
      exact h20
    generalize (List.range Am.length).map (lvl Am ws W b) = fs at hF fl k
    obtain ⟨as, hDl, hlen, hat⟩ := hF
    refine ⟨D, rfl, ⟨_, SqL.of hDl⟩, fun D2 hD2 => lc_list (xs := as.map V.ref) (fun i H' => Evl.Ex H4 H' ∧ ∃ rs : List Addr, H' D2 = some (.lst (rs.map V.ref)) ∧ rs.length = i ∧ ∀ (j : Nat) (a : Addr) (f : Int × Int), rs[j]? = some a → fs[j]? = some f → a ≠ D2 ∧ Fr H' a f.1 f.2) ⟨Evl.Ex.new hD2, [], upd_same, rfl, fun j a f h => (by cases h)⟩ (fun i H' _ q => SqL.of (q.1 _ _ hDl)) ?_ ?_⟩
    · rintro i v H5 hi ⟨e5, rs, hrs, hrl, hra⟩
      rw [List.getElem?_map] at hi
      obtain ⟨a, ha, rfl⟩ : ∃ a, as[i]? = some a ∧ v = .ref a := by
        cases e : as[i]? with
        | none =>
          rw [e] at hi
          cases hi
        | some a =>
          rw [e] at hi
          exact ⟨a, rfl, (Option.some.inj hi).symm⟩
      have hif : i < fs.length := by
        have := (List.getElem?_eq_some_iff.mp ha).1
        omega
      have hf : fs[i]? = some fs[i] := List.getElem?_eq_getElem hif
      obtain ⟨p, q, h1, h2, h3⟩ := hat i a _ ha hf
      generalize fs[i] = fi at hf h2 h3
      refine ⟨rfl, ?_⟩
      unfold tYes
      refine if_t rfl ?_
      show tCall spNum [] E0 (tCons (tVar 3) tNil) _ _ _
      refine ⟨_, rfl, a, p, q, fi, rfl, e5 _ _ h1, e5 _ _ h2, e5 _ _ h3, fun r H6 hr5 e6 hr6 => ?_⟩
      have rD : r ≠ D2 := (ne_of_none hrs hr5).symm
      refine ⟨_, e6 _ _ hrs, ?_, Evl.Ex.mut (e5.trans e6) hD2, rs ++ [r], ?_, ?_, fun j a' f h7 h8 => ?_⟩
      · rw [List.length_map, hrl]
        exact Nat.lt_of_le_of_lt (show i ≤ 20 by omega) (by decide)
      · rw [upd_same, List.map_append]
        rfl
      · rw [List.length_append, hrl]
        rfl
      · rcases get_app h7 with ⟨h9, _⟩ | ⟨h9, rfl⟩
        · obtain ⟨n1, n2⟩ := hra j a' f h9 h8
          exact ⟨n1, Eq.trans (upd_ne n1) (e6 _ _ n2)⟩
        · rw [h9, hrl, hf] at h8
          cases h8
          exact ⟨rD, Eq.trans (upd_ne rD) hr6⟩
    · rintro H5 ⟨e5, rs, hrs, hrl, hra⟩
      rw [List.length_map, hlen] at hrl
      refine k D2 _ ?_ (e4.trans e5) ⟨rs, hrs, hrl, fun i a f h1 h2 => (hra i a f h1 h2).2⟩
      cases e : H D2 with
      | none => rfl
      | some o =>
        have h1 := e4 _ _ e
        rw [hD2] at h1
        cases h1
theorem ok_neg1 {f : Addr} {fd : FuncData} (F : Fun K "negated" "negated" s_negated f fd) : FnOk P w K mg base CX0 1 f fd p_negated spNeg1 := by
  refine F.ok sc_negated (fun vs H Q E h => ?_) (fun cdv A outer s H vs Q E hr h => ?_)
  · obtain ⟨a, x, rfl, _⟩ := h
    rfl
  · obtain ⟨a, x, rfl, hL, k⟩ := h
    have nd := sc_negated.nd
    refine ⟨_, pss_one (ps_ret (pe_lc (own := [("number", 1)]) (g := (gName 1)) (tt := tYes) (te := (tUn (rU fun i => .int (-i)) (tVar 1))) rfl nd (pi_list (pv 0)) (blkOk_by (N := n_negated) (sc := defScope s_negated) (by decide +kernel)) (fun _ _ _ _ _ => (pg_name (i := 1) nd rfl (Or.inl rfl))) (fun _ _ _ _ _ => pts_nil) (fun _ _ _ _ _ => (pe_un un_neg (pv 1))))), ?_⟩
    refine ⟨_, rfl, a, rfl, ⟨_, hL.sq⟩, fun D hD => lc_list (xs := iV (cp x)) (fun i H' => Evl.Ex H H' ∧ H' D = some (.lst (iV (((cp x).map fun n => -n).take i)))) ⟨Evl.Ex.new hD, upd_same⟩ (fun i H' _ q => SqL.of (q.1 _ _ hL)) ?_ ?_⟩
    · rintro i v H' hi ⟨e1, h1⟩
      obtain ⟨n, hn, rfl⟩ := iV_get hi
      have hlt : i < (cp x).length := (List.getElem?_eq_some_iff.mp hn).1
      have hl := (cp_pw x).2
      refine ⟨rfl, ?_⟩
      show tUn (rU fun i => .int (-i)) (tVar 1) _ _ _
      refine ⟨_, rfl, n, rfl, _, h1, ?_, Evl.Ex.mut e1 hD, ?_⟩
      · rw [iV_len, List.length_take, List.length_map]
        exact Nat.lt_of_le_of_lt (show min i (cp x).length ≤ 100 by omega) (by decide)
      · rw [upd_same, take_next (n := -n) (by rw [List.getElem?_map, hn]; rfl)]
    · rintro H' ⟨e1, h1⟩
      rw [iV_len, ← List.length_map (as := cp x) (f := fun n => -n), List.take_length] at h1
      refine k D H' hD e1 (h1.trans ?_)
      congr 2
      unfold cp
      by_cases c : x = 0
      · subst c
        rfl
      · rw [if_neg c, if_neg (by omega)]
        rfl
theorem ok_sc1 {f : Addr} {fd : FuncData} (F : Fun K "scaled_value" "scaled_value" s_scaled_value f fd) (T : T2 mg) : FnOk P w K mg base CX0 1 f fd p_scaled_value spSc1 := by
  refine F.ok sc_scaled_value (fun vs H Q E h => ?_) (fun cdv A outer s H vs Q E hr h => ?_)
  · obtain ⟨a, b, x, rfl, _⟩ := h
    rfl
  · obtain ⟨a, b, x, rfl, ha, hb, hx, k⟩ := h
    have nd := sc_scaled_value.nd
    have two : 2 ≤ sizeLine := by show 2 ≤ sizeLine; decide
    refine ⟨_, pss_cons (ps_asg (pv 1) (pg_tup rfl (pgs_cons (pg_name (i := 2) nd rfl (Or.inl rfl)) (pgs_cons (pg_name (i := 3) nd rfl (Or.inl rfl)) pgs_nil))))
      (pss_cons (ps_asg (pe_tup (pa_cons pe_int (pa_cons pe_int pa_nil))) (pg_tup rfl (pgs_cons (pg_name (i := 4) nd rfl (Or.inl rfl)) (pgs_cons (pg_name (i := 5) nd rfl (Or.inl rfl)) pgs_nil))))
      (pss_cons (ps_for PassesOwn.never rfl (pi_enum (by rfl) T.enu (pa_cons (pe_revL (pv 0)) pa_nil)) (pg_tup rfl (pgs_cons (pg_name (i := 6) nd rfl (Or.inl rfl)) (pgs_cons (pg_name (i := 7) nd rfl (Or.inl rfl)) pgs_nil))) (pss_cons (ps_if (pt_cmpR op_gt (pv 6) pe_int (nomark _)) (pss_one (ps_set (i := 5) nd rfl (Or.inl rfl) (pe_op op_mulW (pv 5) (pv 3)))) pss_nil)
      (pss_one (ps_set (i := 4) nd rfl (Or.inl rfl) (pe_op op_add (pe_op op_mulW (pv 4) (pv 2)) (pe_op op_mulW (pv 7) (pv 5)))))))
      (pss_one (ps_ret (pe_tup (pa_cons (pv 4) (pa_cons (pv 5) pa_nil))))))), ?_⟩
    refine ⟨_, rfl, b, _, rfl, SqT.of hb, rfl, _, _, rfl, _, _, rfl, rfl, ?_⟩
    refine ⟨two, fun c hc => ?_⟩
    have e0 : Evl.Ex H (upd H c (.tup [.int 0, .int 1])) := Evl.Ex.new hc
    refine ⟨c, _, rfl, SqT.of upd_same, rfl, _, _, rfl, _, _, rfl, rfl, ?_⟩
    refine ⟨_, rfl, a, _, rfl, SqL.of (e0 _ _ ha), fun l hl => ⟨l, _, rfl, SqL.of upd_same, ?_⟩⟩
    have e1 := e0.trans (Evl.Ex.new (o := .lst (iV (cp x)).reverse) hl)
    have hl1 : upd (upd H c (.tup [.int 0, .int 1])) l (.lst (iV (cp x)).reverse) l = some (.lst (iV (cp x)).reverse) := upd_same
    have erev : (iV (cp x)).reverse = iV (cp x) := by
      unfold cp
      split <;> rfl
    rw [erev] at e1 hl1 ⊢
    generalize upd (upd H c (.tup [.int 0, .int 1])) l (.lst (iV (cp x))) = H1 at e1 hl1
    refine for_it walk_enum (fun i σ H' => ∃ v6 v7, σ = [some (.ref a), some (.ref b), some (.int 1), some (.int 1), some (.int (if i = 0 then 0 else x)), some (.int 1), v6, v7] ∧ Evl.Ex H1 H')
      ⟨none, none, rfl, Evl.Ex.refl _⟩ (fun i σ H' _ ⟨_, _, _, q⟩ => SqL.of (q _ _ hl1)) ?_ ?_
    · rintro i v σ H' H2 hi ⟨v6, v7, rfl, e2⟩ ⟨T, z, y, rfl, hT2, rfl, hz, hy⟩
      obtain rfl := (Option.some.inj hz).symm
      obtain ⟨n, hn, rfl⟩ := iV_get hy
      have e3 := e2.trans (Evl.Ex.new (o := .tup [.int (i : Nat), .int n]) hT2)
      obtain ⟨i0, n0⟩ : i = 0 ∧ n = x := by
        unfold cp at hn
        split at hn
        · cases hn
        · match i, hn with
          | 0, hn => cases hn; exact ⟨rfl, rfl⟩
      subst i0
      subst n0
      refine ⟨T, _, rfl, SqT.of upd_same, rfl, _, _, rfl, _, _, rfl, rfl, ?_⟩
      refine ⟨_, rfl, _, _, rfl, rfl, _, rfl, if_f (by decide) ?_⟩
      refine ⟨_, rfl, _, rfl, _, _, rfl, rfl, wide_mul (a := 1) (b := 2) (i := 0) (by decide) (by decide) (by decide) (by decide) (by decide), _, rfl, _, rfl, n, 1, rfl, rfl, wide_mul (a := 9000) (b := 2) hx (by decide) (by decide) (by decide) (by decide), _, _, rfl, rfl, ?_⟩
      refine ⟨some (.int ((0 : Nat) : Int)), some (.int n), ?_, e3⟩
      have ez : (if (0 : Nat) = 0 then (0 : Int) else n) * 1 + n * 1 = n := by rw [if_pos rfl]; omega
      show [some (V.ref a), some (V.ref b), some (V.int 1), some (V.int 1), some (V.int ((if (0 : Nat) = 0 then (0 : Int) else n) * 1 + n * 1)), some (V.int 1), some (V.int ((0 : Nat) : Int)), some (V.int n)] = _
      rw [ez]
      rfl
    · rintro σ H' ⟨v6, v7, rfl, e2⟩
      refine ⟨_, rfl, _, rfl, two, fun t ht => ?_⟩
      have ex : (if (iV (cp x)).length = 0 then 0 else x) = x := by
        rw [iV_len]
        unfold cp
        by_cases c : x = 0
        · subst c
          rfl
        · rw [if_neg c]
          rfl
      rw [ex]
      exact k t _ (Evl.fresh_back (e1.trans e2) ht) ((e1.trans e2).trans (Evl.Ex.new ht)) upd_same
theorem ok_sg1 {f : Addr} {fd : FuncData} (F : Fun K "sign_at_fraction" "sign_at_fraction" s_sign_at_fraction f fd) (cS : Cal P w K mg base 1 "sign_of" p_sign_of spSgn) (cV : Cal P w K mg base 1 "scaled_value" p_scaled_value spSc1) : FnOk P w K mg base CX0 2 f fd p_sign_at_fraction spSg1 := by
  refine F.ok sc_sign_at_fraction (fun vs H Q E h => ?_) (fun cdv A outer s H vs Q E hr h => ?_)
  · obtain ⟨a, b, x, rfl, _⟩ := h
    rfl
  · obtain ⟨a, b, x, rfl, ha, hb, hx, k⟩ := h
    refine ⟨_, pss_one (ps_ret (pe_c cS hr (pa_cons (pe_ix ix_tup (pe_c cV hr (pa_cons (pv 0) (pa_cons (pv 1) pa_nil))) pe_int (fun _ _ => rfl)) pa_nil))), ?_⟩
    exact ⟨_, rfl, _, rfl, a, b, x, rfl, ha, hb, hx, fun t H1 ht e1 h1 => ⟨t, _, _, _, rfl, rfl, SqT.of h1, rfl, x, rfl, fun H2 e2 => k _ (e1.trans e2)⟩⟩
theorem ok_lead {f : Addr} {fd : FuncData} (F : Fun K "lead" "lead" s_lead f fd) (cA : Cal P w K mg base 2 "added" p_added spAc) (cM : Cal P w K mg base 1 "multiplied" p_multiplied spMc) (cN : Cal P w K mg base 1 "negated" p_negated spNeg1) (cR : Cal P w K mg base 5 "reduced" p_reduced spRed1) : FnOk P w K mg base CX0 6 f fd p_lead spLead := by
  refine F.ok sc_lead (fun vs H Q E h => ?_) (fun cdv A outer s H vs Q E hr h => ?_)
  · obtain ⟨a1, w1, a2, w2, l, x1, y1, x2, y2, W, rfl, _⟩ := h
    rfl
  · obtain ⟨a1, w1, a2, w2, l, x1, y1, x2, y2, W, rfl, h1, h2, h3, h4, h5, bx1, bx2, by1, by2, bW, p1, p2, pW, k⟩ := h
    have nd := sc_lead.nd
    have r1 : Room 1 _ := hr.mono (by decide)
    have r2 : Room 2 _ := hr.mono (by decide)
    refine ⟨_, pss_cons (ps_set (i := 5) nd rfl (Or.inl rfl) (pe_c cA r2 (pa_cons (pe_c cM r1 (pa_cons (pv 0) (pa_cons (pv 3) pa_nil))) (pa_cons (pe_c cN r1 (pa_cons (pe_c cM r1 (pa_cons (pv 2) (pa_cons (pv 1) pa_nil))) pa_nil)) pa_nil))))
      (pss_one (ps_ret (pe_ix ix_tup (pe_c cR hr (pa_cons (pv 5) (pa_cons (pe_c cM r1 (pa_cons (pv 4) (pa_cons (pe_c cM r1 (pa_cons (pv 1) (pa_cons (pv 3) pa_nil))) pa_nil))) pa_nil))) pe_int (fun _ _ => rfl)))), ?_⟩
    have hp := Int.mul_pos pW (Int.mul_pos p1 p2)
    refine ⟨_, rfl, _, rfl, a1, w2, x1, y2, rfl, h1, h4, bx1.le (by decide), by2.le (by decide), fun r1 H1 hr1 e1 hL1 => ?_⟩
    refine ⟨_, rfl, _, rfl, a2, w1, x2, y1, rfl, e1 _ _ h3, e1 _ _ h2, bx2.le (by decide), by1.le (by decide), fun r2 H2 hr2 e2 hL2 => ⟨r2, _, rfl, hL2, fun r3 H3 hr3 e3 hL3 => ⟨r1, r3, x1 * y2, -(x2 * y1), rfl, (e2.trans e3) _ _ hL1, hL3, fun r4 H4 hr4 e4 hL4 => ?_⟩⟩⟩
    have e14 := ((e1.trans e2).trans e3).trans e4
    refine ⟨_, rfl, _, rfl, _, rfl, _, rfl, w1, w2, y1, y2, rfl, e14 _ _ h2, e14 _ _ h4, by1.le (by decide), by2.le (by decide), fun r5 H5 hr5 e5 hL5 => ⟨l, r5, W, y1 * y2, rfl, (e14.trans e5) _ _ h5, hL5, bW.le (by decide), (by1.mul by2).le (by decide), fun r6 H6 hr6 e6 hL6 => ?_⟩⟩
    have bT : Bn 4200 (x1 * y2 + -(x2 * y1)) := by
      have c1 : Bn 4160 (x1 * y2) := bx1.mul by2
      have c2 : Bn 4160 (-(x2 * y1)) := by
        have h : (x2 * y1).natAbs < 2 ^ 4160 := bx2.mul by1
        show (-(x2 * y1)).natAbs < 2 ^ 4160
        rw [Int.natAbs_neg]
        exact h
      exact (c1.add c2).le (by decide)
    have bM : Bn 4220 (W * (y1 * y2)) := (bW.mul (by1.mul by2)).le (by decide)
    have hL6 : Li H6 r6 (cp (W * (y1 * y2))) := hL6
    rw [cp_n (Int.ne_of_gt hp)] at hL6
    refine ⟨r4, r6, x1 * y2 + -(x2 * y1), W * (y1 * y2), rfl, (e5.trans e6) _ _ hL4, hL6, hp, bT.le (by decide), bM.le (by decide), fun q x y H7 hx hy e7 hq hLx hLy => ?_⟩
    refine ⟨q, _, _, _, rfl, rfl, SqT.of hq, rfl, k x _ H7 ((e14.trans e5).trans (e6.trans e7)) hLx ?_ ?_⟩
    · exact (show Bn 4200 _ from Nat.lt_of_le_of_lt (fr_abs1 hp) bT).le (by decide)
    · obtain ⟨m1, m2⟩ := fr_mul (u := x1 * y2 + -(x2 * y1)) hp
      have g := gcd_pos (u := x1 * y2 + -(x2 * y1)) hp
      constructor
      · intro z
        have := Int.mul_pos z g
        omega
      · intro z
        refine Int.not_le.mp fun q => ?_
        have := Int.mul_le_mul_of_nonneg_right q (Int.le_of_lt g)
        omega
theorem ok_ahead {f : Addr} {fd : FuncData} (F : Fun K "ahead" "ahead" s_ahead f fd) (cL : Cal P w K mg base 6 "lead" p_lead spLead) : FnOk P w K mg base CX0 7 f fd p_ahead spAhead := by
  refine F.ok sc_ahead (fun vs H Q E h => ?_) (fun cdv A outer s H vs Q E hr h => ?_)
  · obtain ⟨s, t, lw, j, m, A, ws, W, rfl, _⟩ := h
    rfl
  · obtain ⟨sp, t, lw, j', m', Am, ws, W, rfl, hs, ⟨j0, j1⟩, ⟨m0, m1⟩, ⟨⟨la, lo, ht, hA, hW⟩, W0⟩, hw, h20, hV, hO, k⟩ := h
    have nd := sc_ahead.nd
    obtain ⟨j, rfl⟩ : ∃ j : Nat, j' = (j : Int) := ⟨j'.toNat, by omega⟩
    obtain ⟨m, rfl⟩ : ∃ j : Nat, m' = (j : Int) := ⟨m'.toNat, by omega⟩
    rw [Int.toNat_natCast, Int.toNat_natCast] at k
    refine ⟨_, pss_cons (ps_asg (pv 1) (pg_tup rfl (pgs_cons (pg_name (i := 3) nd rfl (Or.inl rfl)) (pgs_cons (pg_name (i := 4) nd rfl (Or.inl rfl)) pgs_nil))))
      (pss_cons (ps_asg (pv 0) (pg_tup rfl (pgs_cons (pg_name (i := 5) nd rfl (Or.inl rfl)) (pgs_cons (pg_name (i := 6) nd rfl (Or.inl rfl)) (pgs_cons (pg_name (i := 7) nd rfl (Or.inl rfl)) pgs_nil)))))
      (pss_one (ps_ret (pe_c cL hr (pa_cons (pe_ix ix_list (pv 3) (pv 6) (fun _ _ => rfl)) (pa_cons (pe_ix ix_list (pv 2) (pv 6) (fun _ _ => rfl)) (pa_cons (pe_ix ix_list (pv 3) (pv 7) (fun _ _ => rfl)) (pa_cons (pe_ix ix_list (pv 2) (pv 7) (fun _ _ => rfl)) (pa_cons (pv 4) pa_nil))))))))), ?_⟩
    obtain ⟨xs, hxs, hxl, hxi⟩ := cs_items hA
    obtain ⟨ys, hys, hyl, hyi⟩ := cs_items hw
    have gx : ∀ i : Nat, i < Am.length → ∃ a, xs[i]? = some (.ref a) ∧ Li H a (cp (Am.getD i 0)) := fun i hi => by
      obtain ⟨a, e, _, hL⟩ := hxi i _ (List.getElem?_eq_getElem (show i < xs.length by omega))
      exact ⟨a, by rw [← e]; exact List.getElem?_eq_getElem _, hL⟩
    have gy : ∀ i : Nat, i < Am.length → ∃ a, ys[i]? = some (.ref a) ∧ Li H a (cp (ws.getD i 0)) := fun i hi => by
      obtain ⟨a, e, _, hL⟩ := hyi i _ (List.getElem?_eq_getElem (show i < ys.length by rw [hyl, hV.len]; exact hi))
      exact ⟨a, by rw [← e]; exact List.getElem?_eq_getElem _, hL⟩
    obtain ⟨a1, ha1, hL1⟩ := gx j (by omega)
    obtain ⟨a2, ha2, hL2⟩ := gx m (by omega)
    obtain ⟨b1, hb1, hM1⟩ := gy j (by omega)
    obtain ⟨b2, hb2, hM2⟩ := gy m (by omega)
    have mA : ∀ i : Nat, i < Am.length → Am.getD i 0 ∈ Am := fun i hi => getD_mem' hi
    have mW : ∀ i : Nat, i < Am.length → ws.getD i 0 ∈ ws := fun i hi => getD_mem' (by rw [hV.len]; exact hi)
    refine ⟨_, rfl, t, _, rfl, SqT.of ht, rfl, _, _, rfl, _, _, rfl, rfl, ?_⟩
    refine ⟨_, rfl, sp, _, rfl, SqT.of hs, rfl, _, _, rfl, _, _, rfl, _, _, rfl, rfl, ?_⟩
    refine ⟨_, rfl, _, rfl, la, _, _, _, rfl, rfl, SqL.of hxs, atI_nat ha1, _, rfl, _, rfl, lw, _, _, _, rfl, rfl, SqL.of hys, atI_nat hb1, _, rfl, _, rfl, la, _, _, _, rfl, rfl, SqL.of hxs, atI_nat ha2, _, rfl, _, rfl, lw, _, _, _, rfl, rfl, SqL.of hys, atI_nat hb2, _, rfl, ?_⟩
    refine ⟨a1, b1, a2, b2, lo, Am.getD j 0, ws.getD j 0, Am.getD m 0, ws.getD m 0, W, rfl, hL1, hM1, hL2, hM2, ?_, (hO.bA _ (mA j (by omega))).le (by decide), (hO.bA _ (mA m (by omega))).le (by decide), hV.bit _ (mW j (by omega)), hV.bit _ (mW m (by omega)), hO.bW.le (by decide), hV.pos _ (mW j (by omega)), hV.pos _ (mW m (by omega)), hO.pos, k⟩
    rw [cp_n (Int.ne_of_gt W0)]
    exact hW
theorem ok_is_ended {f : Addr} {fd : FuncData} (F : Fun K "is_ended" "is_ended" s_is_ended f fd) (cS : Cal P w K mg base 2 "sign_at_fraction" p_sign_at_fraction spSg1) (cA : Cal P w K mg base 7 "ahead" p_ahead spAhead) : FnOk P w K mg base CX0 8 f fd p_is_ended spEnd := by
  refine F.ok sc_is_ended (fun vs H Q E h => ?_) (fun cdv A outer s H vs Q E hr h => ?_)
  · obtain ⟨a, t, lw, d, A, ws, W, rfl, _⟩ := h
    rfl
  · obtain ⟨a, t, lw, d, Am, ws, W, rfl, hd, hok, hWt, hw, h20, hV, hO, k⟩ := h
    have r2 : Room 2 _ := hr.mono (by decide)
    have two : 2 ≤ sizeLine := by show 2 ≤ sizeLine; decide
    refine ⟨_, pss_one (ps_ret (pe_and (pe_cmpR op_eq (pe_ix ix_tup (pv 0) pe_int (fun _ _ => rfl)) pe_str (nomark _)) (pe_one (pe_cmpR op_gt (pe_c cS r2 (pa_cons (pe_c cA hr (pa_cons (pv 0) (pa_cons (pv 1) (pa_cons (pv 2) pa_nil)))) (pa_cons (pe_tup (pa_cons pe_int (pa_cons pe_int pa_nil))) pa_nil))) pe_int (nomark _))))), ?_⟩
    rcases dat_unless hd with ⟨j, m, rfl⟩ | ⟨wd, rs, hwd, hne⟩
    · have hd : H a = some (.tup [.str "unless", .int j, .int m]) := hd
      refine ⟨_, rfl, a, _, _, _, rfl, rfl, SqT.of hd, rfl, rfl, _, rfl, if_t (by decide) ?_⟩
      refine ⟨_, rfl, _, rfl, _, rfl, a, t, lw, j, m, Am, ws, W, rfl, hd, hok.1, hok.2.1, hWt, hw, h20, hV, hO, fun p z H1 e1 hp hz hiff => ⟨two, fun q hq => ?_⟩⟩
      have e2 := Evl.Ex.new (o := .tup [.int 1, .int 1]) hq
      refine ⟨p, q, z, rfl, e2 _ _ hp, upd_same, hz, fun H2 e3 => ⟨_, _, rfl, rfl, ?_⟩⟩
      have ee : decide (0 < sgn z) = endB ws Am (.un j m) := by
        unfold endB
        refine decide_eq_decide.mpr (Iff.trans ?_ hiff)
        unfold sgn
        constructor
        · intro h
          split at h
          · exact absurd h (by decide)
          · split at h
            · assumption
            · exact absurd h (by decide)
        · intro h
          rw [if_neg (by omega), if_pos h]
          decide
      have kk := k _ ((e1.trans e2).trans e3)
      rw [← ee] at kk
      exact kk
    · have ee : endB ws Am d = false := by
        cases d with
        | un j m =>
          have hd : H a = some (.tup [.str "unless", .int j, .int m]) := hd
          rw [hd] at hwd
          cases hwd
          exact absurd hne (by decide)
        | _ => rfl
      rw [ee] at k
      exact ⟨_, rfl, a, _, _, _, rfl, rfl, SqT.of hwd, (by exact atI_nat (j := 0) rfl), rfl, _, rfl, if_f hne (k _ (Evl.Ex.refl _))⟩
theorem ok_all {f : Addr} {fd : FuncData} (F : Fun K "all_water" "all_water" s_all_water f fd) (cN : Cal P w K mg base 1 "number_of" p_number_of spNum) (cR : Cal P w K mg base 5 "reduced" p_reduced spRed1) (cS : Cal P w K mg base 3 "sum_of" p_sum_of spSum) : FnOk P w K mg base CX0 6 f fd p_all_water spAll := by
  refine F.ok sc_all_water (fun vs H Q E h => ?_) (fun cdv A outer s H vs Q E hr h => ?_)
  · obtain ⟨t, A, W, N, rfl, _⟩ := h
    rfl
  · obtain ⟨t, Am, W, N, rfl, ⟨⟨la, lo, ht, hA, hW⟩, W0⟩, h20, hO, hN, k⟩ := h
    have nd := sc_all_water.nd
    have r1 : Room 1 _ := hr.mono (by decide)
    have r3 : Room 3 _ := hr.mono (by decide)
    refine ⟨_, pss_cons (ps_asg (pv 0) (pg_tup rfl (pgs_cons (pg_name (i := 1) nd rfl (Or.inl rfl)) (pgs_cons (pg_name (i := 2) nd rfl (Or.inl rfl)) pgs_nil))))
      (pss_one (ps_ret (pe_c cN r1 (pa_cons (pe_c cR hr (pa_cons (pe_c cS r3 (pa_cons (pv 1) pa_nil)) (pa_cons (pv 2) pa_nil))) pa_nil)))), ?_⟩
    refine ⟨_, rfl, t, _, rfl, SqT.of ht, rfl, _, _, rfl, _, _, rfl, rfl, ?_⟩
    have hO1 : Li H lo [W] := hW
    have bS : Bn 4400 Am.sum := (bn_sum20 hO.bA h20).le (by omega)
    refine ⟨_, rfl, la, Am, rfl, hA, fun r H1 hr1 e1 h1 => ⟨_, rfl, r, lo, Am.sum, W, rfl, h1, e1 _ _ hO1, W0, bS, hO.bW.le (by omega), fun q x y H2 hx hy e2 hq hLx hLy => ?_⟩⟩
    exact ⟨q, x, y, fr Am.sum W, rfl, hq, hLx, hLy, fun t2 H3 ht3 e3 h3 => k t2 H3 (Evl.fresh_back (e1.trans e2) ht3) ((e1.trans e2).trans e3) h3⟩
end
end V2


namespace V2
open PySem L2
open PySem.Spec PyProof.Rows
/-! ## calling an instance -/
theorem callO_ofK {M : Model} {A : Around} {E : Value → Shared → Prop} {s : Shared} {a : Addr} {pos : Pos} {Q : Value → Shared → Prop} {args : List (Bool × Sem Value)} {kws : List (Option Str × Sem Value)} (hplain : (args.any (·.1) || kws.any (·.1.isNone)) = false)
    (h : wpAny M A (evalArgs (.ref a) true args kws) (fun z s₁ => (∃ C ox od, PySem.W.InstAt s₁.heap a ox C od ∧ ox.data = .plain) ∧ wpAny M A (call (.ref a) ([] ++ z.pos) z.kw) Q E s₁) E s) : wpAny M A (callWith pos (.ref a) [] args kws) Q E s := by
  unfold callWith
  refine wpAny_bind (wpAny_holding (wpAny_mono h (fun z s₁ h₁ => wpAny_bind (wpAny_standAt ?_)) fun _ _ y => y))
  obtain ⟨⟨C, ox, od, J, hd⟩, h₁⟩ := h₁
  have L := PySem.W.kco_keeper (M := M) J hd
  simp only [hplain]
  refine wpAny_bind (L.here ?_)
  have tail : ∀ {t : Sem Value}, wpAny M A t Q E s₁ → wpAny M A (t >>= fun r => holding [r] point >>= fun _ => pure r) Q E s₁ :=
    fun ht => wpAny_bind (wpAny_mono ht (fun r s₂ hr => wpAny_bind (wpAny_holding (wpAny_point (wpAny_pure hr)))) fun _ _ y => y)
  exact tail (wpAny_operateT h₁)
/-- f(k = v, ..), f an expression that gives an instance of C -/
def tCallOK (C : Addr) (m : Nat) (sp : Sp) (gV : List V → List V → List V) (E : XK) (tf : TE) (tk : TA) : TE := fun σ H Q => tf σ H fun y H1 => ∃ a, y = V.ref a ∧ tk σ H1 fun zs H2 => zs.length = m ∧ (∃ dx fs, H2 a = some (.ins C dx fs)) ∧ sp (gV [.ref a] zs) H2 Q E
theorem inst_at {X : Cx} {pins : List (Addr × Obj)} {σ : L2.St} {H : Hp} {s : Shared} {a C : Addr} (I : Inv X pins σ H s) (h : ∃ dx fs, H a = some (.ins C dx fs)) : ∃ ox od, PySem.W.InstAt s.heap a ox C od ∧ ox.data = .plain := by
  obtain ⟨dx, fs, h⟩ := h
  obtain ⟨mA, O, _⟩ := ins_get I.hok h
  obtain ⟨od, J, _⟩ := O.look
  exact ⟨_, _, J, rfl⟩
theorem pe_callOK {X : Cx} {CX : CXT} {k : Nat} {g C : Addr} {fd : FuncData} {ps ks : List Str} {sp : Sp} {E : XK} {fe : Expr} {kws : List Keyword} {tf : TE} {tk : TA} {pos : Pos} {gg : List Value → List Value → List Value} {gV : List V → List V → List V}
    (hf : PE X fe tf) (c : StX.CallO X.K C g) (F : FnOk X.prog X.w X.K X.mg X.base CX k g fd ps sp) (hr : Room k X.A) (hb : KBn X.K fd ps 1 ks gg gV) (hx : Passes CX X E) (hkw : PK X kws tk)
    (hall : (backToKw pos (keywordEach kws X.env)).all (fun b => b.1.isSome) = true := by rfl)
    (hks : (backToKw pos (keywordEach kws X.env)).filterMap (fun b => b.1) = ks := by rfl)
    (ht : eval (.Call fe [] kws pos) X.env = (do callWith pos (← eval fe X.env) [] (backTo pos (starEach [] X.env)) (backToKw pos (keywordEach kws X.env))) := by rfl)
    (hpl : ((backTo pos (starEach [] X.env)).any (fun b => b.1) || (backToKw pos (keywordEach kws X.env)).any (fun b => b.1.isNone)) = false := by rfl) : PE X (.Call fe [] kws pos) (tCallOK C ks.length sp gV E tf tk) := by
  refine ⟨fun pins s σ H Q I h => ?_⟩
  rw [ht]
  refine wpAny_bind (thn (hf.run pins s σ H _ I h) fun u s1 ⟨y, H1, I1, ry, a, ey, q⟩ => ?_)
  subst ey
  obtain rfl : u = Value.ref a := ry
  refine callO_ofK hpl (evalArgs_kw2_nil hall (thn (hkw.run pos pins s1 σ H1 _ I1 q) fun ws s2 ⟨zs, H2, I2, rz, l2, hi, q2⟩ => ?_))
  obtain ⟨ox, od, J, hd⟩ := inst_at I2 hi
  refine ⟨⟨C, ox, od, J, hd⟩, ?_⟩
  rw [hks]
  refine wpAny_call (PySem.W.kco_code I2.kIn J hd c.at_ c.fn c.fi ?_)
  have r2 := hb.rel (vs := [.ref a]) (us := [.ref a]) (.cons rfl .nil) rz
  refine codeAny_mono (F.run X.A X.stack s2 H2 ⟨[.ref a], ks.zip ws⟩ (gg [.ref a] ws) (gV [.ref a] zs) Q E hr I2.env0 (hb.to s2 [.ref a] ws I2.kIn rfl (rz.length.symm.trans l2)) r2 q2) fun r s' hq => ?_
  cases r with
  | error e => exact hx pins σ H2 s2 e s' I2 hq
  | ok fl =>
    cases fl with
    | ret u => exact I2.after hq
    | next => exact False.elim hq
    | brk => exact False.elim hq
    | cont => exact False.elim hq
/-! ## benches -/
/-- all but what stands at ps -/
def woL (ps : List Addr) (H : Hp) : Hp := fun b => if b ∈ ps then none else H b
theorem woL_ex {ps : List Addr} {H : Hp} : Evl.Ex (woL ps H) H := fun b o h => by
  unfold woL at h
  split at h
  · cases h
  · exact h
theorem woL_at {ps : List Addr} {b : Addr} {H : Hp} {o : HO} (n : b ∉ ps) (h : H b = some o) : woL ps H b = some o := by
  unfold woL
  rw [if_neg n]
  exact h
theorem woL_ne {ps : List Addr} {b : Addr} {H : Hp} {o : HO} (h : woL ps H b = some o) : b ∉ ps := fun z => by
  unfold woL at h
  rw [if_pos z] at h
  cases h
def ButL (ps : List Addr) (H H' : Hp) : Prop := ∀ b o, b ∉ ps → H b = some o → H' b = some o
theorem ButL.wo {ps qs : List Addr} {H H' : Hp} (h : ButL ps H H') (s : ∀ p ∈ ps, p ∈ qs) : Evl.Ex (woL qs H) (woL qs H') := fun b o z => woL_at (woL_ne z) (h b o (fun q => woL_ne z (s b q)) (woL_ex _ _ z))
theorem ButL.trans {ps : List Addr} {H H1 H2 : Hp} (a : ButL ps H H1) (b : ButL ps H1 H2) : ButL ps H H2 := fun c o n h => b c o n (a c o n h)
theorem ButL.of_ex {ps : List Addr} {H H' : Hp} (e : Evl.Ex H H') : ButL ps H H' := fun b o _ h => e b o h
theorem ButL.of_but {ps : List Addr} {p : Addr} {H H' : Hp} (h : But p H H') (m : p ∈ ps) : ButL ps H H' := fun b o n z => h b o (fun q => n (q ▸ m)) z
theorem ButL.mono {ps qs : List Addr} {H H' : Hp} (h : ButL ps H H') (s : ∀ p ∈ ps, p ∈ qs) : ButL qs H H' := fun b o n z => h b o (fun q => n (s b q)) z
/-- objects that are no part of water, widths or told widths -/
def Odd (H : Hp) (p : Addr) : Prop := (∃ ns : List Int, 2 ≤ ns.length ∧ H p = some (.lst (iV ns))) ∨ (∃ C dx fs, H p = some (.ins C dx fs)) ∨ ∃ ys c zs, H p = some (.lst (ys ++ [.ref c])) ∧ H c = some (.tup zs)
theorem Sk.odd {H : Hp} {s : Addr} {m : Nat} (k : Sk H s m) : Odd H s := by
  obtain ⟨a, b, c, h, _⟩ := k
  exact .inl ⟨[a, b, c], by show 2 ≤ 3; decide, h⟩
theorem Odd.get {H : Hp} {p : Addr} (k : Odd H p) : ∃ o, H p = some o := by
  rcases k with ⟨ns, n2, k⟩ | ⟨C, dx, fs, k⟩ | ⟨ys, c, zs, k, _⟩
  · exact ⟨_, k⟩
  · exact ⟨_, k⟩
  · exact ⟨_, k⟩
theorem Odd.ex {H H' : Hp} {p : Addr} (k : Odd H p) (e : Evl.Ex H H') : Odd H' p := by
  rcases k with ⟨ns, n2, k⟩ | ⟨C, dx, fs, k⟩ | ⟨ys, c, zs, k, k2⟩
  · exact .inl ⟨ns, n2, e _ _ k⟩
  · exact .inr (.inl ⟨_, _, _, e _ _ k⟩)
  · exact .inr (.inr ⟨_, _, _, e _ _ k, e _ _ k2⟩)
theorem Odd.but {H H' : Hp} {p x C dx : Addr} {fs : List (Str × V)} (k : Odd H p) (hx : H x = some (.ins C dx fs)) (b : But x H H') (n : p ≠ x) : Odd H' p := by
  rcases k with ⟨ns, n2, k⟩ | ⟨C, dx, fs, k⟩ | ⟨ys, c, zs, k, k2⟩
  · exact .inl ⟨ns, n2, b _ _ n k⟩
  · exact .inr (.inl ⟨_, _, _, b _ _ n k⟩)
  · exact .inr (.inr ⟨_, _, _, b _ _ n k, b _ _ (fun z => by rw [z, hx] at k2; cases k2) k2⟩)
theorem Odd.tup {H : Hp} {p q : Addr} {xs : List V} (k : Odd H p) (h : H q = some (.tup xs)) : q ≠ p := fun z => by
  rcases k with ⟨ns', n2, k⟩ | ⟨C, dx, fs, k⟩ | ⟨ys, c, zs, k, _⟩
  · rw [z, k] at h; cases h
  · rw [z, k] at h; cases h
  · rw [z, k] at h; cases h
theorem Odd.ints {H : Hp} {p q : Addr} {ns : List Int} (k : Odd H p) (h : Li H q ns) (l : ns.length ≤ 1) : q ≠ p := fun z => by
  have h : H q = some (.lst (iV ns)) := h
  rcases k with ⟨ns', n2, k⟩ | ⟨C, dx, fs, k⟩ | ⟨ys, c, zs, k, _⟩
  · rw [z, k] at h
    injection h with h
    injection h with h
    have := congrArg List.length h
    rw [iV_len, iV_len] at this
    omega
  · rw [z, k] at h; cases h
  · rw [z, k] at h
    injection h with h
    injection h with h
    have m : V.ref c ∈ iV ns := h ▸ List.mem_append_right _ (List.mem_singleton.mpr rfl)
    unfold iV at m
    obtain ⟨n, _, e⟩ := List.mem_map.mp m
    cases e
theorem cp_len (n : Int) : (cp n).length ≤ 1 := by
  unfold cp
  split
  · exact Nat.zero_le _
  · exact Nat.le_refl _
theorem Odd.cs {H : Hp} {p l : Addr} {ns : List Int} (k : Odd H p) (h : CsAt H l ns) : l ≠ p := fun z => by
  obtain ⟨as, h1, h2, h3⟩ := h
  rcases k with ⟨ns', n2, k⟩ | ⟨C, dx, fs, k⟩ | ⟨ys, c, zs, k, k2⟩
  · rw [z, k] at h1
    injection h1 with h1
    injection h1 with h1
    cases ns' with
    | nil => exact absurd n2 (by decide)
    | cons n r =>
      cases as with
      | nil => cases h1
      | cons x r => cases h1
  · rw [z, k] at h1; cases h1
  · rw [z, k] at h1
    injection h1 with h1
    injection h1 with h1
    have e : as.length = ys.length + 1 := by
      have := congrArg List.length h1
      rw [List.length_append, List.length_map] at this
      exact this.symm
    have ha : as[ys.length]? = some c := by
      have q : (as.map V.ref)[ys.length]? = some (.ref c) := by
        rw [← h1, List.getElem?_append_right (Nat.le_refl _), Nat.sub_self]
        rfl
      rw [List.getElem?_map] at q
      cases e2 : as[ys.length]? with
      | none =>
        rw [e2] at q
        cases q
      | some a =>
        rw [e2] at q
        injection q with q
        injection q with q
        rw [q]
    have hl : ys.length < ns.length := by omega
    have := h3 ys.length c _ ha (List.getElem?_eq_getElem hl)
    have this : H c = some (.lst _) := this
    rw [k2] at this
    cases this
theorem cs_wo {H : Hp} {ps : List Addr} {l : Addr} {ns : List Int} (h : CsAt H l ns) (k : ∀ p ∈ ps, Odd H p) : CsAt (woL ps H) l ns := by
  obtain ⟨as, h1, h2, h3⟩ := id h
  exact ⟨as, woL_at (fun z => (k _ z).cs h rfl) h1, h2, fun i a n x y => woL_at (fun z => (k _ z).ints (h3 i a n x y) (cp_len n) rfl) (h3 i a n x y)⟩
theorem wat_wo {H : Hp} {ps : List Addr} {t : Addr} {A : List Int} {W : Int} (h : Wat H t A W) (k : ∀ p ∈ ps, Odd H p) : Wat (woL ps H) t A W := by
  obtain ⟨⟨x, y, h1, h2, h3⟩, h4⟩ := h
  exact ⟨⟨x, y, woL_at (fun z => (k _ z).tup h1 rfl) h1, cs_wo h2 k, woL_at (fun z => (k _ z).ints h3 (Nat.le_refl _) rfl) h3⟩, h4⟩
theorem fr_wo {H : Hp} {ps : List Addr} {g : Addr} {u b : Int} (h : Fr H g u b) (k : ∀ p ∈ ps, Odd H p) : Fr (woL ps H) g u b := woL_at (fun z => (k _ z).tup h rfl) h
theorem woL_upd {p D : Addr} {H : Hp} {o : HO} (n : D ≠ p) : woL [p] (upd H D o) = upd (woL [p] H) D o := by
  funext b
  unfold woL
  by_cases c : b = p
  · subst c
    rw [if_pos List.mem_cons_self, upd_ne n.symm, if_pos List.mem_cons_self]
  · have c2 : b ∉ [p] := fun z => c (List.mem_singleton.mp z)
    rw [if_neg c2]
    by_cases d : b = D
    · subst d
      rw [upd_same, upd_same]
    · rw [upd_ne d, upd_ne d, if_neg c2]
def spFirstP : Sp := fun vs H Q _ => ∃ (l p : Addr) (ts : List Tk) (o : HO), vs = [.ref l] ∧ TksAt H l ts ∧ ts.length ≤ 20 ∧ H p = some o ∧ ∀ t H', Evl.Ex H H' → Wat (woL [p] H') t (ts.map (·.2)) 1 → Q (.ref t) H'
def spCw : Sp := fun vs H Q _ => ∃ (a : Addr) (u b : Int), vs = [.ref a] ∧ Fr H a u b ∧ Qn u b ∧ 0 < u ∧ Evl.RetV .non H Q
structure BeC (K : PySem.W.Frag) (C fI fC fL fW fE pE : Addr) : Prop where
  cls : Cls K C
  na1 : NoAttr K C "_tanks"
  na2 : NoAttr K C "_width"
  na3 : NoAttr K C "_widths"
  na4 : NoAttr K C "_steps"
  na5 : NoAttr K C "_waters"
  na6 : NoAttr K C "_ended"
  mkI : Mk K C fI
  cal : StX.CallO K C fC
  meL : Meth K C "levels" fL
  meW : Meth K C "water" fW
  prE : PropOf K C "ended" pE fE
def bnF (lq g lw ls lt : Addr) (v : V) : List (Str × V) := [("_tanks", .ref lq), ("_width", .ref g), ("_widths", .ref lw), ("_steps", .ref ls), ("_waters", .ref lt), ("_ended", v)]
/-- the parts of a bench that stay as they are: tanks, widths, the water (now and ahead of each step), the steps -/
structure BnP (H : Hp) (lq g lw t : Addr) (ts : List Tk) (A ws : List Int) (W u b : Int) (as bs : List Addr) (ds : List Deed) (S : List (List Int × Int)) : Prop where
  q : TksAt H lq ts
  f : Fr H g u b
  c : CsAt H lw ws
  w : Wat H t A W
  d : ∀ (i : Nat) (a : Addr) (d : Deed), as[i]? = some a → ds[i]? = some d → DAt H a d
  ww : ∀ (i : Nat) (a : Addr) (s : List Int × Int), bs[i]? = some a → S[i]? = some s → Wat H a s.1 s.2
theorem BnP.ex {H H' : Hp} {lq g lw t : Addr} {ts : List Tk} {A ws : List Int} {W u b : Int} {as bs : List Addr} {ds : List Deed} {S : List (List Int × Int)} (h : BnP H lq g lw t ts A ws W u b as bs ds S) (e : Evl.Ex H H') : BnP H' lq g lw t ts A ws W u b as bs ds S :=
  ⟨h.q.ex e, e _ _ h.f, h.c.ex e, h.w.ex e, fun i a d x y => (h.d i a d x y).ex e, fun i a s x y => (h.ww i a s x y).ex e⟩
/-- a bench with the lists that it changes; s: the sack; ds: its steps; S: the water ahead of each; A by W: the water now -/
structure BnAt (C s : Addr) (H : Hp) (x ls lt : Addr) (ts : List Tk) (ds : List Deed) (S : List (List Int × Int)) (A ws : List Int) (W u b : Int) (v : V) : Prop where
  ex : ∃ (dx lq g lw t : Addr) (as bs : List Addr), H x = some (.ins C dx (bnF lq g lw ls lt v)) ∧ H ls = some (.lst (as.map V.ref)) ∧ as.length = ds.length ∧ H lt = some (.lst (bs.map V.ref ++ [.ref t])) ∧ bs.length = S.length ∧ BnP (woL [s, x, ls, lt] H) lq g lw t ts A ws W u b as bs ds S
  ne : ls ≠ lt ∧ ls ≠ s ∧ lt ≠ s ∧ x ≠ s
  nv : v = .non ∨ ∃ i, v = .int i
  len : S.length = ds.length
theorem BnAt.sep {C s : Addr} {H : Hp} {x ls lt : Addr} {ts : List Tk} {ds : List Deed} {S : List (List Int × Int)} {A ws : List Int} {W u b : Int} {v : V} (h : BnAt C s H x ls lt ts ds S A ws W u b v) {H' : Hp} (e : Evl.Ex (woL [s] H) (woL [s] H')) : BnAt C s H' x ls lt ts ds S A ws W u b v := by
  obtain ⟨⟨dx, lq, g, lw, t, as, bs, h1, h2, h3, h4, h5, h6⟩, ⟨n1, n2, n3, n4⟩, nv, ln⟩ := h
  have w : ∀ {p : Addr} {o : HO}, p ≠ s → H p = some o → H' p = some o := fun hn hp => woL_ex _ _ (e _ _ (woL_at (fun z => hn (List.mem_singleton.mp z)) hp))
  refine ⟨⟨dx, lq, g, lw, t, as, bs, w n4 h1, w n2 h2, h3, w n3 h4, h5, h6.ex fun p o z => ?_⟩, ⟨n1, n2, n3, n4⟩, nv, ln⟩
  have nm := woL_ne z
  exact woL_at nm (w (fun q => nm (q ▸ List.mem_cons_self)) (woL_ex _ _ z))
theorem BnAt.go {C s : Addr} {H : Hp} {x ls lt : Addr} {ts : List Tk} {ds : List Deed} {S : List (List Int × Int)} {A ws : List Int} {W u b : Int} {v : V} (h : BnAt C s H x ls lt ts ds S A ws W u b v) {H' : Hp} (e : Evl.Ex H H') : BnAt C s H' x ls lt ts ds S A ws W u b v := h.sep fun p o z => woL_at (woL_ne z) (e _ _ (woL_ex _ _ z))
theorem TksAt.dq {H : Hp} {l : Addr} {ts : List Tk} (h : TksAt H l ts) : Dq H (.ref l) (.list (ts.map tkD)) := by
  obtain ⟨as, h1, h2, h3⟩ := h
  refine .lst h1 ?_
  have go : ∀ (as : List Addr) (ts : List Tk), as.length = ts.length → (∀ (i : Nat) (a : Addr) (t : Tk), as[i]? = some a → ts[i]? = some t → H a = some (.tup [wV t.1, .int t.2])) → DqAll H (as.map V.ref) (ts.map tkD) := by
    intro as
    induction as with
    | nil =>
      intro ts hl _
      cases ts with
      | nil => exact .nil
      | cons t r => cases hl
    | cons a r ih =>
      intro ts hl hi
      cases ts with
      | nil => cases hl
      | cons t q =>
        refine .cons (.tup (hi 0 a t rfl rfl) (.cons ?_ (.cons (.int _) .nil))) (ih q (by simpa using hl) fun i a' t' h1 h2 => hi (i + 1) a' t' h1 h2)
        cases t.1 with
        | none => exact .non
        | some z => exact .int z
  exact go as ts h2 h3
theorem TksAt.but {H H' : Hp} {x l : Addr} {ts : List Tk} {C dx : Addr} {fs : List (Str × V)} (h : TksAt H l ts) (hx : H x = some (.ins C dx fs)) (b : But x H H') : TksAt H' l ts := by
  obtain ⟨as, h1, h2, h3⟩ := h
  have w : ∀ {p : Addr} {o : HO}, H p = some o → DObj o → H' p = some o := fun hp hd => keep_ins hx b _ _ hd hp
  exact ⟨as, w h1 trivial, h2, fun i a t y z => w (h3 i a t y z) trivial⟩
theorem OkW.le {N M : Nat} {A : List Int} {W : Int} (h : OkW N A W) (l : N ≤ M) : OkW M A W := ⟨h.nn, fun x hx => (h.bA x hx).le l, h.bW.le l, h.pos⟩
theorem dqi {H : Hp} : ∀ ns : List Int, DqAll H (iV ns) (ns.map .int)
  | [] => .nil
  | n :: ns => .cons (.int _) (dqi ns)
theorem dat_dq {H : Hp} {a : Addr} {d : Deed} (h : DAt H a d) : Dq H (.ref a) (dD d) := by
  cases d with
  | op ks =>
    obtain ⟨l, h1, h2⟩ := h
    exact .tup h1 (.cons (.str _) (.cons (.lst h2 (dqi ks)) .nil))
  | po k x => exact .tup h (.cons (.str _) (.cons (.int _) (.cons (.int _) .nil)))
  | sc k p q =>
    obtain ⟨l, h1, h2⟩ := h
    exact .tup h1 (.cons (.str _) (.cons (.int _) (.cons (.tup h2 (.cons (.int _) (.cons (.int _) .nil))) .nil)))
  | mv k m p q =>
    obtain ⟨l, h1, h2⟩ := h
    exact .tup h1 (.cons (.str _) (.cons (.int _) (.cons (.int _) (.cons (.tup h2 (.cons (.int _) (.cons (.int _) .nil))) .nil))))
  | un k m => exact .tup h (.cons (.str _) (.cons (.int _) (.cons (.int _) .nil)))
theorem dat_tup {H : Hp} {a : Addr} {d : Deed} (h : DAt H a d) : ∃ zs, H a = some (.tup zs) := by
  cases d with
  | op ks =>
    obtain ⟨l, h1, h2⟩ := h
    exact ⟨_, h1⟩
  | po k x => exact ⟨_, h⟩
  | sc k p q =>
    obtain ⟨l, h1, h2⟩ := h
    exact ⟨_, h1⟩
  | mv k m p q =>
    obtain ⟨l, h1, h2⟩ := h
    exact ⟨_, h1⟩
  | un k m => exact ⟨_, h⟩
theorem tks_len {H : Hp} {l : Addr} {ts : List Tk} (h : TksAt H l ts) : ∃ qs, H l = some (.lst qs) ∧ qs.length = ts.length := by
  obtain ⟨as, h1, h2, _⟩ := h
  exact ⟨_, h1, by rw [List.length_map]; exact h2⟩
theorem at_last (ys : List V) (t : V) : atI (ys ++ [t]) (-1) = some t := by
  unfold atI ixN
  rw [if_neg (by decide), if_pos (by rw [List.length_append]; show -(((ys.length + 1 : Nat)) : Int) ≤ -1; omega)]
  show (ys ++ [t])[(-1 + ((ys ++ [t]).length : Int)).toNat]? = some t
  rw [List.length_append, show (-1 + ((ys.length + [t].length : Nat) : Int)).toNat = ys.length by show (-1 + ((ys.length + 1 : Nat) : Int)).toNat = ys.length; omega, List.getElem?_append_right (Nat.le_refl _), Nat.sub_self]
  rfl
def spBnI (C : Addr) : Sp := fun vs H Q _ => ∃ (x dx l g s : Addr) (rs : List Addr) (m : Nat) (ts : List Tk) (u b : Int), vs = [.ref x, .ref l, .ref g] ∧ H x = some (.ins C dx []) ∧ TksAt H l ts ∧ okT ts ∧ (∀ t ∈ ts, ∀ z, t.1 = some z → z ≤ 1000) ∧ Fr H g u b ∧ 0 < u ∧ Qn u b ∧ Sk H s m ∧ (∀ r ∈ rs, Odd H r) ∧ x ∉ rs ∧
  ∀ (ls lt : Addr) (H' : Hp), H ls = none → H lt = none → But x H H' → BnAt C s (woL rs H') x ls lt ts [] [] (ts.map (·.2)) (ts.map (wid u b)) 1 u b .non → Q .non H'
def spBnC (C : Addr) : Sp := fun vs H Q _ => ∃ (x ls lt d s : Addr) (rs : List Addr) (m N : Nat) (ts : List Tk) (ds : List Deed) (S : List (List Int × Int)) (A ws : List Int) (W u b : Int) (dd : Deed), vs = [.ref x, .ref d] ∧ BnAt C s (woL rs H) x ls lt ts ds S A ws W u b .non ∧ A.length = ts.length ∧ (∀ r ∈ rs, Odd H r) ∧ Sk H s m ∧ ds.length ≤ 100 ∧ DAt (woL [x, ls, lt] H) d dd ∧ okD A.length dd ∧ (∀ k a, dd = .po k a → Bn 60 a) ∧ A.length ≤ 20 ∧ OkV A.length ws ∧ OkW N A W ∧ N ≤ 4000 ∧
  ∀ (v : V) (H' : Hp), ButL [x, ls, lt] H H' → BnAt C s (woL rs H') x ls lt ts (ds ++ [dd]) (S ++ [(A, W)]) (stepA ws (A, W) dd).1 ws (stepA ws (A, W) dd).2 u b v → v = (if endB ws A dd = true then .int ds.length else .non) → Q (.bl (endB ws A dd)) H'
def spBnL (C : Addr) : Sp := fun vs H Q _ => ∃ (x ls lt s : Addr) (N : Nat) (ts : List Tk) (ds : List Deed) (S : List (List Int × Int)) (A ws : List Int) (W u b : Int) (v : V), vs = [.ref x] ∧ BnAt C s H x ls lt ts ds S A ws W u b v ∧ A.length ≤ 20 ∧ OkV A.length ws ∧ OkW N A W ∧ N ≤ 4300 ∧ 0 < b ∧ Bn 50 b ∧
  ∀ D H', H D = none → Evl.Ex H H' → PrAt H' D ((List.range A.length).map (lvl A ws W b)) → Q (.ref D) H'
def spBnW (C : Addr) : Sp := fun vs H Q _ => ∃ (x ls lt s : Addr) (N : Nat) (ts : List Tk) (ds : List Deed) (S : List (List Int × Int)) (A ws : List Int) (W u b : Int) (v : V), vs = [.ref x] ∧ BnAt C s H x ls lt ts ds S A ws W u b v ∧ A.length ≤ 20 ∧ OkW N A W ∧ N ≤ 4300 ∧ RetU [.int (fr A.sum W).1, .int (fr A.sum W).2] H Q
def spBnE (C : Addr) : Sp := fun vs H Q _ => ∃ (x ls lt s : Addr) (ts : List Tk) (ds : List Deed) (S : List (List Int × Int)) (A ws : List Int) (W u b : Int) (v : V), vs = [.ref x] ∧ BnAt C s H x ls lt ts ds S A ws W u b v ∧ Q v H
section
variable {base : Heap} {mg : Str → Option Value} {K : PySem.W.Frag} {w : World} {P : Program} {C fI fC fL fW fE pE : Addr}
theorem ok_check_width {f : Addr} {fd : FuncData} (F : Fun K "check_width" "check_width" s_check_width f fd) (cF : Cal P w K mg base 2 "is_fraction" p_is_fraction spIsFr) : FnOk P w K mg base CX0 3 f fd p_check_width spCw := by
  refine F.ok sc_check_width (fun vs H Q E h => ?_) (fun cdv A outer s H vs Q E hr h => ?_)
  · obtain ⟨a, u, b, rfl, _⟩ := h
    rfl
  · obtain ⟨a, u, b, rfl, ha, hQ, hu, k⟩ := h
    refine ⟨_, pss_one (ps_if (PW.pt (pw_or (pt_not (pt_val (pe_c cF hr (pa_cons (pv 0) pa_nil)))) (pw_or1 (pt_cmpR op_le (pe_ix ix_tup (pv 0) pe_int (fun _ _ => rfl)) pe_int (nomark _))))) (pss_one ps_never) pss_nil), ?_⟩
    refine ⟨_, rfl, a, u, b, rfl, ha, hQ, fun H1 e1 => ⟨true, rfl, if_f rfl ?_⟩⟩
    exact ⟨_, rfl, a, _, _, _, rfl, rfl, SqT.of (e1 _ _ ha), rfl, _, _, rfl, rfl, _, rfl, if_f (decide_eq_false (by omega)) (k _ e1)⟩
theorem ok_first_waterP {f : Addr} {fd : FuncData} (F : Fun K "first_water" "first_water" s_first_water f fd) (cC : Cal P w K mg base 1 "cut" p_cut (spTrim K)) : FnOk P w K mg base CX0 2 f fd p_first_water spFirstP := by
  refine F.ok sc_first_water (fun vs H Q E h => ?_) (fun cdv A outer s H vs Q E hr h => ?_)
  · obtain ⟨l, p, ts, o, rfl, _⟩ := h
    rfl
  · obtain ⟨l, p, ts, o, rfl, hT, h20, hp, k⟩ := h
    have nd := sc_first_water.nd
    have one : 1 ≤ sizeLine := by show 1 ≤ sizeLine; decide
    have two : 2 ≤ sizeLine := by show 2 ≤ sizeLine; decide
    refine ⟨_, pss_one (ps_ret (pe_tup (pa_cons (pe_lc (own := [("_", 1), ("amount", 2)]) (g := gTup K 2 (gCons (gName 1) (gCons (gName 2) gNil))) (tt := tYes) (te := tCall (spTrim K) [] E0 (tCons (tLst (tCons (tVar 2) tNil)) tNil)) rfl nd (pi_list (pv 0)) (blkOk_by (N := n_first_water) (sc := defScope s_first_water) (by decide +kernel)) (fun _ _ _ _ _ => pg_tup rfl (pgs_cons (pg_name (i := 1) nd rfl (Or.inl rfl)) (pgs_cons (pg_name (i := 2) nd rfl (Or.inl rfl)) pgs_nil))) (fun _ _ _ _ _ => pts_nil)
        (fun _ _ _ _ _ => pe_c cC hr (pa_cons (pe_lst (pa_cons (pv 2) pa_nil)) pa_nil))) (pa_cons (pe_lst (pa_cons pe_int pa_nil)) pa_nil)))), ?_⟩
    obtain ⟨xs, hl, hlen, hx⟩ := tks_get hT
    refine ⟨_, rfl, l, rfl, ⟨_, SqL.of hl⟩, fun D hD => ?_⟩
    have Dp : D ≠ p := (ne_of_none hp hD).symm
    refine lc_list (xs := xs) (fun i H' => Evl.Ex H H' ∧ CsN (woL [p] H') D (ts.map (·.2)) i) ⟨Evl.Ex.new hD, CsN.start (woL_at (fun z => Dp (List.mem_singleton.mp z)) upd_same)⟩ (fun i H' _ q => SqL.of (q.1 _ _ hl)) ?_ ?_
    · rintro i x H2 hi ⟨e2, hN⟩
      obtain ⟨a, t, rfl, ht, ha⟩ := hx i x hi
      have ht2 : (ts.map (·.2))[i]? = some t.2 := by rw [List.getElem?_map, ht]; rfl
      have hi20 : i ≤ 100 := by
        have := (List.getElem?_eq_some_iff.mp ht).1
        omega
      refine ⟨a, _, rfl, SqT.of (e2 _ _ ha), rfl, _, _, rfl, _, _, rfl, rfl, rfl, ?_⟩
      show tCall (spTrim K) [] E0 (tCons (tLst (tCons (tVar 2) tNil)) tNil) _ _ _
      refine ⟨_, rfl, one, fun r hr2 => ⟨r, [t.2], rfl, SqL.of upd_same, by show 1 ≤ 1000; decide, fun q H3 hq e3 h3 => ?_⟩⟩
      have e4 := (Evl.Ex.new (o := .lst [.int t.2]) hr2).trans e3
      obtain ⟨as0, hD0, _⟩ := id hN
      have qD : q ≠ D := (ne_of_none (Evl.Ex.new hr2 _ _ (woL_ex _ _ hD0)) hq).symm
      have qp : q ≠ p := (ne_of_none (Evl.Ex.new hr2 _ _ (e2 _ _ hp)) hq).symm
      rw [trm_1] at h3
      obtain ⟨acc, a1, a2, a3⟩ := hN.more ((ButL.of_ex (ps := [p]) e4).wo fun _ h => h) qD (woL_at (fun z => qp (List.mem_singleton.mp z)) h3) ht2 hi20
      exact ⟨acc, woL_ex _ _ a1, a2, Evl.Ex.mut (e2.trans e4) hD, by rw [woL_upd Dp]; exact a3⟩
    · rintro H2 ⟨e2, hN⟩
      rw [hlen, show ts.length = (ts.map (·.2)).length by rw [List.length_map]] at hN
      have hC := hN.done
      refine ⟨one, fun y hy => ⟨two, fun t ht => ?_⟩⟩
      have e3 := Evl.Ex.new (o := .lst [.int 1]) hy
      have e4 := Evl.Ex.new (o := .tup [.ref D, .ref y]) ht
      have yp : y ≠ p := (ne_of_none (e2 _ _ hp) hy).symm
      have tp : t ≠ p := (ne_of_none (e3 _ _ (e2 _ _ hp)) ht).symm
      have ne : ∀ {q : Addr}, q ≠ p → q ∉ [p] := fun n z => n (List.mem_singleton.mp z)
      exact k t _ ((e2.trans e3).trans e4) ⟨⟨D, y, woL_at (ne tp) upd_same, hC.ex ((ButL.of_ex (e3.trans e4)).wo fun _ h => h), woL_at (ne yp) (e4 _ _ upd_same)⟩, by decide⟩
theorem ok_Be_levels {f : Addr} {fd : FuncData} (F : Fun K "levels" "Bench.levels" s_Be_levels f fd) (c : BeC K C fI fC fL fW fE pE) (cL : Cal P w K mg base 7 "told_levels" p_told_levels spTL) : FnOk P w K mg base CX0 8 f fd p_Be_levels (spBnL C) := by
  refine F.ok sc_Be_levels (fun vs H Q E h => ?_) (fun cdv A outer s H vs Q E hr h => ?_)
  · obtain ⟨x, ls, lt, s, N, ts, ds, S, A, ws, W, u, b, v, rfl, _⟩ := h
    rfl
  · obtain ⟨x, ls, lt, s, N, ts, ds, S, Am, ws, W, u, b, v, rfl, ⟨⟨dx, lq, g, lw, t, as, bs, hx, hls, hxs, hlt, hys, hP⟩, _, _, _⟩, h20, hV, hO, hN, b0, bb, k⟩ := h
    refine ⟨_, pss_one (ps_ret (pe_c cL hr (pa_cons (pe_ix ix_list (pe_fld (pv 0) rfl) (pe_un un_neg pe_int) (fun _ _ => rfl)) (pa_cons (pe_fld (pv 0) rfl) (pa_cons (pe_fld (pv 0) rfl) pa_nil))))), ?_⟩
    have hp := hP.ex woL_ex
    refine ⟨_, rfl, x, C, dx, _, _, rfl, hx, c.cls, c.na5, rfl, _, rfl, ?_⟩
    refine ⟨lt, _, _, _, rfl, rfl, SqL.of hlt, at_last _ _, ?_⟩
    refine ⟨_, rfl, x, C, dx, _, _, rfl, hx, c.cls, c.na3, rfl, ?_⟩
    refine ⟨_, rfl, x, C, dx, _, _, rfl, hx, c.cls, c.na2, rfl, ?_⟩
    exact ⟨t, lw, g, Am, ws, W, u, b, N, rfl, hp.w, hp.c, hp.f, h20, hV, hO, hN, b0, bb, k⟩
theorem ok_Be_water {f : Addr} {fd : FuncData} (F : Fun K "water" "Bench.water" s_Be_water f fd) (c : BeC K C fI fC fL fW fE pE) (cA : Cal P w K mg base 6 "all_water" p_all_water spAll) : FnOk P w K mg base CX0 7 f fd p_Be_water (spBnW C) := by
  refine F.ok sc_Be_water (fun vs H Q E h => ?_) (fun cdv A outer s H vs Q E hr h => ?_)
  · obtain ⟨x, ls, lt, s, N, ts, ds, S, A, ws, W, u, b, v, rfl, _⟩ := h
    rfl
  · obtain ⟨x, ls, lt, s, N, ts, ds, S, Am, ws, W, u, b, v, rfl, ⟨⟨dx, lq, g, lw, t, as, bs, hx, hls, hxs, hlt, hys, hP⟩, _, _, _⟩, h20, hO, hN, k⟩ := h
    refine ⟨_, pss_one (ps_ret (pe_c cA hr (pa_cons (pe_ix ix_list (pe_fld (pv 0) rfl) (pe_un un_neg pe_int) (fun _ _ => rfl)) pa_nil))), ?_⟩
    have hp := hP.ex woL_ex
    refine ⟨_, rfl, x, C, dx, _, _, rfl, hx, c.cls, c.na5, rfl, _, rfl, ?_⟩
    exact ⟨lt, _, _, _, rfl, rfl, SqL.of hlt, at_last _ _, t, Am, W, N, rfl, hp.w, h20, hO, hN, k⟩
theorem ok_Be_ended {f : Addr} {fd : FuncData} (F : Fun K "ended" "Bench.ended" s_Be_ended f fd) (c : BeC K C fI fC fL fW fE pE) : FnOk P w K mg base CX0 1 f fd p_Be_ended (spBnE C) := by
  refine F.ok sc_Be_ended (fun vs H Q E h => ?_) (fun cdv A outer s H vs Q E hr h => ?_)
  · obtain ⟨x, ls, lt, s, ts, ds, S, A, ws, W, u, b, v, rfl, _⟩ := h
    rfl
  · obtain ⟨x, ls, lt, s, ts, ds, S, Am, ws, W, u, b, v, rfl, ⟨⟨dx, lq, g, lw, t, as, bs, hx, hls, hxs, hlt, hys, hP⟩, _, _, _⟩, k⟩ := h
    refine ⟨_, pss_one (ps_ret (pe_fld (pv 0) rfl)), ?_⟩
    exact ⟨_, rfl, x, C, dx, _, _, rfl, hx, c.cls, c.na6, rfl, k⟩
theorem ok_Be_init {f : Addr} {fd : FuncData} (F : Fun K "__init__" "Bench.__init__" s_Be_init f fd) (c : BeC K C fI fC fL fW fE pE) (cT : Cal P w K mg base 4 "check_tanks" p_check_tanks spChkT) (cW : Cal P w K mg base 3 "check_width" p_check_width spCw) (c2 : Cal P w K mg base 3 "copied" p_copied (spCp 2)) (cTo : Cal P w K mg base 1 "told_widths" p_told_widths spTold) (cF : Cal P w K mg base 2 "first_water" p_first_water spFirstP) : FnOk P w K mg base CX0 5 f fd p_Be_init (spBnI C) := by
  refine F.ok sc_Be_init (fun vs H Q E h => ?_) (fun cdv A outer s H vs Q E hr h => ?_)
  · obtain ⟨x, dx, l, g, s, rs, m, ts, u, b, rfl, _⟩ := h
    rfl
  · obtain ⟨x, dx, l, g, s, rs, m, ts, u, b, rfl, hx, hT, hok, hz, hg, hu, hQ, hS, hR, rx, k⟩ := h
    have nd := sc_Be_init.nd
    have r1 : Room 1 _ := hr.mono (by decide)
    have r2 : Room 2 _ := hr.mono (by decide)
    have r3 : Room 3 _ := hr.mono (by decide)
    have one : 1 ≤ sizeLine := by show 1 ≤ sizeLine; decide
    have zero : 0 ≤ sizeLine := Nat.zero_le _
    refine ⟨_, pss_cons (ps_expr (pe_c cT hr (pa_cons (pv 1) pa_nil)))
      (pss_cons (ps_expr (pe_c cW r3 (pa_cons (pv 2) pa_nil)))
      (pss_cons (ps_fld (pv 0) (pe_c c2 r3 (pa_cons (pv 1) pa_nil)) (by rfl))
      (pss_cons (ps_fld (pv 0) (pv 2) (by rfl))
      (pss_cons (ps_fld (pv 0) (pe_c cTo r1 (pa_cons (pv 1) (pa_cons (pv 2) pa_nil))) (by rfl))
      (pss_cons (ps_fld (pv 0) (pe_lst pa_nil) (by rfl))
      (pss_cons (ps_fld (pv 0) (pe_lst (pa_cons (pe_c cF r2 (pa_cons (pv 1) pa_nil)) pa_nil)) (by rfl))
      (pss_one (ps_fld (pv 0) pe_non (by rfl))))))))), ?_⟩
    refine ⟨_, rfl, l, ts, rfl, hT, hok, fun H1 e1 => ?_⟩
    refine ⟨_, rfl, g, u, b, rfl, e1 _ _ hg, hQ, hu, fun H2 e2 => ?_⟩
    have e12 := e1.trans e2
    refine ⟨_, rfl, _, _, rfl, (hT.ex e12).dq, cp_tks (Nat.le_trans hok.1 (by decide)), fun v' H3 e3 hv' => ?_⟩
    obtain ⟨lq, rfl, hlq⟩ := hv'.tks
    have hx3 : H3 x = some (.ins C dx []) := (e12.trans e3) _ _ hx
    refine ⟨_, rfl, x, C, dx, _, rfl, hx3, c.cls, c.na1, by decide, ?_⟩
    have b3 : But x H3 (upd H3 x (.ins C dx (putF "_tanks" (.ref lq) []))) := But.upd
    have x4 : upd H3 x (.ins C dx (putF "_tanks" (.ref lq) [])) x = some (.ins C dx [("_tanks", .ref lq)]) := upd_same
    have b4 : But x H (upd H3 x (.ins C dx (putF "_tanks" (.ref lq) []))) := (But.of_ex (e12.trans e3)).trans b3
    generalize upd H3 x (.ins C dx (putF "_tanks" (.ref lq) [])) = H4 at x4 b3 b4
    refine ⟨_, rfl, _, rfl, x, C, dx, _, rfl, x4, c.cls, c.na2, by show 1 < 1000; decide, ?_⟩
    have b4' : But x H4 (upd H4 x (.ins C dx (putF "_width" (.ref g) [("_tanks", .ref lq)]))) := But.upd
    have x5 : upd H4 x (.ins C dx (putF "_width" (.ref g) [("_tanks", .ref lq)])) x = some (.ins C dx [("_tanks", .ref lq), ("_width", .ref g)]) := upd_same
    have b5 := b4.trans b4'
    have b35 := b3.trans b4'
    generalize upd H4 x (.ins C dx (putF "_width" (.ref g) [("_tanks", .ref lq)])) = H5 at x5 b5 b35
    refine ⟨_, rfl, _, rfl, l, g, ts, u, b, rfl, hT.but hx b5, hok, hz, b5 _ _ (fun z => by have hg : H g = some (.tup _) := hg; rw [z, hx] at hg; cases hg) hg, hu, hQ.1, hQ.2.2.1, hQ.2.2.2, fun lw H6 hlw e6 hw => ?_⟩
    have x6 := e6 _ _ x5
    refine ⟨_, rfl, x, C, dx, _, rfl, x6, c.cls, c.na3, by show 2 < 1000; decide, ?_⟩
    have b6 : But x H6 (upd H6 x (.ins C dx (putF "_widths" (.ref lw) [("_tanks", .ref lq), ("_width", .ref g)]))) := But.upd
    have x7 : upd H6 x (.ins C dx (putF "_widths" (.ref lw) [("_tanks", .ref lq), ("_width", .ref g)])) x = some (.ins C dx [("_tanks", .ref lq), ("_width", .ref g), ("_widths", .ref lw)]) := upd_same
    generalize upd H6 x (.ins C dx (putF "_widths" (.ref lw) [("_tanks", .ref lq), ("_width", .ref g)])) = H7 at b6 x7
    have b07 := (b5.trans (But.of_ex e6)).trans b6
    refine ⟨zero, fun ls hls => ⟨_, rfl, x, C, dx, _, rfl, Evl.Ex.new hls _ _ x7, c.cls, c.na4, by show 3 < 1000; decide, ?_⟩⟩
    have xls : x ≠ ls := ne_of_none x7 hls
    have b8 : But x H7 (upd (upd H7 ls (.lst [])) x (.ins C dx (putF "_steps" (.ref ls) [("_tanks", .ref lq), ("_width", .ref g), ("_widths", .ref lw)]))) := (But.of_ex (Evl.Ex.new hls)).trans But.upd
    have x8 : upd (upd H7 ls (.lst [])) x (.ins C dx (putF "_steps" (.ref ls) [("_tanks", .ref lq), ("_width", .ref g), ("_widths", .ref lw)])) x = some (.ins C dx [("_tanks", .ref lq), ("_width", .ref g), ("_widths", .ref lw), ("_steps", .ref ls)]) := upd_same
    have ls8 : upd (upd H7 ls (.lst [])) x (.ins C dx (putF "_steps" (.ref ls) [("_tanks", .ref lq), ("_width", .ref g), ("_widths", .ref lw)])) ls = some (.lst []) := Eq.trans (upd_ne xls.symm) upd_same
    generalize upd (upd H7 ls (.lst [])) x (.ins C dx (putF "_steps" (.ref ls) [("_tanks", .ref lq), ("_width", .ref g), ("_widths", .ref lw)])) = H8 at b8 x8 ls8
    have b08 := b07.trans b8
    refine ⟨_, rfl, l, ls, ts, _, rfl, hT.but hx b08, hok.1, ls8, fun t H9 e9 hWt => ?_⟩
    have x9 := e9 _ _ x8
    refine ⟨one, fun lt hlt => ⟨_, rfl, x, C, dx, _, rfl, Evl.Ex.new hlt _ _ x9, c.cls, c.na5, by show 4 < 1000; decide, ?_⟩⟩
    have xlt : x ≠ lt := ne_of_none x9 hlt
    have b10 : But x H9 (upd (upd H9 lt (.lst [.ref t])) x (.ins C dx (putF "_waters" (.ref lt) [("_tanks", .ref lq), ("_width", .ref g), ("_widths", .ref lw), ("_steps", .ref ls)]))) := (But.of_ex (Evl.Ex.new hlt)).trans But.upd
    have x10 : upd (upd H9 lt (.lst [.ref t])) x (.ins C dx (putF "_waters" (.ref lt) [("_tanks", .ref lq), ("_width", .ref g), ("_widths", .ref lw), ("_steps", .ref ls)])) x = some (.ins C dx [("_tanks", .ref lq), ("_width", .ref g), ("_widths", .ref lw), ("_steps", .ref ls), ("_waters", .ref lt)]) := upd_same
    have lt10 : upd (upd H9 lt (.lst [.ref t])) x (.ins C dx (putF "_waters" (.ref lt) [("_tanks", .ref lq), ("_width", .ref g), ("_widths", .ref lw), ("_steps", .ref ls)])) lt = some (.lst [.ref t]) := Eq.trans (upd_ne xlt.symm) upd_same
    generalize upd (upd H9 lt (.lst [.ref t])) x (.ins C dx (putF "_waters" (.ref lt) [("_tanks", .ref lq), ("_width", .ref g), ("_widths", .ref lw), ("_steps", .ref ls)])) = H10 at b10 x10 lt10
    refine ⟨_, rfl, x, C, dx, _, rfl, x10, c.cls, c.na6, by show 5 < 1000; decide, ?_⟩
    have b11 : But x H10 (upd H10 x (.ins C dx (putF "_ended" .non [("_tanks", .ref lq), ("_width", .ref g), ("_widths", .ref lw), ("_steps", .ref ls), ("_waters", .ref lt)]))) := But.upd
    have x11 : upd H10 x (.ins C dx (putF "_ended" .non [("_tanks", .ref lq), ("_width", .ref g), ("_widths", .ref lw), ("_steps", .ref ls), ("_waters", .ref lt)])) x = some (.ins C dx (bnF lq g lw ls lt .non)) := upd_same
    generalize upd H10 x (.ins C dx (putF "_ended" .non [("_tanks", .ref lq), ("_width", .ref g), ("_widths", .ref lw), ("_steps", .ref ls), ("_waters", .ref lt)])) = H11 at b11 x11
    have b911 := b10.trans b11
    have b011 := (b08.trans (But.of_ex e9)).trans b911
    have b811 := (But.of_ex (p := x) e9).trans b911
    have b611 := (b6.trans b8).trans b811
    have lsx : ls ≠ x := xls.symm
    have ltx : lt ≠ x := xlt.symm
    have sx : s ≠ x := fun z => by
      obtain ⟨a1, a2, a3, a4, _⟩ := hS
      rw [z, hx] at a4
      cases a4
    have but_n : ∀ {Ha Hb : Hp} {q : Addr}, But x Ha Hb → Hb q = none → q ≠ x → Ha q = none := fun bb hb hn => by
      rename_i Ha Hb q
      cases e : Ha q with
      | none => rfl
      | some o =>
        rw [bb q o hn e] at hb
        cases hb
    have hls6 : H6 ls = none := but_n b6 hls lsx
    have hlt8 : H8 lt = none := but_n (But.of_ex e9) hlt ltx
    have hlt6 : H6 lt = none := but_n (b6.trans b8) hlt8 ltx
    have hls0 : H ls = none := but_n b07 hls lsx
    have hlt0 : H lt = none := but_n b08 hlt8 ltx
    have lslt : ls ≠ lt := ne_of_none ls8 hlt8
    obtain ⟨so1, so2, so3, hs0, _⟩ := id hS
    have sls : s ≠ ls := ne_of_none hs0 hls0
    have slt : s ≠ lt := ne_of_none hs0 hlt0
    have rls : ls ∉ rs := fun z => let ⟨ro, hr0⟩ := (hR _ z).get; ne_of_none hr0 hls0 rfl
    have rlt : lt ∉ rs := fun z => let ⟨ro, hr0⟩ := (hR _ z).get; ne_of_none hr0 hlt0 rfl
    have nr : ∀ {q : Addr}, q ∉ rs → q ∉ rs := fun n => n
    have up : ∀ {q : Addr} {o : HO}, q ∉ s :: x :: rs → H6 q = some o → woL [s, x, ls, lt] (woL rs H11) q = some o := fun hn hq => by
      have n1 := ne_of_none hq hls6
      have n2 := ne_of_none hq hlt6
      simp only [List.mem_cons, List.not_mem_nil, or_false, not_or] at hn
      exact woL_at (by simp only [List.mem_cons, List.not_mem_nil, or_false, not_or]; exact ⟨hn.1, hn.2.1, n1, n2⟩) (woL_at (nr hn.2.2) (b611 _ _ hn.2.1 hq))
    have up9 : ∀ {q : Addr} {o : HO}, q ∉ s :: x :: rs → q ≠ ls → H9 q = some o → woL [s, x, ls, lt] (woL rs H11) q = some o := fun hn n1 hq => by
      have n2 := ne_of_none hq hlt
      simp only [List.mem_cons, List.not_mem_nil, or_false, not_or] at hn
      exact woL_at (by simp only [List.mem_cons, List.not_mem_nil, or_false, not_or]; exact ⟨hn.1, hn.2.1, n1, n2⟩) (woL_at (nr hn.2.2) (b911 _ _ hn.2.1 hq))
    have odd6 : ∀ p ∈ s :: x :: rs, Odd H6 p := fun p hp => by
      simp only [List.mem_cons, List.not_mem_nil, or_false] at hp
      rcases hp with rfl | rfl | hp
      · exact hS.odd.but hx (b5.trans (But.of_ex e6)) sx
      · exact .inr (.inl ⟨_, _, _, x6⟩)
      · exact (hR p hp).but hx (b5.trans (But.of_ex e6)) (fun z => rx (z ▸ hp))
    have odd9' : ∀ p ∈ s :: x :: rs, Odd H9 p := fun p hp => by
      simp only [List.mem_cons, List.not_mem_nil, or_false] at hp
      rcases hp with rfl | rfl | hp
      · exact hS.odd.but hx (b08.trans (But.of_ex e9)) sx
      · exact .inr (.inl ⟨_, _, _, x9⟩)
      · exact (hR p hp).but hx (b08.trans (But.of_ex e9)) (fun z => rx (z ▸ hp))
    have odd9 : ∀ p ∈ s :: x :: rs, Odd (woL [ls] H9) p := fun p hp => by
      have h1 := odd9' p hp
      have pn : p ≠ ls := by
        simp only [List.mem_cons, List.not_mem_nil, or_false] at hp
        rcases hp with rfl | rfl | hp
        · exact sls
        · exact xls
        · exact fun z => rls (z ▸ hp)
      have nl : ∀ {q : Addr}, q ≠ ls → q ∉ [ls] := fun n z => n (List.mem_singleton.mp z)
      rcases h1 with ⟨ns, n2, k⟩ | ⟨C, dx, fs, k⟩ | ⟨ys, c, zs, k, k2⟩
      · exact .inl ⟨ns, n2, woL_at (nl pn) k⟩
      · exact .inr (.inl ⟨_, _, _, woL_at (nl pn) k⟩)
      · exact .inr (.inr ⟨_, _, _, woL_at (nl pn) k, woL_at (nl (fun z => by rw [z, e9 _ _ ls8] at k2; cases k2)) k2⟩)
    refine k ls lt H11 hls0 hlt0 b011 ⟨⟨dx, lq, g, lw, t, [], [], woL_at (nr rx) x11, woL_at (nr rls) (b811 _ _ lsx ls8), rfl, woL_at (nr rlt) (b11 _ _ ltx lt10), rfl, ?_⟩, ⟨lslt, sls.symm, slt.symm, sx.symm⟩, .inl rfl, rfl⟩
    refine ⟨hlq.ex fun q o z => ?_, ?_, ?_, ?_, fun i a d h => (by cases h), fun i a s h => (by cases h)⟩
    · have q2 := nw_none z
      have q3 := Nw.ex _ _ z
      have nx : q ≠ x := fun y => by rw [y, e12 _ _ hx] at q2; cases q2
      have ns : q ≠ s := (ne_of_none (e12 _ _ hs0) q2).symm
      have nr2 : q ∉ rs := fun z => let ⟨ro, hr0⟩ := (hR _ z).get; ne_of_none (e12 _ _ hr0) q2 rfl
      exact up (by simp only [List.mem_cons, List.not_mem_nil, or_false, not_or]; exact ⟨ns, nx, nr2⟩) (e6 _ _ (b35 _ _ nx q3))
    · have hg6 : Fr H6 g u b := (b5.trans (But.of_ex e6)) _ _ (fun z => by have hg : H g = some (.tup _) := hg; rw [z, hx] at hg; cases hg) hg
      exact up (woL_ne (fr_wo hg6 odd6)) hg6
    · exact (cs_wo hw odd6).ex fun q o z => up (woL_ne z) (woL_ex _ _ z)
    · exact (wat_wo hWt odd9).ex fun q o z => up9 (woL_ne z) (fun z2 => woL_ne (woL_ex _ _ z) (List.mem_singleton.mpr z2)) (woL_ex _ _ (woL_ex _ _ z))
theorem ok_Be_call {f : Addr} {fd : FuncData} (F : Fun K "__call__" "Bench.__call__" s_Be_call f fd) (mL : mg "len" = none) (c : BeC K C fI fC fL fW fE pE) (cS : Cal P w K mg base 4 "check_step" p_check_step spChkS) (cE : Cal P w K mg base 8 "is_ended" p_is_ended spEnd) (c2 : Cal P w K mg base 3 "copied" p_copied (spCp 2)) (cA : Cal P w K mg base 6 "after" p_after spAfter) : FnOk P w K mg base CX0 9 f fd p_Be_call (spBnC C) := by
  refine F.ok sc_Be_call (fun vs H Q E h => ?_) (fun cdv A outer s H vs Q E hr h => ?_)
  · obtain ⟨x, ls, lt, d, s, rs, m, N, ts, ds, S, A, ws, W, u, b, dd, rfl, _⟩ := h
    rfl
  · obtain ⟨x, ls, lt, d, s, rs, m, N, ts, ds, S, Am, ws, W, u, b, dd, rfl, ⟨⟨dx, lq, g, lw, t, as, bs, hxr, hlsr, hxs, hltr, hys, hP⟩, ⟨n1, n2, n3, n4⟩, _, hSn⟩, hAt, hR, hS, hn, hd, hok, hpo, h20, hV, hO, hN, k⟩ := h
    have nd := sc_Be_call.nd
    have r3 : Room 3 _ := hr.mono (by decide)
    have r4 : Room 4 _ := hr.mono (by decide)
    have r6 : Room 6 _ := hr.mono (by decide)
    refine ⟨_, pss_cons (ps_expr (pe_c cS r4 (pa_cons (pv 1) (pa_cons (pe_callB call_len_seq (by rfl) mL PySem.boot_len (pa_cons (pe_fld (pv 0) rfl) pa_nil)) pa_nil))))
      (pss_cons (ps_if (pt_cmp (pc_notN (pe_fld (pv 0) rfl))) (pss_one ps_never) pss_nil)
      (pss_cons (ps_set (i := 2) nd rfl (Or.inl rfl) (pe_ix ix_list (pe_fld (pv 0) rfl) (pe_un un_neg pe_int) (fun _ _ => rfl)))
      (pss_cons (ps_set (i := 3) nd rfl (Or.inl rfl) (pe_c cE hr (pa_cons (pv 1) (pa_cons (pv 2) (pa_cons (pe_fld (pv 0) rfl) pa_nil)))))
      (Evl.pss_cut (ps_if (pt_truth (pv 3) (by intro _; rfl)) (pss_one (ps_fld (pv 0) (pe_callB call_len_seq (by rfl) mL PySem.boot_len (pa_cons (pe_fld (pv 0) rfl) pa_nil)) (by rfl))) pss_nil)
      (pss_cons (ps_expr (pe_bm PySem.F.plainAttrs_list PySem.F.slot_list_append PySem.F.type_list_append mt_append (pe_fld (pv 0) rfl) (pa_cons (pe_c c2 r3 (pa_cons (pv 1) pa_nil)) pa_nil)))
      (pss_cons (ps_expr (pe_bm PySem.F.plainAttrs_list PySem.F.slot_list_append PySem.F.type_list_append mt_append (pe_fld (pv 0) rfl) (pa_cons (pe_c cA r6 (pa_cons (pv 1) (pa_cons (pv 2) (pa_cons (pe_fld (pv 0) rfl) pa_nil)))) pa_nil)))
      (pss_one (ps_ret (pv 3))))))))), ?_⟩
    have hx := woL_ex _ _ hxr
    have hls := woL_ex _ _ hlsr
    have hlt := woL_ex _ _ hltr
    have hp := hP.ex (woL_ex.trans woL_ex)
    have nr : ∀ {q : Addr}, q ∉ rs → q ∉ rs := fun n => n
    have xr : x ∉ rs := woL_ne hxr
    have lsr : ls ∉ rs := woL_ne hlsr
    have ltr : lt ∉ rs := woL_ne hltr
    have wr : ∀ {Ha Hb : Hp}, ButL [x, ls, lt] Ha Hb → Evl.Ex (woL [s, x, ls, lt] (woL rs Ha)) (woL [s, x, ls, lt] (woL rs Hb)) := fun h q o z => woL_at (woL_ne z) (woL_at (woL_ne (woL_ex _ _ z)) (h _ _ (fun m => woL_ne z (List.mem_cons_of_mem _ m)) (woL_ex _ _ (woL_ex _ _ z))))
    obtain ⟨qs, hq, hql⟩ := tks_len hp.q
    have hd0 := hd.ex woL_ex
    refine ⟨_, rfl, _, rfl, x, C, dx, _, _, rfl, hx, c.cls, c.na1, rfl, lq, _, rfl, .inl (SqL.of hq), d, dd, _, rfl, hd0, by rw [hql, ← hAt]; exact hok, fun H1 e1 => ?_⟩
    refine ⟨_, rfl, x, C, dx, _, _, rfl, e1 _ _ hx, c.cls, c.na6, rfl, _, rfl, if_f (by decide) ?_⟩
    refine ⟨_, rfl, x, C, dx, _, _, rfl, e1 _ _ hx, c.cls, c.na5, rfl, _, rfl, ?_⟩
    refine ⟨lt, _, _, _, rfl, rfl, SqL.of (e1 _ _ hlt), at_last _ _, ?_⟩
    refine ⟨_, rfl, _, rfl, _, rfl, x, C, dx, _, _, rfl, e1 _ _ hx, c.cls, c.na3, rfl, ?_⟩
    refine ⟨d, t, lw, dd, Am, ws, W, rfl, hd0.ex e1, hok, hp.w.ex e1, hp.c.ex e1, h20, hV, hO.le hN, fun H2 e2 => ?_⟩
    have e12 := e1.trans e2
    have x2 := e12 _ _ hx
    have ls2 := e12 _ _ hls
    have lt2 := e12 _ _ hlt
    have hq2 := e12 _ _ hq
    have xls : x ≠ ls := fun z => by rw [z, hls] at hx; cases hx
    have xlt : x ≠ lt := fun z => by rw [z, hlt] at hx; cases hx
    refine ⟨fun σ H' => ∃ v, But x H2 H' ∧ H' x = some (.ins C dx (bnF lq g lw ls lt v)) ∧ σ = [some (.ref x), some (.ref d), some (.ref t), some (.bl (endB ws Am dd))] ∧ (v = if endB ws Am dd = true then .int ds.length else .non) ∧ (v = .non ∨ ∃ i, v = .int i), ?_, ?_⟩
    · cases e : endB ws Am dd with
      | false => exact ⟨_, rfl, _, rfl, if_f rfl ⟨.non, But.refl _ _, x2, rfl, rfl, .inl rfl⟩⟩
      | true =>
        refine ⟨_, rfl, _, rfl, if_t rfl ?_⟩
        refine ⟨_, rfl, x, C, dx, _, _, rfl, x2, c.cls, c.na4, rfl, ls, _, rfl, .inl (SqL.of ls2), _, rfl, x, C, dx, _, rfl, x2, c.cls, c.na6, by show 6 < 1000; decide, ?_⟩
        exact ⟨.int _, But.upd, upd_same, rfl, by rw [List.length_map, hxs]; rfl, .inr ⟨_, rfl⟩⟩
    · rintro σ H3 ⟨v, b3, x3, rfl, hv1, hv2⟩
      have ls3 := b3 _ _ xls.symm ls2
      have lt3 := b3 _ _ xlt.symm lt2
      refine ⟨_, rfl, x, C, dx, _, _, rfl, x3, c.cls, c.na4, rfl, .inl ⟨rfl, _, SqL.of ls3⟩, ?_⟩
      have w3 : ButL [x, ls, lt] H H3 := (ButL.of_ex e12).trans (ButL.of_but b3 List.mem_cons_self)
      have hd3 := (hd.ex (w3.wo fun _ h => h)).ex woL_ex
      refine ⟨_, rfl, _, _, rfl, dat_dq hd3, cp_dD hok, fun v' H4 e4 hv' => ?_⟩
      obtain ⟨cc, rfl, hcc⟩ := dq_deed hv'
      obtain ⟨zs, hcz⟩ := dat_tup (hcc.ex Nw.ex)
      have ls4 := e4 _ _ ls3
      refine ⟨ls, as.map V.ref, _, rfl, rfl, ls4, by rw [List.length_map, hxs]; exact Nat.lt_of_le_of_lt hn (by decide), ?_⟩
      have b5 : But ls H4 (upd H4 ls (.lst (as.map V.ref ++ [.ref cc]))) := But.upd
      have ls5 : upd H4 ls (.lst (as.map V.ref ++ [.ref cc])) ls = some (.lst (as.map V.ref ++ [.ref cc])) := upd_same
      generalize upd H4 ls (.lst (as.map V.ref ++ [.ref cc])) = H5 at b5 ls5
      have cls_ : cc ≠ ls := fun z => by rw [z, ls4] at hcz; cases hcz
      have hcz5 := b5 _ _ cls_ hcz
      have x5 := b5 _ _ xls (e4 _ _ x3)
      have lt5 := b5 _ _ n1.symm (e4 _ _ lt3)
      have w5 : ButL [x, ls, lt] H H5 := (w3.trans (ButL.of_ex e4)).trans (ButL.of_but b5 (List.mem_cons_of_mem _ List.mem_cons_self))
      have hd5 := (hd.ex (w5.wo fun _ h => h)).ex woL_ex
      have hP5 := (hP.ex (wr w5)).ex (woL_ex.trans woL_ex)
      refine ⟨_, rfl, x, C, dx, _, _, rfl, x5, c.cls, c.na5, rfl, .inl ⟨rfl, _, SqL.of lt5⟩, ?_⟩
      refine ⟨_, rfl, _, rfl, _, rfl, x, C, dx, _, _, rfl, x5, c.cls, c.na3, rfl, ?_⟩
      refine ⟨d, t, lw, dd, Am, ws, W, N, rfl, hd5, hok, hpo, hP5.w, hP5.c, h20, hV, hO, Nat.le_trans hN (by decide), fun t' H6 e6 hW6 => ?_⟩
      have lt6 := e6 _ _ lt5
      refine ⟨lt, _, _, rfl, rfl, lt6, by rw [List.length_append, List.length_map, hys, hSn]; exact Nat.lt_of_le_of_lt (Nat.succ_le_succ hn) (by decide), ?_⟩
      have b7 : But lt H6 (upd H6 lt (.lst (bs.map V.ref ++ [.ref t] ++ [.ref t']))) := But.upd
      have lt7 : upd H6 lt (.lst (bs.map V.ref ++ [.ref t] ++ [.ref t'])) lt = some (.lst (bs.map V.ref ++ [.ref t] ++ [.ref t'])) := upd_same
      generalize upd H6 lt (.lst (bs.map V.ref ++ [.ref t] ++ [.ref t'])) = H7 at b7 lt7
      have w7 : ButL [x, ls, lt] H H7 := (w5.trans (ButL.of_ex e6)).trans (ButL.of_but b7 (List.mem_cons_of_mem _ (List.mem_cons_of_mem _ List.mem_cons_self)))
      refine ⟨_, rfl, k v H7 w7 ⟨⟨dx, lq, g, lw, t', as ++ [cc], bs ++ [t], woL_at (nr xr) (b7 _ _ xlt (e6 _ _ x5)), woL_at (nr lsr) (by rw [List.map_append]; exact b7 _ _ n1 (e6 _ _ ls5)), by rw [List.length_append, List.length_append, hxs]; rfl, woL_at (nr ltr) (by rw [List.map_append]; exact lt7), by rw [List.length_append, List.length_append, hys]; rfl, ?_⟩, ⟨n1, n2, n3, n4⟩, hv2, by rw [List.length_append, List.length_append, hSn]; rfl⟩ hv1⟩
      have hP7 := hP.ex (wr w7)
      obtain ⟨so1, so2, so3, hs0, _⟩ := id hS
      have s6 : H6 s = some (.lst [.int so1, .int so2, .int so3]) := e6 _ _ (w5 _ _ (by simp only [List.mem_cons, List.not_mem_nil, or_false, not_or]; exact ⟨n4.symm, n2.symm, n3.symm⟩) hs0)
      obtain ⟨⟨y1, y2, ht6, _⟩, _⟩ := hP5.w
      have hR3 : ∀ r ∈ rs, Odd H3 r := fun r mr => ((hR r mr).ex e12).but x2 b3 (fun z => xr (z ▸ mr))
      have hR5 : ∀ r ∈ rs, Odd H5 r := fun r mr => by
        have lsr : ls ≠ r := fun z => lsr (z ▸ mr)
        rcases (hR3 r mr).ex e4 with ⟨ns, n2, k⟩ | ⟨C, dx, fs, k⟩ | ⟨ys, c, zs, k, k2⟩
        · exact .inl ⟨ns, n2, b5 _ _ lsr.symm k⟩
        · exact .inr (.inl ⟨_, _, _, b5 _ _ lsr.symm k⟩)
        · exact .inr (.inr ⟨_, _, _, b5 _ _ lsr.symm k, b5 _ _ (fun z => by rw [z, ls4] at k2; cases k2) k2⟩)
      have odd : ∀ p ∈ s :: x :: ls :: lt :: rs, Odd H6 p := fun p hp => by
        simp only [List.mem_cons, List.not_mem_nil, or_false] at hp
        rcases hp with rfl | rfl | rfl | rfl | hp
        · exact .inl ⟨[so1, so2, so3], by show 2 ≤ 3; decide, s6⟩
        · exact .inr (.inl ⟨_, _, _, e6 _ _ x5⟩)
        · exact .inr (.inr ⟨_, _, _, e6 _ _ ls5, e6 _ _ hcz5⟩)
        · exact .inr (.inr ⟨_, _, _, lt6, e6 _ _ ht6⟩)
        · exact (hR5 p hp).ex e6
      refine ⟨hP7.q, hP7.f, hP7.c, ?_, ?_, ?_⟩
      · refine (wat_wo hW6 odd).ex fun q o z => ?_
        have nm := woL_ne z
        simp only [List.mem_cons, List.not_mem_nil, or_false, not_or] at nm
        exact woL_at (by simp only [List.mem_cons, List.not_mem_nil, or_false, not_or]; exact ⟨nm.1, nm.2.1, nm.2.2.1, nm.2.2.2.1⟩) (woL_at (nr nm.2.2.2.2) (b7 _ _ nm.2.2.2.1 (woL_ex _ _ z)))
      · intro i a d' ha hd'
        rcases get_app ha with ⟨h1, h2⟩ | ⟨h1, rfl⟩
        · rcases get_app hd' with ⟨h3, _⟩ | ⟨h3, _⟩
          · exact hP7.d i a d' h1 h3
          · omega
        · rcases get_app hd' with ⟨h3, h4⟩ | ⟨_, rfl⟩
          · omega
          · refine hcc.ex fun q o z => ?_
            have q0 := nw_none z
            have q4 := Nw.ex _ _ z
            have ne : ∀ {p : Addr} {o' : HO}, H3 p = some o' → q ≠ p := fun hp y => by rw [y, hp] at q0; cases q0
            have hs3 : H3 s = some (.lst [.int so1, .int so2, .int so3]) := w3 _ _ (by simp only [List.mem_cons, List.not_mem_nil, or_false, not_or]; exact ⟨n4.symm, n2.symm, n3.symm⟩) hs0
            refine woL_at (by simp only [List.mem_cons, List.not_mem_nil, or_false, not_or]; exact ⟨ne hs3, ne x3, ne ls3, ne lt3⟩) (woL_at (fun mr => let ⟨ro, hr3⟩ := (hR3 _ mr).get; ne hr3 rfl) (b7 _ _ (ne lt3) (e6 _ _ (b5 _ _ (ne ls3) q4))))
      · intro i a s' ha hs'
        rcases get_app ha with ⟨h1, h2⟩ | ⟨h1, rfl⟩
        · rcases get_app hs' with ⟨h3, _⟩ | ⟨h3, _⟩
          · exact hP7.ww i a s' h1 h3
          · omega
        · rcases get_app hs' with ⟨h3, h4⟩ | ⟨_, rfl⟩
          · omega
          · exact hP7.w
end
end V2


namespace V2
open PySem L2
open PySem.Spec PyProof.Rows
/-! ## methods and instances called where an error is caught -/
/-- o.m() -/
def tM0 (C : Addr) (m : Str) (sp : Sp) (E : L2.St → XK) (to : TE) : TE := fun τ G Q => to τ G fun y G1 => ∃ q dx fs, y = .ref q ∧ G1 q = some (.ins C dx fs) ∧ fs.lookup m = none ∧ sp [y] G1 Q (E τ)
/-- f(e), f an instance -/
def tI1 (C : Addr) (sp : Sp) (E : L2.St → XK) (tf : TE) (t : TA) : TE := fun τ G Q => tf τ G fun y G1 => ∃ q, y = .ref q ∧ t τ G1 fun vs G2 => (∃ dx fs, G2 q = some (.ins C dx fs)) ∧ sp (.ref q :: vs) G2 Q (E τ)
section
variable {X : Cx} {CX : CXT} {k : Nat} {f C : Addr} {fd : FuncData} {ps : List Str} {sp : Sp} {E : L2.St → XK} {m : Str} {p q : Pos} {o e : Expr} {es : List Expr} {to : TE} {t : TA}
theorem pe_m0S {pl : Sem Bool} (ho : PE X o to) (cl : Cls X.K C) (hm : Meth X.K C m f) (F : FnOk X.prog X.w X.K X.mg X.base CX k f fd ps sp) (hr : Room k X.A) (hb : Binds X.K fd ps []) (hx : ∀ τ, PassesAt CX X τ (E τ))
    (ht : eval (.Call (.Attribute o m q) [] [] p) X.env = (do
      let u ← eval o X.env
      standAt q.atName
      let (g, one) ← holding [u] (getMethod u m pl)
      callWith p g one (backTo p (starEach [] X.env)) (backToKw p (keywordEach [] X.env))) := by rfl) : PE X (.Call (.Attribute o m q) [] [] p) (tM0 C m sp E to) := by
  constructor
  intro pins s τ G Q I h
  refine PySem.W.methodCall_KW (pl := pl) (thn (ho.run pins s τ G _ I h) fun u s1 got => ?_) ht
  obtain ⟨y, G1, I1, ry, b, dx, fs, rfl, hb1, l, z⟩ := got
  cases ry
  exact getmeth_ok I1 hb1 cl hm l (PySem.W.callWith_K0 (first := [.ref b]) I1.kIn hm.kp (run_fnS (us := [.ref b]) (vs := [.ref b]) F hr hb (hx τ) I1 (.cons rfl .nil) z))
theorem pe_i1S {fe : Expr} {tf : TE} (hf : PE X fe tf) (c : StX.CallO X.K C f) (F : FnOk X.prog X.w X.K X.mg X.base CX k f fd ps sp) (hr : Room k X.A) (hb : Binds X.K fd ps []) (hx : ∀ τ, PassesAt CX X τ (E τ)) (ha : PA X (e :: es) t)
    (ht : eval (.Call fe (e :: es) [] p) X.env = (do callWith p (← eval fe X.env) [] (backTo p (starEach (e :: es) X.env)) (backToKw p (keywordEach [] X.env))) := by rfl)
    (he : starEach (e :: es) X.env = (false, eval e X.env) :: starEach es X.env := by rfl) (hpl : (backTo p (starEach es X.env)).any (fun z => z.1) = false := by rfl) : PE X (.Call fe (e :: es) [] p) (tI1 C sp E tf t) := by
  constructor
  intro pins s τ G Q I h
  rw [ht]
  refine wpAny_bind (thn (hf.run pins s τ G _ I h) fun u s1 got => ?_)
  obtain ⟨y, G1, I1, ry, b, rfl, z⟩ := got
  cases ry
  refine StX.callO_with (thn (ha.run p pins s1 τ G1 _ I1 z) fun us s2 got2 => ?_) he hpl
  obtain ⟨vs, G2, I2, r, hi, z2⟩ := got2
  obtain ⟨ox, od, J, hd⟩ := inst_at I2 hi
  refine ⟨⟨C, ox, od, J, hd⟩, wpAny_call (PySem.W.kco_code I2.kIn J hd c.at_ c.fn c.fi ?_)⟩
  have r2 : Vals (V.ref b :: vs) (Value.ref b :: us) := .cons rfl r
  have hl : (Value.ref b :: us).length = ps.length := by rw [← r2.length]; exact F.len _ _ _ _ z2
  have bd := hb s2 (.ref b :: us) I2.kIn (by rw [List.append_nil]; exact hl)
  rw [List.append_nil] at bd
  refine codeAny_mono (F.run X.A X.stack s2 G2 ⟨.ref b :: us, []⟩ (.ref b :: us) (.ref b :: vs) Q (E τ) hr I2.env0 bd r2 z2) fun w s' hq => ?_
  match w, hq with
  | .error e, hq => exact hx τ pins G2 s2 e s' I2 hq
  | .ok (.ret u), hq => exact I2.after hq
  | .ok .next, hq => exact hq.elim
  | .ok .brk, hq => exact hq.elim
  | .ok .cont, hq => exact hq.elim
/-- what follows on the arguments of raise C(y) -/
theorem raise_in {K : PySem.W.Frag} {C g : Addr} {G : Hp} {y : V} {Q : XK} (T : EC K C g) (q : ∀ d G', G d = none → Evl.Ex G G' → G' d = some (.xd [("value", y)]) → Q (.ref C) (some d) G') :
    [y].length ≤ 1000 ∧ ∀ a, G a = none → spInit K (.ref a :: ([y] ++ [])) (upd G a (exo a C none)) (fun v G2 => v = .non ∧ ∃ (d : Addr) (fs : List (Str × V)), G2 a = some (exo a C (some d)) ∧ G2 d = some (exd d fs) ∧ G d = none ∧ Q (.ref C) (some d) (upd (del G2 a) d (.xd fs))) (fun _ _ _ => False) := by
  refine ⟨by show 1 ≤ 1000; decide, fun a ha => ⟨a, C, y, rfl, T.ox, T.noV, upd_same, fun dx hd hne => ⟨rfl, dx, [("value", y)], upd_same, Eq.trans (upd_ne hne) upd_same, ?_⟩⟩⟩
  have hd' : G dx = none := (upd_ne hne).symm.trans hd
  refine ⟨hd', q dx _ hd' (fun b o hb => ?_) upd_same⟩
  exact Eq.trans (upd_ne (ne_of_none hb hd')) (Eq.trans (del_ne (ne_of_none hb ha)) (Eq.trans (upd_ne (ne_of_none hb ha)) (Eq.trans (upd_ne (ne_of_none hb hd')) (Eq.trans (upd_ne (ne_of_none hb ha)) hb))))
end
end V2


namespace V2
open PySem L2
open PySem.Spec PyProof.Rows
/-! ## a step taken back; the script of a bench -/
theorem last_split {α : Type} {l : List α} (h : 0 < l.length) : ∃ a b, l = a ++ [b] := ⟨_, _, (List.dropLast_concat_getLast (List.length_pos_iff.mp h)).symm⟩
theorem pop_at {xs : List Addr} {c : Addr} : (((xs ++ [c]).map V.ref))[((xs ++ [c]).map V.ref).length - 1]? = some (V.ref c) := by
  rw [List.length_map, List.length_append, List.map_append, List.getElem?_append_right (by rw [List.length_map]; show xs.length ≤ xs.length + 1 - 1; omega), List.length_map]
  show [V.ref c][xs.length + 1 - 1 - xs.length]? = _
  rw [show xs.length + 1 - 1 - xs.length = 0 by omega]
  rfl
theorem pop_at2 {xs : List V} {c : V} : (xs ++ [c])[(xs ++ [c]).length - 1]? = some c := by
  rw [List.length_append, List.getElem?_append_right (by show xs.length ≤ xs.length + 1 - 1; omega)]
  show [c][xs.length + 1 - 1 - xs.length]? = _
  rw [show xs.length + 1 - 1 - xs.length = 0 by omega]
  rfl
def spBnU (C : Addr) : Sp := fun vs H Q _ => ∃ (x ls lt s : Addr) (rs : List Addr) (m : Nat) (ts : List Tk) (ds : List Deed) (d : Deed) (S : List (List Int × Int)) (A A' ws : List Int) (W W' u b : Int) (v : V), vs = [.ref x] ∧ BnAt C s (woL rs H) x ls lt ts (ds ++ [d]) (S ++ [(A, W)]) A' ws W' u b v ∧ Sk H s m ∧
  ∀ (H' : Hp), ButL [x, ls, lt] H H' → BnAt C s (woL rs H') x ls lt ts ds S A ws W u b .non → Q .non H'
section
variable {base : Heap} {mg : Str → Option Value} {K : PySem.W.Frag} {w : World} {P : Program} {C fI fC fL fW fE pE : Addr}
theorem ok_Be_undo {f : Addr} {fd : FuncData} (F : Fun K "undo" "Bench.undo" s_Be_undo f fd) (c : BeC K C fI fC fL fW fE pE) : FnOk P w K mg base CX0 1 f fd p_Be_undo (spBnU C) := by
  refine F.ok sc_Be_undo (fun vs H Q E h => ?_) (fun cdv A outer s H vs Q E hr h => ?_)
  · obtain ⟨x, ls, lt, s, rs, m, ts, ds, d, S, A, A', ws, W, W', u, b, v, rfl, _⟩ := h
    rfl
  · obtain ⟨x, ls, lt, s, rs, m, ts, ds, d, S, Am, A', ws, W, W', u, b, v, rfl, hB, hS, k⟩ := h
    obtain ⟨⟨dx, lq, g, lw, t, as, bs, hxr, hlsr, hxs, hltr, hys, hP⟩, ⟨n1, n2, n3, n4⟩, _, hSn⟩ := hB
    have hx := woL_ex _ _ hxr
    have hls := woL_ex _ _ hlsr
    have hlt := woL_ex _ _ hltr
    have xr := woL_ne hxr
    have lsr := woL_ne hlsr
    have ltr := woL_ne hltr
    refine ⟨_, pss_cons (ps_if (pt_not (pt_truth (pe_fld (pv 0) rfl) (by intro _; rfl))) (pss_one ps_never) pss_nil)
      (pss_cons (ps_expr (pe_bm0 PySem.F.plainAttrs_list PySem.F.slot_list_pop PySem.F.type_list_pop mt_pop (pe_fld (pv 0) rfl)))
      (pss_cons (ps_expr (pe_bm0 PySem.F.plainAttrs_list PySem.F.slot_list_pop PySem.F.type_list_pop mt_pop (pe_fld (pv 0) rfl)))
      (pss_one (ps_fld (pv 0) pe_non (by rfl))))), ?_⟩
    rw [List.length_append] at hxs hys
    have hxs : as.length = ds.length + 1 := hxs
    have hys : bs.length = S.length + 1 := hys
    obtain ⟨as0, c0, rfl⟩ : ∃ as0 c0, as = as0 ++ [c0] := last_split (by omega)
    obtain ⟨bs0, t0, rfl⟩ : ∃ bs0 t0, bs = bs0 ++ [t0] := last_split (by omega)
    rw [List.length_append] at hxs hys
    have hxs : as0.length = ds.length := Nat.succ.inj hxs
    have hys : bs0.length = S.length := Nat.succ.inj hys
    have xls : x ≠ ls := fun z => by rw [z, hls] at hx; cases hx
    have xlt : x ≠ lt := fun z => by rw [z, hlt] at hx; cases hx
    refine ⟨_, rfl, x, C, dx, _, _, rfl, hx, c.cls, c.na4, rfl, ?_⟩
    refine ⟨_, .inl ⟨_, SqL.of hls, rfl⟩, if_f (by rw [List.map_append]; simp) ?_⟩
    refine ⟨_, rfl, x, C, dx, _, _, rfl, hx, c.cls, c.na4, rfl, .inl ⟨rfl, _, SqL.of hls⟩, ls, _, _, rfl, rfl, hls, pop_at, ?_⟩
    have b1 : But ls H (upd H ls (.lst ((as0 ++ [c0]).map V.ref).dropLast)) := But.upd
    have l1 : upd H ls (.lst ((as0 ++ [c0]).map V.ref).dropLast) ls = some (.lst (as0.map V.ref)) := Eq.trans upd_same (by rw [List.map_append]; simp)
    generalize upd H ls (.lst ((as0 ++ [c0]).map V.ref).dropLast) = H1 at b1 l1
    have hx1 := b1 _ _ xls hx
    have hlt1 := b1 _ _ n1.symm hlt
    refine ⟨_, rfl, x, C, dx, _, _, rfl, hx1, c.cls, c.na5, rfl, .inl ⟨rfl, _, SqL.of hlt1⟩, lt, _, _, rfl, rfl, hlt1, pop_at2, ?_⟩
    have b2 : But lt H1 (upd H1 lt (.lst (((bs0 ++ [t0]).map V.ref) ++ [V.ref t]).dropLast)) := But.upd
    have l2 : upd H1 lt (.lst (((bs0 ++ [t0]).map V.ref) ++ [V.ref t]).dropLast) lt = some (.lst (bs0.map V.ref ++ [V.ref t0])) := Eq.trans upd_same (by rw [List.dropLast_concat, List.map_append]; rfl)
    generalize upd H1 lt (.lst (((bs0 ++ [t0]).map V.ref) ++ [V.ref t]).dropLast) = H2 at b2 l2
    have hx2 := b2 _ _ xlt hx1
    have hls2 := b2 _ _ n1 l1
    refine ⟨_, rfl, x, C, dx, _, rfl, hx2, c.cls, c.na6, by show 6 < 1000; decide, ?_⟩
    have b3 : But x H2 (upd H2 x (.ins C dx (putF "_ended" .non (bnF lq g lw ls lt v)))) := But.upd
    have x3 : upd H2 x (.ins C dx (putF "_ended" .non (bnF lq g lw ls lt v))) x = some (.ins C dx (bnF lq g lw ls lt .non)) := upd_same
    generalize upd H2 x (.ins C dx (putF "_ended" .non (bnF lq g lw ls lt v))) = H3 at b3 x3
    have w3 : ButL [x, ls, lt] H H3 := ((ButL.of_but b1 (List.mem_cons_of_mem _ List.mem_cons_self)).trans (ButL.of_but b2 (List.mem_cons_of_mem _ (List.mem_cons_of_mem _ List.mem_cons_self)))).trans (ButL.of_but b3 List.mem_cons_self)
    have hP3 := hP.ex (H' := woL [s, x, ls, lt] (woL rs H3)) fun q o z => woL_at (woL_ne z) (woL_at (woL_ne (woL_ex _ _ z)) (w3 _ _ (fun m => woL_ne z (List.mem_cons_of_mem _ m)) (woL_ex _ _ (woL_ex _ _ z))))
    refine k H3 w3 ⟨⟨dx, lq, g, lw, t0, as0, bs0, woL_at xr x3, woL_at lsr (b3 _ _ xls.symm hls2), hxs, woL_at ltr (b3 _ _ xlt.symm l2), hys, ⟨hP3.q, hP3.f, hP3.c, ?_, fun i a d' h1 h2 => ?_, fun i a s' h1 h2 => ?_⟩⟩, ⟨n1, n2, n3, n4⟩, .inl rfl, ?_⟩
    · exact hP3.ww S.length t0 (Am, W) (by rw [← hys, List.getElem?_append_right (Nat.le_refl _), Nat.sub_self]; rfl) (by rw [List.getElem?_append_right (Nat.le_refl _), Nat.sub_self]; rfl)
    · have hi := (List.getElem?_eq_some_iff.mp h1).1
      exact hP3.d i a d' (by rw [List.getElem?_append_left hi]; exact h1) (by rw [List.getElem?_append_left (by omega)]; exact h2)
    · have hi := (List.getElem?_eq_some_iff.mp h1).1
      exact hP3.ww i a s' (by rw [List.getElem?_append_left hi]; exact h1) (by rw [List.getElem?_append_left (by omega)]; exact h2)
    · rw [List.length_append, List.length_append] at hSn
      exact Nat.succ.inj hSn
end
end V2


namespace V2
open PySem L2
open PySem.Spec PyProof.Rows
/-! ## the law's fractions and draws -/
def spFp (g : Int → Int → Int → Int → Int × Int) : Sp := fun vs H Q _ => ∃ (a b : Addr) (p q x y : Int), vs = [.ref a, .ref b] ∧ Fr H a p q ∧ Fr H b x y ∧ 0 < q ∧ 0 < y ∧ Bn 4400 p ∧ Bn 4400 q ∧ Bn 4400 x ∧ Bn 4400 y ∧ RetU [.int (g p q x y).1, .int (g p q x y).2] H Q
def spSide : Sp := fun vs H Q _ => ∃ (a b : Addr) (p q x y : Int), vs = [.ref a, .ref b] ∧ Fr H a p q ∧ Fr H b x y ∧ Bn 4400 p ∧ Bn 4400 q ∧ Bn 4400 x ∧ Bn 4400 y ∧ Evl.RetV (.int (sgn (p * y - x * q))) H Q
/-- a fraction from 0 to 1 whose numbers are at most m -/
def spPt : Sp := fun vs H Q _ => ∃ (s : Addr) (m : Int) (n : Nat), vs = [.ref s, .int m] ∧ 0 < m ∧ m ≤ 1000 ∧ Sk H s n ∧ n ≤ 90000 ∧ ∀ (t : Addr) (p q : Int) (H' : Hp), But s H H' → Sk H' s (n + 2) → H t = none → H' t = some (.tup [.int p, .int q]) → Pt p q → Q (.ref t) H'
def spTwo2 : Sp := fun vs H Q _ => ∃ (s : Addr) (m : Int) (n : Nat), vs = [.ref s, .int m] ∧ 2 ≤ m ∧ m ≤ 20 ∧ Sk H s n ∧ n ≤ 90000 ∧ ∀ (t : Addr) (x y : Int) (H' : Hp), But s H H' → Sk H' s (n + 2) → H t = none → H' t = some (.tup [.int x, .int y]) → 0 ≤ x → x < m → 0 ≤ y → y < m → x ≠ y → Q (.ref t) H'
theorem fr_part {a d : Int} (hd : 0 < d) (h0 : 0 ≤ a) (h1 : a ≤ d) (hb : d ≤ 1001) : Pt (fr a d).1 (fr a d).2 := by
  have hp := fr_pos (u := a) hd
  have hm := fr_mul (u := a) hd
  have g0 : 0 < ((Int.gcd a d : Nat) : Int) := by
    have : 0 < Int.gcd a d := Int.gcd_pos_of_ne_zero_right _ (by omega)
    omega
  have n50 : (2 : Nat) ^ 50 = 1125899906842624 := by decide
  have a1 := fr_abs1 (a := a) hd
  have a2 := fr_abs2 (a := a) hd
  refine ⟨?_, ?_, hp, fr_cop hd, by rw [n50]; omega, by rw [n50]; omega⟩
  · refine Int.not_lt.mp fun z => ?_
    have := Int.mul_neg_of_neg_of_pos z g0
    omega
  · refine Int.not_lt.mp fun z => ?_
    have := Int.mul_lt_mul_of_pos_right z g0
    omega
theorem n200e : (2 : Nat) ^ 200 = 1606938044258990275541962092341162602522202993782792835301376 := by decide
/-- all but the object at p -/
def wo (p : Addr) (H : Hp) : Hp := fun b => if b = p then none else H b
theorem wo_ex {p : Addr} {H : Hp} : Evl.Ex (wo p H) H := fun b o h => by
  unfold wo at h
  split at h
  · cases h
  · exact h
theorem wo_at {p b : Addr} {H : Hp} {o : HO} (n : b ≠ p) (h : H b = some o) : wo p H b = some o := by
  unfold wo
  rw [if_neg n]
  exact h
theorem wo_ne {p b : Addr} {H : Hp} {o : HO} (h : wo p H b = some o) : b ≠ p := fun z => by
  unfold wo at h
  rw [if_pos z] at h
  cases h
theorem But.wo {p : Addr} {H H' : Hp} (h : But p H H') : Evl.Ex (wo p H) (V2.wo p H') := fun b o z => wo_at (wo_ne z) (h b o (wo_ne z) (wo_ex _ _ z))
theorem but_none {p q : Addr} {H H' : Hp} {n : Nat} (b : But p H H') (s : Sk H' p n) (h : H' q = none) : H q = none := by
  cases e : H q with
  | none => rfl
  | some o =>
    have h1 := b q o (sk_ne s h) e
    rw [h] at h1
    cases h1
theorem Sk.upd {H : Hp} {p l : Addr} {n : Nat} {o : HO} (s : Sk H p n) (h : l ≠ p) : Sk (L2.upd H l o) p n := by
  obtain ⟨a, b, c, h1, h2⟩ := s
  exact ⟨a, b, c, by rw [upd_ne h.symm]; exact h1, h2⟩
theorem ne_of_none' {H : Hp} {c l : Addr} {o : HO} (h : H c = some o) (hl : H l = none) : c ≠ l := fun z => by
  rw [z, hl] at h
  cases h
/-- many tanks, whose numbers are at most most -/
def spVats : Sp := fun vs H Q _ => ∃ (s : Addr) (m o : Int) (n : Nat), vs = [.ref s, .int m, .int o] ∧ 0 < m ∧ m ≤ 20 ∧ 0 < o ∧ o ≤ 1000 ∧ Sk H s n ∧ n ≤ 90000 ∧
  ∀ (l : Addr) (ts : List Tk) (H' : Hp), But s H H' → Sk H' s (n + 1 + 3 * m.toNat) → H l = none → TksAt (wo s H') l ts → okT ts → (ts.length : Int) = m → (∀ t ∈ ts, (∀ z, t.1 = some z → z ≤ 1000) ∧ t.2 ≤ 1000) → Q (.ref l) H'
theorem tks_more {p : Addr} {H : Hp} {l t : Addr} {ts : List Tk} {x : Tk} (h : TksAt (wo p H) l ts) (tp : t ≠ p) (ht : H t = some (.tup [wV x.1, .int x.2])) : ∃ acc, H l = some (.lst acc) ∧ acc.length = ts.length ∧ TksAt (wo p (upd H l (.lst (acc ++ [.ref t])))) l (ts ++ [x]) := by
  obtain ⟨as, h1, h2, h3⟩ := h
  have lp := wo_ne h1
  refine ⟨_, wo_ex _ _ h1, by rw [List.length_map]; exact h2, as ++ [t], ?_, by rw [List.length_append, List.length_append, h2]; rfl, fun i a y ha hy => ?_⟩
  · rw [List.map_append]
    exact wo_at lp upd_same
  · have ne : ∀ {a : Addr} {xs : List V}, wo p H a = some (.tup xs) → a ≠ l := fun h z => by
      rw [z, h1] at h
      cases h
    rcases get_app ha with ⟨h4, h5⟩ | ⟨h4, rfl⟩
    · rcases get_app hy with ⟨h6, _⟩ | ⟨h6, _⟩
      · have z := h3 i a y h4 h6
        exact wo_at (wo_ne z) (Eq.trans (upd_ne (ne z)) (wo_ex _ _ z))
      · omega
    · rcases get_app hy with ⟨h6, h7⟩ | ⟨_, rfl⟩
      · omega
      · exact wo_at tp (Eq.trans (upd_ne (ne (wo_at tp ht))) ht)
theorem cnt_more {ts : List Tk} {x : Tk} {rk : Int} {i : Nat} (h : ts.countP (fun t => t.1.isNone) = if rk < (i : Int) then 1 else 0) (hx : x.1 = none ↔ rk = (i : Int)) : (ts ++ [x]).countP (fun t => t.1.isNone) = if rk < ((i + 1 : Nat) : Int) then 1 else 0 := by
  rw [List.countP_append, h]
  obtain ⟨w, a⟩ := x
  cases w with
  | none =>
    have e := hx.mp rfl
    rw [if_neg (by omega), if_pos (by omega)]
    rfl
  | some z =>
    have e : rk ≠ (i : Int) := fun q => by cases hx.mpr q
    by_cases c : rk < (i : Int)
    · rw [if_pos c, if_pos (by omega)]
      rfl
    · rw [if_neg c, if_neg (by omega)]
      rfl
section
variable {base : Heap} {mg : Str → Option Value} {K : PySem.W.Frag} {w : World} {P : Program}
theorem ok_add {f : Addr} {fd : FuncData} (F : Fun K "_law_pv_add" "_law_pv_add" s_l_add f fd) (cR : Cal P w K mg base 2 "_law_pv_ratio" p_l_ratio spRatio) : FnOk P w K mg base CX0 3 f fd p_l_add (spFp fun p q x y => fr (p * y + x * q) (q * y)) := by
  refine F.ok sc_l_add (fun vs H Q E h => ?_) (fun cdv A outer s H vs Q E hr h => ?_)
  · obtain ⟨a, b, p, q, x, y, rfl, _⟩ := h
    rfl
  · obtain ⟨a, b, p, q, x, y, rfl, ha, hb, q0, y0, bp, bq, bx, by_, k⟩ := h
    have hqy : 0 < q * y := Int.mul_pos q0 y0
    have bqy : Bn 9000 (q * y) := (bq.mul by_).le (by decide)
    refine ⟨_, pss_one (ps_ret (pe_c cR hr (pa_cons (pe_op op_add (pe_op op_mulW (pe_ix ix_tup (pv 0) pe_int (fun _ _ => rfl)) (pe_ix ix_tup (pv 1) pe_int (fun _ _ => rfl))) (pe_op op_mulW (pe_ix ix_tup (pv 1) pe_int (fun _ _ => rfl)) (pe_ix ix_tup (pv 0) pe_int (fun _ _ => rfl)))) (pa_cons (pe_op op_mulW (pe_ix ix_tup (pv 0) pe_int (fun _ _ => rfl)) (pe_ix ix_tup (pv 1) pe_int (fun _ _ => rfl))) pa_nil)))), ?_⟩
    exact ⟨_, rfl, a, _, _, _, rfl, rfl, SqT.of ha, rfl, _, rfl, b, _, _, _, rfl, rfl, SqT.of hb, rfl, p, y, rfl, rfl, wide_mul (a := 4400) (b := 4400) bp by_ (by decide) (by decide) (by decide), _, rfl, b, _, _, _, rfl, rfl, SqT.of hb, rfl, _, rfl, a, _, _, _, rfl, rfl, SqT.of ha, rfl, x, q, rfl, rfl, wide_mul (a := 4400) (b := 4400) bx bq (by decide) (by decide) (by decide), _, _, rfl, rfl, _, rfl, a, _, _, _, rfl, rfl, SqT.of ha, rfl, _, rfl, b, _, _, _, rfl, rfl, SqT.of hb, rfl, q, y, rfl, rfl, wide_mul (a := 4400) (b := 4400) bq by_ (by decide) (by decide) (by decide), _, _, rfl, (((bp.mul by_).add (bx.mul bq)).le (by decide) : Bn 9000 _), bqy, hqy, k⟩
theorem ok_mul {f : Addr} {fd : FuncData} (F : Fun K "_law_pv_mul" "_law_pv_mul" s_l_mul f fd) (cR : Cal P w K mg base 2 "_law_pv_ratio" p_l_ratio spRatio) : FnOk P w K mg base CX0 3 f fd p_l_mul (spFp fun p q x y => fr (p * x) (q * y)) := by
  refine F.ok sc_l_mul (fun vs H Q E h => ?_) (fun cdv A outer s H vs Q E hr h => ?_)
  · obtain ⟨a, b, p, q, x, y, rfl, _⟩ := h
    rfl
  · obtain ⟨a, b, p, q, x, y, rfl, ha, hb, q0, y0, bp, bq, bx, by_, k⟩ := h
    have hqy : 0 < q * y := Int.mul_pos q0 y0
    have bqy : Bn 9000 (q * y) := (bq.mul by_).le (by decide)
    refine ⟨_, pss_one (ps_ret (pe_c cR hr (pa_cons (pe_op op_mulW (pe_ix ix_tup (pv 0) pe_int (fun _ _ => rfl)) (pe_ix ix_tup (pv 1) pe_int (fun _ _ => rfl))) (pa_cons (pe_op op_mulW (pe_ix ix_tup (pv 0) pe_int (fun _ _ => rfl)) (pe_ix ix_tup (pv 1) pe_int (fun _ _ => rfl))) pa_nil)))), ?_⟩
    exact ⟨_, rfl, a, _, _, _, rfl, rfl, SqT.of ha, rfl, _, rfl, b, _, _, _, rfl, rfl, SqT.of hb, rfl, p, x, rfl, rfl, wide_mul (a := 4400) (b := 4400) bp bx (by decide) (by decide) (by decide), _, rfl, a, _, _, _, rfl, rfl, SqT.of ha, rfl, _, rfl, b, _, _, _, rfl, rfl, SqT.of hb, rfl, q, y, rfl, rfl, wide_mul (a := 4400) (b := 4400) bq by_ (by decide) (by decide) (by decide), _, _, rfl, ((bp.mul bx).le (by decide) : Bn 9000 _), bqy, hqy, k⟩
theorem ok_side {f : Addr} {fd : FuncData} (F : Fun K "_law_pv_side" "_law_pv_side" s_l_side f fd) (T : T0 mg) : FnOk P w K mg base CX0 1 f fd p_l_side spSide := by
  refine F.ok sc_l_side (fun vs H Q E h => ?_) (fun cdv A outer s H vs Q E hr h => ?_)
  · obtain ⟨a, b, p, q, x, y, rfl, _⟩ := h
    rfl
  · obtain ⟨a, b, p, q, x, y, rfl, ha, hb, bp, bq, bx, by_, k⟩ := h
    have nd := sc_l_side.nd
    refine ⟨_, pss_cons (ps_set (i := 2) nd rfl (Or.inl rfl) (pe_op op_sub (pe_op op_mulW (pe_ix ix_tup (pv 0) pe_int (fun _ _ => rfl)) (pe_ix ix_tup (pv 1) pe_int (fun _ _ => rfl))) (pe_op op_mulW (pe_ix ix_tup (pv 1) pe_int (fun _ _ => rfl)) (pe_ix ix_tup (pv 0) pe_int (fun _ _ => rfl)))))
      (pss_one (ps_ret (pe_op op_sub (pe_callTy call_int1 (by rfl) T.int (by decide +kernel) (pa_cons (pe_cmpR op_gt (pv 2) pe_int (nomark _)) pa_nil)) (pe_callTy call_int1 (by rfl) T.int (by decide +kernel) (pa_cons (pe_cmpR op_lt (pv 2) pe_int (nomark _)) pa_nil))))), ?_⟩
    refine ⟨_, rfl, a, _, _, _, rfl, rfl, SqT.of ha, rfl, _, rfl, b, _, _, _, rfl, rfl, SqT.of hb, rfl, p, y, rfl, rfl, wide_mul (a := 4400) (b := 4400) bp by_ (by decide) (by decide) (by decide), _, rfl, b, _, _, _, rfl, rfl, SqT.of hb, rfl, _, rfl, a, _, _, _, rfl, rfl, SqT.of ha, rfl, x, q, rfl, rfl, wide_mul (a := 4400) (b := 4400) bx bq (by decide) (by decide) (by decide), _, _, rfl, rfl, ?_⟩
    have e : (if 0 < p * y - x * q then (1 : Int) else 0) - (if p * y - x * q < 0 then 1 else 0) = sgn (p * y - x * q) := by
      unfold sgn
      split <;> split <;> split <;> omega
    refine ⟨_, rfl, _, _, rfl, rfl, .inr ⟨_, rfl, _, rfl, _, _, rfl, rfl, .inr ⟨_, rfl, _, _, rfl, rfl, ?_⟩⟩⟩
    show Q (V.int _) H
    simp only [decide_eq_true_eq]
    rw [e]
    exact k _ (Evl.Ex.refl _)
theorem ok_part {f : Addr} {fd : FuncData} (F : Fun K "_law_pv_part" "_law_pv_part" s_l_part f fd) (cC : Cal P w K mg base 1 "_law_pv_coin" p_l_coin spCoin) (cR : Cal P w K mg base 2 "_law_pv_ratio" p_l_ratio spRatio) : FnOk P w K mg base CX0 3 f fd p_l_part spPt := by
  refine F.ok sc_l_part (fun vs H Q E h => ?_) (fun cdv A outer s H vs Q E hr h => ?_)
  · obtain ⟨s, m, n, rfl, _⟩ := h
    rfl
  · obtain ⟨sk, m, n, rfl, m0, m1, hS, hn, k⟩ := h
    have nd := sc_l_part.nd
    have r1 : Room 1 _ := hr.mono (by decide)
    refine ⟨_, pss_cons (ps_set (i := 2) nd rfl (Or.inl rfl) (pe_op op_add pe_int (pe_c cC r1 (pa_cons (pv 0) (pa_cons (pv 1) pa_nil)))))
      (pss_one (ps_ret (pe_c cR hr (pa_cons (pe_c cC r1 (pa_cons (pv 0) (pa_cons (pe_op op_add (pv 2) pe_int) pa_nil))) (pa_cons (pv 2) pa_nil))))), ?_⟩
    have n200 : (2 : Nat) ^ 200 = 1606938044258990275541962092341162602522202993782792835301376 := by decide
    refine ⟨_, rfl, _, rfl, sk, m, n, rfl, hS, by omega, m0, by rw [n200]; omega, fun r H1 r0 r1' b1 s1 z1 => ⟨_, _, rfl, rfl, ?_⟩⟩
    refine ⟨_, rfl, _, rfl, _, _, rfl, rfl, sk, 1 + r + 1, n + 1, rfl, s1, by omega, by omega, by rw [n200]; omega, fun x H2 x0 x1 b2 s2 z2 => ⟨_, rfl, x, 1 + r, rfl, ?_, ?_, by omega, fun t H3 ht e3 h3 => ?_⟩⟩
    · exact Nat.lt_of_le_of_lt (show x.natAbs ≤ 1001 by omega) (Nat.lt_of_lt_of_le (show 1001 < 2 ^ 10 by decide) (Nat.pow_le_pow_right (by decide) (by decide)))
    · exact Nat.lt_of_le_of_lt (show (1 + r).natAbs ≤ 1000 by omega) (Nat.lt_of_lt_of_le (show 1000 < 2 ^ 10 by decide) (Nat.pow_le_pow_right (by decide) (by decide)))
    · have tn : H t = none := by
        cases e : H t with
        | none => rfl
        | some o =>
          have h1 := b1 t o (sk_ne s2 ht) e
          have h2 := b2 t o (sk_ne s2 ht) h1
          rw [ht] at h2
          cases h2
      exact k t _ _ H3 ((b1.trans b2).trans (But.of_ex e3)) (s2.ex e3) tn h3 (fr_part (by omega) x0 (by omega) (by omega))
theorem ok_two {f : Addr} {fd : FuncData} (F : Fun K "_law_pv_two" "_law_pv_two" s_l_two f fd) (T : T0 mg) (cC : Cal P w K mg base 1 "_law_pv_coin" p_l_coin spCoin) : FnOk P w K mg base CX0 2 f fd p_l_two spTwo2 := by
  refine F.ok sc_l_two (fun vs H Q E h => ?_) (fun cdv A outer s H vs Q E hr h => ?_)
  · obtain ⟨s, m, n, rfl, _⟩ := h
    rfl
  · obtain ⟨sk, m, n, rfl, m0, m1, hS, hn, k⟩ := h
    have nd := sc_l_two.nd
    have two : 2 ≤ sizeLine := by show 2 ≤ sizeLine; decide
    refine ⟨_, pss_cons (ps_set (i := 2) nd rfl (Or.inl rfl) (pe_c cC hr (pa_cons (pv 0) (pa_cons (pv 1) pa_nil))))
      (pss_one (ps_ret (pe_tup (pa_cons (pv 2) (pa_cons (pe_op op_mod (pe_callTy call_int1 (by rfl) T.int (by decide +kernel) (pa_cons (pe_op op_add (pe_op op_add (pv 2) pe_int) (pe_c cC hr (pa_cons (pv 0) (pa_cons (pe_op op_sub (pv 1) pe_int) pa_nil)))) pa_nil)) (pv 1)) pa_nil))))), ?_⟩
    have n200 := n200e
    refine ⟨_, rfl, _, rfl, sk, m, n, rfl, hS, by omega, by omega, by rw [n200]; omega, fun x H1 x0 x1 b1 s1 z1 => ?_⟩
    refine ⟨_, rfl, _, rfl, _, _, rfl, rfl, _, rfl, _, rfl, _, _, rfl, rfl, ?_⟩
    refine ⟨sk, m - 1, n + 1, rfl, s1, by omega, by omega, by rw [n200]; omega, fun c H2 c0 c1 b2 s2 z2 => ⟨_, _, rfl, rfl, .inl ⟨_, rfl, _, rfl, _, _, rfl, rfl, by omega, two, fun t ht => ?_⟩⟩⟩
    have tn : H t = none := by
      cases e : H t with
      | none => rfl
      | some o =>
        have h1 := b1 t o (sk_ne s2 ht) e
        have h2 := b2 t o (sk_ne s2 ht) h1
        rw [ht] at h2
        cases h2
    refine k t x ((x + 1 + c) % m) _ ((b1.trans b2).trans (But.of_ex (Evl.Ex.new ht))) (s2.ex (Evl.Ex.new ht)) tn upd_same x0 x1 (Int.emod_nonneg _ (by omega)) (Int.emod_lt_of_pos _ (by omega)) ?_
    intro z
    by_cases hh : x + 1 + c < m
    · rw [Int.emod_eq_of_lt (by omega) hh] at z
      omega
    · have e : (x + 1 + c) % m = x + 1 + c - m := by
        rw [← Int.sub_emod_right, Int.emod_eq_of_lt (by omega) (by omega)]
      rw [e] at z
      omega
theorem ok_vessels {f : Addr} {fd : FuncData} (F : Fun K "_law_pv_vessels" "_law_pv_vessels" s_l_vessels f fd) (mR : mg "range" = none) (mM : mg "min" = none) (cC : Cal P w K mg base 1 "_law_pv_coin" p_l_coin spCoin) : FnOk P w K mg base CX0 2 f fd p_l_vessels spVats := by
  refine F.ok sc_l_vessels (fun vs H Q E h => ?_) (fun cdv A outer s H vs Q E hr h => ?_)
  · obtain ⟨s, m, o, n, rfl, _⟩ := h
    rfl
  · obtain ⟨sk, m, o, n, rfl, m0, m1, o0, o1, hS, hn, k⟩ := h
    have nd := sc_l_vessels.nd
    have two : 2 ≤ sizeLine := by show 2 ≤ sizeLine; decide
    have n200 := n200e
    refine ⟨_, pss_cons (ps_par (i := 3) (j := 4) rfl nd rfl rfl (by decide) rfl rfl (pa_cons (pe_c cC hr (pa_cons (pv 0) (pa_cons (pv 1) pa_nil))) (pa_cons (pe_lst pa_nil) pa_nil)) (by rfl))
      (pss_cons (ps_for PassesOwn.never rfl (pi_range1 (by rfl) mR (pa_cons (pv 1) pa_nil)) (pg_name (i := 5) nd rfl (Or.inl rfl)) (pss_cons (ps_set (i := 6) nd rfl (Or.inl rfl) (pe_op op_mulW (pe_c cC hr (pa_cons (pv 0) (pa_cons (pe_op op_add (pv 2) pe_int) pa_nil))) (pe_callB (call_min2 rfl) (by rfl) mM (by decide +kernel) (pa_cons pe_int (pa_cons (pe_c cC hr (pa_cons (pv 0) (pa_cons pe_int pa_nil))) pa_nil)))))
      (pss_cons (ps_set (i := 7) nd rfl (Or.inl rfl) (pe_op op_add pe_int (pe_c cC hr (pa_cons (pv 0) (pa_cons (pv 2) pa_nil)))))
      (pss_one (ps_expr (pe_bm PySem.F.plainAttrs_list PySem.F.slot_list_append PySem.F.type_list_append mt_append (pv 4) (pa_cons (pe_tup (pa_cons (pe_ifExp (pt_cmpR op_eq (pv 5) (pv 3) (nomark _)) pe_non (pv 7)) (pa_cons (pv 6) pa_nil))) pa_nil)))))))
      (pss_one (ps_ret (pv 4)))), ?_⟩
    refine ⟨_, rfl, _, rfl, sk, m, n, rfl, hS, by omega, m0, by rw [n200]; omega, fun rk H1 rk0 rk1 b1 s1 z1 => ⟨Nat.zero_le _, fun l hl => ⟨_, _, rfl, ?_⟩⟩⟩
    have lsk : l ≠ sk := sk_ne s1 hl
    have lH : H l = none := but_none b1 s1 hl
    have e1 := Evl.Ex.new (o := .lst []) hl
    refine ⟨_, rfl, m, rfl, by omega, by omega, for_range (n := m.toNat) (fun i σ H' => ∃ (ts : List Tk) (v5 v6 v7 : Option V), σ = [some (.ref sk), some (.int m), some (.int o), some (.int rk), some (.ref l), v5, v6, v7] ∧ But sk H H' ∧ Sk H' sk (n + 1 + 3 * i) ∧ TksAt (wo sk H') l ts ∧ ts.length = i ∧ (∀ t ∈ ts, ((∀ z, t.1 = some z → 1 ≤ z) ∧ 0 ≤ t.2) ∧ (∀ z, t.1 = some z → z ≤ 1000) ∧ t.2 ≤ 1000) ∧ ts.countP (fun t => t.1.isNone) = if rk < (i : Int) then 1 else 0)
      ⟨[], none, none, none, rfl, b1.trans (But.of_ex e1), s1.ex e1, ⟨[], wo_at lsk upd_same, rfl, fun i a t h => (by cases h)⟩, rfl, (fun t h => by cases h), by rw [if_neg (by omega)]; rfl⟩ ?_ ?_⟩
    · rintro i σ H2 hi ⟨ts, v5, v6, v7, rfl, b2, s2, hT, hl2, hb, hc⟩
      rw [Int.zero_add]
      have hi20 : i < 20 := by omega
      have fin : ∀ (H5 : Hp) (x : Tk) (t : Addr), But sk H2 H5 → Sk H5 sk (n + 1 + 3 * (i + 1)) → H5 t = none → ((∀ z, x.1 = some z → 1 ≤ z) ∧ 0 ≤ x.2) ∧ (∀ z, x.1 = some z → z ≤ 1000) ∧ x.2 ≤ 1000 → (x.1 = none ↔ rk = (i : Int)) →
          ∃ acc, upd H5 t (.tup [wV x.1, .int x.2]) l = some (.lst acc) ∧ acc.length < sizeLine ∧ ∃ (ts : List Tk), But sk H (upd (upd H5 t (.tup [wV x.1, .int x.2])) l (.lst (acc ++ [.ref t]))) ∧ Sk (upd (upd H5 t (.tup [wV x.1, .int x.2])) l (.lst (acc ++ [.ref t]))) sk (n + 1 + 3 * (i + 1)) ∧ TksAt (wo sk (upd (upd H5 t (.tup [wV x.1, .int x.2])) l (.lst (acc ++ [.ref t])))) l ts ∧ ts.length = i + 1 ∧ (∀ t ∈ ts, ((∀ z, t.1 = some z → 1 ≤ z) ∧ 0 ≤ t.2) ∧ (∀ z, t.1 = some z → z ≤ 1000) ∧ t.2 ≤ 1000) ∧ ts.countP (fun t => t.1.isNone) = if rk < ((i + 1 : Nat) : Int) then 1 else 0 := by
        intro H5 x t b5 s5 ht hx hn
        have ex := Evl.Ex.new (o := .tup [wV x.1, .int x.2]) ht
        have b26 := b5.trans (But.of_ex (p := sk) ex)
        have s6 := s5.ex ex
        have h6 : upd H5 t (.tup [wV x.1, .int x.2]) t = some (.tup [wV x.1, .int x.2]) := upd_same
        generalize upd H5 t (.tup [wV x.1, .int x.2]) = H6 at ex b26 s6 h6
        obtain ⟨acc, q1, q2, q3⟩ := tks_more (x := x) (hT.ex b26.wo) (sk_ne s5 ht) h6
        refine ⟨acc, q1, ?_, ts ++ [x], ?_, ?_, q3, by rw [List.length_append, hl2]; rfl, ?_, cnt_more hc hn⟩
        · rw [q2, hl2]
          exact Nat.lt_of_lt_of_le hi20 (by decide)
        · exact fun c o nc e => Eq.trans (upd_ne (ne_of_none' e lH)) ((b2.trans b26) c o nc e)
        · exact s6.upd lsk
        · intro t' ht'
          rcases List.mem_append.mp ht' with h | h
          · exact hb _ h
          · rw [List.mem_singleton.mp h]
            exact hx
      refine ⟨_, rfl, _, rfl, _, _, rfl, rfl, sk, o + 1, _, rfl, s2, by omega, by omega, by rw [n200]; omega, fun a H3 a0 a1 b3 s3 z3 => ?_⟩
      refine ⟨_, rfl, sk, 4, _, rfl, s3, by omega, by decide, by decide, fun y H4 y0 y1 b4 s4 z4 => ⟨_, _, rfl, ?_⟩⟩
      have he : ∃ e : Int, (if y < 1 then y else 1) = e ∧ 0 ≤ a * e ∧ a * e ≤ 1000 ∧ e.natAbs < 2 ^ 10 := by
        by_cases hy : y = 0
        · exact ⟨0, by rw [hy]; rfl, by omega, by omega, by decide⟩
        · exact ⟨1, by rw [if_neg (by omega)], by omega, by omega, by decide⟩
      obtain ⟨e, he, e0, e1', eb⟩ := he
      rw [he]
      refine ⟨a, e, rfl, rfl, wide_mul (a := 10) (b := 10) (Nat.lt_of_le_of_lt (show a.natAbs ≤ 1000 by omega) (by decide)) eb (by decide) (by decide) (by decide), ?_⟩
      refine ⟨_, rfl, _, rfl, sk, o, _, rfl, s4, by omega, by omega, by rw [n200]; omega, fun z H5 z0 z1 b5 s5 z5 => ⟨_, _, rfl, rfl, ?_⟩⟩
      have b25 := (b3.trans b4).trans b5
      have hT5 := hT.ex b25.wo
      refine ⟨_, rfl, .inl ⟨rfl, _, SqL.of (wo_ex _ _ hT5.choose_spec.1)⟩, ?_⟩
      refine ⟨_, rfl, _, rfl, rfl, _, rfl, ?_⟩
      by_cases hr : rk = (i : Int)
      · refine if_t (decide_eq_true (by rw [hr])) ⟨_, rfl, two, fun t ht => ?_⟩
        obtain ⟨acc, q1, q2, ts', q3, q4⟩ := fin H5 (none, a * e) t b25 (by rw [show n + 1 + 3 * (i + 1) = n + 1 + 3 * i + 1 + 1 + 1 by omega]; exact s5) ht ⟨⟨fun z h => (by cases h), e0⟩, fun z h => (by cases h), e1'⟩ ⟨fun _ => hr, fun _ => rfl⟩
        exact ⟨l, acc, _, rfl, rfl, q1, q2, ts', _, _, _, rfl, q3, q4⟩
      · refine if_f (decide_eq_false fun q => hr (by injection q with q; exact q.symm)) ⟨_, rfl, _, rfl, two, fun t ht => ?_⟩
        obtain ⟨acc, q1, q2, ts', q3, q4⟩ := fin H5 (some (1 + z), a * e) t b25 (by rw [show n + 1 + 3 * (i + 1) = n + 1 + 3 * i + 1 + 1 + 1 by omega]; exact s5) ht ⟨⟨fun z' h => (by cases h; omega), e0⟩, fun z' h => (by cases h; omega), e1'⟩ ⟨fun h => (by cases h), fun h => absurd h hr⟩
        exact ⟨l, acc, _, rfl, rfl, q1, q2, ts', _, _, _, rfl, q3, q4⟩
    · rintro σ H2 ⟨ts, v5, v6, v7, rfl, b2, s2, hT, hl2, hb, hc⟩
      refine ⟨_, rfl, k l ts H2 b2 s2 lH hT ⟨by omega, fun t ht => (hb t ht).1, ?_⟩ (by omega) fun t ht => (hb t ht).2⟩
      rw [hc, if_pos (by omega)]
end
end V2


namespace V2
open PySem L2
open PySem.Spec PyProof.Rows
theorem inV2 (i x y : Int) : inV (.int i) [.int x, .int y] = true ↔ x = i ∨ y = i := by
  simp [inV, eqV]
/-- numbers below i that are drawn: f and s are among them -/
structure AscI (f s : Int) (ks : List Int) (i : Nat) : Prop where
  asc : ∀ (j : Nat) (x y : Int), ks[j]? = some x → ks[j + 1]? = some y → x < y
  bd : ∀ x ∈ ks, 0 ≤ x ∧ x < (i : Int)
  hf : 0 ≤ f → f < (i : Int) → f ∈ ks
  hs : 0 ≤ s → s < (i : Int) → s ∈ ks
  len : ks.length ≤ i
theorem AscI.start (f s : Int) : AscI f s [] 0 := ⟨fun _ _ _ h => (by cases h), fun _ h => (by cases h), fun h h' => by omega, fun h h' => by omega, Nat.le_refl _⟩
theorem AscI.more {f s : Int} {ks : List Int} {i : Nat} (h : AscI f s ks i) : AscI f s (ks ++ [(i : Int)]) (i + 1) := by
  refine ⟨fun j x y hx hy => ?_, fun x hx => ?_, fun h0 h1 => ?_, fun h0 h1 => ?_, by rw [List.length_append]; exact Nat.succ_le_succ h.len⟩
  · rcases get_app hy with ⟨h1, h2⟩ | ⟨h1, rfl⟩
    · rcases get_app hx with ⟨h3, _⟩ | ⟨h3, _⟩
      · exact h.asc j x y h3 h1
      · omega
    · rcases get_app hx with ⟨h3, _⟩ | ⟨h3, _⟩
      · exact (h.bd x (List.mem_of_getElem? h3)).2
      · omega
  · rcases List.mem_append.mp hx with h1 | h1
    · have := h.bd x h1
      omega
    · have := List.mem_singleton.mp h1
      omega
  · by_cases c : f < (i : Int)
    · exact List.mem_append_left _ (h.hf h0 c)
    · exact List.mem_append_right _ (List.mem_singleton.mpr (by omega))
  · by_cases c : s < (i : Int)
    · exact List.mem_append_left _ (h.hs h0 c)
    · exact List.mem_append_right _ (List.mem_singleton.mpr (by omega))
theorem AscI.skip {f s : Int} {ks : List Int} {i : Nat} (h : AscI f s ks i) (n : ¬ (f = (i : Int) ∨ s = (i : Int))) : AscI f s ks (i + 1) := by
  have n1 : f ≠ (i : Int) := fun z => n (.inl z)
  have n2 : s ≠ (i : Int) := fun z => n (.inr z)
  exact ⟨h.asc, fun x hx => (by have := h.bd x hx; omega), fun h0 h1 => h.hf h0 (by omega), fun h0 h1 => h.hs h0 (by omega), by have := h.len; omega⟩
theorem mem2_len {ks : List Int} {f s : Int} (hf : f ∈ ks) (hs : s ∈ ks) (n : f ≠ s) : 2 ≤ ks.length := by
  match ks, hf, hs with
  | [], hf, _ => cases hf
  | [x], hf, hs =>
    rw [List.mem_singleton] at hf hs
    exact absurd (hf.trans hs.symm) n
  | x :: y :: r, _, _ => simp
def Word (x : Str) : Prop := x = "pour" ∨ x = "scoop" ∨ x = "move" ∨ x = "open" ∨ x = "unless"
theorem strs_ne {H : Hp} {p s : Addr} {n : Nat} {xs : List Str} (h : H p = some (.lst (xs.map V.str))) (k : Sk H s n) : p ≠ s := fun z => by
  obtain ⟨a, b, c, hs, _⟩ := k
  rw [z, hs] at h
  cases xs with
  | nil => cases h
  | cons x r => cases h
/-- a drawn step -/
def spDeed : Sp := fun vs H Q _ => ∃ (s lk : Addr) (m o : Int) (xs : List Str) (n : Nat), vs = [.ref s, .int m, .int o, .ref lk] ∧ 0 < m ∧ m ≤ 20 ∧ 0 < o ∧ o ≤ 1000 ∧ H lk = some (.lst (xs.map V.str)) ∧ xs ≠ [] ∧ xs.length ≤ 10 ∧ (∀ x ∈ xs, Word x) ∧ Sk H s n ∧ n ≤ 80000 ∧
  ∀ (t : Addr) (d : Deed) (H' : Hp), But s H H' → Sk H' s (n + 24) → DAt (Nw H H') t d → okD m d → (∀ k a, d = .po k a → a ≤ 1000) → Q (.ref t) H'
section
variable {base : Heap} {mg : Str → Option Value} {K : PySem.W.Frag} {w : World} {P : Program}
theorem ok_lcopied0 {f : Addr} {fd : FuncData} (F : Fun K "_law_pv_copied" "_law_pv_copied" s_l_copied f fd) (T : T5 mg) : FnOk P w K mg base CX0 1 f fd p_l_copied (spCp 0) := by
  refine F.ok sc_l_copied (fun vs H Q E h => ?_) (fun cdv A outer s H vs Q E hr h => ?_)
  · obtain ⟨v, d, rfl, _⟩ := h
    rfl
  · obtain ⟨v, d, rfl, hd, hc, k⟩ := h
    refine ⟨_, pss_cons (ps_if (pt_val (pe_callB call_isi (by rfl) T.isi (by decide +kernel) (pa_cons (pv 0) (pa_cons (pe_bltn (v := .ty "list") (by rfl) T.lst (by decide +kernel) rfl) pa_nil)))) (pss_one ps_never) pss_nil)
      (pss_cons (ps_if (pt_val (pe_callB call_isi (by rfl) T.isi (by decide +kernel) (pa_cons (pv 0) (pa_cons (pe_bltn (v := .ty "tuple") (by rfl) T.tup (by decide +kernel) rfl) pa_nil)))) (pss_one ps_never) pss_nil)
      (pss_one (ps_ret (pv 0)))), ?_⟩
    cases hc with
    | non =>
      cases hd
      exact ⟨_, rfl, _, _, _, _, false, rfl, .ty "list", .base .non, kit_ty (by decide +kernel), false, rfl, if_f rfl ⟨_, rfl, _, _, _, _, false, rfl, .ty "tuple", .base .non, kit_ty (by decide +kernel), false, rfl, if_f rfl ⟨_, rfl, k _ _ (Evl.Ex.refl _) .non⟩⟩⟩
    | bl b =>
      cases hd
      exact ⟨_, rfl, _, _, _, _, false, rfl, .ty "list", .base (.bl b), kit_ty (by decide +kernel), false, rfl, if_f rfl ⟨_, rfl, _, _, _, _, false, rfl, .ty "tuple", .base (.bl b), kit_ty (by decide +kernel), false, rfl, if_f rfl ⟨_, rfl, k _ _ (Evl.Ex.refl _) (.bl b)⟩⟩⟩
    | int i =>
      cases hd
      exact ⟨_, rfl, _, _, _, _, false, rfl, .ty "list", .base (.int i), kit_ty (by decide +kernel), false, rfl, if_f rfl ⟨_, rfl, _, _, _, _, false, rfl, .ty "tuple", .base (.int i), kit_ty (by decide +kernel), false, rfl, if_f rfl ⟨_, rfl, k _ _ (Evl.Ex.refl _) (.int i)⟩⟩⟩
    | str x =>
      cases hd
      exact ⟨_, rfl, _, _, _, _, false, rfl, .ty "list", .base (.str x), kit_ty (by decide +kernel), false, rfl, if_f rfl ⟨_, rfl, _, _, _, _, false, rfl, .ty "tuple", .base (.str x), kit_ty (by decide +kernel), false, rfl, if_f rfl ⟨_, rfl, k _ _ (Evl.Ex.refl _) (.str x)⟩⟩⟩
/-- the turns of the comprehension -/
theorem ok_lcopiedS {n k : Nat} {f : Addr} {fd : FuncData} (F : Fun K "_law_pv_copied" "_law_pv_copied" s_l_copied f fd) (T : T5 mg) (c0 : Cal P w K mg base k "_law_pv_copied" p_l_copied (spCp n)) : FnOk P w K mg base CX0 (k + 1) f fd p_l_copied (spCp (n + 1)) := by
  refine F.ok sc_l_copied (fun vs H Q E h => ?_) (fun cdv A outer s H vs Q E hr h => ?_)
  · obtain ⟨v, d, rfl, _⟩ := h
    rfl
  · obtain ⟨v, d, rfl, hd, hc, kk⟩ := h
    have nd := sc_l_copied.nd
    cases hc with
    | non =>
      cases hd
      refine ⟨_, pss_cons (ps_if (pt_val (pe_callB call_isi (by rfl) T.isi (by decide +kernel) (pa_cons (pv 0) (pa_cons (pe_bltn (v := .ty "list") (by rfl) T.lst (by decide +kernel) rfl) pa_nil)))) (pss_one ps_never) pss_nil)
        (pss_cons (ps_if (pt_val (pe_callB call_isi (by rfl) T.isi (by decide +kernel) (pa_cons (pv 0) (pa_cons (pe_bltn (v := .ty "tuple") (by rfl) T.tup (by decide +kernel) rfl) pa_nil)))) (pss_one ps_never) pss_nil)
        (pss_one (ps_ret (pv 0)))), ?_⟩
      exact ⟨_, rfl, _, _, _, _, false, rfl, .ty "list", .base .non, kit_ty (by decide +kernel), false, rfl, if_f rfl ⟨_, rfl, _, _, _, _, false, rfl, .ty "tuple", .base .non, kit_ty (by decide +kernel), false, rfl, if_f rfl ⟨_, rfl, kk _ _ (Evl.Ex.refl _) .non⟩⟩⟩
    | bl b =>
      cases hd
      refine ⟨_, pss_cons (ps_if (pt_val (pe_callB call_isi (by rfl) T.isi (by decide +kernel) (pa_cons (pv 0) (pa_cons (pe_bltn (v := .ty "list") (by rfl) T.lst (by decide +kernel) rfl) pa_nil)))) (pss_one ps_never) pss_nil)
        (pss_cons (ps_if (pt_val (pe_callB call_isi (by rfl) T.isi (by decide +kernel) (pa_cons (pv 0) (pa_cons (pe_bltn (v := .ty "tuple") (by rfl) T.tup (by decide +kernel) rfl) pa_nil)))) (pss_one ps_never) pss_nil)
        (pss_one (ps_ret (pv 0)))), ?_⟩
      exact ⟨_, rfl, _, _, _, _, false, rfl, .ty "list", .base (.bl b), kit_ty (by decide +kernel), false, rfl, if_f rfl ⟨_, rfl, _, _, _, _, false, rfl, .ty "tuple", .base (.bl b), kit_ty (by decide +kernel), false, rfl, if_f rfl ⟨_, rfl, kk _ _ (Evl.Ex.refl _) (.bl b)⟩⟩⟩
    | int i =>
      cases hd
      refine ⟨_, pss_cons (ps_if (pt_val (pe_callB call_isi (by rfl) T.isi (by decide +kernel) (pa_cons (pv 0) (pa_cons (pe_bltn (v := .ty "list") (by rfl) T.lst (by decide +kernel) rfl) pa_nil)))) (pss_one ps_never) pss_nil)
        (pss_cons (ps_if (pt_val (pe_callB call_isi (by rfl) T.isi (by decide +kernel) (pa_cons (pv 0) (pa_cons (pe_bltn (v := .ty "tuple") (by rfl) T.tup (by decide +kernel) rfl) pa_nil)))) (pss_one ps_never) pss_nil)
        (pss_one (ps_ret (pv 0)))), ?_⟩
      exact ⟨_, rfl, _, _, _, _, false, rfl, .ty "list", .base (.int i), kit_ty (by decide +kernel), false, rfl, if_f rfl ⟨_, rfl, _, _, _, _, false, rfl, .ty "tuple", .base (.int i), kit_ty (by decide +kernel), false, rfl, if_f rfl ⟨_, rfl, kk _ _ (Evl.Ex.refl _) (.int i)⟩⟩⟩
    | str x =>
      cases hd
      refine ⟨_, pss_cons (ps_if (pt_val (pe_callB call_isi (by rfl) T.isi (by decide +kernel) (pa_cons (pv 0) (pa_cons (pe_bltn (v := .ty "list") (by rfl) T.lst (by decide +kernel) rfl) pa_nil)))) (pss_one ps_never) pss_nil)
        (pss_cons (ps_if (pt_val (pe_callB call_isi (by rfl) T.isi (by decide +kernel) (pa_cons (pv 0) (pa_cons (pe_bltn (v := .ty "tuple") (by rfl) T.tup (by decide +kernel) rfl) pa_nil)))) (pss_one ps_never) pss_nil)
        (pss_one (ps_ret (pv 0)))), ?_⟩
      exact ⟨_, rfl, _, _, _, _, false, rfl, .ty "list", .base (.str x), kit_ty (by decide +kernel), false, rfl, if_f rfl ⟨_, rfl, _, _, _, _, false, rfl, .ty "tuple", .base (.str x), kit_ty (by decide +kernel), false, rfl, if_f rfl ⟨_, rfl, kk _ _ (Evl.Ex.refl _) (.str x)⟩⟩⟩
    | @lst _ ds hl hcs =>
      cases hd with
      | @lst a xs _ ha hds =>
      refine ⟨_, pss_cons (ps_if (pt_val (pe_callB call_isi (by rfl) T.isi (by decide +kernel) (pa_cons (pv 0) (pa_cons (pe_bltn (v := .ty "list") (by rfl) T.lst (by decide +kernel) rfl) pa_nil))))
          (pss_one (ps_ret (pe_lc (own := [("part", 1)]) (g := gName 1) (tt := tYes) (te := tCall (spCp n) [] E0 (tCons (tVar 1) tNil)) rfl nd (pi_list (pv 0)) (blkOk_by (N := n_l_copied) (sc := defScope s_l_copied) (by decide +kernel)) (fun _ _ _ _ _ => pg_name (i := 1) nd rfl (Or.inl rfl)) (fun _ _ _ _ _ => pts_nil)
            (fun _ _ _ _ _ => pe_c c0 hr (pa_cons (pv 1) pa_nil))))) pss_nil)
        (pss_cons ps_never (pss_one ps_never)), ?_⟩
      refine ⟨_, rfl, _, _, _, _, true, rfl, .ty "list", .base (.lst ha), kit_ty (by decide +kernel), true, rfl, if_t rfl ?_⟩
      have hlen := hds.len
      refine ⟨_, rfl, a, rfl, ⟨_, SqL.of ha⟩, fun D hD => lc_list (xs := xs) (fun i H' => Evl.Ex H H' ∧ ∃ acc, H' D = some (.lst acc) ∧ DqAll (Nw H (fun b => if b = D then none else H' b)) acc (ds.take i)) ⟨Evl.Ex.new hD, [], upd_same, .nil⟩ (fun i H' _ q => SqL.of (q.1 _ _ ha)) ?_ ?_⟩
      · rintro i x H2 hi ⟨e2, acc, hD2, hacc⟩
        obtain ⟨d, hdi, hdx⟩ := hds.get hi
        refine ⟨rfl, ?_⟩
        show tCall (spCp n) [] E0 (tCons (tVar 1) tNil) _ _ _
        refine ⟨_, rfl, x, d, rfl, hdx.go e2, hcs d (List.mem_of_getElem? hdi), fun v' H3 e3 hv' => ⟨acc, e3 _ _ hD2, ?_, Evl.Ex.mut (e2.trans e3) hD, _, upd_same, ?_⟩⟩
        · have h1 := hacc.len
          rw [List.length_take] at h1
          exact Nat.lt_of_le_of_lt (show acc.length ≤ 100 by omega) (by decide)
        · rw [ds_take hdi]
          exact cp_turns hD (Evl.Ex.refl _) e2 hD2 hacc e3 hv'
      · rintro H2 ⟨e2, acc, hD2, hacc⟩
        rw [hlen, List.take_length] at hacc
        refine kk _ _ e2 (.lst (nw_at hD hD2) (hacc.go fun b o h => nw_at (nw_none h) ?_))
        have z := Nw.ex _ _ h
        by_cases hb : b = D
        · rw [if_pos hb] at z
          cases z
        · rw [if_neg hb] at z
          exact z
    | @tup _ ds hl hcs =>
      cases hd with
      | @tup a xs _ ha hds =>
      refine ⟨_, pss_cons (ps_if (pt_val (pe_callB call_isi (by rfl) T.isi (by decide +kernel) (pa_cons (pv 0) (pa_cons (pe_bltn (v := .ty "list") (by rfl) T.lst (by decide +kernel) rfl) pa_nil)))) (pss_one ps_never) pss_nil)
        (pss_cons (ps_if (pt_val (pe_callB call_isi (by rfl) T.isi (by decide +kernel) (pa_cons (pv 0) (pa_cons (pe_bltn (v := .ty "tuple") (by rfl) T.tup (by decide +kernel) rfl) pa_nil))))
          (pss_one (ps_ret (pe_callTy call_tuple_of (by rfl) T.tup (by decide +kernel) (pa_cons (pe_lc (own := [("part", 1)]) (g := gName 1) (tt := tYes) (te := tCall (spCp n) [] E0 (tCons (tVar 1) tNil)) rfl nd (pi_tup (pv 0)) (blkOk_by (N := n_l_copied) (sc := defScope s_l_copied) (by decide +kernel)) (fun _ _ _ _ _ => pg_name (i := 1) nd rfl (Or.inl rfl)) (fun _ _ _ _ _ => pts_nil)
            (fun _ _ _ _ _ => pe_c c0 hr (pa_cons (pv 1) pa_nil))) pa_nil)))) pss_nil)
        (pss_one ps_never)), ?_⟩
      refine ⟨_, rfl, _, _, _, _, false, rfl, .ty "list", .base (.tup ha), kit_ty (by decide +kernel), false, rfl, if_f rfl ?_⟩
      refine ⟨_, rfl, _, _, _, _, true, rfl, .ty "tuple", .base (.tup ha), kit_ty (by decide +kernel), true, rfl, if_t rfl ?_⟩
      have hlen := hds.len
      refine ⟨_, rfl, a, rfl, ⟨_, SqT.of ha⟩, fun D hD => lc_tup (xs := xs) (fun i H' => Evl.Ex H H' ∧ ∃ acc, H' D = some (.lst acc) ∧ DqAll (Nw H (fun b => if b = D then none else H' b)) acc (ds.take i)) ⟨Evl.Ex.new hD, [], upd_same, .nil⟩ (fun i H' _ q => SqT.of (q.1 _ _ ha)) ?_ ?_⟩
      · rintro i x H2 hi ⟨e2, acc, hD2, hacc⟩
        obtain ⟨d, hdi, hdx⟩ := hds.get hi
        refine ⟨rfl, ?_⟩
        show tCall (spCp n) [] E0 (tCons (tVar 1) tNil) _ _ _
        refine ⟨_, rfl, x, d, rfl, hdx.go e2, hcs d (List.mem_of_getElem? hdi), fun v' H3 e3 hv' => ⟨acc, e3 _ _ hD2, ?_, Evl.Ex.mut (e2.trans e3) hD, _, upd_same, ?_⟩⟩
        · have h1 := hacc.len
          rw [List.length_take] at h1
          exact Nat.lt_of_le_of_lt (show acc.length ≤ 100 by omega) (by decide)
        · rw [ds_take hdi]
          exact cp_turns hD (Evl.Ex.refl _) e2 hD2 hacc e3 hv'
      · rintro H2 ⟨e2, acc, hD2, hacc⟩
        rw [hlen, List.take_length] at hacc
        refine ⟨D, _, rfl, .inl ⟨SqL.of hD2, fun l hl2 => ?_⟩⟩
        have e3 := Evl.Ex.new (o := .tup acc) hl2
        refine kk _ _ (e2.trans e3) (.tup (nw_at (Evl.fresh_back e2 hl2) upd_same) (hacc.go fun b o h => nw_at (nw_none h) (e3 _ _ ?_)))
        have z := Nw.ex _ _ h
        by_cases hb : b = D
        · rw [if_pos hb] at z
          cases z
        · rw [if_neg hb] at z
          exact z
theorem ok_deed {f : Addr} {fd : FuncData} (F : Fun K "_law_pv_deed" "_law_pv_deed" s_l_deed f fd) (mR : mg "range" = none) (mL : mg "len" = none) (cC : Cal P w K mg base 1 "_law_pv_coin" p_l_coin spCoin) (cP : Cal P w K mg base 3 "_law_pv_part" p_l_part spPt) (cT : Cal P w K mg base 2 "_law_pv_two" p_l_two spTwo2) : FnOk P w K mg base CX0 4 f fd p_l_deed spDeed := by
  refine F.ok sc_l_deed (fun vs H Q E h => ?_) (fun cdv A outer s H vs Q E hr h => ?_)
  · obtain ⟨s, lk, m, o, xs, n, rfl, _⟩ := h
    rfl
  · obtain ⟨sk, lk, m, o, xs, n, rfl, m0, m1, o0, o1, hlk, hx0, hx10, hxw, hS, hn, k⟩ := h
    have nd := sc_l_deed.nd
    have r1 : Room 1 _ := hr.mono (by decide)
    have r2 : Room 2 _ := hr.mono (by decide)
    have two : 2 ≤ sizeLine := by show 2 ≤ sizeLine; decide
    have three : 3 ≤ sizeLine := by show 3 ≤ sizeLine; decide
    have four : 4 ≤ sizeLine := by show 4 ≤ sizeLine; decide
    have n200 := n200e
    refine ⟨_, pss_cons (ps_set (i := 4) nd rfl (Or.inl rfl) (pe_ix ix_list (pv 3) (pe_c cC r1 (pa_cons (pv 0) (pa_cons (pe_callB call_len_seq (by rfl) mL PySem.boot_len (pa_cons (pv 3) pa_nil)) pa_nil))) (fun _ _ => rfl)))
      (Evl.pss_cut (ps_if (PW.pt (pw_and (pt_cmpR op_lt (pv 1) pe_int (nomark _)) (pw_and1 (pt_cmpR op_notIn_seq (pv 4) (pe_tup (pa_cons pe_str (pa_cons pe_str pa_nil))) (by rfl))))) (pss_one (ps_set (i := 4) nd rfl (Or.inl rfl) pe_str)) pss_nil)
      (pss_cons (ps_if (pt_cmpR op_eq (pv 4) pe_str (nomark _)) (pss_one (ps_ret (pe_tup (pa_cons pe_str (pa_cons (pe_c cC r1 (pa_cons (pv 0) (pa_cons (pv 1) pa_nil))) (pa_cons (pe_c cC r1 (pa_cons (pv 0) (pa_cons (pe_op op_add (pv 2) pe_int) pa_nil))) pa_nil)))))) pss_nil)
      (pss_cons (ps_if (pt_cmpR op_eq (pv 4) pe_str (nomark _)) (pss_one (ps_ret (pe_tup (pa_cons pe_str (pa_cons (pe_c cC r1 (pa_cons (pv 0) (pa_cons (pv 1) pa_nil))) (pa_cons (pe_c cP hr (pa_cons (pv 0) (pa_cons (pe_ifExp (pt_cmpR op_gt (pv 2) pe_int (nomark _)) pe_int pe_int) pa_nil))) pa_nil)))))) pss_nil)
      (pss_cons (ps_asg (pe_c cT r2 (pa_cons (pv 0) (pa_cons (pv 1) pa_nil))) (pg_tup rfl (pgs_cons (pg_name (i := 5) nd rfl (Or.inr rfl)) (pgs_cons (pg_name (i := 6) nd rfl (Or.inr rfl)) pgs_nil))))
      (pss_cons (ps_if (pt_cmpR op_eq (pv 4) pe_str (nomark _)) (pss_one (ps_ret (pe_tup (pa_cons pe_str (pa_cons (pv 5) (pa_cons (pv 6) (pa_cons (pe_c cP hr (pa_cons (pv 0) (pa_cons (pe_ifExp (pt_cmpR op_gt (pv 2) pe_int (nomark _)) pe_int pe_int) pa_nil))) pa_nil))))))) pss_nil)
      (pss_cons (ps_if (pt_cmpR op_eq (pv 4) pe_str (nomark _)) (pss_one (ps_ret (pe_tup (pa_cons pe_str (pa_cons (pv 5) (pa_cons (pv 6) pa_nil)))))) pss_nil)
      (pss_one (ps_ret (pe_tup (pa_cons pe_str (pa_cons (pe_lc (own := [("k", 7)]) (g := (gName 7)) (tt := (tOr (tTest (tOp (rIn K false) (tVar 7) (tTup (tCons (tVar 5) (tCons (tVar 6) tNil))))) (tTest (tOp rEq (tCall spCoin [] E0 (tCons (tVar 0) (tCons (tC (.int 3)) tNil))) (tC (.int 0)))))) (te := (tVar 7)) rfl nd (pi_range1 (by rfl) mR (pa_cons (pv 1) pa_nil)) (blkOk_by (N := n_l_deed) (sc := defScope s_l_deed) (by decide +kernel)) (fun _ _ _ _ _ => (pg_name (i := 7) nd rfl (Or.inl rfl))) (fun _ _ _ _ _ => pts_one (PW.pt (pw_or (pt_cmpR op_in_seq (pv 7) (pe_tup (pa_cons (pv 5) (pa_cons (pv 6) pa_nil))) (by rfl)) (pw_or1 (pt_cmpR op_eq (pe_c cC r1 (pa_cons (pv 0) (pa_cons pe_int pa_nil))) pe_int (nomark _)))))) (fun _ _ _ _ _ => (pv 7))) pa_nil))))))))))), ?_⟩
    have lks := strs_ne hlk hS
    have xl : 0 < xs.length := List.length_pos_iff.mpr hx0
    refine ⟨_, rfl, _, rfl, _, rfl, lk, _, rfl, .inl (SqL.of hlk), sk, ((xs.map V.str).length : Int), n, rfl, hS, by omega, by rw [List.length_map]; omega, by rw [n200, List.length_map]; omega, fun r H0 r0 r1' b0 s0 z0 => ?_⟩
    rw [List.length_map] at r1'
    obtain ⟨j, rfl⟩ : ∃ j : Nat, r = (j : Int) := ⟨r.toNat, by omega⟩
    have hj : j < xs.length := by omega
    have hxj : (xs.map V.str)[j]? = some (.str xs[j]) := by rw [List.getElem?_map, List.getElem?_eq_getElem hj]; rfl
    have hW := hxw _ (List.getElem_mem hj)
    generalize xs[j] = x0 at hxj hW
    refine ⟨lk, _, _, _, rfl, rfl, SqL.of (b0 _ _ lks hlk), atI_nat hxj, ?_⟩
    refine ⟨fun σ H' => Evl.Ex H0 H' ∧ ∃ x : Str, σ = [some (.ref sk), some (.int m), some (.int o), some (.ref lk), some (.str x), none, none, none] ∧ Word x ∧ (m < 2 → x = "pour" ∨ x = "scoop"), ?_, ?_⟩
    · refine ⟨_, rfl, _, _, rfl, rfl, _, rfl, ?_⟩
      by_cases hm : m < 2
      · refine if_t (decide_eq_true hm) ⟨_, rfl, two, fun tq htq => ⟨tq, _, rfl, .inr (SqT.of upd_same), rfl, rfl, _, rfl, ?_⟩⟩
        rcases hW with rfl | rfl | rfl | rfl | rfl
        · exact if_f (by decide) ⟨Evl.Ex.new htq, _, rfl, .inl rfl, fun _ => .inl rfl⟩
        · exact if_f (by decide) ⟨Evl.Ex.new htq, _, rfl, .inr (.inl rfl), fun _ => .inr rfl⟩
        · exact if_t (by decide) ⟨Evl.Ex.new htq, _, rfl, .inl rfl, fun _ => .inl rfl⟩
        · exact if_t (by decide) ⟨Evl.Ex.new htq, _, rfl, .inl rfl, fun _ => .inl rfl⟩
        · exact if_t (by decide) ⟨Evl.Ex.new htq, _, rfl, .inl rfl, fun _ => .inl rfl⟩
      · exact if_f (decide_eq_false hm) (if_f rfl ⟨Evl.Ex.refl _, _, rfl, hW, fun z => absurd z hm⟩)
    · rintro σ H0' ⟨e0, x, rfl, hWx, hm2⟩
      have b0' := b0.trans (But.of_ex e0)
      have s0' := s0.ex e0
      rcases hWx with rfl | rfl | rfl | rfl | rfl
      · skip
        refine ⟨_, rfl, rfl, _, rfl, if_t (by decide) ?_⟩
        refine ⟨_, rfl, _, rfl, sk, m, n + 1, rfl, s0', by omega, m0, by rw [n200]; omega, fun k1 H1 k0 k1' b1 s1 z1 => ?_⟩
        refine ⟨_, rfl, _, rfl, _, _, rfl, rfl, sk, o + 1, n + 2, rfl, s1, by omega, by omega, by rw [n200]; omega, fun a H2 a0 a1 b2 s2 z2 => ⟨three, fun t ht => ?_⟩⟩
        exact k t (.po k1 a) _ ((b0'.trans (b1.trans b2)).trans (But.of_ex (Evl.Ex.new ht))) ((s2.ex (Evl.Ex.new ht)).le (by omega)) (nw_at (but_none (b0'.trans (b1.trans b2)) s2 ht) upd_same) ⟨⟨k0, k1'⟩, a0⟩ (fun _ _ e => by cases e; omega)
      · skip
        refine ⟨_, rfl, rfl, _, rfl, if_f (by decide) ?_⟩
        refine ⟨_, rfl, rfl, _, rfl, if_t (by decide) ?_⟩
        refine ⟨_, rfl, _, rfl, sk, m, n + 1, rfl, s0', by omega, m0, by rw [n200]; omega, fun k1 H1 k0 k1' b1 s1 z1 => ?_⟩
        refine ⟨_, rfl, _, rfl, _, _, rfl, rfl, _, rfl, ?_⟩
        by_cases h12 : 12 < o
        · refine if_t (decide_eq_true h12) ⟨sk, 1000, n + 2, rfl, by decide, by decide, s1, by omega, fun g p q H2 b2 s2 hg hgt hP => ⟨three, fun t ht => ?_⟩⟩
          exact k t (.sc k1 p q) _ ((b0'.trans (b1.trans b2)).trans (But.of_ex (Evl.Ex.new ht))) ((s2.ex (Evl.Ex.new ht)).le (by omega)) ⟨g, nw_at (but_none (b0'.trans (b1.trans b2)) s2 ht) upd_same, nw_at (but_none (b0'.trans b1) s1 hg) (Eq.trans (upd_ne (ne_of_none hgt ht)) hgt)⟩ ⟨⟨k0, k1'⟩, hP⟩ (fun _ _ e => by cases e)
        · refine if_f (decide_eq_false h12) ⟨sk, 6, n + 2, rfl, by decide, by decide, s1, by omega, fun g p q H2 b2 s2 hg hgt hP => ⟨three, fun t ht => ?_⟩⟩
          exact k t (.sc k1 p q) _ ((b0'.trans (b1.trans b2)).trans (But.of_ex (Evl.Ex.new ht))) ((s2.ex (Evl.Ex.new ht)).le (by omega)) ⟨g, nw_at (but_none (b0'.trans (b1.trans b2)) s2 ht) upd_same, nw_at (but_none (b0'.trans b1) s1 hg) (Eq.trans (upd_ne (ne_of_none hgt ht)) hgt)⟩ ⟨⟨k0, k1'⟩, hP⟩ (fun _ _ e => by cases e)
      · skip
        have hm2' : 2 ≤ m := by
          refine Int.not_lt.mp fun z => ?_
          rcases hm2 z with h | h <;> exact absurd h (by decide)
        refine ⟨_, rfl, rfl, _, rfl, if_f (by decide) ?_⟩
        refine ⟨_, rfl, rfl, _, rfl, if_f (by decide) ?_⟩
        refine ⟨_, rfl, _, rfl, sk, m, n + 1, rfl, hm2', m1, s0', by omega, fun t1 x y H1 b1 s1 ht1 h1 x0 x1 y0 y1 xyn => ⟨t1, _, rfl, SqT.of h1, rfl, _, _, rfl, _, _, rfl, rfl, ?_⟩⟩
        have xy := xyn
        refine ⟨_, rfl, rfl, _, rfl, if_t (by decide) ?_⟩
        refine ⟨_, rfl, _, rfl, _, rfl, _, rfl, _, _, rfl, rfl, _, rfl, ?_⟩
        by_cases h12 : 12 < o
        · refine if_t (decide_eq_true h12) ⟨sk, 1000, n + 3, rfl, by decide, by decide, s1, by omega, fun g p q H2 b2 s2 hg hgt hP => ⟨four, fun t ht => ?_⟩⟩
          exact k t (.mv x y p q) _ ((b0'.trans (b1.trans b2)).trans (But.of_ex (Evl.Ex.new ht))) ((s2.ex (Evl.Ex.new ht)).le (by omega)) ⟨g, nw_at (but_none (b0'.trans (b1.trans b2)) s2 ht) upd_same, nw_at (but_none (b0'.trans b1) s1 hg) (Eq.trans (upd_ne (ne_of_none hgt ht)) hgt)⟩ ⟨⟨x0, x1⟩, ⟨y0, y1⟩, xy, hP⟩ (fun _ _ e => by cases e)
        · refine if_f (decide_eq_false h12) ⟨sk, 6, n + 3, rfl, by decide, by decide, s1, by omega, fun g p q H2 b2 s2 hg hgt hP => ⟨four, fun t ht => ?_⟩⟩
          exact k t (.mv x y p q) _ ((b0'.trans (b1.trans b2)).trans (But.of_ex (Evl.Ex.new ht))) ((s2.ex (Evl.Ex.new ht)).le (by omega)) ⟨g, nw_at (but_none (b0'.trans (b1.trans b2)) s2 ht) upd_same, nw_at (but_none (b0'.trans b1) s1 hg) (Eq.trans (upd_ne (ne_of_none hgt ht)) hgt)⟩ ⟨⟨x0, x1⟩, ⟨y0, y1⟩, xy, hP⟩ (fun _ _ e => by cases e)
      · skip
        have hm2' : 2 ≤ m := by
          refine Int.not_lt.mp fun z => ?_
          rcases hm2 z with h | h <;> exact absurd h (by decide)
        refine ⟨_, rfl, rfl, _, rfl, if_f (by decide) ?_⟩
        refine ⟨_, rfl, rfl, _, rfl, if_f (by decide) ?_⟩
        refine ⟨_, rfl, _, rfl, sk, m, n + 1, rfl, hm2', m1, s0', by omega, fun t1 x y H1 b1 s1 ht1 h1 x0 x1 y0 y1 xyn => ⟨t1, _, rfl, SqT.of h1, rfl, _, _, rfl, _, _, rfl, rfl, ?_⟩⟩
        have xy := xyn
        refine ⟨_, rfl, rfl, _, rfl, if_f (by decide) ?_⟩
        refine ⟨_, rfl, rfl, _, rfl, if_f (by decide) ?_⟩
        refine ⟨_, rfl, m, rfl, by omega, by omega, fun D hD => lc_range (n := m.toNat) (fun i H' => ∃ ks : List Int, But sk H1 H' ∧ Sk H' sk (n + 3 + i) ∧ Li H' D ks ∧ AscI x y ks i) ⟨[], But.of_ex (Evl.Ex.new hD), s1.ex (Evl.Ex.new hD), upd_same, AscI.start x y⟩ ?_ ?_⟩
        · rintro i H2 hi ⟨ks, b2, s2, hL, hA⟩
          rw [Int.zero_add]
          have hi20 : i < 20 := by omega
          have D1 := sk_ne s1 hD
          have app : ∀ H3, But sk H2 H3 → Sk H3 sk (n + 3 + (i + 1)) → ∃ acc, H3 D = some (.lst acc) ∧ acc.length < sizeLine ∧ ∃ ks : List Int, But sk H1 (upd H3 D (.lst (acc ++ [.int (i : Int)]))) ∧ Sk (upd H3 D (.lst (acc ++ [.int (i : Int)]))) sk (n + 3 + (i + 1)) ∧ Li (upd H3 D (.lst (acc ++ [.int (i : Int)]))) D ks ∧ AscI x y ks (i + 1) := by
            intro H3 b3 s3
            refine ⟨_, b3 _ _ D1 hL, ?_, ks ++ [(i : Int)], ?_, s3.upd D1, ?_, hA.more⟩
            · rw [iV_len]
              exact Nat.lt_of_le_of_lt hA.len (Nat.lt_of_lt_of_le hi20 (by decide))
            · exact fun c o nc e => Eq.trans (upd_ne (ne_of_none' e hD)) ((b2.trans b3) c o nc e)
            · exact Eq.trans upd_same (by unfold iV; rw [List.map_append]; rfl)
          refine ⟨rfl, _, rfl, _, rfl, _, rfl, two, fun t2 ht2 => ⟨t2, _, rfl, .inr (SqT.of upd_same), rfl, rfl, _, rfl, ?_⟩⟩
          have e2 := Evl.Ex.new (o := .tup [.int x, .int y]) ht2
          by_cases hin : inV (.int (i : Int)) [.int x, .int y] = true
          · refine if_t hin (if_t rfl ⟨_, rfl, app _ (But.of_ex e2) ((s2.ex e2).le (by omega))⟩)
          · have nin : ¬ (x = (i : Int) ∨ y = (i : Int)) := fun z => hin ((inV2 _ _ _).mpr z)
            refine if_f (by simpa using hin) ⟨_, rfl, sk, 3, n + 3 + i, rfl, s2.ex e2, by omega, by decide, by decide, fun c H3 c0 c1 b3 s3 z3 => ⟨rfl, _, rfl, ?_⟩⟩
            have b23 := (But.of_ex (p := sk) e2).trans b3
            by_cases hc : c = 0
            · refine if_t (by rw [hc]; rfl) ⟨_, rfl, app _ b23 s3⟩
            · refine if_f (decide_eq_false fun q => hc (by injection q)) ⟨ks, b2.trans b23, s3, b23 _ _ D1 hL, hA.skip nin⟩
        · rintro H2 ⟨ks, b2, s2, hL, hA⟩
          have lm := hA.len
          have em : ((m.toNat : Nat) : Int) = m := by omega
          refine ⟨two, fun t ht => ?_⟩
          refine k t (.op ks) _ ((b0'.trans (b1.trans b2)).trans (But.of_ex (Evl.Ex.new ht))) ((s2.ex (Evl.Ex.new ht)).le (by omega)) ⟨D, nw_at (but_none (b0'.trans (b1.trans b2)) s2 ht) upd_same, nw_at (but_none (b0'.trans b1) s1 hD) (Eq.trans (upd_ne (ne_of_none hL ht)) hL)⟩ ⟨mem2_len (hA.hf x0 (by omega)) (hA.hs y0 (by omega)) xy, by omega, hA.asc, fun z hz => by have := hA.bd z hz; omega⟩ (fun _ _ e => by cases e)
      · skip
        have hm2' : 2 ≤ m := by
          refine Int.not_lt.mp fun z => ?_
          rcases hm2 z with h | h <;> exact absurd h (by decide)
        refine ⟨_, rfl, rfl, _, rfl, if_f (by decide) ?_⟩
        refine ⟨_, rfl, rfl, _, rfl, if_f (by decide) ?_⟩
        refine ⟨_, rfl, _, rfl, sk, m, n + 1, rfl, hm2', m1, s0', by omega, fun t1 x y H1 b1 s1 ht1 h1 x0 x1 y0 y1 xyn => ⟨t1, _, rfl, SqT.of h1, rfl, _, _, rfl, _, _, rfl, rfl, ?_⟩⟩
        have xy := xyn
        refine ⟨_, rfl, rfl, _, rfl, if_f (by decide) ?_⟩
        refine ⟨_, rfl, rfl, _, rfl, if_t (by decide) ?_⟩
        refine ⟨_, rfl, _, rfl, three, fun t ht => ?_⟩
        exact k t (.un x y) _ ((b0'.trans b1).trans (But.of_ex (Evl.Ex.new ht))) ((s1.ex (Evl.Ex.new ht)).le (by omega)) (nw_at (but_none (b0'.trans b1) s1 ht) upd_same) ⟨⟨x0, x1⟩, ⟨y0, y1⟩, xy⟩ (fun _ _ e => by cases e)
end
end V2


namespace V2
open PySem L2
open PySem.Spec PyProof.Rows
theorem atI_mem {xs : List V} {r : Int} (h0 : 0 ≤ r) (h1 : r < xs.length) : ∃ v, v ∈ xs ∧ atI xs r = some v := by
  obtain ⟨j, rfl⟩ : ∃ j : Nat, r = (j : Int) := ⟨r.toNat, by omega⟩
  have hj : j < xs.length := by omega
  exact ⟨xs[j], List.getElem_mem hj, atI_nat (List.getElem?_eq_getElem hj)⟩
/-- [a, b, ..][coin(sack, many)] -/
theorem pick_read {K : PySem.W.Frag} {σ : L2.St} {H : Hp} {Q : VK} {t : TA} {xs : List V} {s : Addr} {n : Nat} {m : Int} (hm : m = (xs.length : Int)) (h0 : 0 < xs.length) (hl : xs.length ≤ 100) (i0 : σ[0]? = some (some (.ref s))) (hS : Sk H s n) (hn : n ≤ 99990)
    (ht : ∀ (H' : Hp) (Q' : List V → Hp → Prop), Q' xs H' → t σ H' Q') (k : ∀ (v : V) (H' : Hp), v ∈ xs → But s H H' → Sk H' s (n + 1) → Q v H') :
    tOp (rIxL K) (tLst t) (tCall spCoin [] E0 (tCons (tVar 0) (tCons (tC (.int m)) tNil))) σ H Q := by
  refine ht _ _ ⟨Nat.le_trans hl (by decide), fun p hp => ⟨_, i0, s, m, n, rfl, hS.ex (Evl.Ex.new hp), by omega, by omega, ?_, fun r H' r0 r1 b s' z => ?_⟩⟩
  · rw [n200e]
    omega
  · obtain ⟨v, hv, e⟩ := atI_mem (xs := xs) r0 (by omega)
    exact ⟨p, xs, r, v, rfl, rfl, SqL.of (b _ _ (sk_ne hS hp) upd_same), e, k v H' hv ((But.of_ex (Evl.Ex.new hp)).trans b) s'⟩
theorem dat_keep {H H' : Hp} {a l : Addr} {d : Deed} {n : Int} {as : List Addr} (h : DAt H a d) (hd : okD n d) (hl : H l = some (.lst (as.map V.ref))) (e : ∀ b o, b ≠ l → H b = some o → H' b = some o) : DAt H' a d := by
  have ne : ∀ {a : Addr} {xs : List V}, H a = some (.tup xs) → a ≠ l := fun h z => by
    rw [z, hl] at h
    cases h
  cases d with
  | op ks =>
    obtain ⟨q, h1, h2⟩ := h
    refine ⟨q, e _ _ (ne h1) h1, e _ _ (fun z => ?_) h2⟩
    have h2 : H q = some (.lst (iV ks)) := h2
    rw [z, hl] at h2
    have h3 : as.map V.ref = iV ks := by
      injection h2 with h2
      injection h2
    have h4 : 2 ≤ ks.length := hd.1
    match ks, as, h3, h4 with
    | k :: ks, a :: as, h3, _ =>
      unfold iV at h3
      rw [List.map_cons, List.map_cons] at h3
      injection h3 with h3 _
      cases h3
    | k :: ks, [], h3, _ => cases h3
    | [], _, _, h4 => exact absurd h4 (by decide)
  | po k x => exact e _ _ (ne h) h
  | sc k p q =>
    obtain ⟨f, h1, h2⟩ := h
    exact ⟨f, e _ _ (ne h1) h1, e _ _ (ne h2) h2⟩
  | mv k m p q =>
    obtain ⟨f, h1, h2⟩ := h
    exact ⟨f, e _ _ (ne h1) h1, e _ _ (ne h2) h2⟩
  | un k m => exact e _ _ (ne h) h
theorem ds_more {G G' : Hp} {l t : Addr} {ds : List Deed} {d : Deed} {n : Int} (h : DsAt G l ds) (hds : ∀ d ∈ ds, okD n d) (ht : DAt G t d) (hd : okD n d) (e : ∀ b o, b ≠ l → G b = some o → G' b = some o) (e' : ∀ acc, G l = some (.lst acc) → G' l = some (.lst (acc ++ [.ref t]))) : DsAt G' l (ds ++ [d]) := by
  obtain ⟨as, h1, h2, h3⟩ := h
  refine ⟨as ++ [t], ?_, by rw [List.length_append, List.length_append, h2]; rfl, fun i a y ha hy => ?_⟩
  · rw [List.map_append]
    exact e' _ h1
  · rcases get_app ha with ⟨h4, h5⟩ | ⟨h4, rfl⟩
    · rcases get_app hy with ⟨h6, _⟩ | ⟨h6, _⟩
      · exact dat_keep (h3 i a y h4 h6) (hds y (List.mem_of_getElem? h6)) h1 e
      · omega
    · rcases get_app hy with ⟨h6, h7⟩ | ⟨_, rfl⟩
      · omega
      · exact dat_keep ht hd h1 e
theorem ds_list {G : Hp} {l : Addr} {ds : List Deed} (h : DsAt G l ds) : ∃ acc, G l = some (.lst acc) ∧ acc.length = ds.length := by
  obtain ⟨as, h1, h2, h3⟩ := h
  exact ⟨_, h1, by rw [List.length_map]; exact h2⟩
theorem tks_list {G : Hp} {l : Addr} {ts : List Tk} (h : TksAt G l ts) : ∃ acc, G l = some (.lst acc) ∧ acc.length = ts.length := by
  obtain ⟨as, h1, h2, h3⟩ := h
  exact ⟨_, h1, by rw [List.length_map]; exact h2⟩
theorem wo_upd {p l : Addr} {H : Hp} {x : HO} : ∀ b o, b ≠ l → wo p H b = some o → wo p (upd H l x) b = some o := fun b o nb h => wo_at (wo_ne h) (Eq.trans (upd_ne nb) (wo_ex _ _ h))
theorem wo_app {p l t : Addr} {H : Hp} {acc0 : List V} (h : H l = some (.lst acc0)) : ∀ acc, wo p H l = some (.lst acc) → wo p (upd H l (.lst (acc0 ++ [.ref t]))) l = some (.lst (acc ++ [.ref t])) := fun acc h' => by
  have e := wo_ex _ _ h'
  rw [h] at e
  injection e with e
  injection e with e
  rw [← e]
  exact wo_at (wo_ne h') upd_same
theorem nw_wo {p : Addr} {H H' : Hp} {n : Nat} (s : Sk H p n) : Evl.Ex (Nw H H') (wo p H') := fun b o h => wo_at (fun z => by
  rw [z] at h
  obtain ⟨o', h'⟩ := sk_some s
  rw [nw_none h] at h'
  cases h') (Nw.ex _ _ h)
theorem tks_keep {H H' : Hp} {l v : Addr} {ts : List Tk} {xs : List V} (h : TksAt H v ts) (hl : H l = some (.lst xs)) (n : v ≠ l) (e : ∀ b o, b ≠ l → H b = some o → H' b = some o) : TksAt H' v ts := by
  obtain ⟨as, h1, h2, h3⟩ := h
  exact ⟨as, e _ _ n h1, h2, fun i a t x y => e _ _ (fun z => by rw [← z, h3 i a t x y] at hl; cases hl) (h3 i a t x y)⟩
theorem dat_un {H : Hp} {a : Addr} {d : Deed} (h : DAt H a d) : (∃ k m, d = .un k m) ∨ ∃ (x : Str) (r : List V), H a = some (.tup (.str x :: r)) ∧ decide (V.str x = V.str "unless") = false := by
  cases d with
  | op ks =>
    obtain ⟨l, h1, _⟩ := h
    exact .inr ⟨_, _, h1, by decide⟩
  | po k x => exact .inr ⟨_, _, h, by decide⟩
  | sc k p q =>
    obtain ⟨l, h1, _⟩ := h
    exact .inr ⟨_, _, h1, by decide⟩
  | mv k m p q =>
    obtain ⟨l, h1, _⟩ := h
    exact .inr ⟨_, _, h1, by decide⟩
  | un k m => exact .inl ⟨k, m, rfl⟩
theorem ex_wo {p : Addr} {G G' : Hp} (e : Evl.Ex G G') : Evl.Ex (wo p G) (wo p G') := fun b o h => wo_at (wo_ne h) (e _ _ (wo_ex _ _ h))
theorem wo_upd2 {q p l : Addr} {H : Hp} {x : HO} : ∀ b o, b ≠ l → wo q (wo p H) b = some o → wo q (wo p (upd H l x)) b = some o := fun b o nb h => wo_at (wo_ne h) (wo_upd b o nb (wo_ex _ _ h))
theorem wo_app2 {q p l t : Addr} {H : Hp} {acc0 : List V} (h : H l = some (.lst acc0)) : ∀ acc, wo q (wo p H) l = some (.lst acc) → wo q (wo p (upd H l (.lst (acc0 ++ [.ref t])))) l = some (.lst (acc ++ [.ref t])) := fun acc h' => wo_at (wo_ne h') (wo_app h acc (wo_ex _ _ h'))
theorem dat_ne {G : Hp} {t l : Addr} {d : Deed} {xs : List V} (h : DAt G t d) (hl : G l = some (.lst xs)) : t ≠ l := fun z => by
  have h2 : ∃ ys, G t = some (.tup ys) := by
    cases d with
    | op ks => exact ⟨_, h.choose_spec.1⟩
    | po k x => exact ⟨_, h⟩
    | sc k p q => exact ⟨_, h.choose_spec.1⟩
    | mv k m p q => exact ⟨_, h.choose_spec.1⟩
    | un k m => exact ⟨_, h⟩
  obtain ⟨ys, h2⟩ := h2
  rw [z, hl] at h2
  cases h2
theorem dat_keep' {G G' : Hp} {t l : Addr} {d : Deed} {ds : List Deed} {n : Int} (h : DAt G t d) (hd : okD n d) (hl : DsAt G l ds) (e : ∀ b o, b ≠ l → G b = some o → G' b = some o) : DAt G' t d := by
  obtain ⟨as, h1, _⟩ := hl
  exact dat_keep h hd h1 e
/-- a drawn shape: tanks and steps, none of whose numbers is great -/
structure ShW (ts : List Tk) (ds : List Deed) : Prop where
  ok : okS ts ds
  w1000 : ∀ t ∈ ts, (∀ z, t.1 = some z → z ≤ 1000) ∧ t.2 ≤ 1000
  p1000 : ∀ k a, Deed.po k a ∈ ds → a ≤ 1000
def ShAt (H : Hp) (t : Addr) (ts : List Tk) (ds : List Deed) : Prop := ∃ lv ld, H t = some (.tup [.ref lv, .ref ld]) ∧ TksAt H lv ts ∧ DsAt H ld ds
theorem sIx_pos {n d k : Nat} : HT.sIx n d (some (k : Int)) = min k n := by
  unfold HT.sIx
  simp
  first
    | done
    | omega
    | (split <;> omega)
theorem cut_min (xs : List V) (k : Nat) : cutV xs none (some (k : Int)) = xs.take k := by
  by_cases h : k ≤ xs.length
  · exact cut_to xs h
  · rw [List.take_of_length_le (by omega)]
    unfold cutV
    rw [sIx_pos]
    have e : HT.sIx xs.length 0 none = 0 := rfl
    rw [e, List.drop_zero, Nat.min_eq_right (by omega)]
    exact List.take_of_length_le (by omega)
theorem DsAt.take {H H' : Hp} {l l2 : Addr} {ds : List Deed} {xs : List V} (h : DsAt H l ds) (hl : H l = some (.lst xs)) (k : Nat) (e : Evl.Ex H H') (h2 : H' l2 = some (.lst (xs.take k))) : DsAt H' l2 (ds.take k) := by
  obtain ⟨as, h1, h3, h4⟩ := h
  rw [hl] at h1
  injection h1 with h1
  injection h1 with h1
  subst h1
  refine ⟨as.take k, by rw [h2, List.map_take], by rw [List.length_take, List.length_take, h3], fun i a d ha hd => ?_⟩
  rw [List.getElem?_take] at ha hd
  by_cases c : i < k
  · rw [if_pos c] at ha hd
    exact (h4 i a d ha hd).ex e
  · rw [if_neg c] at ha
    cases ha
theorem dat_word {H : Hp} {a : Addr} {d : Deed} (h : DAt H a d) : ∃ (x : Str) (r : List V), H a = some (.tup (.str x :: r)) := by
  rcases dat_unless h with ⟨k, m, rfl⟩ | ⟨x, r, h, _⟩
  · exact ⟨_, _, h⟩
  · exact ⟨_, _, h⟩
def spShape : Sp := fun vs H Q _ => ∃ (s : Addr) (n : Nat), vs = [.ref s] ∧ Sk H s n ∧ n ≤ 70000 ∧
  ∀ (t : Addr) (ts : List Tk) (ds : List Deed) (H' : Hp), But s H H' → Sk H' s (n + 3000) → ShAt (wo s H') t ts ds → ShW ts ds → Q (.ref t) H'
def spLong : Sp := spShape
/-- a drawn shape and the greatest number -/
def spAnyS : Sp := fun vs H Q _ => ∃ (s : Addr) (n : Nat), vs = [.ref s] ∧ Sk H s n ∧ n ≤ 60000 ∧
  ∀ (r t : Addr) (o : Int) (ts : List Tk) (ds : List Deed) (H' : Hp), But s H H' → Sk H' s (n + 4000) → wo s H' r = some (.tup [.ref t, .int o]) → ShAt (wo s H') t ts ds → ShW ts ds → (0 < o ∧ o ≤ 1000) → Q (.ref r) H'
/-- a told width -/
def spWid (a c : Nat) : Sp := fun vs H Q _ => ∃ (s : Addr) (n : Nat), vs = [.ref s] ∧ Sk H s n ∧ n ≤ a ∧
  ∀ (t : Addr) (u b : Int) (H' : Hp), But s H H' → Sk H' s (n + c) → H t = none → Fr (wo s H') t u b → Qn u b → 0 < u → Q (.ref t) H'
theorem qn_fr {y z : Int} (y0 : 0 ≤ y) (y1 : y ≤ 1000000000000000) (z0 : 0 ≤ z) (z1 : z ≤ 1000000000000000) : Qn (fr (1 + z) (1 + y)).1 (fr (1 + z) (1 + y)).2 ∧ 0 < (fr (1 + z) (1 + y)).1 := by
  have p1 := fr_abs1 (a := 1 + z) (show 0 < 1 + y by omega)
  have p2 := fr_abs2 (a := 1 + z) (show 0 < 1 + y by omega)
  have p3 := fr_pos (u := 1 + z) (show 0 < 1 + y by omega)
  have p4 := fr_cop (u := 1 + z) (show 0 < 1 + y by omega)
  have p5 := fr_mul (u := 1 + z) (show 0 < 1 + y by omega)
  have n50 : (2 : Nat) ^ 50 = 1125899906842624 := by decide
  refine ⟨⟨p3, p4, by rw [n50]; omega, by rw [n50]; omega⟩, ?_⟩
  have g := gcd_pos (u := 1 + z) (show 0 < 1 + y by omega)
  refine Int.not_le.mp fun q => ?_
  have q2 := Int.mul_le_mul_of_nonneg_right q (Int.le_of_lt g)
  rw [← p5.1] at q2
  omega
theorem bn15 {x : Int} (h0 : 0 ≤ x) (h1 : x ≤ 1000000000000001) : x.natAbs < 2 ^ 9000 := Nat.lt_of_le_of_lt (show x.natAbs ≤ 1000000000000001 by omega) (Nat.lt_of_lt_of_le (show 1000000000000001 < 2 ^ 50 by decide) (Nat.pow_le_pow_right (by decide) (by decide)))
section
variable {base : Heap} {mg : Str → Option Value} {K : PySem.W.Frag} {w : World} {P : Program}
theorem ok_wide {f : Addr} {fd : FuncData} (F : Fun K "_law_pv_wide" "_law_pv_wide" s_l_wide f fd) (cC : Cal P w K mg base 1 "_law_pv_coin" p_l_coin spCoin) (cR : Cal P w K mg base 2 "_law_pv_ratio" p_l_ratio spRatio) : FnOk P w K mg base CX0 3 f fd p_l_wide (spWid 90000 4) := by
  refine F.ok sc_l_wide (fun vs H Q E h => ?_) (fun cdv A outer s H vs Q E hr h => ?_)
  · obtain ⟨s, n, rfl, _⟩ := h
    rfl
  · obtain ⟨sk, n, rfl, hS, hn, k⟩ := h
    have nd := sc_l_wide.nd
    have n200 := n200e
    have r1 : Room 1 _ := hr.mono (by decide)
    have r2 : Room 2 _ := hr.mono (by decide)
    refine ⟨_, pss_cons (ps_set (i := 1) nd rfl (Or.inl rfl) (pe_op op_add pe_int (pe_c cC r1 (pa_cons (pv 0) (pa_cons (pe_ix ix_list (pe_lst (pa_cons pe_int (pa_cons pe_int (pa_cons pe_int pa_nil)))) (pe_c cC r1 (pa_cons (pv 0) (pa_cons pe_int pa_nil))) (fun _ _ => rfl)) pa_nil)))))
      (pss_one (ps_ret (pe_c cR r2 (pa_cons (pe_op op_add pe_int (pe_c cC r1 (pa_cons (pv 0) (pa_cons (pe_ix ix_list (pe_lst (pa_cons pe_int (pa_cons pe_int (pa_cons pe_int pa_nil)))) (pe_c cC r1 (pa_cons (pv 0) (pa_cons pe_int pa_nil))) (fun _ _ => rfl)) pa_nil)))) (pa_cons (pv 1) pa_nil))))), ?_⟩
    refine ⟨_, rfl, ?_⟩
    show tOp (rIxL _) (tLst _) (tCall spCoin [] E0 _) _ _ _
    refine pick_read (xs := [.int 1, .int 6, .int 40]) rfl (by decide) (by decide) rfl hS (by omega) (fun _ _ q => q) fun v H1 hv b1 s1 => ?_
    obtain ⟨x, rfl, hx⟩ : ∃ x, v = .int x ∧ (0 < x ∧ x ≤ 1000) := by
      simp only [List.mem_cons, List.not_mem_nil, or_false] at hv
      rcases hv with rfl | rfl | rfl <;> exact ⟨_, rfl, by decide, by decide⟩
    refine ⟨sk, x, n + 1, rfl, s1, by omega, hx.1, by rw [n200]; omega, fun y H2 y0 y1 b2 s2 z2 => ⟨_, _, rfl, rfl, ?_⟩⟩
    refine ⟨_, rfl, ?_⟩
    show tOp (rIxL _) (tLst _) (tCall spCoin [] E0 _) _ _ _
    refine pick_read (xs := [.int 4, .int 30, .int 1000]) rfl (by decide) (by decide) rfl s2 (by omega) (fun _ _ q => q) fun v H3 hv b3 s3 => ?_
    obtain ⟨u, rfl, hu⟩ : ∃ x, v = .int x ∧ (0 < x ∧ x ≤ 1000) := by
      simp only [List.mem_cons, List.not_mem_nil, or_false] at hv
      rcases hv with rfl | rfl | rfl <;> exact ⟨_, rfl, by decide, by decide⟩
    refine ⟨sk, u, n + 3, rfl, s3, by omega, hu.1, by rw [n200]; omega, fun z H4 z0 z1 b4 s4 z4 => ⟨_, _, rfl, rfl, _, rfl, 1 + z, 1 + y, rfl, bn15 (by omega) (by omega), bn15 (by omega) (by omega), by omega, fun t H5 ht e5 h5 => ?_⟩⟩
    have b14 := ((b1.trans b2).trans b3).trans b4
    obtain ⟨q1, q2⟩ := qn_fr y0 (by omega) z0 (by omega)
    exact k t _ _ H5 (b14.trans (But.of_ex e5)) ((s4.ex e5).le (by omega)) (but_none b14 s4 ht) (wo_at (sk_ne s4 ht) h5) q1 q2
theorem ok_any_wide {f : Addr} {fd : FuncData} (F : Fun K "_law_pv_any_wide" "_law_pv_any_wide" s_l_any_wide f fd) (cC : Cal P w K mg base 1 "_law_pv_coin" p_l_coin spCoin) (cR : Cal P w K mg base 2 "_law_pv_ratio" p_l_ratio spRatio) (cW : Cal P w K mg base 3 "_law_pv_wide" p_l_wide (spWid 90000 4)) : FnOk P w K mg base CX0 4 f fd p_l_any_wide (spWid 80000 6) := by
  refine F.ok sc_l_any_wide (fun vs H Q E h => ?_) (fun cdv A outer s H vs Q E hr h => ?_)
  · obtain ⟨s, n, rfl, _⟩ := h
    rfl
  · obtain ⟨sk, n, rfl, hS, hn, k⟩ := h
    have nd := sc_l_any_wide.nd
    have n200 := n200e
    have r1 : Room 1 _ := hr.mono (by decide)
    have r2 : Room 2 _ := hr.mono (by decide)
    have e15 : (10 : Int) ^ (15 : Int).toNat = 1000000000000000 := by decide
    have w15 : CPowX 10 15 := pow_ok (k := 4) (n := 15) (by decide) (by decide)
    refine ⟨_, pss_cons (ps_if (pt_cmpR op_gt (pe_c cC r1 (pa_cons (pv 0) (pa_cons pe_int pa_nil))) pe_int (nomark _)) (pss_one (ps_ret (pe_c cW hr (pa_cons (pv 0) pa_nil)))) pss_nil)
      (pss_one (ps_ret (pe_c cR r2 (pa_cons (pe_op op_add pe_int (pe_c cC r1 (pa_cons (pv 0) (pa_cons (pe_op op_powX pe_int pe_int) pa_nil)))) (pa_cons (pe_op op_add pe_int (pe_c cC r1 (pa_cons (pv 0) (pa_cons (pe_op op_powX pe_int pe_int) pa_nil)))) pa_nil))))), ?_⟩
    refine ⟨_, rfl, sk, 3, n, rfl, hS, by omega, by decide, by decide, fun x H1 x0 x1 b1 s1 z1 => ⟨_, _, rfl, rfl, _, rfl, ?_⟩⟩
    by_cases hx : 0 < x
    · refine if_t (decide_eq_true hx) ⟨_, rfl, sk, n + 1, rfl, s1, by omega, fun t u b H2 b2 s2 tn hF hQ hu => ?_⟩
      exact k t u b H2 (b1.trans b2) (s2.le (by omega)) (but_none b1 s1 tn) hF hQ hu
    · refine if_f (decide_eq_false hx) ?_
      refine ⟨_, rfl, 10, 15, rfl, rfl, w15, ?_⟩
      refine ⟨sk, (10 : Int) ^ (15 : Int).toNat, n + 1, rfl, s1, by omega, by rw [e15]; decide, by rw [e15]; decide, fun z H2 z0 z1 b2 s2 z2 => ⟨_, _, rfl, rfl, _, rfl, 10, 15, rfl, rfl, w15, ?_⟩⟩
      refine ⟨sk, (10 : Int) ^ (15 : Int).toNat, n + 2, rfl, s2, by omega, by rw [e15]; decide, by rw [e15]; decide, fun y H3 y0 y1 b3 s3 z3 => ?_⟩
      rw [e15] at z1 y1
      refine ⟨_, _, rfl, rfl, 1 + z, 1 + y, rfl, bn15 (by omega) (by omega), bn15 (by omega) (by omega), by omega, fun t H5 ht e5 h5 => ?_⟩
      have b14 := (b1.trans b2).trans b3
      obtain ⟨q1, q2⟩ := qn_fr y0 (by omega) z0 (by omega)
      exact k t _ _ H5 (b14.trans (But.of_ex e5)) ((s3.ex e5).le (by omega)) (but_none b14 s3 ht) (wo_at (sk_ne s3 ht) h5) q1 q2
theorem ok_long {f : Addr} {fd : FuncData} (F : Fun K "_law_pv_long" "_law_pv_long" s_l_long f fd) (mR : mg "range" = none) (cC : Cal P w K mg base 1 "_law_pv_coin" p_l_coin spCoin) (cV : Cal P w K mg base 2 "_law_pv_vessels" p_l_vessels spVats) (cD : Cal P w K mg base 4 "_law_pv_deed" p_l_deed spDeed) : FnOk P w K mg base CX0 5 f fd p_l_long spLong := by
  refine F.ok sc_l_long (fun vs H Q E h => ?_) (fun cdv A outer s H vs Q E hr h => ?_)
  · obtain ⟨s, n, rfl, _⟩ := h
    rfl
  · obtain ⟨sk, n, rfl, hS, hn, k⟩ := h
    have nd := sc_l_long.nd
    have n200 := n200e
    have two : 2 ≤ sizeLine := by show 2 ≤ sizeLine; decide
    have five : 5 ≤ sizeLine := by show 5 ≤ sizeLine; decide
    have r1 : Room 1 _ := hr.mono (by decide)
    have r2 : Room 2 _ := hr.mono (by decide)
    refine ⟨_, pss_cons (ps_asg (pe_tup (pa_cons (pe_op op_add pe_int (pe_c cC r1 (pa_cons (pv 0) (pa_cons pe_int pa_nil)))) (pa_cons (pe_lst (pa_cons pe_str (pa_cons pe_str (pa_cons pe_str (pa_cons pe_str (pa_cons pe_str pa_nil)))))) pa_nil))) (pg_tup rfl (pgs_cons (pg_name (i := 1) nd rfl (Or.inr rfl)) (pgs_cons (pg_name (i := 2) nd rfl (Or.inr rfl)) pgs_nil))))
      (pss_cons (ps_set (i := 3) nd rfl (Or.inl rfl) (pe_c cC r1 (pa_cons (pv 0) (pa_cons (pe_ix ix_list (pe_lst (pa_cons pe_int (pa_cons pe_int pa_nil))) (pe_c cC r1 (pa_cons (pv 0) (pa_cons pe_int pa_nil))) (fun _ _ => rfl)) pa_nil))))
      (pss_cons (ps_setLc (i := 4) (own := [("turn", 5)]) (g := (gName 5)) (tt := tYes) (te := (tCall spDeed [] E0 (tCons (tVar 0) (tCons (tVar 1) (tCons (tC (.int 1000)) (tCons (tVar 2) tNil)))))) rfl nd rfl rfl (sw_true rfl rfl rfl (by decide +kernel)) (pi_range1 (by rfl) mR (pa_cons (pv 3) pa_nil)) (blkOk_by (N := n_l_long) (sc := defScope s_l_long) (by decide +kernel)) (fun _ _ _ _ _ => (pg_name (i := 5) nd rfl (Or.inl rfl))) (fun _ _ _ _ _ => pts_nil) (fun _ _ _ _ _ => (pe_c cD hr (pa_cons (pv 0) (pa_cons (pv 1) (pa_cons pe_int (pa_cons (pv 2) pa_nil)))))))
      (pss_one (ps_ret (pe_tup (pa_cons (pe_c cV r2 (pa_cons (pv 0) (pa_cons (pv 1) (pa_cons pe_int pa_nil)))) (pa_cons (pv 4) pa_nil))))))), ?_⟩
    refine ⟨_, rfl, sk, 20, n, rfl, hS, by omega, by decide, by decide, fun c H1 c0 c1 b1 s1 z1 => ⟨_, _, rfl, rfl, five, fun lk hlk => ⟨two, fun tt htt => ?_⟩⟩⟩
    have e1 := (Evl.Ex.new (o := .lst [.str "pour", .str "scoop", .str "move", .str "open", .str "unless"]) hlk).trans (Evl.Ex.new (o := .tup [.int (1 + c), .ref lk]) htt)
    refine ⟨tt, _, rfl, SqT.of upd_same, rfl, ?_⟩
    have hk2 : upd (upd H1 lk (.lst [.str "pour", .str "scoop", .str "move", .str "open", .str "unless"])) tt (.tup [.int (1 + c), .ref lk]) lk = some (.lst [.str "pour", .str "scoop", .str "move", .str "open", .str "unless"]) := Evl.Ex.new (o := .tup [.int (1 + c), .ref lk]) htt _ _ upd_same
    generalize upd (upd H1 lk (.lst [.str "pour", .str "scoop", .str "move", .str "open", .str "unless"])) tt (.tup [.int (1 + c), .ref lk]) = H2 at e1 hk2
    have b2 := b1.trans (But.of_ex (p := sk) e1)
    have s2 := s1.ex e1
    refine ⟨_, _, rfl, _, _, rfl, rfl, _, rfl, ?_⟩
    show tOp (rIxL _) (tLst _) (tCall spCoin [] E0 _) _ _ _
    refine pick_read (xs := [.int 9, .int 61]) rfl (by decide) (by decide) rfl s2 (by omega) (fun _ _ q => q) fun v H3 hv b3 s3 => ?_
    obtain ⟨x, rfl, x0, x1⟩ : ∃ x, v = .int x ∧ 0 < x ∧ x ≤ 61 := by
      simp only [List.mem_cons, List.not_mem_nil, or_false] at hv
      rcases hv with rfl | rfl <;> exact ⟨_, rfl, by decide, by decide⟩
    refine ⟨sk, x, n + 2, rfl, s3, by omega, x0, by rw [n200]; omega, fun y H4 y0 y1 b4 s4 z4 => ⟨_, rfl, y, rfl, by omega, by omega, fun ld hld => ?_⟩⟩
    have b24 := (b2.trans b3).trans b4
    have lH : H ld = none := but_none b24 s4 hld
    have lsk := sk_ne s4 hld
    have lks := strs_ne (xs := ["pour", "scoop", "move", "open", "unless"]) hk2 s2
    have hk4 := (b3.trans b4) _ _ lks hk2
    have e5 := Evl.Ex.new (o := .lst []) hld
    refine lc_range (n := y.toNat) (fun i H' => ∃ ds : List Deed, But sk H H' ∧ Sk H' sk (n + 3 + 24 * i) ∧ wo sk H' lk = some (.lst [.str "pour", .str "scoop", .str "move", .str "open", .str "unless"]) ∧ DsAt (wo sk H') ld ds ∧ ds.length = i ∧ (∀ d ∈ ds, okD (1 + c) d) ∧ ∀ k a, Deed.po k a ∈ ds → a ≤ 1000)
      ⟨[], b24.trans (But.of_ex e5), s4.ex e5, wo_at lks (e5 _ _ hk4), ⟨[], wo_at lsk upd_same, rfl, fun i a t h => (by cases h)⟩, rfl, (fun d h => by cases h), fun k a h => by cases h⟩ ?_ ?_
    · rintro i H5 hi ⟨ds, b5, s5, hk5, hD6, hl, hok, hp⟩
      rw [Int.zero_add]
      refine ⟨rfl, ?_⟩
      unfold tYes
      refine if_t rfl ?_
      show tCall spDeed [] E0 _ _ _ _
      refine ⟨_, rfl, _, rfl, _, rfl, sk, lk, 1 + c, 1000, ["pour", "scoop", "move", "open", "unless"], n + 3 + 24 * i, rfl, by omega, by omega, by decide, by decide, wo_ex _ _ hk5, by decide, by decide, (fun z hz => by simp only [List.mem_cons, List.not_mem_nil, or_false] at hz; exact hz), s5, by omega, fun t d H7 b7 s7 hd hdo hdp => ?_⟩
      have hD7 := hD6.ex b7.wo
      obtain ⟨acc, q1, q2⟩ := ds_list hD7
      have q1 := wo_ex _ _ q1
      have q3 := ds_more hD7 hok (hd.ex (nw_wo s5)) hdo (wo_upd (x := .lst (acc ++ [.ref t]))) (wo_app q1)
      have ldlk : ld ≠ lk := fun z => by
        obtain ⟨as, w1, w2, _⟩ := hD6
        rw [z, hk5] at w1
        cases as with
        | nil => cases w1
        | cons a r => cases w1
      refine ⟨acc, q1, ?_, ds ++ [d], ?_, (s7.upd lsk).le (by omega), wo_upd _ _ ldlk.symm (b7.wo _ _ hk5), q3, by rw [List.length_append, hl]; rfl, ?_, ?_⟩
      · rw [q2, hl]
        exact Nat.lt_of_lt_of_le (show i < 100 by omega) (by decide)
      · exact fun c o nc e => Eq.trans (upd_ne (ne_of_none' e lH)) ((b5.trans b7) c o nc e)
      · intro d' h'
        rcases List.mem_append.mp h' with h | h
        · exact hok _ h
        · rw [List.mem_singleton.mp h]
          exact hdo
      · intro k' a' h'
        rcases List.mem_append.mp h' with h | h
        · exact hp _ _ h
        · exact hdp k' a' (List.mem_singleton.mp h).symm
    · rintro H5 ⟨ds, b5, s5, hk5, hD, hl, hok, hp⟩
      refine ⟨_, rfl, _, rfl, sk, 1 + c, 1000, n + 3 + 24 * y.toNat, rfl, by omega, by omega, by decide, by decide, s5, by omega, fun lv ts H6 b6 s6 lvn hT hok2 hlen hsz => ?_⟩
      refine ⟨_, rfl, two, fun t ht => ?_⟩
      have e7 := Evl.Ex.new (o := .tup [.ref lv, .ref ld]) ht
      have b7 := But.of_ex (p := sk) e7
      refine k t ts ds _ ((b5.trans b6).trans b7) ((s6.ex e7).le (by omega)) ⟨lv, ld, wo_at (sk_ne s6 ht) upd_same, hT.ex b7.wo, (hD.ex b6.wo).ex b7.wo⟩ ⟨⟨hok2, by omega, ?_⟩, hsz, hp⟩
      rw [hlen]
      exact hok
theorem ok_capped {f : Addr} {fd : FuncData} (F : Fun K "_law_pv_capped" "_law_pv_capped" s_l_capped f fd) (mL : mg "len" = none) (cL : Cal P w K mg base 5 "_law_pv_long" p_l_long spLong) : FnOk P w K mg base CX0 6 f fd p_l_capped spLong := by
  refine F.ok sc_l_capped (fun vs H Q E h => ?_) (fun cdv A outer s H vs Q E hr h => ?_)
  · obtain ⟨s, n, rfl, _⟩ := h
    rfl
  · obtain ⟨sk, n, rfl, hS, hn, k⟩ := h
    have nd := sc_l_capped.nd
    have two : 2 ≤ sizeLine := by show 2 ≤ sizeLine; decide
    refine ⟨_, pss_cons (ps_asg (pe_c cL hr (pa_cons (pv 0) pa_nil)) (pg_tup rfl (pgs_cons (pg_name (i := 1) nd rfl (Or.inl rfl)) (pgs_cons (pg_name (i := 2) nd rfl (Or.inl rfl)) pgs_nil))))
      (pss_one (ps_ret (pe_tup (pa_cons (pv 1) (pa_cons (pe_slice sl_list (pv 2) po_none (po_some (pe_op op_fdivW pe_int (pe_callB call_len_seq (by rfl) mL PySem.boot_len (pa_cons (pv 1) pa_nil))))) pa_nil))))), ?_⟩
    refine ⟨_, rfl, sk, n, rfl, hS, hn, fun t ts ds H1 b1 s1 hSh hW => ?_⟩
    obtain ⟨lv, ld, ht, hT, hD⟩ := hSh
    refine ⟨t, _, rfl, SqT.of (wo_ex _ _ ht), rfl, ?_⟩
    obtain ⟨at_, hat, hal⟩ := tks_list hT
    obtain ⟨ad, had, hdl⟩ := ds_list hD
    have ts0 : 0 < ts.length := by
      refine Nat.pos_of_ne_zero fun z => ?_
      have := hW.ok.1.2.2
      rw [List.length_eq_zero_iff.mp z] at this
      cases this
    refine ⟨_, _, rfl, _, _, rfl, rfl, ?_⟩
    refine ⟨_, rfl, _, rfl, _, rfl, lv, _, rfl, .inl (SqL.of (wo_ex _ _ hat)), ?_⟩
    have wd : CDivW 240 (at_.length : Int) := wide_div (b := 10) (by omega) (Nat.lt_of_le_of_lt (show ((at_.length : Nat) : Int).natAbs ≤ 20 by have := hW.ok.1.1; omega) (by decide)) (by decide) (by decide)
    refine ⟨_, _, rfl, rfl, wd, ?_⟩
    obtain ⟨k2, hk2⟩ : ∃ k2 : Nat, (240 : Int) / (at_.length : Int) = k2 := ⟨(240 / (at_.length : Int)).toNat, by have := Int.ediv_nonneg (show (0 : Int) ≤ 240 by decide) (Int.natCast_nonneg at_.length); omega⟩
    refine ⟨(k2 : Int), congrArg V.int hk2, ld, _, rfl, SqL.of (wo_ex _ _ had), fun l2 hl2 => ⟨two, fun t2 ht2 => ?_⟩⟩
    have e3 := Evl.Ex.new (o := .lst (cutV ad none (some (k2 : Int)))) hl2
    have hl3 : upd H1 l2 (.lst (cutV ad none (some (k2 : Int)))) l2 = some (.lst (ad.take k2)) := Eq.trans upd_same (by rw [cut_min ad k2])
    generalize upd H1 l2 (.lst (cutV ad none (some (k2 : Int)))) = H3 at e3 hl3 ht2
    have e4 := Evl.Ex.new (o := .tup [.ref lv, .ref l2]) ht2
    have e34 := e3.trans e4
    have b34 := But.of_ex (p := sk) e34
    refine k t2 ts (ds.take k2) _ (b1.trans b34) ((s1.ex e34).le (by omega)) ⟨lv, l2, wo_at (sk_ne (s1.ex e3) ht2) upd_same, hT.ex b34.wo, hD.take had k2 b34.wo (wo_at (sk_ne s1 hl2) (e4 _ _ hl3))⟩ ⟨⟨hW.ok.1, ?_, fun d hd => hW.ok.2.2 d (List.mem_of_mem_take hd)⟩, hW.w1000, fun k a h => hW.p1000 k a (List.mem_of_mem_take h)⟩
    rw [List.length_take]
    have := hW.ok.2.1
    omega
theorem ok_shape {f : Addr} {fd : FuncData} (F : Fun K "_law_pv_shape" "_law_pv_shape" s_l_shape f fd) (mR : mg "range" = none) (mI : mg "int" = none) (cC : Cal P w K mg base 1 "_law_pv_coin" p_l_coin spCoin) (cV : Cal P w K mg base 2 "_law_pv_vessels" p_l_vessels spVats) (cD : Cal P w K mg base 4 "_law_pv_deed" p_l_deed spDeed) : FnOk P w K mg base CX0 5 f fd p_l_shape spShape := by
  refine F.ok sc_l_shape (fun vs H Q E h => ?_) (fun cdv A outer s H vs Q E hr h => ?_)
  · obtain ⟨s, n, rfl, _⟩ := h
    rfl
  · obtain ⟨sk, n, rfl, hS, hn, k⟩ := h
    have nd := sc_l_shape.nd
    have n200 := n200e
    have two : 2 ≤ sizeLine := by show 2 ≤ sizeLine; decide
    have three : 3 ≤ sizeLine := by show 3 ≤ sizeLine; decide
    have r1 : Room 1 _ := hr.mono (by decide)
    have r2 : Room 2 _ := hr.mono (by decide)
    refine ⟨_, pss_cons (ps_par (i := 1) (j := 2) rfl nd rfl rfl (by decide) rfl rfl (pa_cons (pe_ix ix_list (pe_lst (pa_cons pe_int (pa_cons pe_int pa_nil))) (pe_c cC r1 (pa_cons (pv 0) (pa_cons pe_int pa_nil))) (fun _ _ => rfl)) (pa_cons (pe_op op_add pe_int (pe_c cC r1 (pa_cons (pv 0) (pa_cons pe_int pa_nil)))) pa_nil)) (by rfl))
      (pss_cons (ps_par3 (i := 3) (j := 4) (l := 5) rfl nd rfl rfl rfl (by decide) (by decide) (by decide) rfl rfl rfl (pa_cons (pe_lst pa_nil) (pa_cons pe_int (pa_cons pe_int pa_nil))) (by rfl))
      (pss_cons (ps_for PassesOwn.never rfl (pi_range1 (by rfl) mR (pa_cons (pe_c cC r1 (pa_cons (pv 0) (pa_cons pe_int pa_nil))) pa_nil)) (pg_name (i := 6) nd rfl (Or.inl rfl)) (pss_cons (ps_set (i := 7) nd rfl (Or.inl rfl) (pe_lst (pa_cons pe_str (pa_cons pe_str (pa_cons pe_str pa_nil)))))
      (Evl.pss_cut (ps_if (pt_cmpR op_lt (pv 4) pe_int (nomark _)) (pss_one (ps_set (i := 7) nd rfl (Or.inl rfl) (pe_op op_cat (pv 7) (pe_lst (pa_cons pe_str (pa_cons pe_str pa_nil)))))) pss_nil)
      (Evl.pss_cut (ps_if (pt_cmpR op_lt (pv 5) pe_int (nomark _)) (pss_one (ps_set (i := 7) nd rfl (Or.inl rfl) (pe_op op_cat (pv 7) (pe_lst (pa_cons pe_str pa_nil))))) pss_nil)
      (pss_cons (ps_set (i := 8) nd rfl (Or.inl rfl) (pe_c cD hr (pa_cons (pv 0) (pa_cons (pv 2) (pa_cons (pv 1) (pa_cons (pv 7) pa_nil))))))
      (pss_cons (ps_par (i := 4) (j := 5) rfl nd rfl rfl (by decide) rfl rfl (pa_cons (pe_op op_add (pv 4) (pe_callTy call_int1 (by rfl) mI (by decide +kernel) (pa_cons (pe_cmpR op_eq (pe_ix ix_tup (pv 8) pe_int (fun _ _ => rfl)) pe_str (nomark _)) pa_nil))) (pa_cons (pe_op op_add (pv 5) (pe_callTy call_int1 (by rfl) mI (by decide +kernel) (pa_cons (pe_cmpR op_eq (pe_ix ix_tup (pv 8) pe_int (fun _ _ => rfl)) pe_str (nomark _)) pa_nil))) pa_nil)) (by rfl))
      (pss_one (ps_expr (pe_bm PySem.F.plainAttrs_list PySem.F.slot_list_append PySem.F.type_list_append mt_append (pv 3) (pa_cons (pv 8) pa_nil))))))))))
      (pss_one (ps_ret (pe_tup (pa_cons (pe_c cV r2 (pa_cons (pv 0) (pa_cons (pv 2) (pa_cons (pv 1) pa_nil)))) (pa_cons (pv 3) pa_nil))))))), ?_⟩
    show tOp (rIxL _) (tLst _) (tCall spCoin [] E0 _) _ _ _
    refine pick_read (xs := [.int 3, .int 12]) rfl (by decide) (by decide) rfl hS (by omega) (fun _ _ q => q) fun v H1 hv b1 s1 => ?_
    obtain ⟨o, rfl, o0, o1⟩ : ∃ x, v = .int x ∧ 0 < x ∧ x ≤ 12 := by
      simp only [List.mem_cons, List.not_mem_nil, or_false] at hv
      rcases hv with rfl | rfl <;> exact ⟨_, rfl, by decide, by decide⟩
    refine ⟨_, rfl, sk, 4, n + 1, rfl, s1, by omega, by decide, by decide, fun c H2 c0 c1 b2 s2 z2 => ⟨_, _, rfl, rfl, _, _, rfl, ?_⟩⟩
    refine ⟨Nat.zero_le _, fun ld hld => ⟨_, _, _, rfl, ?_⟩⟩
    have e3 := Evl.Ex.new (o := .lst []) hld
    have b12 := b1.trans b2
    have lH : H ld = none := but_none b12 s2 hld
    have lsk := sk_ne s2 hld
    have hd3 : DsAt (wo sk (upd H2 ld (.lst []))) ld [] := ⟨[], wo_at lsk upd_same, rfl, fun i a t h => (by cases h)⟩
    have b3 := b12.trans (But.of_ex (p := sk) e3)
    have s3 := s2.ex e3
    generalize upd H2 ld (.lst []) = H3 at e3 hd3 b3 s3
    refine ⟨_, rfl, sk, 7, n + 2, rfl, s3, by omega, by decide, by decide, fun y H4 y0 y1 b4 s4 z4 => ⟨y, rfl, by omega, by omega, ?_⟩⟩
    refine for_range (n := y.toNat) (fun i σ H' => ∃ (ds : List Deed) (va ha : Int) (v6 v7 v8 : Option V), σ = [some (.ref sk), some (.int o), some (.int (1 + c)), some (.ref ld), some (.int va), some (.int ha), v6, v7, v8] ∧ But sk H H' ∧ Sk H' sk (n + 3 + 30 * i) ∧ DsAt (wo sk H') ld ds ∧ ds.length = i ∧ (∀ d ∈ ds, okD (1 + c) d) ∧ ∀ k a, Deed.po k a ∈ ds → a ≤ 1000)
      ⟨[], 0, 0, none, none, none, rfl, b3.trans b4, s4, hd3.ex b4.wo, rfl, (fun d h => by cases h), fun k a h => by cases h⟩ ?_ ?_
    · rintro i σ H5 hi ⟨ds, va, ha, v6, v7, v8, rfl, b5, s5, hD, hl, hok, hp⟩
      rw [Int.zero_add]
      refine ⟨three, fun lk hlk => ?_⟩
      have ldH : (H5 ld).isSome := by
        obtain ⟨as, w1, _⟩ := hD
        rw [wo_ex _ _ w1]
        rfl
      have e6 := Evl.Ex.new (o := .lst [.str "pour", .str "scoop", .str "move"]) hlk
      have hk6 : upd H5 lk (.lst [.str "pour", .str "scoop", .str "move"]) lk = some (.lst ((["pour", "scoop", "move"] : List Str).map V.str)) := upd_same
      have wd6 : ∀ x ∈ (["pour", "scoop", "move"] : List Str), Word x := fun z hz => by
        simp only [List.mem_cons, List.not_mem_nil, or_false] at hz
        rcases hz with rfl | rfl | rfl <;> (unfold Word; decide)
      generalize upd H5 lk (.lst [.str "pour", .str "scoop", .str "move"]) = H6 at e6 hk6
      refine ⟨fun σ H' => ∃ (lk : Addr) (xs : List Str), σ = [some (.ref sk), some (.int o), some (.int (1 + c)), some (.ref ld), some (.int va), some (.int ha), some (.int (i : Int)), some (.ref lk), v8] ∧ Evl.Ex H5 H' ∧ H' lk = some (.lst (xs.map V.str)) ∧ xs ≠ [] ∧ xs.length ≤ 5 ∧ ∀ x ∈ xs, Word x, ?_, ?_⟩
      · refine ⟨_, rfl, _, _, rfl, rfl, _, rfl, ite2 (fun _ => ?_) (fun _ => ⟨_, _, rfl, e6, hk6, by decide, by decide, wd6⟩)⟩
        refine ⟨_, rfl, two, fun p2 hp2 => ⟨lk, p2, _, _, rfl, rfl, Evl.Ex.new hp2 _ _ hk6, upd_same, by show 5 ≤ sizeLine; decide, fun p3 hp3 => ⟨p3, (["pour", "scoop", "move", "open", "open"] : List Str), rfl, e6.trans ((Evl.Ex.new hp2).trans (Evl.Ex.new hp3)), Eq.trans upd_same rfl, by decide, by decide, fun z hz => ?_⟩⟩⟩
        simp only [List.mem_cons, List.not_mem_nil, or_false] at hz
        rcases hz with rfl | rfl | rfl | rfl | rfl <;> (unfold Word; decide)
      · rintro σ H7 ⟨lk, xs, rfl, e7, hk7, x0, x5, wd7⟩
        refine ⟨fun σ H' => ∃ (lk : Addr) (xs : List Str), σ = [some (.ref sk), some (.int o), some (.int (1 + c)), some (.ref ld), some (.int va), some (.int ha), some (.int (i : Int)), some (.ref lk), v8] ∧ Evl.Ex H5 H' ∧ H' lk = some (.lst (xs.map V.str)) ∧ xs ≠ [] ∧ xs.length ≤ 6 ∧ ∀ x ∈ xs, Word x, ?_, ?_⟩
        · refine ⟨_, rfl, _, _, rfl, rfl, _, rfl, ite2 (fun _ => ?_) (fun _ => ⟨_, _, rfl, e7, hk7, x0, by omega, wd7⟩)⟩
          refine ⟨_, rfl, Nat.le_trans (by decide) two, fun p2 hp2 => ⟨lk, p2, _, _, rfl, rfl, Evl.Ex.new hp2 _ _ hk7, upd_same, ?_, fun p3 hp3 => ⟨p3, xs ++ [("unless" : Str)], rfl, e7.trans ((Evl.Ex.new hp2).trans (Evl.Ex.new hp3)), Eq.trans upd_same (by rw [List.map_append]; rfl), by simp, by rw [List.length_append]; show xs.length + 1 ≤ 6; omega, fun z hz => ?_⟩⟩⟩
          · rw [List.length_map]
            exact Nat.le_trans (show xs.length + 1 ≤ 6 by omega) (by decide)
          rcases List.mem_append.mp hz with h | h
          · exact wd7 z h
          · rw [List.mem_singleton.mp h]
            unfold Word
            decide
        · rintro σ H8 ⟨lk, xs, rfl, e8, hk8, x0, x6, wd8⟩
          have s8 := s5.ex e8
          have b8 := b5.trans (But.of_ex (p := sk) e8)
          have hD8 := hD.ex (ex_wo e8)
          refine ⟨_, rfl, _, rfl, _, rfl, _, rfl, sk, lk, 1 + c, o, xs, n + 3 + 30 * i, rfl, by omega, by omega, o0, by omega, hk8, x0, by omega, wd8, s8, by omega, fun t d H9 b9 s9 hd hdo hdp => ?_⟩
          have hD9 := hD8.ex b9.wo
          obtain ⟨acc, q1, q2⟩ := ds_list hD9
          have q1 := wo_ex _ _ q1
          obtain ⟨wx, rs, hwx⟩ := dat_word (hd.ex Nw.ex)
          refine ⟨_, rfl, _, rfl, t, _, _, _, rfl, rfl, SqT.of hwx, (by exact atI_nat (j := 0) rfl), rfl, .inr ⟨_, rfl, _, _, rfl, rfl, ?_⟩⟩
          refine ⟨_, rfl, _, rfl, t, _, _, _, rfl, rfl, SqT.of hwx, (by exact atI_nat (j := 0) rfl), rfl, .inr ⟨_, rfl, _, _, rfl, rfl, ?_⟩⟩
          refine ⟨_, _, rfl, ?_⟩
          refine ⟨_, rfl, .inl ⟨rfl, _, SqL.of q1⟩, _, rfl, ?_⟩
          have q3 := ds_more hD9 hok (hd.ex (nw_wo s8)) hdo (wo_upd (x := .lst (acc ++ [.ref t]))) (wo_app q1)
          refine ⟨ld, acc, _, rfl, rfl, q1, ?_, ds ++ [d], _, _, _, _, _, rfl, ?_, (s9.upd lsk).le (by omega), q3, by rw [List.length_append, hl]; rfl, ?_, ?_⟩
          · rw [q2, hl]
            exact Nat.lt_of_lt_of_le (show i < 100 by omega) (by decide)
          · exact fun c o nc e => Eq.trans (upd_ne (ne_of_none' e lH)) ((b8.trans b9) c o nc e)
          · intro d' h'
            rcases List.mem_append.mp h' with h | h
            · exact hok _ h
            · rw [List.mem_singleton.mp h]
              exact hdo
          · intro k' a' h'
            rcases List.mem_append.mp h' with h | h
            · exact hp _ _ h
            · exact hdp k' a' (List.mem_singleton.mp h).symm
    · rintro σ H5 ⟨ds, va, ha, v6, v7, v8, rfl, b5, s5, hD, hl, hok, hp⟩
      refine ⟨_, rfl, _, rfl, _, rfl, sk, 1 + c, o, n + 3 + 30 * y.toNat, rfl, by omega, by omega, o0, by omega, s5, by omega, fun lv ts H6 b6 s6 lvn hT hok2 hlen hsz => ?_⟩
      refine ⟨_, rfl, two, fun t ht => ?_⟩
      have e7 := Evl.Ex.new (o := .tup [.ref lv, .ref ld]) ht
      have b7 := But.of_ex (p := sk) e7
      refine k t ts ds _ ((b5.trans b6).trans b7) ((s6.ex e7).le (by omega)) ⟨lv, ld, wo_at (sk_ne s6 ht) upd_same, hT.ex b7.wo, (hD.ex b6.wo).ex b7.wo⟩ ⟨⟨hok2, by omega, ?_⟩, hsz, hp⟩
      rw [hlen]
      exact hok
theorem ok_any_shape {f : Addr} {fd : FuncData} (F : Fun K "_law_pv_any_shape" "_law_pv_any_shape" s_l_any_shape f fd) (cC : Cal P w K mg base 1 "_law_pv_coin" p_l_coin spCoin) (cCp : Cal P w K mg base 6 "_law_pv_capped" p_l_capped spLong) (cSh : Cal P w K mg base 5 "_law_pv_shape" p_l_shape spShape) : FnOk P w K mg base CX0 7 f fd p_l_any_shape spAnyS := by
  refine F.ok sc_l_any_shape (fun vs H Q E h => ?_) (fun cdv A outer s H vs Q E hr h => ?_)
  · obtain ⟨s, n, rfl, _⟩ := h
    rfl
  · obtain ⟨sk, n, rfl, hS, hn, k⟩ := h
    have nd := sc_l_any_shape.nd
    have r1 : Room 1 _ := hr.mono (by decide)
    have r5 : Room 5 _ := hr.mono (by decide)
    have two : 2 ≤ sizeLine := by show 2 ≤ sizeLine; decide
    refine ⟨_, pss_cons (ps_if (pt_cmpR op_eq (pe_c cC r1 (pa_cons (pv 0) (pa_cons pe_int pa_nil))) pe_int (nomark _)) (pss_one (ps_ret (pe_tup (pa_cons (pe_c cCp hr (pa_cons (pv 0) pa_nil)) (pa_cons pe_int pa_nil))))) pss_nil)
      (pss_one (ps_ret (pe_tup (pa_cons (pe_c cSh r5 (pa_cons (pv 0) pa_nil)) (pa_cons pe_int pa_nil))))), ?_⟩
    refine ⟨_, rfl, sk, 3, n, rfl, hS, by omega, by decide, by decide, fun x H1 x0 x1 b1 s1 z1 => ⟨rfl, _, rfl, ite2 (fun _ => ?_) (fun _ => ?_)⟩⟩
    · refine ⟨_, rfl, sk, n + 1, rfl, s1, by omega, fun t ts ds H2 b2 s2 hSh hW => ⟨two, fun r hr => ?_⟩⟩
      have e3 := Evl.Ex.new (o := .tup [.ref t, .int 1000]) hr
      obtain ⟨lv, ld, g1, g2, g3⟩ := hSh
      have b3 := But.of_ex (p := sk) e3
      exact k r t 1000 ts ds _ ((b1.trans b2).trans b3) ((s2.ex e3).le (by omega)) (wo_at (sk_ne s2 hr) upd_same) ⟨lv, ld, b3.wo _ _ g1, g2.ex b3.wo, g3.ex b3.wo⟩ hW (by decide)
    · refine ⟨_, rfl, sk, n + 1, rfl, s1, by omega, fun t ts ds H2 b2 s2 hSh hW => ⟨two, fun r hr => ?_⟩⟩
      have e3 := Evl.Ex.new (o := .tup [.ref t, .int 12]) hr
      obtain ⟨lv, ld, g1, g2, g3⟩ := hSh
      have b3 := But.of_ex (p := sk) e3
      exact k r t 12 ts ds _ ((b1.trans b2).trans b3) ((s2.ex e3).le (by omega)) (wo_at (sk_ne s2 hr) upd_same) ⟨lv, ld, b3.wo _ _ g1, g2.ex b3.wo, g3.ex b3.wo⟩ hW (by decide)
end
end V2


namespace V2
open PySem L2
open PySem.Spec PyProof.Rows
/-! ## a run that an unless may end -/
theorem shp_v {ts : List Tk} {ds : List Deed} {u b : Int} (h : ShW ts ds) (hu : 0 < u) (hQ : Qn u b) : OkV ts.length (ts.map (wid u b)) := by
  obtain ⟨b0, _, ub, bb⟩ := hQ
  refine ⟨by rw [List.length_map], fun x hx => ?_, fun x hx => ?_⟩
  · obtain ⟨t, ht, rfl⟩ := List.mem_map.mp hx
    unfold wid
    split
    · exact hu
    · rename_i z hz
      have := (h.ok.1.2.1 t ht).1 z hz
      exact Int.mul_pos (by omega) b0
  · obtain ⟨t, ht, rfl⟩ := List.mem_map.mp hx
    unfold wid
    split
    · exact Nat.lt_of_lt_of_le ub (Nat.pow_le_pow_right (by decide) (by decide))
    · rename_i z hz
      have h1 := (h.ok.1.2.1 t ht).1 z hz
      have h2 := (h.w1000 t ht).1 z hz
      have hz : Bn 10 z := Nat.lt_of_le_of_lt (show z.natAbs ≤ 1000 by omega) (by decide)
      exact hz.mul bb
theorem shp_w {ts : List Tk} {ds : List Deed} (h : ShW ts ds) : OkW 11 (ts.map (·.2)) 1 := by
  refine ⟨fun x hx => ?_, fun x hx => ?_, by show 1 < 2 ^ 11; decide, by decide⟩
  · obtain ⟨t, ht, rfl⟩ := List.mem_map.mp hx
    exact (h.ok.1.2.1 t ht).2
  · obtain ⟨t, ht, rfl⟩ := List.mem_map.mp hx
    have h1 := (h.ok.1.2.1 t ht).2
    have h2 := (h.w1000 t ht).2
    exact Nat.lt_of_le_of_lt (show t.2.natAbs ≤ 1000 by omega) (by decide)
/-- a script stands at x -/
def ScAt (H : Hp) (C x : Addr) (ts : List Tk) (ds : List Deed) : Prop := ∃ (dx : Addr) (fs : List (Str × V)) (v u : V), H x = some (.ins C dx fs) ∧ fs.lookup ("_tanks" : Str) = some v ∧ fs.lookup ("_steps" : Str) = some u ∧ Dq H v (.list (ts.map tkD)) ∧ Dq H u (.list (ds.map dD)) ∧ fs = scF v u
theorem ScAt.ex {H H' : Hp} {C x : Addr} {ts : List Tk} {ds : List Deed} (h : ScAt H C x ts ds) (e : Evl.Ex H H') : ScAt H' C x ts ds := by
  obtain ⟨dx, fs, v, u, h1, h2, h3, h4, h5, h6⟩ := h
  exact ⟨dx, fs, v, u, e _ _ h1, h2, h3, h4.go e, h5.go e, h6⟩
/-- where the water stands behind the first i steps -/
abbrev wAt (ts : List Tk) (ds : List Deed) (u b : Int) (i : Nat) : List Int × Int := runA (ts.map (wid u b)) (ts.map (·.2), 1) (ds.take i)
/-- the run ends behind the first n steps; e tells at which step -/
structure EndsAt (ts : List Tk) (ds : List Deed) (u b : Int) (n : Nat) (e : V) : Prop where
  le : n ≤ ds.length
  no : ∀ (j : Nat) (d : Deed), j < n → ds[j]? = some d → endB (ts.map (wid u b)) (wAt ts ds u b j).1 d = false
  at_ : (n = ds.length ∧ e = .non) ∨ ∃ d, ds[n]? = some d ∧ endB (ts.map (wid u b)) (wAt ts ds u b n).1 d = true ∧ e = .int (n : Int)
def lvsA (ts : List Tk) (ds : List Deed) (u b : Int) (n : Nat) : List (Int × Int) := (List.range (wAt ts ds u b n).1.length).map (lvl (wAt ts ds u b n).1 (ts.map (wid u b)) (wAt ts ds u b n).2 b)
def spRunOf : Sp := fun vs H Q _ => ∃ (lt ls f : Addr) (ts : List Tk) (ds : List Deed) (u b : Int), vs = [.ref lt, .ref ls, .ref f] ∧ TksAt H lt ts ∧ DsAt H ls ds ∧ ShW ts ds ∧ Fr H f u b ∧ 0 < u ∧ Qn u b ∧
  ∀ q D e n H', Evl.Ex H H' → H D = none → H' q = some (.tup [e, .ref D]) → PrAt H' D (lvsA ts ds u b n) → EndsAt ts ds u b n e → Q (.ref q) H'
theorem wAt_ok {ts : List Tk} {ds : List Deed} {u b : Int} (h : ShW ts ds) (hu : 0 < u) (hQ : Qn u b) (i : Nat) : (wAt ts ds u b i).1.length = ts.length ∧ OkW 4000 (wAt ts ds u b i).1 (wAt ts ds u b i).2 := by
  have := runA_ok (shp_v h hu hQ) (ds := ds.take i) (N := 11) (S := (ts.map (·.2), 1)) (List.length_map ..) (shp_w h) (fun d hd => by
    have md := List.mem_of_mem_take hd
    refine ⟨h.ok.2.2 d md, fun k a e => ?_⟩
    subst e
    have h1 := h.p1000 k a md
    have h2 := (h.ok.2.2 _ md).2
    exact Nat.lt_of_le_of_lt (show a.natAbs ≤ 1000 by omega) (by decide))
  refine ⟨this.1, ⟨this.2.nn, fun x hx => (this.2.bA x hx).le ?_, this.2.bW.le ?_, this.2.pos⟩⟩
  · have := h.ok.2.1
    rw [List.length_take]
    omega
  · have := h.ok.2.1
    rw [List.length_take]
    omega
end V2


namespace V2
open PySem L2
open PySem.Spec PyProof.Rows
/-! ## lists of fractions, compared -/
def frD (f : Int × Int) : PyData := .tuple [.int f.1, .int f.2]
def prD (fs : List (Int × Int)) : PyData := .list (fs.map frD)
theorem DpAll.of_get {K : PySem.W.Frag} {H : Hp} : ∀ {vs : List V} {ds : List PyData}, vs.length = ds.length → (∀ (i : Nat) (v : V) (d : PyData), vs[i]? = some v → ds[i]? = some d → Dp K H v d) → DpAll K H vs ds
  | [], [], _, _ => .nil
  | v :: vs, d :: ds, hl, h => .cons (h 0 v d rfl rfl) (DpAll.of_get (by simpa using hl) fun i v d x y => h (i + 1) v d x y)
  | [], _ :: _, hl, _ => by cases hl
  | _ :: _, [], hl, _ => by cases hl
theorem DqAll.of_get {H : Hp} : ∀ {vs : List V} {ds : List PyData}, vs.length = ds.length → (∀ (i : Nat) (v : V) (d : PyData), vs[i]? = some v → ds[i]? = some d → Dq H v d) → DqAll H vs ds
  | [], [], _, _ => .nil
  | v :: vs, d :: ds, hl, h => .cons (h 0 v d rfl rfl) (DqAll.of_get (by simpa using hl) fun i v d x y => h (i + 1) v d x y)
  | [], _ :: _, hl, _ => by cases hl
  | _ :: _, [], hl, _ => by cases hl
theorem dp_fr {K : PySem.W.Frag} {H : Hp} {a : Addr} {f : Int × Int} (h : Fr H a f.1 f.2) : Dp K H (.ref a) (frD f) := .tup (SqT.of h) (.cons (.int _) (.cons (.int _) .nil))
theorem pr_get {as : List Addr} {fs : List (Int × Int)} {i : Nat} {v : V} {d : PyData} (hv : (as.map V.ref)[i]? = some v) (hd : (fs.map frD)[i]? = some d) : ∃ a f, as[i]? = some a ∧ fs[i]? = some f ∧ v = .ref a ∧ d = frD f := by
  rw [List.getElem?_map] at hv hd
  cases e1 : as[i]? with
  | none =>
    rw [e1] at hv
    cases hv
  | some a =>
    cases e2 : fs[i]? with
    | none =>
      rw [e2] at hd
      cases hd
    | some f =>
      rw [e1] at hv
      rw [e2] at hd
      exact ⟨a, f, rfl, rfl, (Option.some.inj hv).symm, (Option.some.inj hd).symm⟩
theorem dp_pr {K : PySem.W.Frag} {H : Hp} {l : Addr} {fs : List (Int × Int)} (h : PrAt H l fs) : Dp K H (.ref l) (prD fs) := by
  obtain ⟨as, h1, h2, h3⟩ := h
  refine .lst (SqL.of h1) (DpAll.of_get (by rw [List.length_map, List.length_map]; exact h2) fun i v d hv hd => ?_)
  obtain ⟨a, f, x, y, rfl, rfl⟩ := pr_get hv hd
  exact dp_fr (h3 i a f x y)
theorem lay_fr : ∀ fs : List (Int × Int), PyData.canLayAll0 (fs.map frD) = true
  | [] => by simp [PyData.canLayAll0]
  | f :: fs => by simp [PyData.canLayAll0, PyData.canLay0, frD, lay_fr fs]
theorem dep_fr : ∀ fs : List (Int × Int), PyData.depthAll (fs.map frD) ≤ 2
  | [] => by simp [PyData.depthAll]
  | f :: fs => by
    have := dep_fr fs
    simp [PyData.depthAll, frD, PyData.depth]
    omega
theorem shp_pr (fs : List (Int × Int)) : SeqAt.shaped (prD fs) = true := by
  have h1 := lay_fr fs
  have h2 := dep_fr fs
  have e : PyData.depth (.list (fs.map frD)) = PyData.depthAll (fs.map frD) + 1 := by simp [PyData.depth]
  have c : PyData.canLay0 (.list (fs.map frD)) = true := by simpa [PyData.canLay0] using h1
  unfold SeqAt.shaped prD
  rw [c, Bool.true_and]
  exact decide_eq_true (by rw [e]; omega)
theorem shp_fr (f : Int × Int) : SeqAt.shaped (frD f) = true := by simp [SeqAt.shaped, frD, PyData.canLay0, PyData.canLayAll0, PyData.depth, PyData.depthAll]
theorem eqv_fr (f g : Int × Int) : PyData.eqv (frD f) (frD g) = decide (f = g) := by
  obtain ⟨a, b⟩ := f
  obtain ⟨c, d⟩ := g
  simp [frD, PyData.eqv, PyData.eqvAll]
  by_cases h1 : a = c <;> by_cases h2 : b = d <;> simp [h1, h2]
theorem eqv_frs : ∀ fs gs : List (Int × Int), PyData.eqvAll (fs.map frD) (gs.map frD) = decide (fs = gs)
  | [], [] => by simp [PyData.eqvAll]
  | f :: fs, g :: gs => by
    have := eqv_frs fs gs
    simp only [List.map_cons, PyData.eqvAll, this, eqv_fr]
    by_cases h1 : f = g <;> by_cases h2 : fs = gs <;> simp [h1, h2]
  | [], _ :: _ => by simp [PyData.eqvAll]
  | _ :: _, [] => by simp [PyData.eqvAll]
theorem eqv_pr (fs gs : List (Int × Int)) : PyData.eqv (prD fs) (prD gs) = decide (fs = gs) := by
  unfold prD
  simp only [PyData.eqv]
  exact eqv_frs fs gs
theorem dp_nil {K : PySem.W.Frag} {H : Hp} {l : Addr} (h : H l = some (.lst [])) : Dp K H (.ref l) (.list []) := .lst (SqL.of h) .nil
theorem shp_nil : SeqAt.shaped (.list []) = true := by decide
/-! ## scripts made by the law -/
theorem ds_take1 {ds : List Deed} {i : Nat} {d : Deed} (h : ds[i]? = some d) : ds.take (i + 1) = ds.take i ++ [d] := by
  rw [List.take_add_one, h]
  rfl
def frM (f g : Int × Int) : Int × Int := fr (f.1 * g.1) (f.2 * g.2)
def frA (f g : Int × Int) : Int × Int := fr (f.1 * g.2 + g.1 * f.2) (f.2 * g.2)
/-- a fraction whose numbers are not great -/
def Fb (N : Nat) (f : Int × Int) : Prop := 0 < f.2 ∧ Bn N f.1 ∧ Bn N f.2
theorem pr_items {H : Hp} {l : Addr} {fs : List (Int × Int)} (h : PrAt H l fs) : ∃ xs, H l = some (.lst xs) ∧ xs.length = fs.length ∧ ∀ i, i < fs.length → ∃ a, xs[i]? = some (.ref a) ∧ Fr H a (fs.getD i (0, 1)).1 (fs.getD i (0, 1)).2 ∧ fs.getD i (0, 1) ∈ fs := by
  obtain ⟨as, h1, h2, h3⟩ := h
  refine ⟨_, h1, by rw [List.length_map]; exact h2, fun i hi => ?_⟩
  have e1 : as[i]? = some as[i] := List.getElem?_eq_getElem (by omega)
  have e2 : fs[i]? = some fs[i] := List.getElem?_eq_getElem hi
  have e3 : fs.getD i (0, 1) = fs[i] := by rw [List.getD_eq_getElem?_getD, e2]; rfl
  refine ⟨as[i], by rw [List.getElem?_map, e1]; rfl, ?_, ?_⟩
  · rw [e3]
    exact h3 i _ _ e1 e2
  · rw [e3]
    exact List.getElem_mem hi
/-- while a list of steps is being made at D -/
def DsN (H : Hp) (D : Addr) (ds : List Deed) : Prop := ∃ as : List Addr, H D = some (.lst (as.map V.ref)) ∧ as.length = ds.length ∧ ∀ (i : Nat) (a : Addr) (d : Deed), as[i]? = some a → ds[i]? = some d → DAt (wo D H) a d
theorem DsN.start {H : Hp} {D : Addr} (h : H D = some (.lst [])) : DsN H D [] := ⟨[], h, rfl, fun i a f h => by cases h⟩
theorem DsN.done {H : Hp} {D : Addr} {ds : List Deed} (h : DsN H D ds) : DsAt H D ds := by
  obtain ⟨as, h1, h2, h3⟩ := h
  exact ⟨as, h1, h2, fun i a f x y => (h3 i a f x y).ex wo_ex⟩
theorem DsN.more {H H' : Hp} {D t : Addr} {ds : List Deed} {d : Deed} {n : Int} (h : DsN H D ds) (e : Evl.Ex H H') (ht : DAt H' t d) (hd : okD n d) (hl : ds.length ≤ 1000) : ∃ acc, H' D = some (.lst acc) ∧ acc.length < sizeLine ∧ DsN (upd H' D (.lst (acc ++ [.ref t]))) D (ds ++ [d]) := by
  obtain ⟨as, h1, h2, h3⟩ := h
  have h1' := e _ _ h1
  have up : ∀ o, Evl.Ex (wo D H') (wo D (upd H' D o)) := fun o b u z => wo_at (wo_ne z) (Eq.trans (upd_ne (wo_ne z)) (wo_ex _ _ z))
  refine ⟨_, h1', ?_, as ++ [t], ?_, by rw [List.length_append, List.length_append, h2]; rfl, fun i a g ha hg => ?_⟩
  · rw [List.length_map, h2]
    exact Nat.lt_of_le_of_lt hl (by decide)
  · rw [upd_same, List.map_append]
    rfl
  · rcases get_app ha with ⟨h4, h5⟩ | ⟨h4, rfl⟩
    · rcases get_app hg with ⟨h6, _⟩ | ⟨h6, _⟩
      · exact ((h3 i a g h4 h6).ex (ex_wo e)).ex (up _)
      · omega
    · rcases get_app hg with ⟨h6, h7⟩ | ⟨_, rfl⟩
      · omega
      · exact (dat_keep ht hd h1' fun b o n z => wo_at n z).ex (up _)
/-- while a list of fractions is being made at D -/
def PrN (H : Hp) (D : Addr) (fs : List (Int × Int)) : Prop := ∃ as : List Addr, H D = some (.lst (as.map V.ref)) ∧ as.length = fs.length ∧ ∀ (i : Nat) (a : Addr) (f : Int × Int), as[i]? = some a → fs[i]? = some f → a ≠ D ∧ Fr H a f.1 f.2
theorem PrN.start {H : Hp} {D : Addr} (h : H D = some (.lst [])) : PrN H D [] := ⟨[], h, rfl, fun i a f h => by cases h⟩
theorem PrN.done {H : Hp} {D : Addr} {fs : List (Int × Int)} (h : PrN H D fs) : PrAt H D fs := by
  obtain ⟨as, h1, h2, h3⟩ := h
  exact ⟨as, h1, h2, fun i a f x y => (h3 i a f x y).2⟩
theorem PrN.more {H H' : Hp} {D t : Addr} {fs : List (Int × Int)} {f : Int × Int} (h : PrN H D fs) (e : Evl.Ex H H') (ht : Fr H' t f.1 f.2) (hl : fs.length ≤ 1000) : ∃ acc, H' D = some (.lst acc) ∧ acc.length < sizeLine ∧ acc.length = fs.length ∧ PrN (upd H' D (.lst (acc ++ [.ref t]))) D (fs ++ [f]) := by
  obtain ⟨as, h1, h2, h3⟩ := h
  have h1' := e _ _ h1
  have tD : t ≠ D := fun z => by
    have ht : H' t = some (.tup [.int f.1, .int f.2]) := ht
    rw [z, h1'] at ht
    cases ht
  refine ⟨_, h1', ?_, by rw [List.length_map]; exact h2, as ++ [t], ?_, by rw [List.length_append, List.length_append, h2]; rfl, fun i a g ha hg => ?_⟩
  · rw [List.length_map, h2]
    exact Nat.lt_of_le_of_lt hl (by decide)
  · rw [upd_same, List.map_append]
    rfl
  · rcases get_app ha with ⟨h4, h5⟩ | ⟨h4, rfl⟩
    · rcases get_app hg with ⟨h6, _⟩ | ⟨h6, _⟩
      · obtain ⟨n, z⟩ := h3 i a g h4 h6
        exact ⟨n, Eq.trans (upd_ne n) (e _ _ z)⟩
      · omega
    · rcases get_app hg with ⟨h6, h7⟩ | ⟨_, rfl⟩
      · omega
      · exact ⟨tD, Eq.trans (upd_ne tD) ht⟩
theorem range_more {α : Type} (g : Nat → α) (i : Nat) : (List.range (i + 1)).map g = (List.range i).map g ++ [g i] := by
  rw [List.range_succ, List.map_append]
  rfl
/-! ## fractions and sums -/
theorem fr_vl {a b : Int} (hb : 0 < b) : (fr a b).1 * b = a * (fr a b).2 := by
  obtain ⟨h1, h2⟩ := fr_mul (u := a) hb
  generalize hp : (fr a b).1 = p at *
  generalize hq : (fr a b).2 = q at *
  generalize ((Int.gcd a b : Nat) : Int) = g at *
  rw [h2]
  conv => rhs; rw [h1]
  grind
theorem frM_fr {a b c d : Int} (hb : 0 < b) (hd : 0 < d) : frM (fr a b) (fr c d) = fr (a * c) (b * d) := by
  have h1 := fr_vl (a := a) hb
  have h2 := fr_vl (a := c) hd
  unfold frM
  refine fr_eq (Int.mul_pos (fr_pos hb) (fr_pos hd)) (Int.mul_pos hb hd) ?_
  grind
theorem frA_fr {a b c d : Int} (hb : 0 < b) (hd : 0 < d) : frA (fr a b) (fr c d) = fr (a * d + c * b) (b * d) := by
  have h1 := fr_vl (a := a) hb
  have h2 := fr_vl (a := c) hd
  unfold frA
  refine fr_eq (Int.mul_pos (fr_pos hb) (fr_pos hd)) (Int.mul_pos hb hd) ?_
  grind
theorem fr_sc {a b k : Int} (hb : 0 < b) (hk : 0 < k) : fr (a * k) (b * k) = fr a b := fr_eq (Int.mul_pos hb hk) hb (by grind)
theorem fr_self {p q : Int} (h : 0 < q) (hc : Int.gcd p q = 1) : fr p q = (p, q) := by
  unfold fr
  rw [hc]
  simp
theorem fr_1 (n : Int) : fr n 1 = (n, 1) := fr_self (by decide) (by simp)
theorem fr_0 {b : Int} (h : 0 < b) : fr 0 b = (0, 1) := by
  rw [← fr_1 0]
  exact fr_eq h (by decide) (by omega)
theorem fr_neg {a b : Int} (hb : 0 < b) : (0 - (fr a b).1, (fr a b).2) = fr (-a) b := by
  have h1 := fr_vl (a := a) hb
  have h3 : fr (0 - (fr a b).1) (fr a b).2 = fr (-a) b := fr_eq (fr_pos hb) hb (by grind)
  rw [← h3]
  refine (fr_self (fr_pos hb) ?_).symm
  rw [Int.zero_sub, Int.neg_gcd]
  exact fr_cop hb
theorem fr_lt {a b c d : Int} (hb : 0 < b) (hd : 0 < d) : (fr a b).1 * (fr c d).2 < (fr c d).1 * (fr a b).2 ↔ a * d < c * b := by
  obtain ⟨h1, h2⟩ := fr_mul (u := a) hb
  obtain ⟨h3, h4⟩ := fr_mul (u := c) hd
  have g1 := gcd_pos (u := a) hb
  have g2 := gcd_pos (u := c) hd
  generalize (fr a b).1 = p at *
  generalize (fr a b).2 = q at *
  generalize (fr c d).1 = x at *
  generalize (fr c d).2 = y at *
  generalize ((Int.gcd a b : Nat) : Int) = g at *
  generalize ((Int.gcd c d : Nat) : Int) = h at *
  have g0 : 0 < g * h := Int.mul_pos g1 g2
  have e1 : a * d = (p * y) * (g * h) := by rw [h1, h4]; grind
  have e2 : c * b = (x * q) * (g * h) := by rw [h2, h3]; grind
  rw [e1, e2]
  constructor
  · intro z
    exact Int.mul_lt_mul_of_pos_right z g0
  · intro z
    exact Int.lt_of_mul_lt_mul_right z (Int.le_of_lt g0)
def sr (g : Nat → Int) : Nat → Int
  | 0 => 0
  | n + 1 => sr g n + g n
theorem sr_congr {f g : Nat → Int} : ∀ {n : Nat}, (∀ i, i < n → f i = g i) → sr f n = sr g n
  | 0, _ => rfl
  | n + 1, h => by
    unfold sr
    rw [sr_congr (n := n) fun i hi => h i (by omega), h n (by omega)]
theorem sr_add (f g : Nat → Int) : ∀ n : Nat, sr (fun i => f i + g i) n = sr f n + sr g n
  | 0 => rfl
  | n + 1 => by
    unfold sr
    rw [sr_add f g n]
    omega
theorem sr_mul (f : Nat → Int) (c : Int) : ∀ n : Nat, sr (fun i => f i * c) n = sr f n * c
  | 0 => by simp [sr]
  | n + 1 => by
    unfold sr
    rw [sr_mul f c n, Int.add_mul]
theorem sr_0 : ∀ n : Nat, sr (fun _ => 0) n = 0
  | 0 => rfl
  | n + 1 => by
    unfold sr
    rw [sr_0 n]
    rfl
theorem sr_one (h : Nat → Int) (j : Nat) : ∀ n : Nat, sr (fun i => if i = j then h i else 0) n = if j < n then h j else 0
  | 0 => by simp [sr]
  | n + 1 => by
    unfold sr
    rw [sr_one h j n]
    by_cases c : n = j
    · subst c
      rw [if_pos rfl, if_neg (by omega), if_pos (by omega)]
      omega
    · rw [if_neg c]
      by_cases c2 : j < n
      · rw [if_pos c2, if_pos (by omega)]
        omega
      · rw [if_neg c2, if_neg (by omega)]
        rfl
theorem sr_nn {g : Nat → Int} : ∀ {n : Nat}, (∀ i, i < n → 0 ≤ g i) → 0 ≤ sr g n ∧ (sr g n = 0 → ∀ i, i < n → g i = 0)
  | 0, _ => ⟨Int.le_refl _, fun _ i hi => by omega⟩
  | n + 1, h => by
    obtain ⟨h1, h2⟩ := sr_nn (n := n) fun i hi => h i (by omega)
    have h3 := h n (by omega)
    unfold sr
    refine ⟨by omega, fun e i hi => ?_⟩
    by_cases c : i = n
    · subst c
      omega
    · exact h2 (by omega) i (by omega)
theorem sr_list : ∀ (l : List Int) (n : Nat), l.length = n → sr (fun i => l.getD i 0) n = l.sum := by
  intro l
  have key : ∀ n, n ≤ l.length → sr (fun i => l.getD i 0) n = (l.take n).sum := by
    intro n
    induction n with
    | zero => intro _; rfl
    | succ n ih =>
      intro h
      unfold sr
      rw [ih (by omega), List.take_add_one, List.getElem?_eq_getElem (show n < l.length by omega), List.sum_append, List.getD_eq_getElem?_getD, List.getElem?_eq_getElem (show n < l.length by omega)]
      simp
  intro n h
  rw [key n (by omega), ← h, List.take_length]
theorem sr_range (f : Nat → Int) (n : Nat) : ((List.range n).map f).sum = sr f n := by
  rw [← sr_list _ n (by rw [List.length_map, List.length_range])]
  refine sr_congr fun i hi => ?_
  rw [List.getD_eq_getElem?_getD, map_range_get hi]
  rfl
theorem asc_lt : ∀ {ks : List Int}, (∀ (i : Nat) (x y : Int), ks[i]? = some x → ks[i + 1]? = some y → x < y) → ks.Nodup ∧ ∀ k r, ks = k :: r → ∀ x ∈ r, k < x
  | [], _ => ⟨List.nodup_nil, fun k r h => by cases h⟩
  | [k], _ => ⟨by simp, fun k r h x hx => by cases h; cases hx⟩
  | k :: l :: r, h => by
    obtain ⟨h1, h2⟩ := asc_lt (ks := l :: r) fun i x y hx hy => h (i + 1) x y hx hy
    have h3 := h 0 k l rfl rfl
    have h4 : ∀ x ∈ l :: r, k < x := fun x hx => by
      rcases List.mem_cons.mp hx with rfl | hx
      · exact h3
      · exact Int.lt_trans h3 (h2 l r rfl x hx)
    refine ⟨List.nodup_cons.mpr ⟨fun hk => absurd (h4 k hk) (Int.lt_irrefl k), h1⟩, fun k' r' e x hx => ?_⟩
    cases e
    exact h4 x hx
theorem pick_sr {h : Nat → Int} {n : Nat} : ∀ {ks : List Int}, ks.Nodup → (∀ k ∈ ks, 0 ≤ k ∧ k < (n : Int)) → (ks.map fun k => h k.toNat).sum = sr (fun i => if (i : Int) ∈ ks then h i else 0) n
  | [], _, _ => by
    rw [sr_congr (g := fun _ => 0) fun i _ => by simp, sr_0]
    rfl
  | k :: ks, nd, hb => by
    obtain ⟨h1, h2⟩ := List.nodup_cons.mp nd
    have ih := pick_sr (h := h) (n := n) h2 fun x hx => hb x (List.mem_cons_of_mem _ hx)
    obtain ⟨k0, k1⟩ := hb k List.mem_cons_self
    have e : sr (fun i => if (i : Int) ∈ k :: ks then h i else 0) n = sr (fun i => (if i = k.toNat then h i else 0) + (if (i : Int) ∈ ks then h i else 0)) n := sr_congr ?_
    · rw [List.map_cons, List.sum_cons, ih, e, sr_add, sr_one, if_pos (by omega)]
    intro i hi
    by_cases c : i = k.toNat
    · have e : (i : Int) = k := by omega
      rw [if_pos c, if_pos (by rw [e]; exact List.mem_cons_self), if_neg (by rw [e]; exact h1)]
      omega
    · have e : (i : Int) ≠ k := by omega
      rw [if_neg c]
      by_cases m : (i : Int) ∈ ks
      · rw [if_pos m, if_pos (List.mem_cons_of_mem _ m)]
        omega
      · rw [if_neg m, if_neg (by simp [e, m])]
        rfl
theorem pick_sum {A ks : List Int} {n : Nat} (nd : ks.Nodup) (hb : ∀ k ∈ ks, 0 ≤ k ∧ k < (n : Int)) : (pick A ks).sum = sr (fun i => if (i : Int) ∈ ks then A.getD i 0 else 0) n := pick_sr (h := fun i => A.getD i 0) nd hb
theorem sum_set : ∀ {l : List Int} {i : Nat} {x : Int}, i < l.length → (l.set i x).sum = l.sum + x - l.getD i 0
  | a :: l, 0, x, _ => by
    simp
    omega
  | a :: l, i + 1, x, h => by
    have := sum_set (l := l) (i := i) (x := x) (by simpa using h)
    simp at *
    omega
theorem sum_mul (q : Int) : ∀ l : List Int, (l.map (· * q)).sum = l.sum * q
  | [] => by simp
  | a :: l => by simp [sum_mul q l, Int.add_mul]
theorem sum_mem : ∀ {l : List Int}, (∀ x ∈ l, 0 ≤ x) → ∀ x ∈ l, x ≤ l.sum
  | a :: l, h, x, hx => by
    have h1 := sum_nn (xs := l) fun z hz => h z (List.mem_cons_of_mem _ hz)
    have h2 := h a List.mem_cons_self
    rw [List.sum_cons]
    rcases List.mem_cons.mp hx with rfl | hx
    · omega
    · have := sum_mem (fun z hz => h z (List.mem_cons_of_mem _ hz)) x hx
      omega
theorem map_getD_mul {A : List Int} {i : Nat} {q : Int} (h : i < A.length) : (A.map (· * q)).getD i 0 = A.getD i 0 * q := by
  rw [List.getD_eq_getElem?_getD, List.getD_eq_getElem?_getD, List.getElem?_map, List.getElem?_eq_getElem h]
  rfl
/-- no step puts in more than it pours -/
def pourD : Deed → Int
  | .po _ a => a
  | _ => 0
theorem step_sum {n : Nat} {A ws : List Int} {W : Int} {d : Deed} (hA : A.length = n) (hw : ws.length = n) (nn : ∀ x ∈ A, 0 ≤ x) (hW : 0 < W) (hok : okD n d) {P : Int} (hP : A.sum ≤ P * W) (hws : ∀ x ∈ ws, 0 < x) : (stepA ws (A, W) d).1.sum ≤ (P + pourD d) * (stepA ws (A, W) d).2 := by
  subst hA
  cases d with
  | op ks =>
    obtain ⟨h2, h20, hasc, hb⟩ := hok
    have nd := (asc_lt hasc).1
    show (openA A ws ks).sum ≤ (P + 0) * (W * (pick ws ks).sum)
    have hS : 0 ≤ (pick ws ks).sum := sum_nn fun x hx => by
      have ok2 : okK ws.length ks := by rw [hw]; exact ⟨h20, hb⟩
      exact Int.le_of_lt (hws x (pick_mem ok2 hx))
    have e : (openA A ws ks).sum = A.sum * (pick ws ks).sum := by
      unfold openA
      rw [sr_range, sr_congr (g := fun i => ((if (i : Int) ∈ ks then ws.getD i 0 else 0) * (pick A ks).sum + A.getD i 0 * (pick ws ks).sum) + (if (i : Int) ∈ ks then A.getD i 0 else 0) * (-(pick ws ks).sum)), sr_add, sr_add, sr_mul, sr_mul, sr_mul, ← pick_sum nd hb, ← pick_sum nd hb, sr_list A _ rfl]
      · grind
      · intro i hi
        by_cases c : (i : Int) ∈ ks
        · simp only [if_pos c]
          grind
        · simp only [if_neg c]
          grind
    rw [e]
    have := Int.mul_le_mul_of_nonneg_right hP hS
    grind
  | po k a =>
    show (pourA A W k a).sum ≤ (P + a) * W
    obtain ⟨⟨k0, k1⟩, a0⟩ := hok
    have e : (pourA A W k a).sum = A.sum + a * W := by
      unfold pourA
      rw [sr_range, sr_congr (g := fun i => A.getD i 0 + (if i = k.toNat then (fun _ => a * W) i else 0)), sr_add, sr_one, if_pos (by omega), sr_list A _ rfl]
      intro i hi
      by_cases c : (i : Int) = k
      · rw [if_pos c, if_pos (by omega)]
      · rw [if_neg c, if_neg (by omega)]
        omega
    rw [e, Int.add_mul]
    omega
  | sc k p q =>
    obtain ⟨⟨k0, k1⟩, p0, pq, q0, _⟩ := hok
    show ((A.map (· * q)).set k.toNat (A.getD k.toNat 0 * (q - p))).sum ≤ (P + 0) * (W * q)
    have hk : k.toNat < A.length := by omega
    have m := nn _ (getD_mem' hk)
    rw [sum_set (by rw [List.length_map]; exact hk), sum_mul, map_getD_mul hk]
    have h1 := Int.mul_le_mul_of_nonneg_right hP (Int.le_of_lt q0)
    have h2 := Int.mul_nonneg m p0
    grind
  | mv k j p q =>
    obtain ⟨⟨k0, k1⟩, ⟨j0, j1⟩, kj, p0, pq, q0, _⟩ := hok
    show (((A.map (· * q)).set k.toNat (A.getD k.toNat 0 * (q - p))).set j.toNat (((A.map (· * q)).set k.toNat (A.getD k.toNat 0 * (q - p))).getD j.toNat 0 + A.getD k.toNat 0 * p)).sum ≤ (P + 0) * (W * q)
    have hk : k.toNat < A.length := by omega
    have hj : j.toNat < A.length := by omega
    rw [sum_set (by rw [List.length_set, List.length_map]; exact hj), sum_set (by rw [List.length_map]; exact hk), sum_mul, map_getD_mul hk]
    have h1 := Int.mul_le_mul_of_nonneg_right hP (Int.le_of_lt q0)
    grind
  | un k m =>
    show A.sum ≤ (P + 0) * W
    rw [Int.add_zero]
    exact hP
end V2


namespace V2
open PySem L2
open PySem.Spec PyProof.Rows
theorem DsAt.dq {H : Hp} {l : Addr} {ds : List Deed} (h : DsAt H l ds) : Dq H (.ref l) (.list (ds.map dD)) := by
  obtain ⟨as, h1, h2, h3⟩ := h
  refine .lst h1 (DqAll.of_get (by rw [List.length_map, List.length_map]; exact h2) fun i v d hv hd => ?_)
  rw [List.getElem?_map] at hv hd
  cases e1 : as[i]? with
  | none =>
    rw [e1] at hv
    cases hv
  | some a =>
    cases e2 : ds[i]? with
    | none =>
      rw [e2] at hd
      cases hd
    | some t =>
      rw [e1] at hv
      rw [e2] at hd
      cases hv
      cases hd
      exact dat_dq (h3 i a t e1 e2)
theorem ds_app {H : Hp} {as bs : List Addr} {ds es : List Deed} (l1 : as.length = ds.length) (h1 : ∀ (i : Nat) (a : Addr) (d : Deed), as[i]? = some a → ds[i]? = some d → DAt H a d) (h2 : ∀ (i : Nat) (a : Addr) (d : Deed), bs[i]? = some a → es[i]? = some d → DAt H a d) : ∀ (i : Nat) (a : Addr) (d : Deed), (as ++ bs)[i]? = some a → (ds ++ es)[i]? = some d → DAt H a d := by
  intro i a d ha hd
  by_cases c : i < as.length
  · rw [List.getElem?_append_left c] at ha
    rw [List.getElem?_append_left (by omega)] at hd
    exact h1 i a d ha hd
  · rw [List.getElem?_append_right (by omega)] at ha
    rw [List.getElem?_append_right (by omega), ← l1] at hd
    exact h2 _ a d ha hd
/-- the script of a bench: a new one -/
def spBnS (B C : Addr) : Sp := fun vs H Q _ => ∃ (x ls lt s : Addr) (ts : List Tk) (ds : List Deed) (S : List (List Int × Int)) (A ws : List Int) (W u b : Int) (v : V), vs = [.ref x] ∧ BnAt B s H x ls lt ts ds S A ws W u b v ∧ okS ts ds ∧ ∀ (y : Addr) (H' : Hp), H y = none → Evl.Ex H H' → ScAt (Nw H H') C y ts ds → Q (.ref y) H'
section
variable {base : Heap} {mg : Str → Option Value} {K : PySem.W.Frag} {w : World} {P : Program} {C fI fT fS pT pS : Addr}
theorem ok_Be_script {B fBI fBC fBL fBW fBE pBE : Addr} {f : Addr} {fd fdI : FuncData} (F : Fun K "script" "Bench.script" s_Be_script f fd) (cb : BeC K B fBI fBC fBL fBW fBE pBE) (mC : mg "Script" = some (.ref C)) (c : ScC K C fI fT fS pT pS) (FI : FnOk P w K mg base CX0 5 fI fdI p_Sc_init (spScI C)) (bI : Binds K fdI p_Sc_init []) : FnOk P w K mg base CX0 7 f fd p_Be_script (spBnS B C) := by
  refine F.ok sc_Be_script (fun vs H Q E h => ?_) (fun cdv A outer s H vs Q E hr h => ?_)
  · obtain ⟨x, ls, lt, s, ts, ds, S, A, ws, W, u, b, v, rfl, _⟩ := h
    rfl
  · obtain ⟨x, ls, lt, s, ts, ds, S, Am, ws, W, u, b, v, rfl, ⟨⟨dx, lq, g, lw, t, as, bs, hx, hls, hxs, hlt, hys, hP⟩, _, _, _⟩, hok, k⟩ := h
    refine ⟨_, pss_one (ps_ret (pe_make c.mkI FI hr (by rfl) mC bI .nil pass0 (pa_cons (pe_fld (pv 0) rfl) (pa_cons (pe_fld (pv 0) rfl) pa_nil)))), ?_⟩
    have hp := hP.ex woL_ex
    refine ⟨_, rfl, x, B, dx, _, _, rfl, hx, cb.cls, cb.na1, rfl, _, rfl, x, B, dx, _, _, rfl, hx, cb.cls, cb.na4, rfl, ?_⟩
    intro y dy hy hdy hne
    have e3 : Evl.Ex H (upd (upd H dy (.own y)) y (.ins C dy [])) := fun b o h => Eq.trans (upd_ne (ne_of_none' h hy)) (Eq.trans (upd_ne (ne_of_none' h hdy)) h)
    have hDs : DsAt H ls ds := ⟨as, hls, hxs, hp.d⟩
    refine ⟨y, dy, .ref lq, .ref ls, ts, ds, rfl, upd_same, (hp.q.ex e3).dq, (hDs.ex e3).dq, hok, fun v' u' fs H' b hy' g1 g2 d1 d2 g0 => ⟨rfl, ?_⟩⟩
    have g : Evl.Ex (Nw (upd (upd H dy (.own y)) y (.ins C dy [])) H') (Nw H H') := fun c o z => nw_at (Evl.fresh_back e3 (nw_none z)) (Nw.ex _ _ z)
    refine k y H' hy (fun c o h => ?_) ⟨dy, fs, v', u', nw_at hy hy', g1, g2, d1.go g, d2.go g, g0⟩
    exact b _ _ (ne_of_none' h hy) (e3 _ _ h)
end
end V2


namespace V2
open PySem L2
open PySem.Spec PyProof.Rows
/-! ## waters and levels as fractions -/
def Bh (A : List Int) (W : Int) : List (Int × Int) := A.map fun x => fr x W
def widP (u b : Int) (t : Tk) : Int × Int := match t.1 with
  | none => (u, b)
  | some z => (z, 1)
theorem widP_fr {u b : Int} {t : Tk} (hQ : Qn u b) : widP u b t = fr (wid u b t) b := by
  obtain ⟨b0, bc, _, _⟩ := hQ
  unfold widP wid
  cases t.1 with
  | none => exact (fr_self b0 bc).symm
  | some z =>
    show (z, 1) = fr (z * b) b
    have h := fr_sc (a := z) (b := 1) (k := b) (by decide) b0
    rw [Int.one_mul] at h
    rw [h, fr_1]
theorem widP_inv {u b : Int} {t : Tk} (hQ : Qn u b) (hu : 0 < u) (hz : ∀ z, t.1 = some z → 1 ≤ z) : ((widP u b t).2, (widP u b t).1) = fr b (wid u b t) := by
  obtain ⟨b0, bc, _, _⟩ := hQ
  unfold widP wid
  cases e : t.1 with
  | none => exact (fr_self hu (by rw [Int.gcd_comm]; exact bc)).symm
  | some z =>
    have h1 := hz z e
    show (1, z) = fr b (z * b)
    have h := fr_sc (a := 1) (b := z) (k := b) (by omega) b0
    rw [Int.one_mul] at h
    rw [h, fr_self (by omega) (by simp)]
theorem getD_map {α β : Type} (l : List α) (f : α → β) (i : Nat) (d : β) (h : i < l.length) : (l.map f).getD i d = f l[i] := by
  rw [List.getD_eq_getElem?_getD, List.getElem?_map, List.getElem?_eq_getElem h]
  rfl
theorem getD_el {α : Type} {l : List α} {i : Nat} {d : α} (h : i < l.length) : l.getD i d = l[i] := by
  rw [List.getD_eq_getElem?_getD, List.getElem?_eq_getElem h]
  rfl
theorem bh_get {A : List Int} {W : Int} {i : Nat} (h : i < A.length) : (Bh A W).getD i (0, 1) = fr (A.getD i 0) W := by
  unfold Bh
  rw [getD_map _ _ _ _ h, getD_el h]
theorem bh_len (A : List Int) (W : Int) : (Bh A W).length = A.length := List.length_map ..
theorem list_ext {l1 l2 : List (Int × Int)} {n : Nat} (h1 : l1.length = n) (h2 : l2.length = n) (h : ∀ i, i < n → l1.getD i (0, 1) = l2.getD i (0, 1)) : l1 = l2 := by
  refine List.ext_getElem (by omega) fun i a b => ?_
  have := h i (by omega)
  rw [getD_el a, getD_el b] at this
  exact this
theorem getD_set {α : Type} {l : List α} {k i : Nat} {x d : α} (h : k < l.length) : (l.set k x).getD i d = if i = k then x else l.getD i d := by
  rw [List.getD_eq_getElem?_getD, List.getElem?_set]
  by_cases c : k = i
  · subst c
    rw [if_pos rfl, if_pos h, if_pos rfl]
    rfl
  · rw [if_neg c, if_neg fun z => c z.symm, List.getD_eq_getElem?_getD]
/-- levels times widths are the waters -/
theorem water_eq {ts : List Tk} {A : List Int} {W u b : Int} (hA : A.length = ts.length) (hW : 0 < W) (hQ : Qn u b) (hV : OkV ts.length (ts.map (wid u b))) :
    (List.range (ts.map (widP u b)).length).map (fun i => frM (((List.range A.length).map (lvl A (ts.map (wid u b)) W b)).getD i (0, 1)) ((ts.map (widP u b)).getD i (0, 1))) = Bh A W := by
  refine list_ext (n := ts.length) (by rw [List.length_map, List.length_range, List.length_map]) (by rw [bh_len, hA]) fun i hi => ?_
  rw [bh_get (by omega), getD_map _ _ _ _ (by rw [List.length_range, List.length_map]; exact hi), List.getElem_range, getD_map _ _ _ _ (by rw [List.length_range]; omega), List.getElem_range, getD_map _ _ _ _ hi, widP_fr hQ]
  unfold lvl
  have e : (ts.map (wid u b)).getD i 0 = wid u b ts[i] := getD_map _ _ _ _ hi
  have p : 0 < wid u b ts[i] := by
    rw [← e]
    exact hV.pos _ (getD_mem' (by rw [List.length_map]; exact hi))
  have b0 := hQ.1
  rw [e, frM_fr (Int.mul_pos hW p) b0]
  have h := fr_sc (a := A.getD i 0) (b := W) (k := b * wid u b ts[i]) hW (Int.mul_pos b0 p)
  rw [← h]
  congr 1
  · grind
  · grind
theorem owe_po {n : Nat} {A ws : List Int} {W k a : Int} (hA : A.length = n) (hW : 0 < W) (hok : okD n (.po k a)) : Bh (stepA ws (A, W) (.po k a)).1 (stepA ws (A, W) (.po k a)).2 = (Bh A W).set k.toNat (frA ((Bh A W).getD k.toNat (0, 1)) (a, 1)) := by
  subst hA
  obtain ⟨⟨k0, k1⟩, a0⟩ := hok
  have hk : k.toNat < A.length := by omega
  refine list_ext (n := A.length) (by rw [bh_len]; exact pourA_len A W k a) (by rw [List.length_set, bh_len]) fun i hi => ?_
  rw [bh_get (by show i < (pourA A W k a).length; rw [pourA_len]; exact hi), getD_set (by rw [bh_len]; exact hk), bh_get hi, bh_get hk, ← fr_1 a, frA_fr hW (by decide)]
  have e : (pourA A W k a).getD i 0 = if (i : Int) = k then A.getD i 0 + a * W else A.getD i 0 := by
    unfold pourA
    rw [List.getD_eq_getElem?_getD, map_range_get hi]
    rfl
  show fr ((pourA A W k a).getD i 0) W = _
  rw [e]
  by_cases c : (i : Int) = k
  · have c2 : i = k.toNat := by omega
    rw [if_pos c, if_pos c2, c2]
    simp
  · rw [if_neg c, if_neg (by omega)]
theorem owe_sc {n : Nat} {A ws : List Int} {W k p q : Int} (hA : A.length = n) (hW : 0 < W) (hok : okD n (.sc k p q)) :
    Bh (stepA ws (A, W) (.sc k p q)).1 (stepA ws (A, W) (.sc k p q)).2 = (Bh A W).set k.toNat (frA ((Bh A W).getD k.toNat (0, 1)) (0 - (frM ((Bh A W).getD k.toNat (0, 1)) (p, q)).1, (frM ((Bh A W).getD k.toNat (0, 1)) (p, q)).2)) := by
  subst hA
  obtain ⟨⟨k0, k1⟩, p0, pq, q0, qc, _, _⟩ := hok
  have hk : k.toNat < A.length := by omega
  have hl : (takeA A k p q none).length = A.length := takeA_len A k p q none
  refine list_ext (n := A.length) (by rw [bh_len]; exact hl) (by rw [List.length_set, bh_len]) fun i hi => ?_
  rw [bh_get (by show i < (takeA A k p q none).length; omega), getD_set (by rw [bh_len]; exact hk), bh_get hi, bh_get hk, ← fr_self q0 qc, frM_fr hW q0, fr_neg (Int.mul_pos hW q0), frA_fr hW (Int.mul_pos hW q0)]
  have e : (takeA A k p q none).getD i 0 = if i = k.toNat then A.getD k.toNat 0 * (q - p) else A.getD i 0 * q := by
    show ((A.map (· * q)).set k.toNat _).getD i 0 = _
    rw [getD_set (by rw [List.length_map]; exact hk), map_getD_mul hi]
  show fr ((takeA A k p q none).getD i 0) (W * q) = _
  rw [e]
  by_cases c : i = k.toNat
  · rw [if_pos c, if_pos c]
    have h := fr_sc (a := A.getD k.toNat 0 * (q - p)) (b := W * q) (k := W) (Int.mul_pos hW q0) hW
    rw [← h]
    congr 1
    · grind
    · grind
  · rw [if_neg c, if_neg c]
    exact fr_sc hW q0
theorem owe_mv {n : Nat} {A ws : List Int} {W k m p q : Int} (hA : A.length = n) (hW : 0 < W) (hok : okD n (.mv k m p q)) :
    Bh (stepA ws (A, W) (.mv k m p q)).1 (stepA ws (A, W) (.mv k m p q)).2 = ((Bh A W).set k.toNat (frA ((Bh A W).getD k.toNat (0, 1)) (0 - (frM ((Bh A W).getD k.toNat (0, 1)) (p, q)).1, (frM ((Bh A W).getD k.toNat (0, 1)) (p, q)).2))).set m.toNat (frA ((Bh A W).getD m.toNat (0, 1)) (frM ((Bh A W).getD k.toNat (0, 1)) (p, q))) := by
  subst hA
  obtain ⟨⟨k0, k1⟩, ⟨m0, m1⟩, km, p0, pq, q0, qc, _, _⟩ := hok
  have hk : k.toNat < A.length := by omega
  have hm : m.toNat < A.length := by omega
  have hl : (takeA A k p q (some m)).length = A.length := takeA_len A k p q (some m)
  refine list_ext (n := A.length) (by rw [bh_len]; exact hl) (by rw [List.length_set, List.length_set, bh_len]) fun i hi => ?_
  rw [bh_get (by show i < (takeA A k p q (some m)).length; omega), getD_set (by rw [List.length_set, bh_len]; exact hm), getD_set (by rw [bh_len]; exact hk), bh_get hi, bh_get hk, bh_get hm, ← fr_self q0 qc, frM_fr hW q0, fr_neg (Int.mul_pos hW q0), frA_fr hW (Int.mul_pos hW q0), frA_fr hW (Int.mul_pos hW q0)]
  have e : (takeA A k p q (some m)).getD i 0 = if i = m.toNat then A.getD m.toNat 0 * q + A.getD k.toNat 0 * p else if i = k.toNat then A.getD k.toNat 0 * (q - p) else A.getD i 0 * q := by
    show (((A.map (· * q)).set k.toNat _).set m.toNat (((A.map (· * q)).set k.toNat _).getD m.toNat 0 + _)).getD i 0 = _
    rw [getD_set (i := i) (k := m.toNat) (by rw [List.length_set, List.length_map]; exact hm), getD_set (i := m.toNat) (k := k.toNat) (by rw [List.length_map]; exact hk), getD_set (i := i) (k := k.toNat) (by rw [List.length_map]; exact hk), map_getD_mul hi, map_getD_mul hm, if_neg (show ¬ m.toNat = k.toNat by omega)]
  show fr ((takeA A k p q (some m)).getD i 0) (W * q) = _
  rw [e]
  by_cases c : i = m.toNat
  · rw [if_pos c, if_pos c]
    have h := fr_sc (a := A.getD m.toNat 0 * q + A.getD k.toNat 0 * p) (b := W * q) (k := W) (Int.mul_pos hW q0) hW
    rw [← h]
    congr 1
    · grind
    · grind
  · rw [if_neg c, if_neg c]
    by_cases c : i = k.toNat
    · rw [if_pos c, if_pos c]
      have h := fr_sc (a := A.getD k.toNat 0 * (q - p)) (b := W * q) (k := W) (Int.mul_pos hW q0) hW
      rw [← h]
      congr 1
      · grind
      · grind
    · rw [if_neg c, if_neg c]
      exact fr_sc hW q0
/-! ### an opened valve -/
theorem open_get {A ws ks : List Int} {i : Nat} (hi : i < A.length) : (openA A ws ks).getD i 0 = if (i : Int) ∈ ks then (pick A ks).sum * ws.getD i 0 else A.getD i 0 * (pick ws ks).sum := by
  unfold openA
  rw [List.getD_eq_getElem?_getD, map_range_get hi]
  rfl
/-- what is left of the sum behind the first i tanks -/
def opG (A ws ks : List Int) (i : Nat) : Int := if (i : Int) ∈ ks then A.getD i 0 * (pick ws ks).sum - (pick A ks).sum * ws.getD i 0 else 0
theorem opG_sum {A ws ks : List Int} (nd : ks.Nodup) (hb : ∀ k ∈ ks, 0 ≤ k ∧ k < (A.length : Int)) : sr (opG A ws ks) A.length = 0 := by
  rw [sr_congr (g := fun i => (if (i : Int) ∈ ks then A.getD i 0 else 0) * (pick ws ks).sum + (if (i : Int) ∈ ks then ws.getD i 0 else 0) * (-(pick A ks).sum)), sr_add, sr_mul, sr_mul, ← pick_sum nd hb, ← pick_sum nd hb]
  · grind
  · intro i hi
    unfold opG
    by_cases c : (i : Int) ∈ ks
    · simp only [if_pos c]
      grind
    · simp only [if_neg c]
      omega
def sel (ks : List Int) (h : Nat → Int × Int) : Nat → List (Int × Int)
  | 0 => []
  | i + 1 => if (i : Int) ∈ ks then sel ks h i ++ [h i] else sel ks h i
theorem mem_sel {ks : List Int} {h : Nat → Int × Int} {f : Int × Int} : ∀ {n : Nat}, f ∈ sel ks h n ↔ ∃ i, i < n ∧ (i : Int) ∈ ks ∧ h i = f
  | 0 => by simp [sel]
  | n + 1 => by
    unfold sel
    constructor
    · intro z
      by_cases c : (n : Int) ∈ ks
      · rw [if_pos c] at z
        rcases List.mem_append.mp z with z | z
        · obtain ⟨i, h1, h2⟩ := mem_sel.mp z
          exact ⟨i, by omega, h2⟩
        · exact ⟨n, by omega, c, (List.mem_singleton.mp z).symm⟩
      · rw [if_neg c] at z
        obtain ⟨i, h1, h2⟩ := mem_sel.mp z
        exact ⟨i, by omega, h2⟩
    · rintro ⟨i, h1, h2, h3⟩
      by_cases c : i = n
      · subst c
        rw [if_pos h2]
        exact List.mem_append_right _ (List.mem_singleton.mpr h3.symm)
      · have := mem_sel.mpr ⟨i, show i < n by omega, h2, h3⟩
        by_cases c : (n : Int) ∈ ks
        · rw [if_pos c]
          exact List.mem_append_left _ this
        · rw [if_neg c]
          exact this
theorem sel_len (ks : List Int) (h : Nat → Int × Int) : ∀ n : Nat, (sel ks h n).length ≤ n
  | 0 => Nat.le_refl _
  | n + 1 => by
    have := sel_len ks h n
    unfold sel
    split
    · rw [List.length_append]
      show _ + 1 ≤ _
      omega
    · omega
/-- before: the levels ahead of a valve; L: the level behind it -/
theorem open_even {A ws ks : List Int} {W b : Int} (hl : ws.length = A.length) (nd : ks.Nodup) (hb : ∀ k ∈ ks, 0 ≤ k ∧ k < (A.length : Int)) (hW : 0 < W) (b0 : 0 < b) (hws : ∀ x ∈ ws, 0 < x) (hS : 0 < (pick ws ks).sum) :
    ((sel ks (fun i => fr (A.getD i 0 * b) (W * ws.getD i 0)) A.length).filter (fun f => decide (f.1 * (fr ((pick A ks).sum * b) (W * (pick ws ks).sum)).2 < (fr ((pick A ks).sum * b) (W * (pick ws ks).sum)).1 * f.2)) = []) ↔
    ((sel ks (fun i => fr (A.getD i 0 * b) (W * ws.getD i 0)) A.length).filter (fun f => decide ((fr ((pick A ks).sum * b) (W * (pick ws ks).sum)).1 * f.2 < f.1 * (fr ((pick A ks).sum * b) (W * (pick ws ks).sum)).2)) = []) := by
  have wp : ∀ i, i < A.length → 0 < ws.getD i 0 := fun i hi => hws _ (getD_mem' (by omega))
  have bW := Int.mul_pos b0 hW
  have lo : ∀ i, i < A.length → ((fr (A.getD i 0 * b) (W * ws.getD i 0)).1 * (fr ((pick A ks).sum * b) (W * (pick ws ks).sum)).2 < (fr ((pick A ks).sum * b) (W * (pick ws ks).sum)).1 * (fr (A.getD i 0 * b) (W * ws.getD i 0)).2 ↔ A.getD i 0 * (pick ws ks).sum < (pick A ks).sum * ws.getD i 0) := by
    intro i hi
    rw [fr_lt (Int.mul_pos hW (wp i hi)) (Int.mul_pos hW hS)]
    have e1 : A.getD i 0 * b * (W * (pick ws ks).sum) = (A.getD i 0 * (pick ws ks).sum) * (b * W) := by grind
    have e2 : (pick A ks).sum * b * (W * ws.getD i 0) = ((pick A ks).sum * ws.getD i 0) * (b * W) := by grind
    rw [e1, e2]
    exact ⟨fun z => Int.lt_of_mul_lt_mul_right z (Int.le_of_lt bW), fun z => Int.mul_lt_mul_of_pos_right z bW⟩
  have hi' : ∀ i, i < A.length → ((fr ((pick A ks).sum * b) (W * (pick ws ks).sum)).1 * (fr (A.getD i 0 * b) (W * ws.getD i 0)).2 < (fr (A.getD i 0 * b) (W * ws.getD i 0)).1 * (fr ((pick A ks).sum * b) (W * (pick ws ks).sum)).2 ↔ (pick A ks).sum * ws.getD i 0 < A.getD i 0 * (pick ws ks).sum) := by
    intro i hi
    rw [fr_lt (Int.mul_pos hW hS) (Int.mul_pos hW (wp i hi))]
    have e1 : A.getD i 0 * b * (W * (pick ws ks).sum) = (A.getD i 0 * (pick ws ks).sum) * (b * W) := by grind
    have e2 : (pick A ks).sum * b * (W * ws.getD i 0) = ((pick A ks).sum * ws.getD i 0) * (b * W) := by grind
    rw [e1, e2]
    exact ⟨fun z => Int.lt_of_mul_lt_mul_right z (Int.le_of_lt bW), fun z => Int.mul_lt_mul_of_pos_right z bW⟩
  generalize hL : fr ((pick A ks).sum * b) (W * (pick ws ks).sum) = L at *
  have s0 := opG_sum (ws := ws) nd hb
  rw [List.filter_eq_nil_iff, List.filter_eq_nil_iff]
  constructor
  · intro z f hf
    obtain ⟨i, h1, h2, rfl⟩ := mem_sel.mp hf
    have all : ∀ j, j < A.length → 0 ≤ opG A ws ks j := fun j hj => by
      unfold opG
      by_cases c : (j : Int) ∈ ks
      · rw [if_pos c]
        have := z _ (mem_sel.mpr ⟨j, hj, c, rfl⟩)
        rw [decide_eq_true_eq, lo j hj] at this
        omega
      · rw [if_neg c]
        exact Int.le_refl _
    have e := (sr_nn all).2 s0 i h1
    unfold opG at e
    rw [if_pos h2] at e
    rw [decide_eq_true_eq, hi' i h1]
    omega
  · intro z f hf
    obtain ⟨i, h1, h2, rfl⟩ := mem_sel.mp hf
    have all : ∀ j, j < A.length → 0 ≤ (fun j => opG A ws ks j * (-1)) j := fun j hj => by
      show 0 ≤ opG A ws ks j * (-1)
      unfold opG
      by_cases c : (j : Int) ∈ ks
      · rw [if_pos c]
        have := z _ (mem_sel.mpr ⟨j, hj, c, rfl⟩)
        rw [decide_eq_true_eq, hi' j hj] at this
        omega
      · rw [if_neg c]
        exact Int.le_refl _
    have e := (sr_nn all).2 (by rw [sr_mul, s0]; rfl) i h1
    have e : opG A ws ks i * (-1) = 0 := e
    unfold opG at e
    rw [if_pos h2] at e
    rw [decide_eq_true_eq, lo i h1]
    omega
theorem bh_bits {N : Nat} {A : List Int} {W : Int} (h : OkW N A W) : ∀ f ∈ Bh A W, Fb N f := by
  intro f hf
  obtain ⟨x, hx, rfl⟩ := List.mem_map.mp hf
  have h1 := fr_abs1 (a := x) h.pos
  have h2 := fr_abs2 (a := x) h.pos
  have h3 : x.natAbs < 2 ^ N := h.bA x hx
  have h4 : W.natAbs < 2 ^ N := h.bW
  exact ⟨fr_pos h.pos, Nat.lt_of_le_of_lt h1 h3, Nat.lt_of_le_of_lt h2 h4⟩
theorem wp_bits {ts : List Tk} {u b : Int} (hu : 0 < u) (hQ : Qn u b) (hz : ∀ t ∈ ts, ∀ z, t.1 = some z → 1 ≤ z ∧ z ≤ 1000) : ∀ f ∈ ts.map (widP u b), 0 < f.1 ∧ 0 < f.2 ∧ Bn 50 f.1 ∧ Bn 50 f.2 := by
  intro f hf
  obtain ⟨t, ht, rfl⟩ := List.mem_map.mp hf
  unfold widP
  cases e : t.1 with
  | none => exact ⟨hu, hQ.1, hQ.2.2.1, hQ.2.2.2⟩
  | some z =>
    obtain ⟨h1, h2⟩ := hz t ht z e
    refine ⟨by show 0 < z; omega, by show (0 : Int) < 1; decide, ?_, by show 1 < 2 ^ 50; decide⟩
    show z.natAbs < 2 ^ 50
    exact Nat.lt_of_le_of_lt (show z.natAbs ≤ 1000 by omega) (by decide)
theorem pr_set {H : Hp} {l t : Addr} {xs : List V} {fs : List (Int × Int)} {f : Int × Int} {j : Nat} (h : PrAt H l fs) (hl : H l = some (.lst xs)) (ht : Fr H t f.1 f.2) (hj : j < fs.length) : PrAt (upd H l (.lst (xs.set j (.ref t)))) l (fs.set j f) := by
  obtain ⟨as, h1, h2, h3⟩ := h
  rw [hl] at h1
  injection h1 with h1
  injection h1 with h1
  have ne : ∀ {a : Addr} {p q : Int}, Fr H a p q → a ≠ l := fun h z => by
    have h : H _ = some (.tup _) := h
    rw [z, hl] at h
    cases h
  refine ⟨as.set j t, ?_, by rw [List.length_set, List.length_set, h2], fun i a g ha hg => ?_⟩
  · rw [upd_same, h1, List.map_set]
  · rw [List.getElem?_set] at ha hg
    by_cases c : j = i
    · subst c
      rw [if_pos rfl, if_pos (by omega)] at ha
      rw [if_pos rfl, if_pos hj] at hg
      cases ha
      cases hg
      exact Eq.trans (upd_ne (ne ht)) ht
    · rw [if_neg c] at ha hg
      have z := h3 i a g ha hg
      exact Eq.trans (upd_ne (ne z)) z
theorem PrN.keep {H H' : Hp} {D l : Addr} {fs : List (Int × Int)} {xs : List V} (h : PrN H D fs) (hl : H l = some (.lst xs)) (n : D ≠ l) (e : ∀ b o, b ≠ l → H b = some o → H' b = some o) : PrN H' D fs := by
  obtain ⟨as, h1, h2, h3⟩ := h
  refine ⟨as, e _ _ n h1, h2, fun i a f x y => ?_⟩
  obtain ⟨n1, z⟩ := h3 i a f x y
  exact ⟨n1, e _ _ (fun q => by
    have z : H a = some (.tup _) := z
    rw [q, hl] at z
    cases z) z⟩
theorem PrN.ex {H H' : Hp} {D : Addr} {fs : List (Int × Int)} (h : PrN H D fs) (e : Evl.Ex H H') : PrN H' D fs := by
  obtain ⟨as, h1, h2, h3⟩ := h
  exact ⟨as, e _ _ h1, h2, fun i a f x y => ⟨(h3 i a f x y).1, e _ _ (h3 i a f x y).2⟩⟩
theorem frM_bits {n : Nat} {f : Int × Int} {p q : Int} (h : Fb n f) (q0 : 0 < q) (bp : p.natAbs < 2 ^ 50) (bq : q.natAbs < 2 ^ 50) : Fb (n + 100) (frM f (p, q)) := by
  obtain ⟨h0, h1, h2⟩ := h
  have hp := Int.mul_pos h0 q0
  have a1 := fr_abs1 (a := f.1 * p) hp
  have a2 := fr_abs2 (a := f.1 * p) hp
  have b1 : Bn (n + 50) (f.1 * p) := h1.mul bp
  have b2 : Bn (n + 50) (f.2 * q) := h2.mul bq
  have c1 : Bn (n + 100) (f.1 * p) := b1.le (by omega)
  have c2 : Bn (n + 100) (f.2 * q) := b2.le (by omega)
  exact ⟨fr_pos hp, Nat.lt_of_le_of_lt a1 c1, Nat.lt_of_le_of_lt a2 c2⟩
theorem frA_bits {f g : Int × Int} (h : Fb 2100 f) (h' : Fb 2100 g) : Fb 4300 (frA f g) := by
  obtain ⟨h0, h1, h2⟩ := h
  obtain ⟨g0, g1, g2⟩ := h'
  have hp := Int.mul_pos h0 g0
  have a1 := fr_abs1 (a := f.1 * g.2 + g.1 * f.2) hp
  have a2 := fr_abs2 (a := f.1 * g.2 + g.1 * f.2) hp
  have b1 : Bn 4300 (f.1 * g.2 + g.1 * f.2) := ((h1.mul g2).add (g1.mul h2)).le (by decide)
  have b2 : Bn 4300 (f.2 * g.2) := (h2.mul g2).le (by decide)
  exact ⟨fr_pos hp, Nat.lt_of_le_of_lt a1 b1, Nat.lt_of_le_of_lt a2 b2⟩
theorem sr_le {g : Nat → Int} {N : Nat} : ∀ {i : Nat}, (∀ j, j < i → (g j).natAbs < 2 ^ N) → (sr g i).natAbs ≤ i * 2 ^ N
  | 0, _ => by simp [sr]
  | i + 1, h => by
    have h1 := sr_le (g := g) (N := N) (i := i) fun j hj => h j (by omega)
    have h2 := h i (by omega)
    unfold sr
    rw [Nat.succ_mul i (2 ^ N)]
    omega
theorem sr_bits {g : Nat → Int} {i : Nat} (hi : i ≤ 20) (h : ∀ j, j < i → (g j).natAbs < 2 ^ 2100) : (sr g i).natAbs < 2 ^ 2200 := by
  have h1 := sr_le h
  have h2 := Nat.mul_le_mul_right (2 ^ 2100) hi
  have h3 : (20 : Nat) * 2 ^ 2100 < 2 ^ 2200 := by decide
  omega
theorem pr_at {H : Hp} {l : Addr} {fs : List (Int × Int)} {xs : List V} {i : Nat} {v : V} (h : PrAt H l fs) (hl : H l = some (.lst xs)) (hi : xs[i]? = some v) : ∃ a f, xs[i]? = some (.ref a) ∧ fs[i]? = some f ∧ v = .ref a ∧ Fr H a f.1 f.2 := by
  obtain ⟨as, h1, h2, h3⟩ := h
  rw [hl] at h1
  injection h1 with h1
  injection h1 with h1
  subst h1
  rw [List.getElem?_map] at hi
  cases e : as[i]? with
  | none =>
    rw [e] at hi
    cases hi
  | some a =>
    rw [e] at hi
    have hlt : i < fs.length := by
      have := (List.getElem?_eq_some_iff.mp e).1
      omega
    have hf : fs[i]? = some fs[i] := List.getElem?_eq_getElem hlt
    exact ⟨a, _, by rw [List.getElem?_map, e]; rfl, hf, (Option.some.inj hi).symm, h3 i a _ e hf⟩
theorem take_filter {l : List (Int × Int)} {i : Nat} {f : Int × Int} {p : Int × Int → Bool} (h : l[i]? = some f) : (l.take (i + 1)).filter p = (l.take i).filter p ++ if p f = true then [f] else [] := by
  rw [List.take_add_one, h, List.filter_append]
  by_cases c : p f = true
  · simp [c]
  · simp [c]
theorem sel_ne {ks : List Int} {h : Nat → Int × Int} {n : Nat} (h2 : 2 ≤ ks.length) (hb : ∀ k ∈ ks, 0 ≤ k ∧ k < (n : Int)) : sel ks h n ≠ [] := by
  intro z
  have hm := List.getElem_mem (show 0 < ks.length by omega)
  obtain ⟨k1, k2⟩ := hb _ hm
  have := mem_sel (h := h) (f := h ks[0].toNat) (n := n) (ks := ks) |>.mpr ⟨ks[0].toNat, by omega, by rw [show ((ks[0].toNat : Nat) : Int) = ks[0] by omega]; exact hm, rfl⟩
  rw [z] at this
  cases this
end V2


namespace V2
open PySem L2
open PySem.Spec PyProof.Rows
abbrev spA : Sp := spFp fun p q x y => fr (p * y + x * q) (q * y)
abbrev spM : Sp := spFp fun p q x y => fr (p * x) (q * y)
def spBroads : Sp := fun vs H Q _ => ∃ (l g : Addr) (ts : List Tk) (u b : Int), vs = [.ref l, .ref g] ∧ TksAt H l ts ∧ ts.length ≤ 20 ∧ Fr H g u b ∧ ∀ D H', H D = none → Evl.Ex H H' → PrAt H' D (ts.map (widP u b)) → Q (.ref D) H'
theorem Odd.butS {H H' : Hp} {p s : Addr} {m m' : Nat} (k : Odd H p) (hS : Sk H s m) (hS' : Sk H' s m') (b : But s H H') : Odd H' p := by
  by_cases ps : p = s
  · rw [ps]
    exact hS'.odd
  · obtain ⟨a1, a2, a3, a4, _⟩ := hS
    rcases k with ⟨ns, n2, k⟩ | ⟨C, dx, fs, k⟩ | ⟨ys, c, zs, k, k2⟩
    · exact .inl ⟨ns, n2, b _ _ ps k⟩
    · exact .inr (.inl ⟨_, _, _, b _ _ ps k⟩)
    · exact .inr (.inr ⟨_, _, _, b _ _ ps k, b _ _ (fun z => by rw [z, a4] at k2; cases k2) k2⟩)
def spBench (C : Addr) : Sp := fun vs H Q _ => ∃ (s l g : Addr) (rs : List Addr) (n : Nat) (ts : List Tk) (u b : Int), vs = [.ref s, .ref l, .ref g] ∧ Sk H s n ∧ (∀ r ∈ rs, Odd H r) ∧ n ≤ 90000 ∧ TksAt H l ts ∧ okT ts ∧ (∀ t ∈ ts, ∀ z, t.1 = some z → z ≤ 1000) ∧ Fr H g u b ∧ 0 < u ∧ Qn u b ∧
  ∀ (x ls lt : Addr) (H' : Hp), H x = none → H ls = none → H lt = none → But s H H' → Sk H' s (n + 1) → BnAt C s (woL rs H') x ls lt ts [] [] (ts.map (·.2)) (ts.map (wid u b)) 1 u b .non → Q (.ref x) H'
def spDoes (C : Addr) : Sp := fun vs H Q _ => ∃ (s x ls lt d : Addr) (rs : List Addr) (m N : Nat) (ts : List Tk) (ds : List Deed) (S : List (List Int × Int)) (A ws : List Int) (W u b : Int) (dd : Deed), vs = [.ref s, .ref x, .ref d] ∧ BnAt C s (woL rs H) x ls lt ts ds S A ws W u b .non ∧ (∀ r ∈ rs, Odd H r) ∧ A.length = ts.length ∧ Sk H s m ∧ m ≤ 90000 ∧ ds.length ≤ 100 ∧ DAt (woL [s, x, ls, lt] H) d dd ∧ okD A.length dd ∧ (∀ k a, dd = .po k a → Bn 60 a) ∧ A.length ≤ 20 ∧ OkV A.length ws ∧ OkW N A W ∧ N ≤ 4000 ∧
  ∀ (v : V) (H' : Hp), ButL [s, x, ls, lt] H H' → Sk H' s (m + 1) → BnAt C s (woL rs H') x ls lt ts (ds ++ [dd]) (S ++ [(A, W)]) (stepA ws (A, W) dd).1 ws (stepA ws (A, W) dd).2 u b v → v = (if endB ws A dd = true then .int ds.length else .non) → Q (.bl (endB ws A dd)) H'
def gW {α : Type} : List α → List α → List α
  | [x], [g, l] => [x, l, g]
  | _, _ => []
def gS {α : Type} : List α → List α → List α
  | [x], [d] => [x, d]
  | _, _ => []
theorem odd_tks {H : Hp} {l : Addr} {ts : List Tk} (h : TksAt H l ts) (n : ts ≠ []) : Odd H l := by
  obtain ⟨as, h1, h2, h3⟩ := h
  have l0 : 0 < ts.length := List.length_pos_iff.mpr n
  have e : as = as.take (as.length - 1) ++ [as[as.length - 1]'(by omega)] := by
    have := List.take_append_drop (as.length - 1) as
    rw [List.drop_eq_getElem_cons (show as.length - 1 < as.length by omega), List.drop_of_length_le (by omega)] at this
    exact this.symm
  have z := h3 (as.length - 1) _ _ (List.getElem?_eq_getElem (show as.length - 1 < as.length by omega)) (List.getElem?_eq_getElem (show as.length - 1 < ts.length by omega))
  refine .inr (.inr ⟨(as.take (as.length - 1)).map V.ref, _, _, ?_, z⟩)
  rw [h1]
  conv => lhs; rw [e]
  rw [List.map_append]
  rfl
section
variable {base : Heap} {mg : Str → Option Value} {K : PySem.W.Frag} {w : World} {P : Program} {C fI fC fL fW fE pE : Addr}
theorem ok_broads {f : Addr} {fd : FuncData} (F : Fun K "_law_pv_broads" "_law_pv_broads" s_l_broads f fd) : FnOk P w K mg base CX0 1 f fd p_l_broads spBroads := by
  refine F.ok sc_l_broads (fun vs H Q E h => ?_) (fun cdv A outer s H vs Q E hr h => ?_)
  · obtain ⟨l, g, ts, u, b, rfl, _⟩ := h
    rfl
  · obtain ⟨l, g, ts, u, b, rfl, hT, h20, hg, k⟩ := h
    have nd := sc_l_broads.nd
    have two : 2 ≤ sizeLine := by show 2 ≤ sizeLine; decide
    refine ⟨_, pss_one (ps_ret (pe_lc (own := [("vessel", 2)]) (g := (gName 2)) (tt := tYes) (te := (tIf (tB (tIsN (tOp (rIxT K) (tVar 2) (tC (.int 0))))) (tVar 1) (tTup (tCons (tOp (rIxT K) (tVar 2) (tC (.int 0))) (tCons (tC (.int 1)) tNil))))) rfl nd (pi_list (pv 0)) (blkOk_by (N := n_l_broads) (sc := defScope s_l_broads) (by decide +kernel)) (fun _ _ _ _ _ => (pg_name (i := 2) nd rfl (Or.inl rfl))) (fun _ _ _ _ _ => pts_nil) (fun _ _ _ _ _ => (pe_ifExp (pt_cmp (pc_isN (pe_ix ix_tup (pv 2) pe_int (fun _ _ => rfl)))) (pv 1) (pe_tup (pa_cons (pe_ix ix_tup (pv 2) pe_int (fun _ _ => rfl)) (pa_cons pe_int pa_nil))))))), ?_⟩
    obtain ⟨xs, hl, hlen, hx⟩ := tks_get hT
    refine ⟨_, rfl, l, rfl, ⟨_, SqL.of hl⟩, fun D hD => lc_list (xs := xs) (fun i H' => Evl.Ex H H' ∧ PrN H' D ((ts.map (widP u b)).take i)) ⟨Evl.Ex.new hD, PrN.start upd_same⟩ (fun i H' _ q => SqL.of (q.1 _ _ hl)) ?_ ?_⟩
    · rintro i v H2 hi ⟨e2, hN⟩
      obtain ⟨a, t, rfl, ht, ha⟩ := hx i v hi
      have hm : (ts.map (widP u b)).take (i + 1) = (ts.map (widP u b)).take i ++ [widP u b t] := by
        rw [List.take_add_one, List.getElem?_map, ht]
        rfl
      have hl1 : ((ts.map (widP u b)).take i).length ≤ 1000 := by
        rw [List.length_take, List.length_map]
        omega
      rw [hm]
      refine ⟨rfl, ?_⟩
      unfold tYes
      refine if_t rfl ?_
      have ha2 := e2 _ _ ha
      obtain ⟨w0, am⟩ := t
      cases w0 with
      | none =>
        refine ⟨_, rfl, a, _, _, _, rfl, rfl, SqT.of ha2, rfl, _, rfl, if_t rfl ⟨_, rfl, ?_⟩⟩
        obtain ⟨acc, q1, q2, _, q3⟩ := hN.more (Evl.Ex.refl _) (f := widP u b (none, am)) (e2 _ _ hg) hl1
        exact ⟨acc, q1, q2, Evl.Ex.mut e2 hD, q3⟩
      | some z =>
        refine ⟨_, rfl, a, _, _, _, rfl, rfl, SqT.of ha2, rfl, _, rfl, if_f (decide_eq_false (fun q => by cases q)) ?_⟩
        refine ⟨_, rfl, a, _, _, _, rfl, rfl, SqT.of ha2, rfl, two, fun t2 ht2 => ?_⟩
        have e3 := Evl.Ex.new (o := .tup [.int z, .int 1]) ht2
        obtain ⟨acc, q1, q2, _, q3⟩ := hN.more e3 (f := widP u b (some z, am)) (t := t2) upd_same hl1
        exact ⟨acc, q1, q2, Evl.Ex.mut (e2.trans e3) hD, q3⟩
    · rintro H2 ⟨e2, hN⟩
      rw [hlen, show ts.length = (ts.map (widP u b)).length by rw [List.length_map], List.take_length] at hN
      exact k D H2 hD e2 hN.done
theorem ok_bench {f : Addr} {fd : FuncData} (F : Fun K "_law_pv_bench" "_law_pv_bench" s_l_bench f fd) {fdI : FuncData} (c : BeC K C fI fC fL fW fE pE) (FI : FnOk P w K mg base CX0 5 fI fdI p_Be_init (spBnI C)) (bI : Binds K fdI p_Be_init []) (kI : KBn K fdI p_Be_init 1 ["width", "tanks"] (fun us ws => gW us ws) (fun us ws => gW us ws)) (gC : mg "Bench" = some (.ref C)) (cC : Cal P w K mg base 1 "_law_pv_coin" p_l_coin spCoin) (c2 : Cal P w K mg base 3 "_law_pv_copied" p_l_copied (spCp 2)) : FnOk P w K mg base CX0 7 f fd p_l_bench (spBench C) := by
  refine F.ok sc_l_bench (fun vs H Q E h => ?_) (fun cdv A outer s H vs Q E hr h => ?_)
  · obtain ⟨s, l, g, rs, n, ts, u, b, rfl, _⟩ := h
    rfl
  · obtain ⟨sk, l, g, rs, n, ts, u, b, rfl, hS, hRs, hn, hT, hok, hz, hg, hu, hQ, k⟩ := h
    have nd := sc_l_bench.nd
    have two : 2 ≤ sizeLine := by show 2 ≤ sizeLine; decide
    have r1 : Room 1 _ := hr.mono (by decide)
    have r3 : Room 3 _ := hr.mono (by decide)
    have r5 := hr
    refine ⟨_, pss_cons (ps_set (i := 3) nd rfl (Or.inl rfl) (pe_c c2 r3 (pa_cons (pv 1) pa_nil)))
      (Evl.pss_cut (ps_set (i := 4) nd rfl (Or.inl rfl) (pe_ifExp (pt_cmpR op_eq (pe_c cC r1 (pa_cons (pv 0) (pa_cons pe_int pa_nil))) pe_int (nomark _)) (pe_makeK0 c.mkI FI r5 (by rfl) gC kI pass0 (pk_cons (pv 2) (pk_cons (pv 3) pk_nil))) (pe_make c.mkI FI r5 (by rfl) gC bI .nil pass0 (pa_cons (pv 3) (pa_cons (pv 2) pa_nil)))))
      (pss_cons (ps_expr (pe_bm PySem.F.plainAttrs_list PySem.F.slot_list_append PySem.F.type_list_append mt_append (pv 3) (pa_cons (pe_tup (pa_cons pe_int (pa_cons pe_int pa_nil))) pa_nil)))
      (pss_one (ps_ret (pv 4))))), ?_⟩
    refine ⟨_, rfl, _, _, rfl, hT.dq, cp_tks (Nat.le_trans hok.1 (by decide)), fun v' H1 e1 hv' => ?_⟩
    obtain ⟨lg, rfl, hlg⟩ := hv'.tks
    have lgH : H lg = none := by
      obtain ⟨as, q1, _⟩ := id hlg
      exact nw_none q1
    have ts0 : ts ≠ [] := fun z => by
      have := hok.2.2
      rw [z] at this
      cases this
    refine ⟨fun σ H' => ∃ x ls lt, σ = [some (.ref sk), some (.ref l), some (.ref g), some (.ref lg), some (.ref x)] ∧ H x = none ∧ H ls = none ∧ H lt = none ∧ But sk H H' ∧ Sk H' sk (n + 1) ∧ BnAt C sk (woL (lg :: rs) H') x ls lt ts [] [] (ts.map (·.2)) (ts.map (wid u b)) 1 u b .non ∧ (∃ as, H' lg = some (.lst as) ∧ as.length ≤ 20), ?_, ?_⟩
    · refine ⟨_, rfl, sk, 2, n, rfl, hS.ex e1, by omega, by decide, by decide, fun cc H2 c0 c1 b2 s2 z2 => ⟨rfl, _, rfl, ?_⟩⟩
      have T2 := (hlg.ex (nw_wo hS)).ex b2.wo
      have g2 : Fr H2 g u b := by
        have hg1 : H1 g = some (.tup _) := e1 _ _ hg
        exact b2 _ _ (fun z => by
          obtain ⟨a1, a2, a3, a4, _⟩ := hS.ex e1
          rw [z, a4] at hg1
          cases hg1) hg1
      have b02 : But sk H H2 := (But.of_ex e1).trans b2
      have odd2 : ∀ r ∈ rs, Odd H2 r := fun r hr => (hRs r hr).butS hS s2 b02
      have fin : ∀ x dx, H2 x = none → H2 dx = none → dx ≠ x → spBnI C [.ref x, .ref lg, .ref g] (upd (upd H2 dx (.own x)) x (.ins C dx [])) (fun v H9 => v = .non ∧ ∃ x' ls lt, [some (V.ref sk), some (.ref l), some (.ref g), some (.ref lg), some (.ref x)] = [some (.ref sk), some (.ref l), some (.ref g), some (.ref lg), some (.ref x')] ∧ H x' = none ∧ H ls = none ∧ H lt = none ∧ But sk H H9 ∧ Sk H9 sk (n + 1) ∧ BnAt C sk (woL (lg :: rs) H9) x' ls lt ts [] [] (ts.map (·.2)) (ts.map (wid u b)) 1 u b .non ∧ (∃ as, H9 lg = some (.lst as) ∧ as.length ≤ 20)) E0 := by
        intro x dx hx hdx hne
        have e3 : Evl.Ex H2 (upd (upd H2 dx (.own x)) x (.ins C dx [])) := fun b o h => Eq.trans (upd_ne (ne_of_none' h hx)) (Eq.trans (upd_ne (ne_of_none' h hdx)) h)
        have x3 : upd (upd H2 dx (.own x)) x (.ins C dx []) x = some (.ins C dx []) := upd_same
        generalize upd (upd H2 dx (.own x)) x (.ins C dx []) = H3 at e3 x3
        have T3 := (T2.ex wo_ex).ex e3
        have s3 := s2.ex e3
        have odd3 := odd_tks T3 ts0
        obtain ⟨as, q1, q2, _⟩ := id T3
        have lgx : lg ≠ x := fun z => by
          rw [z, x3] at q1
          cases q1
        have xsk : sk ≠ x := fun z => by
          obtain ⟨a1, a2, a3, a4, _⟩ := s3
          rw [z, x3] at a4
          cases a4
        have odds : ∀ r ∈ lg :: rs, Odd H3 r := fun r hr => by
          rcases List.mem_cons.mp hr with rfl | hr
          · exact odd3
          · exact (odd2 r hr).ex e3
        have xo : x ∉ lg :: rs := fun hr => by
          rcases List.mem_cons.mp hr with hr | hr
          · exact lgx hr.symm
          · obtain ⟨o, ho⟩ := (odd2 _ hr).get
            rw [hx] at ho
            cases ho
        refine ⟨x, dx, lg, g, sk, lg :: rs, n + 1, ts, u, b, rfl, x3, T3, hok, hz, e3 _ _ g2, hu, hQ, s3, odds, xo, fun ls lt H4 w1 w2 b4 hB => ⟨rfl, x, ls, lt, rfl, but_none b02 s2 hx, but_none (b02.trans (But.of_ex e3)) s3 w1, but_none (b02.trans (But.of_ex e3)) s3 w2, ?_, ?_, hB, _, b4 _ _ lgx q1, by rw [List.length_map, q2]; exact hok.1⟩⟩
        · intro c o nc e
          have h5 := b02 c o nc e
          exact b4 _ _ (ne_of_none' h5 hx) (e3 _ _ h5)
        · obtain ⟨a1, a2, a3, a4, a5⟩ := s3
          exact ⟨a1, a2, a3, b4 _ _ xsk a4, a5⟩
      refine ite2 (fun _ => ?_) (fun _ => ?_)
      · exact ⟨_, rfl, _, rfl, rfl, rfl, fin⟩
      · exact ⟨_, rfl, _, rfl, fin⟩
    · rintro σ H5 ⟨x, ls, lt, rfl, x0, ls0, lt0, b5, s5, hB, as, hlg5, hal⟩
      refine ⟨_, rfl, .inl ⟨rfl, _, SqL.of hlg5⟩, two, fun t ht => ?_⟩
      have e6 := Evl.Ex.new (o := .tup [.int 7, .int 7]) ht
      refine ⟨lg, as, _, rfl, rfl, e6 _ _ hlg5, Nat.lt_of_le_of_lt hal (by decide), _, rfl, k x ls lt _ x0 ls0 lt0 ?_ ?_ (hB.go ?_)⟩
      · intro c o nc e
        exact Eq.trans (upd_ne (ne_of_none' e lgH)) (e6 _ _ (b5 c o nc e))
      · refine (s5.ex e6).upd ?_
        exact fun z => by
          obtain ⟨a1, a2, a3, a4, _⟩ := hS
          rw [z, a4] at lgH
          cases lgH
      · intro c o h
        have nl := woL_ne h
        exact woL_at (fun z => nl (List.mem_cons_of_mem _ z)) (Eq.trans (upd_ne (fun z => nl (z ▸ List.mem_cons_self))) (e6 _ _ (woL_ex _ _ h)))
end
end V2


namespace V2
open PySem L2
open PySem.Spec PyProof.Rows
/-- the list that a copied step has within -/
theorem dat_li {H : Hp} {a s : Addr} {d : Deed} {n : Int} {m : Nat} (h : DAt (Nw H H') a d) (hd : okD n d) (hS : Sk H s m) : ∃ r, ((∃ ks, d = .op ks ∧ H' a = some (.tup [.str "open", .ref r]) ∧ Li H' r ks ∧ H r = none ∧ 2 ≤ ks.length ∧ ks.length ≤ 20) ∨ (r = s ∧ ∃ (x : Str) (y : Int) (q : List V), H' a = some (.tup (.str x :: .int y :: q)))) := by
  cases d with
  | op ks =>
    obtain ⟨l, h1, h2⟩ := h
    exact ⟨l, .inl ⟨ks, rfl, Nw.ex _ _ h1, Nw.ex _ _ h2, nw_none h2, hd.1, hd.2.1⟩⟩
  | po k x => exact ⟨s, .inr ⟨rfl, _, _, _, Nw.ex _ _ h⟩⟩
  | sc k p q =>
    obtain ⟨l, h1, _⟩ := h
    exact ⟨s, .inr ⟨rfl, _, _, _, Nw.ex _ _ h1⟩⟩
  | mv k m p q =>
    obtain ⟨l, h1, _⟩ := h
    exact ⟨s, .inr ⟨rfl, _, _, _, Nw.ex _ _ h1⟩⟩
  | un k m => exact ⟨s, .inr ⟨rfl, _, _, _, Nw.ex _ _ h⟩⟩
section
variable {base : Heap} {mg : Str → Option Value} {K : PySem.W.Frag} {w : World} {P : Program} {C fI fC fL fW fE pE : Addr}
theorem ok_does {f : Addr} {fd : FuncData} (F : Fun K "_law_pv_does" "_law_pv_does" s_l_does f fd) {fdC : FuncData} (mL : mg "len" = none) (mIs : mg "isinstance" = none) (mLs : mg "list" = none) (c : BeC K C fI fC fL fW fE pE) (FC : FnOk P w K mg base CX0 9 fC fdC p_Be_call (spBnC C)) (bC : Binds K fdC p_Be_call []) (kC : KBn K fdC p_Be_call 1 ["step"] (fun us ws => gS us ws) (fun us ws => gS us ws)) (cC : Cal P w K mg base 1 "_law_pv_coin" p_l_coin spCoin) (c2 : Cal P w K mg base 3 "_law_pv_copied" p_l_copied (spCp 2)) : FnOk P w K mg base CX0 10 f fd p_l_does (spDoes C) := by
  refine F.ok sc_l_does (fun vs H Q E h => ?_) (fun cdv A outer s H vs Q E hr h => ?_)
  · obtain ⟨s, x, ls, lt, d, rs, m, N, ts, ds, S, A, ws, W, u, b, dd, rfl, _⟩ := h
    rfl
  · obtain ⟨sk, x, ls, lt, d, rs, m, N, ts, ds, S, Am, ws, W, u, b, dd, rfl, hB, hRs, hAt, hS, hm, hn, hd, hok, hpo, h20, hV, hO, hN, k⟩ := h
    have nd := sc_l_does.nd
    have two : 2 ≤ sizeLine := by show 2 ≤ sizeLine; decide
    have r1 : Room 1 _ := hr.mono (by decide)
    have r3 : Room 3 _ := hr.mono (by decide)
    refine ⟨_, pss_cons (ps_set (i := 3) nd rfl (Or.inl rfl) (pe_c c2 r3 (pa_cons (pv 2) pa_nil)))
      (Evl.pss_cut (ps_set (i := 4) nd rfl (Or.inl rfl) (pe_ifExp (pt_cmpR op_eq (pe_c cC r1 (pa_cons (pv 0) (pa_cons pe_int pa_nil))) pe_int (nomark _)) (pe_callOK (pv 1) c.cal FC hr kC pass0 (pk_cons (pv 3) pk_nil)) (StX.pe_callO (pv 1) c.cal (FC.raw bC .nil) hr pass0 (pa_cons (pv 3) pa_nil))))
      (pss_cons (ps_if (PW.pt (pw_and (pt_cmpR op_gt (pe_callB call_len_seq (by rfl) mL PySem.boot_len (pa_cons (pv 3) pa_nil)) pe_int (nomark _)) (pw_and1 (pt_val (pe_callB call_isi (by rfl) mIs (by decide +kernel) (pa_cons (pe_ix ix_tup (pv 3) pe_int (fun _ _ => rfl)) (pa_cons (pe_bltn (v := .ty "list") (by rfl) mLs (by decide +kernel) rfl) pa_nil))))))) (pss_one (ps_expr (pe_bm PySem.F.plainAttrs_list PySem.F.slot_list_append PySem.F.type_list_append mt_append (pe_ix ix_tup (pv 3) pe_int (fun _ _ => rfl)) (pa_cons pe_int pa_nil)))) pss_nil)
      (pss_one (ps_ret (pv 4))))), ?_⟩
    refine ⟨_, rfl, _, _, rfl, dat_dq (hd.ex woL_ex), cp_dD hok, fun v' H1 e1 hv' => ?_⟩
    obtain ⟨ga, rfl, hga⟩ := dq_deed hv'
    obtain ⟨r, hr'⟩ := dat_li hga hok hS
    obtain ⟨⟨dx, lq, gg, lw, tt, xs, ys, hx, hls, hxs, hlt, hys, hP⟩, ⟨n1, n2, n3, n4⟩, _, _⟩ := id hB
    have hx := woL_ex _ _ hx
    have hls := woL_ex _ _ hls
    have hlt := woL_ex _ _ hlt
    refine ⟨fun σ H' => ∃ v H2, But sk H1 H2 ∧ σ = [some (.ref sk), some (.ref x), some (.ref d), some (.ref ga), some (.bl (endB ws Am dd))] ∧ ButL [x, ls, lt] H2 H' ∧ Sk H2 sk (m + 1) ∧ BnAt C sk (woL (r :: rs) H') x ls lt ts (ds ++ [dd]) (S ++ [(Am, W)]) (stepA ws (Am, W) dd).1 ws (stepA ws (Am, W) dd).2 u b v ∧ v = (if endB ws Am dd = true then .int ds.length else .non), ?_, ?_⟩
    · refine ⟨_, rfl, sk, 2, m, rfl, hS.ex e1, by omega, by decide, by decide, fun cc H2 c0 c1 b2 s2 z2 => ⟨rfl, _, rfl, ?_⟩⟩
      have b02 : But sk H H2 := (But.of_ex e1).trans b2
      have rsk : r = sk ∨ H r = none := by
        rcases hr' with ⟨ks, _, _, _, h4, _⟩ | ⟨h4, _⟩
        · exact .inr h4
        · exact .inl h4
      have hB2 : BnAt C sk (woL (r :: rs) H2) x ls lt ts ds S Am ws W u b .non := hB.sep fun q o z => by
        have nm := woL_ne z
        have z1 := woL_ex _ _ z
        have z0 := woL_ex _ _ z1
        have qs : q ≠ sk := fun y => nm (List.mem_singleton.mpr y)
        refine woL_at nm (woL_at (fun y => ?_) (b02 _ _ qs z0))
        rcases List.mem_cons.mp y with y | y
        · rcases rsk with h | h
          · exact qs (y.trans h)
          · rw [y, h] at z0
            cases z0
        · exact woL_ne z1 y
      have odd1 : Odd H2 r := by
        rcases hr' with ⟨ks, _, _, h3, h4, h5, _⟩ | ⟨h4, _⟩
        · refine .inl ⟨ks, h5, b2 _ _ (fun y => ?_) h3⟩
          obtain ⟨a1, a2, a3, a4, _⟩ := hS
          rw [y, a4] at h4
          cases h4
        · rw [h4]
          exact s2.odd
      have odd : ∀ p ∈ r :: rs, Odd H2 p := fun p hp => by
        rcases List.mem_cons.mp hp with rfl | hp
        · exact odd1
        · by_cases ps : p = sk
          · rw [ps]
            exact s2.odd
          · obtain ⟨a1, a2, a3, a4, _⟩ := hS
            rcases (hRs p hp) with ⟨ns, n2, k⟩ | ⟨C, dx, fs, k⟩ | ⟨ys, c, zs, k, k2⟩
            · exact .inl ⟨ns, n2, b02 _ _ ps k⟩
            · exact .inr (.inl ⟨_, _, _, b02 _ _ ps k⟩)
            · exact .inr (.inr ⟨_, _, _, b02 _ _ ps k, b02 _ _ (fun z => by rw [z, a4] at k2; cases k2) k2⟩)
      have hd2 : DAt (woL [x, ls, lt] H2) ga dd := hga.ex fun q o z => by
        have q0 := nw_none z
        have q1 := Nw.ex _ _ z
        have ne : ∀ {p : Addr} {o' : HO}, H p = some o' → q ≠ p := fun hp y => by rw [y, hp] at q0; cases q0
        obtain ⟨a1, a2, a3, a4, _⟩ := hS
        exact woL_at (by simp only [List.mem_cons, List.not_mem_nil, or_false, not_or]; exact ⟨ne hx, ne hls, ne hlt⟩) (b2 _ _ (ne a4) q1)
      have ins2 : ∃ dx fs, H2 x = some (.ins C dx fs) := ⟨_, _, b02 _ _ n4 hx⟩
      refine ite2 (fun _ => ?_) (fun _ => ?_)
      · exact ⟨_, rfl, x, rfl, _, rfl, rfl, ins2, x, ls, lt, ga, sk, r :: rs, m + 1, N, ts, ds, S, Am, ws, W, u, b, dd, rfl, hB2, hAt, odd, s2, hn, hd2, hok, hpo, h20, hV, hO, hN, fun v H3 w3 hB3 hv => ⟨v, H2, b2, rfl, w3, s2, hB3, hv⟩⟩
      · exact ⟨_, rfl, x, rfl, _, rfl, .inr ins2, x, ls, lt, ga, sk, r :: rs, m + 1, N, ts, ds, S, Am, ws, W, u, b, dd, rfl, hB2, hAt, odd, s2, hn, hd2, hok, hpo, h20, hV, hO, hN, fun v H3 w3 hB3 hv => ⟨v, H2, b2, rfl, w3, s2, hB3, hv⟩⟩
    · rintro σ H5 ⟨v, H2, b2, rfl, w25, s2, hB5, hv⟩
      have b02 : But sk H H2 := (But.of_ex e1).trans b2
      obtain ⟨a1, a2, a3, a4, a5⟩ := id s2
      obtain ⟨a1', a2', a3', a4', _⟩ := id hS
      have sn : sk ∉ [x, ls, lt] := by simp only [List.mem_cons, List.not_mem_nil, or_false, not_or]; exact ⟨n4.symm, n2.symm, n3.symm⟩
      have s5 : Sk H5 sk (m + 1) := ⟨a1, a2, a3, w25 _ _ sn a4, a5⟩
      have w5 : ButL [sk, x, ls, lt] H H5 := fun c o nc e => by
        simp only [List.mem_cons, List.not_mem_nil, or_false, not_or] at nc
        exact w25 _ _ (by simp only [List.mem_cons, List.not_mem_nil, or_false, not_or]; exact nc.2) (b02 _ _ nc.1 e)
      have old : ∀ {q : Addr} {o : HO}, H q = none → H1 q = some o → H5 q = some o := by
        intro q o q0 q1
        have ne : ∀ {p : Addr} {o' : HO}, H p = some o' → q ≠ p := fun hp y => by rw [y, hp] at q0; cases q0
        exact w25 _ _ (by simp only [List.mem_cons, List.not_mem_nil, or_false, not_or]; exact ⟨ne hx, ne hls, ne hlt⟩) (b2 _ _ (ne a4') q1)
      have ga0 : H ga = none := by
        cases dd with
        | op ks => obtain ⟨l, h1, _⟩ := hga; exact nw_none h1
        | po k x => exact nw_none hga
        | sc k p q => obtain ⟨l, h1, _⟩ := hga; exact nw_none h1
        | mv k m p q => obtain ⟨l, h1, _⟩ := hga; exact nw_none h1
        | un k m => exact nw_none hga
      rcases hr' with ⟨ks, hdd, h2, h3, h4, h5, h6⟩ | ⟨hrs, y1, y2, y3, h2⟩
      · have GA := old ga0 h2
        have LI := old h4 h3
        refine ⟨_, rfl, ga, _, rfl, .inr (SqT.of GA), _, _, rfl, rfl, _, rfl, if_t (decide_eq_true (by show (1 : Int) < 2; decide)) ?_⟩
        refine ⟨_, rfl, ga, _, _, _, rfl, rfl, SqT.of GA, rfl, _, _, _, _, true, rfl, .ty "list", .base (.lst LI), kit_ty (by decide +kernel), true, rfl, if_t rfl ?_⟩
        refine ⟨_, rfl, ga, _, _, _, rfl, rfl, SqT.of GA, rfl, .inl ⟨rfl, _, SqL.of LI⟩, ?_⟩
        refine ⟨r, _, _, rfl, rfl, LI, by rw [iV_len]; exact Nat.lt_of_le_of_lt h6 (by decide), _, rfl, k v _ ?_ ?_ (hB5.go ?_) hv⟩
        · intro c o nc e
          exact Eq.trans (upd_ne (ne_of_none' e h4)) (w5 _ _ nc e)
        · refine s5.upd fun z => ?_
          rw [z, a4'] at h4
          cases h4
        · intro c o h
          have nl := woL_ne h
          exact woL_at (fun z => nl (List.mem_cons_of_mem _ z)) (Eq.trans (upd_ne (fun z => nl (z ▸ List.mem_cons_self))) (woL_ex _ _ h))
      · have GA := old ga0 h2
        refine ⟨_, rfl, ga, _, rfl, .inr (SqT.of GA), _, _, rfl, rfl, _, rfl, if_t (decide_eq_true (by rw [List.length_cons, List.length_cons]; omega)) ?_⟩
        refine ⟨_, rfl, ga, _, _, _, rfl, rfl, SqT.of GA, (by exact atI_nat (j := 1) rfl), _, _, _, _, false, rfl, .ty "list", .base (.int _), kit_ty (by decide +kernel), false, rfl, if_f rfl ⟨_, rfl, ?_⟩⟩
        exact k v H5 w5 s5 (hB5.go fun c o h => woL_at (fun z => woL_ne h (List.mem_cons_of_mem _ z)) (woL_ex _ _ h)) hv
end
end V2


namespace V2
open PySem L2
open PySem.Spec PyProof.Rows
/-! ## what a step does to levels and water -/
def lvs (A ws : List Int) (W b : Int) : List (Int × Int) := (List.range A.length).map (lvl A ws W b)
theorem lvs_len (A ws : List Int) (W b : Int) : (lvs A ws W b).length = A.length := by unfold lvs; rw [List.length_map, List.length_range]
theorem lvs_get {A ws : List Int} {W b : Int} {i : Nat} (h : i < A.length) : (lvs A ws W b).getD i (0, 1) = lvl A ws W b i := by
  unfold lvs
  rw [getD_map _ _ _ _ (by rw [List.length_range]; exact h), List.getElem_range]
theorem water_get {ts : List Tk} {A : List Int} {W u b : Int} {i : Nat} (hA : A.length = ts.length) (hW : 0 < W) (hQ : Qn u b) (hV : OkV ts.length (ts.map (wid u b))) (hi : i < ts.length) :
    frM ((lvs A (ts.map (wid u b)) W b).getD i (0, 1)) ((ts.map (widP u b)).getD i (0, 1)) = fr (A.getD i 0) W := by
  have gc : ∀ {l1 l2 : List (Int × Int)}, l1 = l2 → l1.getD i (0, 1) = l2.getD i (0, 1) := fun e => by rw [e]
  have h := gc (water_eq hA hW hQ hV)
  rw [bh_get (by omega), getD_map _ _ _ _ (by rw [List.length_range, List.length_map]; exact hi), List.getElem_range] at h
  exact h
theorem hei_get {ts : List Tk} {A : List Int} {W u b : Int} {i : Nat} (hA : A.length = ts.length) (hW : 0 < W) (hQ : Qn u b) (hu : 0 < u) (hz : ∀ t ∈ ts, ∀ z, t.1 = some z → 1 ≤ z) (hV : OkV ts.length (ts.map (wid u b))) (hi : i < ts.length) :
    fr (((Bh A W).getD i (0, 1)).1 * ((ts.map (widP u b)).getD i (0, 1)).2) (((Bh A W).getD i (0, 1)).2 * ((ts.map (widP u b)).getD i (0, 1)).1) = lvl A (ts.map (wid u b)) W b i := by
  have e : (ts.map (wid u b)).getD i 0 = wid u b ts[i] := getD_map _ _ _ _ hi
  have p : 0 < wid u b ts[i] := by
    rw [← e]
    exact hV.pos _ (getD_mem' (by rw [List.length_map]; exact hi))
  rw [bh_get (by omega), getD_map _ _ _ _ hi]
  show frM (fr (A.getD i 0) W) ((widP u b ts[i]).2, (widP u b ts[i]).1) = _
  rw [widP_inv hQ hu (hz _ (List.getElem_mem hi)), frM_fr hW p]
  unfold lvl
  rw [e]
def spHei : Sp := fun vs H Q _ => ∃ (lb lw : Addr) (ts : List Tk) (A : List Int) (W u b : Int) (N : Nat), vs = [.ref lb, .ref lw] ∧ PrAt H lb (ts.map (widP u b)) ∧ PrAt H lw (Bh A W) ∧ A.length = ts.length ∧ ts.length ≤ 20 ∧ OkW N A W ∧ N ≤ 4000 ∧ OkV ts.length (ts.map (wid u b)) ∧ Qn u b ∧ 0 < u ∧ (∀ t ∈ ts, ∀ z, t.1 = some z → 1 ≤ z ∧ z ≤ 1000) ∧
  ∀ D H', H D = none → Evl.Ex H H' → PrAt H' D (lvs A (ts.map (wid u b)) W b) → Q (.ref D) H'
section
variable {base : Heap} {mg : Str → Option Value} {K : PySem.W.Frag} {w : World} {P : Program}
theorem ok_heights {f : Addr} {fd : FuncData} (F : Fun K "_law_pv_heights" "_law_pv_heights" s_l_heights f fd) (mR : mg "range" = none) (mL : mg "len" = none) (cR : Cal P w K mg base 2 "_law_pv_ratio" p_l_ratio spRatio) : FnOk P w K mg base CX0 3 f fd p_l_heights spHei := by
  refine F.ok sc_l_heights (fun vs H Q E h => ?_) (fun cdv A outer s H vs Q E hr h => ?_)
  · obtain ⟨lb, lw, ts, A, W, u, b, N, rfl, _⟩ := h
    rfl
  · obtain ⟨lb, lw, ts, Am, W, u, b, N, rfl, hb, hw, hAl, h20, hO, hN, hV, hQ, hu, hz, k⟩ := h
    have nd := sc_l_heights.nd
    refine ⟨_, pss_one (ps_ret (pe_lc (own := [("k", 2)]) (g := (gName 2)) (tt := tYes) (te := (tCall spRatio [] E0 (tCons (tOp (rI CMulW fun i j => .int (i * j)) (tOp (rIxT K) (tOp (rIxL K) (tVar 1) (tVar 2)) (tC (.int 0))) (tOp (rIxT K) (tOp (rIxL K) (tVar 0) (tVar 2)) (tC (.int 1)))) (tCons (tOp (rI CMulW fun i j => .int (i * j)) (tOp (rIxT K) (tOp (rIxL K) (tVar 1) (tVar 2)) (tC (.int 1))) (tOp (rIxT K) (tOp (rIxL K) (tVar 0) (tVar 2)) (tC (.int 0)))) tNil)))) rfl nd (pi_range1 (by rfl) mR (pa_cons (pe_callB call_len_seq (by rfl) mL PySem.boot_len (pa_cons (pv 1) pa_nil)) pa_nil)) (blkOk_by (N := n_l_heights) (sc := defScope s_l_heights) (by decide +kernel)) (fun _ _ _ _ _ => (pg_name (i := 2) nd rfl (Or.inl rfl))) (fun _ _ _ _ _ => pts_nil) (fun _ _ _ _ _ => (pe_c cR hr (pa_cons (pe_op op_mulW (pe_ix ix_tup (pe_ix ix_list (pv 1) (pv 2) (fun _ _ => rfl)) pe_int (fun _ _ => rfl)) (pe_ix ix_tup (pe_ix ix_list (pv 0) (pv 2) (fun _ _ => rfl)) pe_int (fun _ _ => rfl))) (pa_cons (pe_op op_mulW (pe_ix ix_tup (pe_ix ix_list (pv 1) (pv 2) (fun _ _ => rfl)) pe_int (fun _ _ => rfl)) (pe_ix ix_tup (pe_ix ix_list (pv 0) (pv 2) (fun _ _ => rfl)) pe_int (fun _ _ => rfl))) pa_nil)))))), ?_⟩
    obtain ⟨xs, hxw, hxl, hxi⟩ := pr_items hw
    obtain ⟨zs, hzb, hzl, hzi⟩ := pr_items hb
    rw [bh_len] at hxl hxi
    rw [List.length_map] at hzl hzi
    have bits := bh_bits hO
    have bits3 := wp_bits hu hQ hz
    refine ⟨_, rfl, lw, _, rfl, .inl (SqL.of hxw), ((xs.length : Nat) : Int), rfl, by omega, by rw [hxl]; omega, fun D hD => lc_range (n := xs.length) (fun j H' => Evl.Ex H H' ∧ PrN H' D ((lvs Am (ts.map (wid u b)) W b).take j)) ⟨Evl.Ex.new hD, PrN.start upd_same⟩ ?_ ?_⟩
    · rintro j H1 hj ⟨e1, hN1⟩
      rw [Int.zero_add]
      have hjA : j < Am.length := by omega
      obtain ⟨x, hx, hFx, mx⟩ := hxi j hjA
      obtain ⟨z, hz1, hFz, mz⟩ := hzi j (by omega)
      obtain ⟨f1, f2, f3⟩ := bits _ mx
      obtain ⟨w1, w2, w3, w4⟩ := bits3 _ mz
      have hm : (lvs Am (ts.map (wid u b)) W b).take (j + 1) = (lvs Am (ts.map (wid u b)) W b).take j ++ [lvl Am (ts.map (wid u b)) W b j] := by
        rw [List.take_add_one, List.getElem?_eq_getElem (by rw [lvs_len]; exact hjA), ← lvs_get hjA, getD_el (by rw [lvs_len]; exact hjA)]
        rfl
      have hg := hei_get (u := u) (b := b) hAl hO.pos hQ hu (fun t ht z hz' => (hz t ht z hz').1) hV (i := j) (by omega)
      rw [hm]
      refine ⟨rfl, ?_⟩
      unfold tYes
      refine if_t rfl ?_
      show tCall spRatio [] E0 _ _ _ _
      have bn : ∀ {p q : Int}, Bn N p → Bn 50 q → Bn 4400 p ∧ Bn 4400 q := fun h1 h2 => ⟨h1.le (by omega), h2.le (by decide)⟩
      generalize (Bh Am W).getD j (0, 1) = F at hFx f1 f2 f3 hg
      generalize (ts.map (widP u b)).getD j (0, 1) = G at hFz w1 w2 w3 w4 hg
      refine ⟨_, rfl, _, rfl, lw, _, _, _, rfl, rfl, SqL.of (e1 _ _ hxw), atI_nat hx, x, _, _, _, rfl, rfl, SqT.of (e1 _ _ hFx), rfl, _, rfl, _, rfl, lb, _, _, _, rfl, rfl, SqL.of (e1 _ _ hzb), atI_nat hz1, z, _, _, _, rfl, rfl, SqT.of (e1 _ _ hFz), rfl, F.1, G.2, rfl, rfl, wide_mul (a := 4400) (b := 4400) (f2.le (by omega)) (w4.le (by decide)) (by decide) (by decide) (by decide), ?_⟩
      refine ⟨_, rfl, _, rfl, lw, _, _, _, rfl, rfl, SqL.of (e1 _ _ hxw), atI_nat hx, x, _, _, _, rfl, rfl, SqT.of (e1 _ _ hFx), rfl, _, rfl, _, rfl, lb, _, _, _, rfl, rfl, SqL.of (e1 _ _ hzb), atI_nat hz1, z, _, _, _, rfl, rfl, SqT.of (e1 _ _ hFz), rfl, F.2, G.1, rfl, rfl, wide_mul (a := 4400) (b := 4400) (f3.le (by omega)) (w3.le (by decide)) (by decide) (by decide) (by decide), ?_⟩
      refine ⟨F.1 * G.2, F.2 * G.1, rfl, (f2.mul w4).le (by omega), (f3.mul w3).le (by omega), Int.mul_pos f1 w1, fun t H2 ht e2 h2 => ?_⟩
      rw [hg] at h2
      obtain ⟨acc, q1, q2, _, q3⟩ := hN1.more e2 h2 (by rw [List.length_take, lvs_len]; omega)
      exact ⟨acc, q1, q2, Evl.Ex.mut (e1.trans e2) hD, q3⟩
    · rintro H1 ⟨e1, hN1⟩
      rw [show xs.length = (lvs Am (ts.map (wid u b)) W b).length by rw [lvs_len, hxl], List.take_length] at hN1
      exact k D H1 hD e1 hN1.done
end
end V2


namespace V2
open PySem L2
open PySem.Spec PyProof.Rows
theorem sgn_neg {x : Int} : sgn x < 0 ↔ x < 0 := by
  unfold sgn
  split
  · omega
  · split <;> omega
theorem sgn_pos {x : Int} : 0 < sgn x ↔ 0 < x := by
  unfold sgn
  split
  · omega
  · split <;> omega
theorem dat_end {H : Hp} {a : Addr} {d : Deed} (h : DAt H a d) : (∃ k m, d = .un k m) ∨ ∃ (x : Str) (r : List V), H a = some (.tup (.str x :: r)) ∧ decide (V.str x = V.str "unless") = false ∧ ∀ ws A, endB ws A d = false := by
  cases d with
  | op ks =>
    obtain ⟨l, h1, _⟩ := h
    exact .inr ⟨_, _, h1, by decide, fun _ _ => rfl⟩
  | po k x => exact .inr ⟨_, _, h, by decide, fun _ _ => rfl⟩
  | sc k p q =>
    obtain ⟨l, h1, _⟩ := h
    exact .inr ⟨_, _, h1, by decide, fun _ _ => rfl⟩
  | mv k m p q =>
    obtain ⟨l, h1, _⟩ := h
    exact .inr ⟨_, _, h1, by decide, fun _ _ => rfl⟩
  | un k m => exact .inl ⟨k, m, rfl⟩
theorem lvl_bits {N n : Nat} {A ws : List Int} {W b : Int} (hA : A.length = n) (hO : OkW N A W) (hV : OkV n ws) (b0 : 0 < b) (bb : Bn 50 b) : ∀ f ∈ lvs A ws W b, Fb (N + 60) f := by
  intro f hf
  unfold lvs at hf
  obtain ⟨i, hi, rfl⟩ := List.mem_map.mp hf
  rw [List.mem_range] at hi
  have wm : ws.getD i 0 ∈ ws := getD_mem' (by rw [hV.len]; omega)
  have wp := hV.pos _ wm
  have Wp := Int.mul_pos hO.pos wp
  have h1 : (A.getD i 0 * b).natAbs < 2 ^ (N + 50) := (hO.bA _ (getD_mem' hi)).mul bb
  have h2 : (W * ws.getD i 0).natAbs < 2 ^ (N + 60) := hO.bW.mul (hV.bit _ wm)
  have a1 := fr_abs1 (a := A.getD i 0 * b) Wp
  have a2 := fr_abs2 (a := A.getD i 0 * b) Wp
  have h3 : (2 : Nat) ^ (N + 50) ≤ 2 ^ (N + 60) := Nat.pow_le_pow_right (by decide) (by omega)
  exact ⟨fr_pos Wp, Nat.lt_of_le_of_lt a1 (Nat.lt_of_lt_of_le h1 h3), Nat.lt_of_le_of_lt a2 h2⟩
theorem side_end {ts : List Tk} {A : List Int} {W u b : Int} {N j1 j2 : Nat} (hO : OkW N A W) (b0 : 0 < b) (hV : OkV ts.length (ts.map (wid u b))) (h1 : j1 < ts.length) (h2 : j2 < ts.length) :
    decide (0 < sgn ((lvl A (ts.map (wid u b)) W b j1).1 * (lvl A (ts.map (wid u b)) W b j2).2 - (lvl A (ts.map (wid u b)) W b j2).1 * (lvl A (ts.map (wid u b)) W b j1).2)) = endB (ts.map (wid u b)) A (.un (j1 : Int) (j2 : Int)) := by
  have wp1 : 0 < (ts.map (wid u b)).getD j1 0 := hV.pos _ (getD_mem' (by rw [hV.len]; omega))
  have wp2 : 0 < (ts.map (wid u b)).getD j2 0 := hV.pos _ (getD_mem' (by rw [hV.len]; omega))
  show _ = decide (A.getD ((j2 : Int)).toNat 0 * (ts.map (wid u b)).getD ((j1 : Int)).toNat 0 < A.getD ((j1 : Int)).toNat 0 * (ts.map (wid u b)).getD ((j2 : Int)).toNat 0)
  rw [Int.toNat_natCast, Int.toNat_natCast]
  refine decide_eq_decide.mpr ?_
  rw [sgn_pos]
  have h := fr_lt (a := A.getD j2 0 * b) (b := W * (ts.map (wid u b)).getD j2 0) (c := A.getD j1 0 * b) (d := W * (ts.map (wid u b)).getD j1 0) (Int.mul_pos hO.pos wp2) (Int.mul_pos hO.pos wp1)
  have e1 : A.getD j2 0 * b * (W * (ts.map (wid u b)).getD j1 0) = (A.getD j2 0 * (ts.map (wid u b)).getD j1 0) * (b * W) := by grind
  have e2 : A.getD j1 0 * b * (W * (ts.map (wid u b)).getD j2 0) = (A.getD j1 0 * (ts.map (wid u b)).getD j2 0) * (b * W) := by grind
  rw [e1, e2] at h
  have bW := Int.mul_pos b0 hO.pos
  constructor
  · intro z
    exact Int.lt_of_mul_lt_mul_right (h.mp (by show (lvl A (ts.map (wid u b)) W b j2).1 * (lvl A (ts.map (wid u b)) W b j1).2 < (lvl A (ts.map (wid u b)) W b j1).1 * (lvl A (ts.map (wid u b)) W b j2).2; omega)) (Int.le_of_lt bW)
  · intro z
    have := h.mpr (Int.mul_lt_mul_of_pos_right z bW)
    have this : (lvl A (ts.map (wid u b)) W b j2).1 * (lvl A (ts.map (wid u b)) W b j1).2 < (lvl A (ts.map (wid u b)) W b j1).1 * (lvl A (ts.map (wid u b)) W b j2).2 := this
    omega
def spOver : Sp := fun vs H Q _ => ∃ (lb lw dd : Addr) (d : Deed) (ts : List Tk) (A : List Int) (W u b : Int) (N : Nat), vs = [.ref lb, .ref lw, .ref dd] ∧ PrAt H lb (ts.map (widP u b)) ∧ PrAt H lw (Bh A W) ∧ DAt H dd d ∧ okD ts.length d ∧ A.length = ts.length ∧ ts.length ≤ 20 ∧ OkW N A W ∧ N ≤ 4000 ∧ OkV ts.length (ts.map (wid u b)) ∧ Qn u b ∧ 0 < u ∧ (∀ t ∈ ts, ∀ z, t.1 = some z → 1 ≤ z ∧ z ≤ 1000) ∧ Evl.RetV (.bl (endB (ts.map (wid u b)) A d)) H Q
section
variable {base : Heap} {mg : Str → Option Value} {K : PySem.W.Frag} {w : World} {P : Program}
theorem ok_over {f : Addr} {fd : FuncData} (F : Fun K "_law_pv_over" "_law_pv_over" s_l_over f fd) (cH : Cal P w K mg base 3 "_law_pv_heights" p_l_heights spHei) (cS : Cal P w K mg base 1 "_law_pv_side" p_l_side spSide) : FnOk P w K mg base CX0 4 f fd p_l_over spOver := by
  refine F.ok sc_l_over (fun vs H Q E h => ?_) (fun cdv A outer s H vs Q E hr h => ?_)
  · obtain ⟨lb, lw, dd, d, ts, A, W, u, b, N, rfl, _⟩ := h
    rfl
  · obtain ⟨lb, lw, dd, d, ts, Am, W, u, b, N, rfl, hb, hw, hda, hok, hAl, h20, hO, hN, hV, hQ, hu, hz, k⟩ := h
    have nd := sc_l_over.nd
    have r1 : Room 1 _ := hr.mono (by decide)
    refine ⟨_, pss_cons (ps_if (pt_cmpR op_ne (pe_ix ix_tup (pv 2) pe_int (fun _ _ => rfl)) pe_str (nomark _)) (pss_one (ps_ret pe_bl)) pss_nil)
      (pss_cons (ps_set (i := 3) nd rfl (Or.inl rfl) (pe_c cH hr (pa_cons (pv 0) (pa_cons (pv 1) pa_nil))))
      (pss_one (ps_ret (pe_cmpR op_gt (pe_c cS r1 (pa_cons (pe_ix ix_list (pv 3) (pe_ix ix_tup (pv 2) pe_int (fun _ _ => rfl)) (fun _ _ => rfl)) (pa_cons (pe_ix ix_list (pv 3) (pe_ix ix_tup (pv 2) pe_int (fun _ _ => rfl)) (fun _ _ => rfl)) pa_nil))) pe_int (nomark _))))), ?_⟩
    rcases dat_end hda with ⟨k1, k2, rfl⟩ | ⟨wx, rs, hwx, hne, hend⟩
    · obtain ⟨⟨k10, k11⟩, ⟨k20, k21⟩, k12⟩ := id hok
      obtain ⟨j1, rfl⟩ : ∃ j : Nat, k1 = (j : Int) := ⟨k1.toNat, by omega⟩
      obtain ⟨j2, rfl⟩ : ∃ j : Nat, k2 = (j : Int) := ⟨k2.toNat, by omega⟩
      have hun : H dd = some (.tup [.str "unless", .int (j1 : Int), .int (j2 : Int)]) := hda
      refine ⟨_, rfl, dd, _, _, _, rfl, rfl, SqT.of hun, rfl, rfl, _, rfl, if_f (by decide) ?_⟩
      refine ⟨_, rfl, _, rfl, lb, lw, ts, Am, W, u, b, N, rfl, hb, hw, hAl, h20, hO, hN, hV, hQ, hu, hz, fun D H1 hD e1 hP => ?_⟩
      have hun1 := e1 _ _ hun
      obtain ⟨ps, hps, hpl, hpi⟩ := pr_items hP
      rw [lvs_len] at hpl hpi
      obtain ⟨y1, hy1, hF1, m1⟩ := hpi j1 (by omega)
      obtain ⟨y2, hy2, hF2, m2⟩ := hpi j2 (by omega)
      have hVA : OkV Am.length (ts.map (wid u b)) := by rw [hAl]; exact hV
      have bA : ∀ f ∈ lvs Am (ts.map (wid u b)) W b, Fb 4400 f := fun f hf => by
        obtain ⟨h1, h2, h3⟩ := lvl_bits rfl hO hVA hQ.1 hQ.2.2.2 f hf
        exact ⟨h1, h2.le (by omega), h3.le (by omega)⟩
      obtain ⟨a10, a11, a12⟩ := bA _ m1
      obtain ⟨a20, a21, a22⟩ := bA _ m2
      rw [lvs_get (by omega)] at hF1 hF2 a10 a11 a12 a20 a21 a22
      refine ⟨_, rfl, _, rfl, dd, _, _, _, rfl, rfl, SqT.of hun1, rfl, D, _, _, _, rfl, rfl, SqL.of hps, atI_nat hy1, _, rfl, _, rfl, dd, _, _, _, rfl, rfl, SqT.of hun1, rfl, D, _, _, _, rfl, rfl, SqL.of hps, atI_nat hy2, y1, y2, _, _, _, _, rfl, hF1, hF2, a11, a12, a21, a22, fun H2 e2 => ⟨_, _, rfl, rfl, ?_⟩⟩
      show Q (V.bl (decide (0 < sgn ((lvl Am (ts.map (wid u b)) W b j1).1 * (lvl Am (ts.map (wid u b)) W b j2).2 - (lvl Am (ts.map (wid u b)) W b j2).1 * (lvl Am (ts.map (wid u b)) W b j1).2)))) H2
      rw [side_end hO hQ.1 hV (by omega) (by omega)]
      exact k _ (e1.trans e2)
    · refine ⟨_, rfl, dd, _, _, _, rfl, rfl, SqT.of hwx, (by exact atI_nat (j := 0) rfl), rfl, _, rfl, if_t (by rw [hne]; rfl) ?_⟩
      rw [hend] at k
      exact k _ (Evl.Ex.refl _)
end
end V2


namespace V2
open PySem L2
open PySem.Spec PyProof.Rows
/-- the law's own step -/
theorem fr_swap {a b : Int} : ((fr a b).2, (fr a b).1) = fr b a := by
  unfold fr
  rw [Int.gcd_comm]
/-- behind the first i tanks of a valve -/
def mixA (A ws ks : List Int) (W : Int) (i : Nat) : List (Int × Int) := (List.range A.length).map fun j : Nat => if ((j : Nat) : Int) ∈ ks.take i then fr ((pick A ks).sum * ws.getD j 0) (W * (pick ws ks).sum) else fr (A.getD j 0) W
def spAftL : Sp := fun vs H Q _ => ∃ (lb lw dd : Addr) (d : Deed) (ts : List Tk) (A : List Int) (W u b : Int), vs = [.ref lb, .ref lw, .ref dd] ∧ PrAt H lb (ts.map (widP u b)) ∧ PrAt H lw (Bh A W) ∧ DAt H dd d ∧ okD ts.length d ∧ A.length = ts.length ∧ ts.length ≤ 20 ∧ OkW 4000 A W ∧ (∀ k a, d = .po k a → a ≤ 1000) ∧ OkV ts.length (ts.map (wid u b)) ∧ Qn u b ∧ 0 < u ∧ (∀ t ∈ ts, ∀ z, t.1 = some z → 1 ≤ z ∧ z ≤ 1000) ∧
  ∀ D H', H D = none → Evl.Ex H H' → PrAt H' D (Bh (stepA (ts.map (wid u b)) (A, W) d).1 (stepA (ts.map (wid u b)) (A, W) d).2) → Q (.ref D) H'
section
variable {base : Heap} {mg : Str → Option Value} {K : PySem.W.Frag} {w : World} {P : Program}
theorem ok_lafter {f : Addr} {fd : FuncData} (F : Fun K "_law_pv_after" "_law_pv_after" s_l_after f fd) (mLs : mg "list" = none) (cA : Cal P w K mg base 3 "_law_pv_add" p_l_add spA) (cM : Cal P w K mg base 3 "_law_pv_mul" p_l_mul spM) : FnOk P w K mg base CX0 4 f fd p_l_after spAftL := by
  refine F.ok sc_l_after (fun vs H Q E h => ?_) (fun cdv A outer s H vs Q E hr h => ?_)
  · obtain ⟨lb, lw, dd, d, ts, A, W, u, b, rfl, _⟩ := h
    rfl
  · obtain ⟨lb, lw, dd, d, ts, Am, W, u, b, rfl, hb, hw, hda, hok, hAl, h20, hO, hpo, hV, hQ, hu, hz, k⟩ := h
    have nd := sc_l_after.nd
    have two : 2 ≤ sizeLine := by show 2 ≤ sizeLine; decide
    refine ⟨_, pss_cons (ps_set (i := 1) nd rfl (Or.inl rfl) (pe_callTy call_list_of (by rfl) mLs (by decide +kernel) (pa_cons (pv 1) pa_nil)))
      (pss_cons (ps_if (pt_cmpR op_eq (pe_ix ix_tup (pv 2) pe_int (fun _ _ => rfl)) pe_str (nomark _)) (pss_one (ps_asg (pe_c cA hr (pa_cons (pe_ix ix_list (pv 1) (pe_ix ix_tup (pv 2) pe_int (fun _ _ => rfl)) (fun _ _ => rfl)) (pa_cons (pe_tup (pa_cons (pe_ix ix_tup (pv 2) pe_int (fun _ _ => rfl)) (pa_cons pe_int pa_nil))) pa_nil))) (pg_sub (pv 1) (pe_ix ix_tup (pv 2) pe_int (fun _ _ => rfl)) set_list))) pss_nil)
      (pss_cons (ps_if (pt_cmpR op_eq (pe_ix ix_tup (pv 2) pe_int (fun _ _ => rfl)) pe_str (nomark _)) (pss_cons (ps_asg (pe_tup (pa_cons (pe_tup (pa_cons pe_int (pa_cons pe_int pa_nil))) (pa_cons (pe_tup (pa_cons pe_int (pa_cons pe_int pa_nil))) pa_nil))) (pg_tup rfl (pgs_cons (pg_name (i := 3) nd rfl (Or.inl rfl)) (pgs_cons (pg_name (i := 4) nd rfl (Or.inl rfl)) pgs_nil))))
      (pss_cons (ps_for PassesOwn.never rfl (pi_list (pe_ix ix_tup (pv 2) pe_int (fun _ _ => rfl))) (pg_name (i := 5) nd rfl (Or.inl rfl)) (pss_one (ps_par (i := 3) (j := 4) rfl nd rfl rfl (by decide) rfl rfl (pa_cons (pe_c cA hr (pa_cons (pv 3) (pa_cons (pe_ix ix_list (pv 1) (pv 5) (fun _ _ => rfl)) pa_nil))) (pa_cons (pe_c cA hr (pa_cons (pv 4) (pa_cons (pe_ix ix_list (pv 0) (pv 5) (fun _ _ => rfl)) pa_nil))) pa_nil)) (by rfl))))
      (pss_one (ps_for PassesOwn.never rfl (pi_list (pe_ix ix_tup (pv 2) pe_int (fun _ _ => rfl))) (pg_name (i := 5) nd rfl (Or.inl rfl)) (pss_one (ps_asg (pe_c cM hr (pa_cons (pe_c cM hr (pa_cons (pv 3) (pa_cons (pe_ix ix_list (pv 0) (pv 5) (fun _ _ => rfl)) pa_nil))) (pa_cons (pe_tup (pa_cons (pe_ix ix_tup (pv 4) pe_int (fun _ _ => rfl)) (pa_cons (pe_ix ix_tup (pv 4) pe_int (fun _ _ => rfl)) pa_nil))) pa_nil))) (pg_sub (pv 1) (pv 5) set_list))))))) pss_nil)
      (pss_cons (ps_if (pt_cmpR op_in_seq (pe_ix ix_tup (pv 2) pe_int (fun _ _ => rfl)) (pe_tup (pa_cons pe_str (pa_cons pe_str pa_nil))) (by rfl)) (pss_cons (ps_set (i := 6) nd rfl (Or.inl rfl) (pe_c cM hr (pa_cons (pe_ix ix_list (pv 1) (pe_ix ix_tup (pv 2) pe_int (fun _ _ => rfl)) (fun _ _ => rfl)) (pa_cons (pe_ix ix_tup (pv 2) (pe_un un_neg pe_int) (fun _ _ => rfl)) pa_nil))))
      (pss_cons (ps_asg (pe_c cA hr (pa_cons (pe_ix ix_list (pv 1) (pe_ix ix_tup (pv 2) pe_int (fun _ _ => rfl)) (fun _ _ => rfl)) (pa_cons (pe_tup (pa_cons (pe_op op_sub pe_int (pe_ix ix_tup (pv 6) pe_int (fun _ _ => rfl))) (pa_cons (pe_ix ix_tup (pv 6) pe_int (fun _ _ => rfl)) pa_nil))) pa_nil))) (pg_sub (pv 1) (pe_ix ix_tup (pv 2) pe_int (fun _ _ => rfl)) set_list))
      (pss_one (ps_if (pt_cmpR op_eq (pe_ix ix_tup (pv 2) pe_int (fun _ _ => rfl)) pe_str (nomark _)) (pss_one (ps_asg (pe_c cA hr (pa_cons (pe_ix ix_list (pv 1) (pe_ix ix_tup (pv 2) pe_int (fun _ _ => rfl)) (fun _ _ => rfl)) (pa_cons (pv 6) pa_nil))) (pg_sub (pv 1) (pe_ix ix_tup (pv 2) pe_int (fun _ _ => rfl)) set_list))) pss_nil)))) pss_nil)
      (pss_one (ps_ret (pv 1)))))), ?_⟩
    obtain ⟨xs, hxs, hxl, hxi⟩ := pr_items hw
    rw [bh_len] at hxl hxi
    have bits := bh_bits hO
    have W0 := hO.pos
    refine ⟨_, rfl, lw, _, rfl, .inl (SqL.of hxs), fun lo hlo => ?_⟩
    have e1 := Evl.Ex.new (o := .lst xs) hlo
    have hO1 : PrAt (upd H lo (.lst xs)) lo (Bh Am W) := by
      obtain ⟨as, h1, h2, h3⟩ := hw
      rw [hxs] at h1
      injection h1 with h1
      injection h1 with h1
      exact ⟨as, by rw [upd_same, h1], h2, fun i a t x y => e1 _ _ (h3 i a t x y)⟩
    have hlo1 : upd H lo (.lst xs) lo = some (.lst xs) := upd_same
    generalize upd H lo (.lst xs) = H1 at e1 hO1 hlo1
    have bl := bh_len Am W
    cases d with
    | op ks =>
      obtain ⟨tl, hd, hl⟩ := hda
      obtain ⟨h2k, hk20, hasc, hks⟩ := id hok
      have ok2 : okK (ts.map (wid u b)).length ks := by
        rw [hV.len]
        exact ⟨hk20, hks⟩
      have b0 := hQ.1
      have T0 : 0 < (pick (ts.map (wid u b)) ks).sum := by
        refine sum_pos (fun z => ?_) fun x hx => hV.pos x (pick_mem ok2 hx)
        have := congrArg List.length z
        rw [pick_len, List.length_nil] at this
        omega
      obtain ⟨zs, hzb, hzl, hzi⟩ := pr_items hb
      rw [List.length_map] at hzl hzi
      have bits3 := wp_bits hu hQ hz
      have wfr : ∀ j, j < ts.length → (ts.map (widP u b)).getD j (0, 1) = fr ((ts.map (wid u b)).getD j 0) b := fun j hj => by
        rw [getD_map _ _ _ _ hj, getD_map _ _ _ _ hj]
        exact widP_fr hQ
      have kget : ∀ {i : Nat} {v : V}, (iV ks)[i]? = some v → ∃ j : Nat, v = .int (j : Int) ∧ j < ts.length ∧ ks[i]? = some (j : Int) := fun {i v} hi => by
        unfold iV at hi
        rw [List.getElem?_map] at hi
        cases e : ks[i]? with
        | none => rw [e] at hi; cases hi
        | some z =>
          rw [e] at hi
          obtain ⟨z0, z1⟩ := hks z (List.mem_of_getElem? e)
          refine ⟨z.toNat, ?_, by omega, ?_⟩
          · rw [show ((z.toNat : Nat) : Int) = z by omega]
            exact (Option.some.inj hi).symm
          · rw [show ((z.toNat : Nat) : Int) = z by omega]
      have pk : ∀ (B : List Int) {i j : Nat}, ks[i]? = some (j : Int) → (pick B (ks.take (i + 1))).sum = (pick B (ks.take i)).sum + B.getD j 0 := fun B {i j} hi => by
        unfold pick
        rw [List.take_add_one, hi, List.map_append, List.sum_append]
        simp
      have pb : ∀ {M : Nat} {B : List Int} (i : Nat), B.length = ts.length → (∀ x ∈ B, Bn M x) → Bn (M + 5) (pick B (ks.take i)).sum := fun {M B} i hl hB => bn_sum20 (fun x hx => hB x (pick_mem (ks := ks) (by rw [hl]; exact ⟨hk20, hks⟩) (by
        unfold pick at hx ⊢
        obtain ⟨q, hq, rfl⟩ := List.mem_map.mp hx
        exact List.mem_map.mpr ⟨q, List.mem_of_mem_take hq, rfl⟩))) (by rw [pick_len, List.length_take]; omega)
      refine ⟨_, rfl, dd, _, _, _, rfl, rfl, SqT.of (e1 _ _ hd), rfl, rfl, _, rfl, if_f (by decide) ?_⟩
      refine ⟨_, rfl, dd, _, _, _, rfl, rfl, SqT.of (e1 _ _ hd), rfl, rfl, _, rfl, if_t (by decide) ?_⟩
      refine ⟨two, fun t0 ht0 => ⟨two, fun t0' ht0' => ⟨two, fun tt htt => ?_⟩⟩⟩
      have n1 := Evl.Ex.new (o := .tup [.int 0, .int 1]) ht0
      have n2 := Evl.Ex.new (o := .tup [.int 0, .int 1]) ht0'
      have n3 := Evl.Ex.new (o := .tup [.ref t0, .ref t0']) htt
      refine ⟨tt, _, rfl, SqT.of upd_same, rfl, _, _, rfl, _, _, rfl, rfl, ?_⟩
      have f0 := n3 _ _ (n2 _ _ (upd_same (H := H1) (a := t0) (o := .tup [.int 0, .int 1])))
      have f0' := n3 _ _ (upd_same (H := upd H1 t0 (.tup [.int 0, .int 1])) (a := t0') (o := .tup [.int 0, .int 1]))
      have n13 := (n1.trans n2).trans n3
      generalize upd (upd (upd H1 t0 (.tup [.int 0, .int 1])) t0' (.tup [.int 0, .int 1])) tt (.tup [.ref t0, .ref t0']) = H2 at n3 f0 f0' n13
      have e2 := e1.trans n13
      refine ⟨_, rfl, dd, _, _, _, rfl, rfl, SqT.of (e2 _ _ hd), rfl, tl, rfl, ⟨_, SqL.of (e2 _ _ hl)⟩, for_list (xs := iV ks) (fun i σ H' => ∃ (t3 t4 : Addr) (v5 : Option V), σ = [some (.ref lb), some (.ref lo), some (.ref dd), some (.ref t3), some (.ref t4), v5, none] ∧ Evl.Ex H2 H' ∧ Fr H' t3 (fr (pick Am (ks.take i)).sum W).1 (fr (pick Am (ks.take i)).sum W).2 ∧ Fr H' t4 (fr (pick (ts.map (wid u b)) (ks.take i)).sum b).1 (fr (pick (ts.map (wid u b)) (ks.take i)).sum b).2)
        ⟨t0, t0', none, rfl, Evl.Ex.refl _, by rw [show (pick Am (ks.take 0)).sum = 0 from rfl, fr_0 W0]; exact f0, by rw [show (pick (ts.map (wid u b)) (ks.take 0)).sum = 0 from rfl, fr_0 b0]; exact f0'⟩ (fun i σ H' _ q => by obtain ⟨_, _, _, _, q, _⟩ := q; exact SqL.of ((e2.trans q) _ _ hl)) ?_ ?_⟩
      · rintro i v σ H3 hi ⟨t3, t4, v5, rfl, e3, hT3, hT4⟩
        obtain ⟨j, rfl, hj, hkj⟩ := kget hi
        have hjA : j < Am.length := by omega
        obtain ⟨x, hx, hFx, mx⟩ := hxi j hjA
        obtain ⟨z, hz1, hFz, mz⟩ := hzi j hj
        obtain ⟨f1, f2, f3⟩ := bits _ mx
        obtain ⟨w1, w2, w3, w4⟩ := bits3 _ mz
        have e23 := n13.trans e3
        have bT := pb i hAl hO.bA
        have bS := pb i (List.length_map ..) hV.bit
        have c1 := fr_abs1 (a := (pick Am (ks.take i)).sum) W0
        have c2 := fr_abs2 (a := (pick Am (ks.take i)).sum) W0
        have c3 := fr_abs1 (a := (pick (ts.map (wid u b)) (ks.take i)).sum) b0
        have c4 := fr_abs2 (a := (pick (ts.map (wid u b)) (ks.take i)).sum) b0
        have bT : (pick Am (ks.take i)).sum.natAbs < 2 ^ 4005 := bT
        have bS : (pick (ts.map (wid u b)) (ks.take i)).sum.natAbs < 2 ^ 65 := bS
        have bW : W.natAbs < 2 ^ 4000 := hO.bW
        have bb : b.natAbs < 2 ^ 50 := hQ.2.2.2
        refine ⟨_, rfl, _, rfl, _, rfl, lo, _, _, _, rfl, rfl, SqL.of (e23 _ _ hlo1), atI_nat hx, t3, x, _, _, _, _, rfl, hT3, (e1.trans e23) _ _ hFx, fr_pos W0, f1, (show Bn 4005 _ from Nat.lt_of_le_of_lt c1 bT).le (by decide), (show Bn 4000 _ from Nat.lt_of_le_of_lt c2 bW).le (by decide), f2.le (by decide), f3.le (by decide), fun t5 H4 ht5 e4 h5 => ?_⟩
        refine ⟨_, rfl, _, rfl, _, rfl, lb, _, _, _, rfl, rfl, SqL.of ((e1.trans (e23.trans e4)) _ _ hzb), atI_nat hz1, t4, z, _, _, _, _, rfl, e4 _ _ hT4, (e1.trans (e23.trans e4)) _ _ hFz, fr_pos b0, w2, (show Bn 65 _ from Nat.lt_of_le_of_lt c3 bS).le (by decide), (show Bn 50 _ from Nat.lt_of_le_of_lt c4 bb).le (by decide), w3.le (by decide), w4.le (by decide), fun t6 H5 ht6 e5 h6 => ⟨_, _, rfl, t5, t6, _, rfl, (e3.trans e4).trans e5, ?_, ?_⟩⟩
        · have e : fr (pick Am (ks.take (i + 1))).sum W = frA (fr (pick Am (ks.take i)).sum W) ((Bh Am W).getD j (0, 1)) := by
            rw [bh_get hjA, frA_fr W0 W0, pk Am hkj, ← Int.add_mul, fr_sc W0 W0]
          rw [e]
          exact e5 _ _ h5
        · have e : fr (pick (ts.map (wid u b)) (ks.take (i + 1))).sum b = frA (fr (pick (ts.map (wid u b)) (ks.take i)).sum b) ((ts.map (widP u b)).getD j (0, 1)) := by
            rw [wfr j hj, frA_fr b0 b0, pk (ts.map (wid u b)) hkj, ← Int.add_mul, fr_sc b0 b0]
          rw [e]
          exact h6
      rintro σ H3 ⟨t3, t4, v5, rfl, e3, hT3, hT4⟩
      rw [iV_len, List.take_length] at hT3 hT4
      have E3 := e1.trans (n13.trans e3)
      have mget : ∀ (i m : Nat), m < Am.length → (mixA Am (ts.map (wid u b)) ks W i).getD m (0, 1) = if ((m : Nat) : Int) ∈ ks.take i then fr ((pick Am ks).sum * (ts.map (wid u b)).getD m 0) (W * (pick (ts.map (wid u b)) ks).sum) else fr (Am.getD m 0) W := fun i m hm => by
        unfold mixA
        rw [getD_map _ _ _ _ (by rw [List.length_range]; exact hm), List.getElem_range]
      have mlen : ∀ i, (mixA Am (ts.map (wid u b)) ks W i).length = Am.length := fun i => by unfold mixA; rw [List.length_map, List.length_range]
      have m0 : mixA Am (ts.map (wid u b)) ks W 0 = Bh Am W := list_ext (n := Am.length) (mlen 0) (bh_len _ _) fun m hm => by
        rw [mget 0 m hm, bh_get hm, if_neg (by simp)]
      have WT := Int.mul_pos W0 T0
      have mE : mixA Am (ts.map (wid u b)) ks W ks.length = Bh (openA Am (ts.map (wid u b)) ks) (W * (pick (ts.map (wid u b)) ks).sum) := list_ext (n := Am.length) (mlen _) (by rw [bh_len, openA_len]) fun m hm => by
        rw [mget _ m hm, bh_get (by rw [openA_len]; exact hm), open_get hm, List.take_length]
        by_cases c : ((m : Nat) : Int) ∈ ks
        · rw [if_pos c, if_pos c]
        · rw [if_neg c, if_neg c]
          exact (fr_sc W0 T0).symm
      have bT := pb ks.length hAl hO.bA
      have bS := pb ks.length (List.length_map ..) hV.bit
      rw [List.take_length] at bT bS
      have bT : (pick Am ks).sum.natAbs < 2 ^ 4005 := bT
      have bS : (pick (ts.map (wid u b)) ks).sum.natAbs < 2 ^ 65 := bS
      have bW : W.natAbs < 2 ^ 4000 := hO.bW
      have bb : b.natAbs < 2 ^ 50 := hQ.2.2.2
      have c1 := fr_abs1 (a := (pick Am ks).sum) W0
      have c2 := fr_abs2 (a := (pick Am ks).sum) W0
      have c3 := fr_abs1 (a := b) T0
      have c4 := fr_abs2 (a := b) T0
      have s1 : (fr (pick (ts.map (wid u b)) ks).sum b).2 = (fr b (pick (ts.map (wid u b)) ks).sum).1 := congrArg Prod.fst fr_swap
      have s2 : (fr (pick (ts.map (wid u b)) ks).sum b).1 = (fr b (pick (ts.map (wid u b)) ks).sum).2 := congrArg Prod.snd fr_swap
      refine ⟨_, rfl, dd, _, _, _, rfl, rfl, SqT.of (E3 _ _ hd), rfl, tl, rfl, ⟨_, SqL.of (E3 _ _ hl)⟩, for_list (xs := iV ks) (fun i σ H' => ∃ v5 : Option V, σ = [some (.ref lb), some (.ref lo), some (.ref dd), some (.ref t3), some (.ref t4), v5, none] ∧ Evl.Ex H H' ∧ Fr H' t3 (fr (pick Am ks).sum W).1 (fr (pick Am ks).sum W).2 ∧ Fr H' t4 (fr (pick (ts.map (wid u b)) ks).sum b).1 (fr (pick (ts.map (wid u b)) ks).sum b).2 ∧ PrAt H' lo (mixA Am (ts.map (wid u b)) ks W i))
        ⟨v5, rfl, E3, hT3, hT4, by rw [m0]; exact hO1.ex (n13.trans e3)⟩ (fun i σ H' _ q => by obtain ⟨_, _, q, _⟩ := q; exact SqL.of (q _ _ hl)) ?_ ?_⟩
      · rintro i v σ H4 hi ⟨v5, rfl, e4, hT3, hT4, hP4⟩
        obtain ⟨j, rfl, hj, hkj⟩ := kget hi
        have hjA : j < Am.length := by omega
        obtain ⟨z, hz1, hFz, mz⟩ := hzi j hj
        obtain ⟨w1, w2, w3, w4⟩ := bits3 _ mz
        obtain ⟨as, hlo4, hal4, _⟩ := id hP4
        refine ⟨_, rfl, _, rfl, _, rfl, lb, _, _, _, rfl, rfl, SqL.of (e4 _ _ hzb), atI_nat hz1, t3, z, _, _, _, _, rfl, hT3, e4 _ _ hFz, fr_pos W0, w2, (show Bn 4005 _ from Nat.lt_of_le_of_lt c1 bT).le (by decide), (show Bn 4000 _ from Nat.lt_of_le_of_lt c2 bW).le (by decide), w3.le (by decide), w4.le (by decide), fun t5 H5 ht5 e5 h5 => ?_⟩
        have h5 : Fr H5 t5 (frM (fr (pick Am ks).sum W) ((ts.map (widP u b)).getD j (0, 1))).1 (frM (fr (pick Am ks).sum W) ((ts.map (widP u b)).getD j (0, 1))).2 := h5
        have hM : Fb 4105 (frM (fr (pick Am ks).sum W) ((ts.map (widP u b)).getD j (0, 1))) := frM_bits (n := 4005) (p := ((ts.map (widP u b)).getD j (0, 1)).1) (q := ((ts.map (widP u b)).getD j (0, 1)).2) ⟨fr_pos W0, Nat.lt_of_le_of_lt c1 bT, (show Bn 4000 _ from Nat.lt_of_le_of_lt c2 bW).le (by decide)⟩ w2 w3 w4
        obtain ⟨m1, m2, m3⟩ := hM
        have hT45 := e5 _ _ hT4
        refine ⟨_, rfl, t4, _, _, _, rfl, rfl, SqT.of hT45, rfl, _, rfl, t4, _, _, _, rfl, rfl, SqT.of hT45, rfl, two, fun t6 ht6 => ?_⟩
        have e6 := Evl.Ex.new (o := .tup [.int (fr (pick (ts.map (wid u b)) ks).sum b).2, .int (fr (pick (ts.map (wid u b)) ks).sum b).1]) ht6
        refine ⟨t5, t6, _, _, _, _, rfl, e6 _ _ h5, upd_same, m1, by rw [s2]; exact fr_pos T0, m2.le (by decide), m3.le (by decide), by rw [s1]; exact (show Bn 50 _ from Nat.lt_of_le_of_lt c3 bb).le (by decide), by rw [s2]; exact (show Bn 65 _ from Nat.lt_of_le_of_lt c4 bS).le (by decide), fun t7 H7 ht7 e7 h7 => ?_⟩
        have e47 := (e5.trans e6).trans e7
        have h7 : Fr H7 t7 (frM (frM (fr (pick Am ks).sum W) ((ts.map (widP u b)).getD j (0, 1))) ((fr (pick (ts.map (wid u b)) ks).sum b).2, (fr (pick (ts.map (wid u b)) ks).sum b).1)).1 (frM (frM (fr (pick Am ks).sum W) ((ts.map (widP u b)).getD j (0, 1))) ((fr (pick (ts.map (wid u b)) ks).sum b).2, (fr (pick (ts.map (wid u b)) ks).sum b).1)).2 := h7
        have ev : frM (frM (fr (pick Am ks).sum W) ((ts.map (widP u b)).getD j (0, 1))) ((fr (pick (ts.map (wid u b)) ks).sum b).2, (fr (pick (ts.map (wid u b)) ks).sum b).1) = fr ((pick Am ks).sum * (ts.map (wid u b)).getD j 0) (W * (pick (ts.map (wid u b)) ks).sum) := by
          rw [wfr j hj, fr_swap, frM_fr W0 b0, frM_fr (Int.mul_pos W0 b0) T0, ← fr_sc (a := (pick Am ks).sum * (ts.map (wid u b)).getD j 0) (b := W * (pick (ts.map (wid u b)) ks).sum) (k := b) WT b0]
          congr 1
          grind
        rw [ev] at h7
        have hlo7 := e47 _ _ hlo4
        refine ⟨_, rfl, _, rfl, lo, _, _, j, rfl, rfl, hlo7, Evl.ixN_nat (by rw [List.length_map, hal4, mlen]; exact hjA), ?_⟩
        have hP7 := pr_set (j := j) (hP4.ex e47) hlo7 h7 (by rw [mlen]; exact hjA)
        have nlo : ∀ {t : Addr} {ws : List V}, H4 t = some (.tup ws) → t ≠ lo := fun ht z => by rw [z, hlo4] at ht; cases ht
        refine ⟨_, rfl, Evl.Ex.mut (e4.trans e47) hlo, Eq.trans (upd_ne (nlo hT3)) (e47 _ _ hT3), Eq.trans (upd_ne (nlo hT4)) (e47 _ _ hT4), ?_⟩
        have em : (mixA Am (ts.map (wid u b)) ks W i).set j (fr ((pick Am ks).sum * (ts.map (wid u b)).getD j 0) (W * (pick (ts.map (wid u b)) ks).sum)) = mixA Am (ts.map (wid u b)) ks W (i + 1) := list_ext (n := Am.length) (by rw [List.length_set, mlen]) (mlen _) fun m hm => by
          rw [getD_set (by rw [mlen]; exact hjA), mget i m hm, mget (i + 1) m hm, List.take_add_one, hkj]
          by_cases c : m = j
          · rw [if_pos c, if_pos (by rw [c]; exact List.mem_append_right _ (List.mem_singleton.mpr rfl)), c]
          · rw [if_neg c]
            by_cases c2 : ((m : Nat) : Int) ∈ ks.take i
            · rw [if_pos c2, if_pos (List.mem_append_left _ c2)]
            · rw [if_neg c2, if_neg (fun q => by
                rcases List.mem_append.mp q with q | q
                · exact c2 q
                · have q := List.mem_singleton.mp q
                  omega)]
        rw [← em]
        exact hP7
      rintro σ H4 ⟨v5, rfl, e4, _, _, hP4⟩
      rw [iV_len, mE] at hP4
      refine ⟨_, rfl, dd, _, _, _, rfl, rfl, SqT.of (e4 _ _ hd), rfl, two, fun tq htq => ⟨tq, _, rfl, .inr (SqT.of upd_same), rfl, rfl, _, rfl, if_f (by decide) ?_⟩⟩
      exact ⟨_, rfl, k lo _ hlo (e4.trans (Evl.Ex.new htq)) ((show PrAt H4 lo (Bh (stepA (ts.map (wid u b)) (Am, W) (.op ks)).1 (stepA (ts.map (wid u b)) (Am, W) (.op ks)).2) from hP4).ex (Evl.Ex.new htq))⟩
    | po k' a =>
      have hd : H dd = some (.tup [.str "pour", .int k', .int a]) := hda
      obtain ⟨⟨k0, k1⟩, a0⟩ := id hok
      have a1 := hpo k' a rfl
      obtain ⟨j, rfl⟩ : ∃ j : Nat, k' = (j : Int) := ⟨k'.toNat, by omega⟩
      have hj : j < Am.length := by omega
      obtain ⟨x, hx, hFx, mx⟩ := hxi j hj
      obtain ⟨f1, f2, f3⟩ := bits _ mx
      refine ⟨_, rfl, dd, _, _, _, rfl, rfl, SqT.of (e1 _ _ hd), rfl, rfl, _, rfl, if_t (by decide) ?_⟩
      refine ⟨_, rfl, _, rfl, dd, _, _, _, rfl, rfl, SqT.of (e1 _ _ hd), rfl, lo, _, _, _, rfl, rfl, SqL.of hlo1, atI_nat hx, _, rfl, dd, _, _, _, rfl, rfl, SqT.of (e1 _ _ hd), rfl, two, fun t1 ht1 => ?_⟩
      have e2 := Evl.Ex.new (o := .tup [.int a, .int 1]) ht1
      refine ⟨x, t1, _, _, _, _, rfl, (e1.trans e2) _ _ hFx, upd_same, f1, by decide, f2.le (by decide), f3.le (by decide), Nat.lt_of_le_of_lt (show a.natAbs ≤ 1000 by omega) (Nat.lt_of_lt_of_le (show 1000 < 2 ^ 10 by decide) (Nat.pow_le_pow_right (by decide) (by decide))), Nat.lt_of_lt_of_le (show 1 < 2 ^ 10 by decide) (Nat.pow_le_pow_right (by decide) (by decide)), fun t2 H2 ht2 e3 h2 => ?_⟩
      have e23 := e2.trans e3
      have e12 := e1.trans e23
      refine ⟨_, rfl, _, rfl, dd, _, _, _, rfl, rfl, SqT.of (e12 _ _ hd), rfl, lo, _, _, j, rfl, rfl, e23 _ _ hlo1, Evl.ixN_nat (by omega), ?_⟩
      have hO2' := pr_set (j := j) (hO1.ex e23) (e23 _ _ hlo1) (f := frA ((Bh Am W).getD j (0, 1)) (a, 1)) h2 (by omega)
      have e13 := Evl.Ex.mut (o := .lst (xs.set j (.ref t2))) e12 hlo
      generalize upd H2 lo (.lst (xs.set j (.ref t2))) = H3 at hO2' e13
      have heq := owe_po (ws := ts.map (wid u b)) hAl W0 hok
      rw [Int.toNat_natCast] at heq
      rw [← heq] at hO2'
      refine ⟨_, rfl, dd, _, _, _, rfl, rfl, SqT.of (e13 _ _ hd), rfl, rfl, _, rfl, if_f (by decide) ?_⟩
      refine ⟨_, rfl, dd, _, _, _, rfl, rfl, SqT.of (e13 _ _ hd), rfl, two, fun tq htq => ⟨tq, _, rfl, .inr (SqT.of upd_same), rfl, rfl, _, rfl, if_f (by decide) ?_⟩⟩
      exact ⟨_, rfl, k lo _ hlo (e13.trans (Evl.Ex.new htq)) (hO2'.ex (Evl.Ex.new htq))⟩
    | un k' m =>
      have hd : H dd = some (.tup [.str "unless", .int k', .int m]) := hda
      refine ⟨_, rfl, dd, _, _, _, rfl, rfl, SqT.of (e1 _ _ hd), rfl, rfl, _, rfl, if_f (by decide) ?_⟩
      refine ⟨_, rfl, dd, _, _, _, rfl, rfl, SqT.of (e1 _ _ hd), rfl, rfl, _, rfl, if_f (by decide) ?_⟩
      refine ⟨_, rfl, dd, _, _, _, rfl, rfl, SqT.of (e1 _ _ hd), rfl, two, fun tq htq => ⟨tq, _, rfl, .inr (SqT.of upd_same), rfl, rfl, _, rfl, if_f (by decide) ?_⟩⟩
      exact ⟨_, rfl, k lo _ hlo (e1.trans (Evl.Ex.new htq)) ((show PrAt H1 lo (Bh (stepA (ts.map (wid u b)) (Am, W) (.un k' m)).1 (stepA (ts.map (wid u b)) (Am, W) (.un k' m)).2) from hO1).ex (Evl.Ex.new htq))⟩
    | sc k' p q =>
      obtain ⟨g, hd, hg⟩ := hda
      obtain ⟨⟨k0, k1⟩, p0, pq, hQp⟩ := id hok
      obtain ⟨q0, qc, bp, bq⟩ := id hQp
      obtain ⟨j, rfl⟩ : ∃ j : Nat, k' = (j : Int) := ⟨k'.toNat, by omega⟩
      have hj : j < Am.length := by omega
      obtain ⟨x, hx, hFx, mx⟩ := hxi j hj
      obtain ⟨f1, f2, f3⟩ := bits _ mx
      refine ⟨_, rfl, dd, _, _, _, rfl, rfl, SqT.of (e1 _ _ hd), rfl, rfl, _, rfl, if_f (by decide) ?_⟩
      refine ⟨_, rfl, dd, _, _, _, rfl, rfl, SqT.of (e1 _ _ hd), rfl, rfl, _, rfl, if_f (by decide) ?_⟩
      refine ⟨_, rfl, dd, _, _, _, rfl, rfl, SqT.of (e1 _ _ hd), rfl, two, fun tq htq => ⟨tq, _, rfl, .inr (SqT.of upd_same), rfl, rfl, _, rfl, if_t (by decide) ?_⟩⟩
      have eq := Evl.Ex.new (o := .tup [.str "scoop", .str "move"]) htq
      have e2 := e1.trans eq
      have hlo2 := eq _ _ hlo1
      have hO2 := hO1.ex eq
      generalize upd H1 tq (.tup [.str "scoop", .str "move"]) = H2 at eq e2 hlo2 hO2
      refine ⟨_, rfl, _, rfl, dd, _, _, _, rfl, rfl, SqT.of (e2 _ _ hd), rfl, lo, _, _, _, rfl, rfl, SqL.of hlo2, atI_nat hx, _, rfl, _, rfl, dd, _, _, _, rfl, rfl, SqT.of (e2 _ _ hd), rfl, x, g, _, _, p, q, rfl, e2 _ _ hFx, e2 _ _ hg, f1, q0, f2.le (by decide), f3.le (by decide), (show Bn 50 p from bp).le (by decide), (show Bn 50 q from bq).le (by decide), fun t1 H3 ht1 e3 h1 => ?_⟩
      have heq := owe_sc (ws := ts.map (wid u b)) hAl W0 hok
      rw [Int.toNat_natCast] at heq
      have e23 := e2.trans e3
      have h1 : H3 t1 = some (.tup [.int (frM ((Bh Am W).getD j (0, 1)) (p, q)).1, .int (frM ((Bh Am W).getD j (0, 1)) (p, q)).2]) := h1
      obtain ⟨o1, o2, o3⟩ : Fb 4100 (frM ((Bh Am W).getD j (0, 1)) (p, q)) := frM_bits (n := 4000) ⟨f1, f2, f3⟩ q0 bp bq
      generalize frM ((Bh Am W).getD j (0, 1)) (p, q) = o at *
      refine ⟨_, rfl, _, rfl, dd, _, _, _, rfl, rfl, SqT.of (e23 _ _ hd), rfl, lo, _, _, _, rfl, rfl, SqL.of (e3 _ _ hlo2), atI_nat hx, _, rfl, t1, _, _, _, rfl, rfl, SqT.of h1, rfl, _, _, rfl, rfl, _, rfl, t1, _, _, _, rfl, rfl, SqT.of h1, rfl, two, fun t2 ht2 => ?_⟩
      have e4 := Evl.Ex.new (o := .tup [.int (0 - o.1), .int o.2]) ht2
      have no : Bn 4100 (0 - o.1) := by
        have h : o.1.natAbs < 2 ^ 4100 := o2
        show (0 - o.1).natAbs < 2 ^ 4100
        rw [Int.zero_sub, Int.natAbs_neg]
        exact h
      refine ⟨x, t2, _, _, _, _, rfl, (e23.trans e4) _ _ hFx, upd_same, f1, o1, f2.le (by decide), f3.le (by decide), no.le (by decide), o3.le (by decide), fun t3 H4 ht3 e5 h3 => ?_⟩
      have e35 := e3.trans (e4.trans e5)
      have e25 := e2.trans e35
      refine ⟨_, rfl, _, rfl, dd, _, _, _, rfl, rfl, SqT.of (e25 _ _ hd), rfl, lo, _, _, j, rfl, rfl, e35 _ _ hlo2, Evl.ixN_nat (by omega), ?_⟩
      have hO5 := pr_set (j := j) (hO2.ex e35) (e35 _ _ hlo2) (f := frA ((Bh Am W).getD j (0, 1)) (0 - o.1, o.2)) h3 (by omega)
      have e05 := Evl.Ex.mut (o := .lst (xs.set j (.ref t3))) e25 hlo
      have hlo5 : upd H4 lo (.lst (xs.set j (.ref t3))) lo = some (.lst (xs.set j (.ref t3))) := upd_same
      have h15 : upd H4 lo (.lst (xs.set j (.ref t3))) t1 = some (.tup [.int o.1, .int o.2]) := Eq.trans (upd_ne (fun z => by have h9 := (e4.trans e5) _ _ h1; rw [z, e35 _ _ hlo2] at h9; cases h9)) ((e4.trans e5) _ _ h1)
      generalize upd H4 lo (.lst (xs.set j (.ref t3))) = H5 at hO5 e05 hlo5 h15
      refine ⟨_, rfl, dd, _, _, _, rfl, rfl, SqT.of (e05 _ _ hd), rfl, rfl, _, rfl, if_f (by decide) ?_⟩
      rw [← heq] at hO5
      exact ⟨_, rfl, k lo _ hlo (e05) (hO5)⟩
    | mv k' m p q =>
      obtain ⟨g, hd, hg⟩ := hda
      obtain ⟨⟨k0, k1⟩, ⟨m0, m1⟩, km, p0, pq, hQp⟩ := id hok
      obtain ⟨q0, qc, bp, bq⟩ := id hQp
      obtain ⟨i, rfl⟩ : ∃ j : Nat, m = (j : Int) := ⟨m.toNat, by omega⟩
      have hi : i < Am.length := by omega
      obtain ⟨y, hy, hFy, my⟩ := hxi i hi
      obtain ⟨g1, g2, g3⟩ := bits _ my
      obtain ⟨j, rfl⟩ : ∃ j : Nat, k' = (j : Int) := ⟨k'.toNat, by omega⟩
      have hj : j < Am.length := by omega
      obtain ⟨x, hx, hFx, mx⟩ := hxi j hj
      obtain ⟨f1, f2, f3⟩ := bits _ mx
      refine ⟨_, rfl, dd, _, _, _, rfl, rfl, SqT.of (e1 _ _ hd), rfl, rfl, _, rfl, if_f (by decide) ?_⟩
      refine ⟨_, rfl, dd, _, _, _, rfl, rfl, SqT.of (e1 _ _ hd), rfl, rfl, _, rfl, if_f (by decide) ?_⟩
      refine ⟨_, rfl, dd, _, _, _, rfl, rfl, SqT.of (e1 _ _ hd), rfl, two, fun tq htq => ⟨tq, _, rfl, .inr (SqT.of upd_same), rfl, rfl, _, rfl, if_t (by decide) ?_⟩⟩
      have eq := Evl.Ex.new (o := .tup [.str "scoop", .str "move"]) htq
      have e2 := e1.trans eq
      have hlo2 := eq _ _ hlo1
      have hO2 := hO1.ex eq
      generalize upd H1 tq (.tup [.str "scoop", .str "move"]) = H2 at eq e2 hlo2 hO2
      refine ⟨_, rfl, _, rfl, dd, _, _, _, rfl, rfl, SqT.of (e2 _ _ hd), rfl, lo, _, _, _, rfl, rfl, SqL.of hlo2, atI_nat hx, _, rfl, _, rfl, dd, _, _, _, rfl, rfl, SqT.of (e2 _ _ hd), rfl, x, g, _, _, p, q, rfl, e2 _ _ hFx, e2 _ _ hg, f1, q0, f2.le (by decide), f3.le (by decide), (show Bn 50 p from bp).le (by decide), (show Bn 50 q from bq).le (by decide), fun t1 H3 ht1 e3 h1 => ?_⟩
      have heq := owe_mv (ws := ts.map (wid u b)) hAl W0 hok
      rw [Int.toNat_natCast, Int.toNat_natCast] at heq
      have e23 := e2.trans e3
      have h1 : H3 t1 = some (.tup [.int (frM ((Bh Am W).getD j (0, 1)) (p, q)).1, .int (frM ((Bh Am W).getD j (0, 1)) (p, q)).2]) := h1
      obtain ⟨o1, o2, o3⟩ : Fb 4100 (frM ((Bh Am W).getD j (0, 1)) (p, q)) := frM_bits (n := 4000) ⟨f1, f2, f3⟩ q0 bp bq
      generalize frM ((Bh Am W).getD j (0, 1)) (p, q) = o at *
      refine ⟨_, rfl, _, rfl, dd, _, _, _, rfl, rfl, SqT.of (e23 _ _ hd), rfl, lo, _, _, _, rfl, rfl, SqL.of (e3 _ _ hlo2), atI_nat hx, _, rfl, t1, _, _, _, rfl, rfl, SqT.of h1, rfl, _, _, rfl, rfl, _, rfl, t1, _, _, _, rfl, rfl, SqT.of h1, rfl, two, fun t2 ht2 => ?_⟩
      have e4 := Evl.Ex.new (o := .tup [.int (0 - o.1), .int o.2]) ht2
      have no : Bn 4100 (0 - o.1) := by
        have h : o.1.natAbs < 2 ^ 4100 := o2
        show (0 - o.1).natAbs < 2 ^ 4100
        rw [Int.zero_sub, Int.natAbs_neg]
        exact h
      refine ⟨x, t2, _, _, _, _, rfl, (e23.trans e4) _ _ hFx, upd_same, f1, o1, f2.le (by decide), f3.le (by decide), no.le (by decide), o3.le (by decide), fun t3 H4 ht3 e5 h3 => ?_⟩
      have e35 := e3.trans (e4.trans e5)
      have e25 := e2.trans e35
      refine ⟨_, rfl, _, rfl, dd, _, _, _, rfl, rfl, SqT.of (e25 _ _ hd), rfl, lo, _, _, j, rfl, rfl, e35 _ _ hlo2, Evl.ixN_nat (by omega), ?_⟩
      have hO5 := pr_set (j := j) (hO2.ex e35) (e35 _ _ hlo2) (f := frA ((Bh Am W).getD j (0, 1)) (0 - o.1, o.2)) h3 (by omega)
      have e05 := Evl.Ex.mut (o := .lst (xs.set j (.ref t3))) e25 hlo
      have hlo5 : upd H4 lo (.lst (xs.set j (.ref t3))) lo = some (.lst (xs.set j (.ref t3))) := upd_same
      have h15 : upd H4 lo (.lst (xs.set j (.ref t3))) t1 = some (.tup [.int o.1, .int o.2]) := Eq.trans (upd_ne (fun z => by have h9 := (e4.trans e5) _ _ h1; rw [z, e35 _ _ hlo2] at h9; cases h9)) ((e4.trans e5) _ _ h1)
      generalize upd H4 lo (.lst (xs.set j (.ref t3))) = H5 at hO5 e05 hlo5 h15
      refine ⟨_, rfl, dd, _, _, _, rfl, rfl, SqT.of (e05 _ _ hd), rfl, rfl, _, rfl, if_t (by decide) ?_⟩
      have hy5 : (xs.set j (.ref t3))[i]? = some (.ref y) := by rw [List.getElem?_set_ne (by omega)]; exact hy
      refine ⟨_, rfl, _, rfl, dd, _, _, _, rfl, rfl, SqT.of (e05 _ _ hd), rfl, lo, _, _, _, rfl, rfl, SqL.of hlo5, atI_nat hy5, _, rfl, y, t1, _, _, _, _, rfl, e05 _ _ hFy, h15, g1, o1, g2.le (by decide), g3.le (by decide), o2.le (by decide), o3.le (by decide), fun t4 H6 ht4 e6 h4 => ?_⟩
      refine ⟨_, rfl, _, rfl, dd, _, _, _, rfl, rfl, SqT.of ((e05.trans e6) _ _ hd), rfl, lo, _, _, i, rfl, rfl, e6 _ _ hlo5, Evl.ixN_nat (by rw [List.length_set]; omega), ?_⟩
      have hO7 := pr_set (j := i) (hO5.ex e6) (e6 _ _ hlo5) (f := frA ((Bh Am W).getD i (0, 1)) o) h4 (by rw [List.length_set]; omega)
      rw [← heq] at hO7
      exact ⟨_, rfl, k lo _ hlo (Evl.Ex.mut (e05.trans e6) hlo) (hO7)⟩
end
end V2


namespace V2
open PySem L2
open PySem.Spec PyProof.Rows
/-! ## the lists within a thing, marked -/
mutual
/-- v is data; as: its lists, outer ones first -/
inductive TrD (H : Hp) : V → PyData → List Addr → Prop
  | non : TrD H .non .none []
  | bl (b : Bool) : TrD H (.bl b) (.bool b) []
  | int (i : Int) : TrD H (.int i) (.int i) []
  | str (x : Str) : TrD H (.str x) (.str x) []
  | lst {a : Addr} {xs : List V} {ds : List PyData} {as : List Addr} : H a = some (.lst xs) → TrA H xs ds as → TrD H (.ref a) (.list ds) (a :: as)
  | tup {a : Addr} {xs : List V} {ds : List PyData} {as : List Addr} : H a = some (.tup xs) → TrA H xs ds as → TrD H (.ref a) (.tuple ds) as
inductive TrA (H : Hp) : List V → List PyData → List Addr → Prop
  | nil : TrA H [] [] []
  | cons {v : V} {vs : List V} {d : PyData} {ds : List PyData} {as bs : List Addr} : TrD H v d as → TrA H vs ds bs → TrA H (v :: vs) (d :: ds) (as ++ bs)
end
mutual
theorem TrD.go {H H' : Hp} : ∀ {d : PyData} {v : V} {as : List Addr}, TrD H v d as → Evl.Ex H H' → TrD H' v d as
  | _, _, _, .non, _ => .non
  | _, _, _, .bl b, _ => .bl b
  | _, _, _, .int i, _ => .int i
  | _, _, _, .str x, _ => .str x
  | _, _, _, .lst h r, e => .lst (e _ _ h) (TrA.go r e)
  | _, _, _, .tup h r, e => .tup (e _ _ h) (TrA.go r e)
theorem TrA.go {H H' : Hp} : ∀ {ds : List PyData} {vs : List V} {as : List Addr}, TrA H vs ds as → Evl.Ex H H' → TrA H' vs ds as
  | _, _, _, .nil, _ => .nil
  | _, _, _, .cons a b, e => .cons (TrD.go a e) (TrA.go b e)
end
mutual
theorem TrD.dq {H : Hp} : ∀ {d : PyData} {v : V} {as : List Addr}, TrD H v d as → Dq H v d
  | _, _, _, .non => .non
  | _, _, _, .bl b => .bl b
  | _, _, _, .int i => .int i
  | _, _, _, .str x => .str x
  | _, _, _, .lst h r => .lst h (TrA.dq r)
  | _, _, _, .tup h r => .tup h (TrA.dq r)
theorem TrA.dq {H : Hp} : ∀ {ds : List PyData} {vs : List V} {as : List Addr}, TrA H vs ds as → DqAll H vs ds
  | _, _, _, .nil => .nil
  | _, _, _, .cons a b => .cons (TrD.dq a) (TrA.dq b)
end
mutual
/-- how many lists there are in data -/
def cntD : PyData → Nat
  | .list ds => 1 + cntA ds
  | .tuple ds => cntA ds
  | _ => 0
def cntA : List PyData → Nat
  | [] => 0
  | d :: ds => cntD d + cntA ds
end
mutual
/-- the data behind each of whose lists its rank was put, ranks from k on -/
def mkD : Nat → PyData → PyData
  | k, .list ds => .list (mkA (k + 1) ds ++ [.int (k : Int)])
  | k, .tuple ds => .tuple (mkA k ds)
  | _, d => d
def mkA : Nat → List PyData → List PyData
  | _, [] => []
  | k, d :: ds => mkD k d :: mkA (k + cntD d) ds
end
mutual
theorem TrD.cnt {H : Hp} : ∀ {d : PyData} {v : V} {as : List Addr}, TrD H v d as → as.length = cntD d
  | _, _, _, .non => rfl
  | _, _, _, .bl b => rfl
  | _, _, _, .int i => rfl
  | _, _, _, .str x => rfl
  | _, _, _, .lst h r => by
    have := TrA.cnt r
    simp only [cntD, List.length_cons]
    omega
  | _, _, _, .tup h r => by
    have := TrA.cnt r
    simpa only [cntD] using this
theorem TrA.cnt {H : Hp} : ∀ {ds : List PyData} {vs : List V} {as : List Addr}, TrA H vs ds as → as.length = cntA ds
  | _, _, _, .nil => rfl
  | _, _, _, .cons a b => by
    have h1 := TrD.cnt a
    have h2 := TrA.cnt b
    simp only [cntA, List.length_append]
    omega
end
mutual
theorem tr_mk {H H' : Hp} (ht : ∀ a xs, H a = some (.tup xs) → H' a = some (.tup xs)) : ∀ {d : PyData} {v : V} {as : List Addr} {k : Nat}, TrD H v d as → (∀ j a xs, as[j]? = some a → H a = some (.lst xs) → H' a = some (.lst (xs ++ [.int ((k + j : Nat) : Int)]))) → Dq H' v (mkD k d)
  | _, _, _, _, .non, _ => by simp only [mkD]; exact .non
  | _, _, _, _, .bl b, _ => by simp only [mkD]; exact .bl b
  | _, _, _, _, .int i, _ => by simp only [mkD]; exact .int i
  | _, _, _, _, .str x, _ => by simp only [mkD]; exact .str x
  | _, _, _, k, @TrD.lst _ a xs ds as h r, hl => by
    simp only [mkD]
    exact .lst (hl 0 a xs rfl h) (DqAll.snoc (tr_mkA ht r fun j b ys hj hb => by
      rw [hl (j + 1) b ys hj hb, show k + (j + 1) = k + 1 + j by omega]) (.int _))
  | _, _, _, k, @TrD.tup _ a xs ds as h r, hl => by
    simp only [mkD]
    exact .tup (ht _ _ h) (tr_mkA ht r hl)
theorem tr_mkA {H H' : Hp} (ht : ∀ a xs, H a = some (.tup xs) → H' a = some (.tup xs)) : ∀ {ds : List PyData} {vs : List V} {as : List Addr} {k : Nat}, TrA H vs ds as → (∀ j a xs, as[j]? = some a → H a = some (.lst xs) → H' a = some (.lst (xs ++ [.int ((k + j : Nat) : Int)]))) → DqAll H' vs (mkA k ds)
  | _, _, _, _, .nil, _ => by simp only [mkA]; exact .nil
  | _, _, _, k, @TrA.cons _ v vs d ds as bs a b, hl => by
    simp only [mkA]
    have hc := TrD.cnt a
    refine .cons (tr_mk ht a fun j q xs hj hq => hl j q xs (by rw [List.getElem?_append_left (List.getElem?_eq_some_iff.mp hj).1]; exact hj) hq) (tr_mkA ht b fun j q xs hj hq => ?_)
    have h1 := hl (as.length + j) q xs (by rw [List.getElem?_append_right (Nat.le_add_right _ _), Nat.add_sub_cancel_left]; exact hj) hq
    rw [h1, hc, show k + (cntD d + j) = k + cntD d + j by omega]
end
theorem TrA.get {H : Hp} : ∀ {ds : List PyData} {vs : List V} {as : List Addr}, TrA H vs ds as → ∃ bss : List (List Addr), bss.length = vs.length ∧ as = bss.flatten ∧ ∀ (i : Nat) (x : V), vs[i]? = some x → ∃ d bs, ds[i]? = some d ∧ bss[i]? = some bs ∧ TrD H x d bs
  | _, _, _, .nil => ⟨[], rfl, rfl, fun _ _ h => by cases h⟩
  | _, _, _, @TrA.cons _ v vs d ds as bs a b => by
    obtain ⟨bss, h1, h2, h3⟩ := TrA.get b
    refine ⟨as :: bss, by rw [List.length_cons, List.length_cons, h1], by rw [List.flatten_cons, h2], fun i x hx => ?_⟩
    cases i with
    | zero =>
      cases hx
      exact ⟨d, as, rfl, rfl, a⟩
    | succ i => exact h3 i x hx
theorem flat_take {bss : List (List Addr)} {i : Nat} {bs : List Addr} (h : bss[i]? = some bs) : (bss.take (i + 1)).flatten = (bss.take i).flatten ++ bs := by
  rw [List.take_add_one, h, List.flatten_append]
  simp
theorem flat_len (bss : List (List Addr)) (i : Nat) : (bss.take i).flatten.length ≤ bss.flatten.length := by
  conv => rhs; rw [← List.take_append_drop i bss, List.flatten_append, List.length_append]
  omega
theorem kA_of {K : PySem.W.Frag} {t : String} (h1 : kitB t "list" = some false) (h2 : kitB t "tuple" = some false) : PySem.W.kitAny K (.type t) [.type "list", .type "tuple"] = some false := kitAny_cons (b := false) (kit_ty h1) (fun _ => kitAny_cons (b := false) (kit_ty h2) (fun _ => kitAny_nil) (fun h => by cases h)) (fun h => by cases h)
theorem kA_lst {K : PySem.W.Frag} : PySem.W.kitAny K (.type "list") [.type "list", .type "tuple"] = some true := kitAny_cons (b := true) (kit_ty (by decide +kernel)) (fun h => by cases h) (fun _ => rfl)
theorem kA_tup {K : PySem.W.Frag} : PySem.W.kitAny K (.type "tuple") [.type "list", .type "tuple"] = some true := kitAny_cons (b := false) (kit_ty (by decide +kernel)) (fun _ => kitAny_cons (b := true) (kit_ty (by decide +kernel)) (fun h => by cases h) (fun _ => rfl)) (fun h => by cases h)
/-- the lists within data, n deep at most -/
def spLs (n : Nat) : Sp := fun vs H Q _ => ∃ (v : V) (d : PyData) (as : List Addr), vs = [v] ∧ TrD H v d as ∧ Cp n d ∧ as.length ≤ 1000 ∧ ∀ r H', H r = none → Evl.Ex H H' → H' r = some (.lst (as.map V.ref)) → Q (.ref r) H'
structure T8 (mg : Str → Option Value) : Prop where
  t5 : T5 mg
  rng : mg "range" = none
  len : mg "len" = none
  rep : mg "repr" = none
section
variable {base : Heap} {mg : Str → Option Value} {K : PySem.W.Frag} {w : World} {P : Program}
theorem ls_base {H : Hp} {v : V} {d : PyData} {as : List Addr} (h : TrD H v d as) (n : ∀ ds, d ≠ .list ds ∧ d ≠ .tuple ds) : as = [] ∧ ∃ t : String, kitB t "list" = some false ∧ kitB t "tuple" = some false ∧ ∀ H, TyX K H v (.type t) := by
  cases h with
  | non => exact ⟨rfl, _, by decide +kernel, by decide +kernel, fun H => .base .non⟩
  | bl b => exact ⟨rfl, _, by decide +kernel, by decide +kernel, fun H => .base (.bl b)⟩
  | int i => exact ⟨rfl, _, by decide +kernel, by decide +kernel, fun H => .base (.int i)⟩
  | str x => exact ⟨rfl, _, by decide +kernel, by decide +kernel, fun H => .base (.str x)⟩
  | lst h r => exact absurd rfl (n _).1
  | tup h r => exact absurd rfl (n _).2
theorem cp_cases {n : Nat} {d : PyData} (h : Cp (n + 1) d) : (∀ ds, d ≠ .list ds ∧ d ≠ .tuple ds) ∨ (∃ ds, d = .list ds ∧ ds.length ≤ 100 ∧ ∀ x ∈ ds, Cp n x) ∨ ∃ ds, d = .tuple ds ∧ ds.length ≤ 100 ∧ ∀ x ∈ ds, Cp n x := by
  cases h with
  | non => exact .inl fun ds => ⟨(fun z => nomatch z), (fun z => nomatch z)⟩
  | bl b => exact .inl fun ds => ⟨(fun z => nomatch z), (fun z => nomatch z)⟩
  | int i => exact .inl fun ds => ⟨(fun z => nomatch z), (fun z => nomatch z)⟩
  | str x => exact .inl fun ds => ⟨(fun z => nomatch z), (fun z => nomatch z)⟩
  | lst h1 h2 => exact .inr (.inl ⟨_, rfl, h1, h2⟩)
  | tup h1 h2 => exact .inr (.inr ⟨_, rfl, h1, h2⟩)
theorem ok_ls0 {f : Addr} {fd : FuncData} (F : Fun K "_law_pv_lists" "_law_pv_lists" s_l_lists f fd) (T : T8 mg) : FnOk P w K mg base CX0 1 f fd p_l_lists (spLs 0) := by
  refine F.ok sc_l_lists (fun vs H Q E h => ?_) (fun cdv A outer s H vs Q E hr h => ?_)
  · obtain ⟨v, d, as, rfl, _⟩ := h
    rfl
  · obtain ⟨v, d, as, rfl, ht, hc, hl, k⟩ := h
    have nd := sc_l_lists.nd
    obtain ⟨rfl, t, k1, k2, ty⟩ := ls_base (K := K) ht fun ds => ⟨fun z => (by subst z; cases hc), fun z => (by subst z; cases hc)⟩
    refine ⟨_, pss_cons (ps_set (i := 1) nd rfl (Or.inl rfl) (pe_lst pa_nil))
      (pss_cons (ps_if (pt_val (pe_callB call_isi (by rfl) T.t5.isi (by decide +kernel) (pa_cons (pv 0) (pa_cons (pe_bltn (v := .ty "list") (by rfl) T.t5.lst (by decide +kernel) rfl) pa_nil)))) (pss_one ps_never) pss_nil)
      (pss_cons (ps_if (pt_val (pe_callB call_isiT (by rfl) T.t5.isi (by decide +kernel) (pa_cons (pv 0) (pa_cons (pe_tup (pa_cons (pe_bltn (v := .ty "list") (by rfl) T.t5.lst (by decide +kernel) rfl) (pa_cons (pe_bltn (v := .ty "tuple") (by rfl) T.t5.tup (by decide +kernel) rfl) pa_nil))) pa_nil)))) (pss_one ps_never) pss_nil)
      (pss_one (ps_ret (pv 1))))), ?_⟩
    refine ⟨Nat.zero_le _, fun l hl => ⟨_, rfl, _, _, _, _, false, rfl, .ty "list", ty _, kit_ty k1, false, rfl, if_f rfl ?_⟩⟩
    refine ⟨_, rfl, (by show 2 ≤ sizeLine; decide), fun t ht => ⟨_, t, _, _, _, false, rfl, upd_same, .cons (.ty "list") (.cons (.ty "tuple") .nil), ty _, kA_of k1 k2, false, rfl, if_f rfl ?_⟩⟩
    exact ⟨_, rfl, k l _ hl ((Evl.Ex.new hl).trans (Evl.Ex.new ht)) (Evl.Ex.new ht _ _ upd_same)⟩
theorem ok_lsS {n k : Nat} {f : Addr} {fd : FuncData} (F : Fun K "_law_pv_lists" "_law_pv_lists" s_l_lists f fd) (T : T8 mg) (c0 : Cal P w K mg base k "_law_pv_lists" p_l_lists (spLs n)) : FnOk P w K mg base CX0 (k + 1) f fd p_l_lists (spLs (n + 1)) := by
  refine F.ok sc_l_lists (fun vs H Q E h => ?_) (fun cdv A outer s H vs Q E hr h => ?_)
  · obtain ⟨v, d, as, rfl, _⟩ := h
    rfl
  · obtain ⟨v, d, as, rfl, ht, hc, hl, kk⟩ := h
    have nd := sc_l_lists.nd
    have two : 2 ≤ sizeLine := by show 2 ≤ sizeLine; decide
    rcases cp_cases hc with nn | ⟨ds, rfl, hln, hcs⟩ | ⟨ds, rfl, hln, hcs⟩
    · obtain ⟨rfl, t, k1, k2, ty⟩ := ls_base (K := K) ht nn
      refine ⟨_, pss_cons (ps_set (i := 1) nd rfl (Or.inl rfl) (pe_lst pa_nil))
        (pss_cons (ps_if (pt_val (pe_callB call_isi (by rfl) T.t5.isi (by decide +kernel) (pa_cons (pv 0) (pa_cons (pe_bltn (v := .ty "list") (by rfl) T.t5.lst (by decide +kernel) rfl) pa_nil)))) (pss_one ps_never) pss_nil)
        (pss_cons (ps_if (pt_val (pe_callB call_isiT (by rfl) T.t5.isi (by decide +kernel) (pa_cons (pv 0) (pa_cons (pe_tup (pa_cons (pe_bltn (v := .ty "list") (by rfl) T.t5.lst (by decide +kernel) rfl) (pa_cons (pe_bltn (v := .ty "tuple") (by rfl) T.t5.tup (by decide +kernel) rfl) pa_nil))) pa_nil)))) (pss_one ps_never) pss_nil)
        (pss_one (ps_ret (pv 1))))), ?_⟩
      refine ⟨Nat.zero_le _, fun l hl => ⟨_, rfl, _, _, _, _, false, rfl, .ty "list", ty _, kit_ty k1, false, rfl, if_f rfl ?_⟩⟩
      refine ⟨_, rfl, two, fun t ht => ⟨_, t, _, _, _, false, rfl, upd_same, .cons (.ty "list") (.cons (.ty "tuple") .nil), ty _, kA_of k1 k2, false, rfl, if_f rfl ?_⟩⟩
      exact ⟨_, rfl, kk l _ hl ((Evl.Ex.new hl).trans (Evl.Ex.new ht)) (Evl.Ex.new ht _ _ upd_same)⟩
    · cases ht with
      | @lst a xs _ as hI hA =>
      obtain ⟨bss, b1, b2, b3⟩ := hA.get
      subst b2
      rw [List.length_cons] at hl
      refine ⟨_, pss_cons (ps_set (i := 1) nd rfl (Or.inl rfl) (pe_lst pa_nil))
        (pss_cons (ps_if (pt_val (pe_callB call_isi (by rfl) T.t5.isi (by decide +kernel) (pa_cons (pv 0) (pa_cons (pe_bltn (v := .ty "list") (by rfl) T.t5.lst (by decide +kernel) rfl) pa_nil))))
          (pss_one (ps_expr (pe_bm PySem.F.plainAttrs_list PySem.F.slot_list_append PySem.F.type_list_append mt_append (pv 1) (pa_cons (pv 0) pa_nil)))) pss_nil)
        (pss_cons (ps_if (pt_val (pe_callB call_isiT (by rfl) T.t5.isi (by decide +kernel) (pa_cons (pv 0) (pa_cons (pe_tup (pa_cons (pe_bltn (v := .ty "list") (by rfl) T.t5.lst (by decide +kernel) rfl) (pa_cons (pe_bltn (v := .ty "tuple") (by rfl) T.t5.tup (by decide +kernel) rfl) pa_nil))) pa_nil))))
          (pss_one (ps_for PassesOwn.never rfl (pi_list (pv 0)) (pg_name (i := 2) nd rfl (Or.inl rfl)) (pss_one (ps_set (i := 1) nd rfl (Or.inl rfl) (pe_op op_cat (pv 1) (pe_c c0 hr (pa_cons (pv 2) pa_nil))))))) pss_nil)
        (pss_one (ps_ret (pv 1))))), ?_⟩
      (refine ⟨Nat.zero_le _, fun l hl => ?_⟩)
      have e1 : Evl.Ex H (upd H l (.lst [])) := Evl.Ex.new hl
      refine ⟨_, rfl, _, _, _, _, true, rfl, .ty "list", .base (.lst (e1 _ _ hI)), kit_ty (by decide +kernel), true, rfl, if_t rfl ?_⟩
      refine ⟨_, rfl, .inl ⟨rfl, _, SqL.of upd_same⟩, _, rfl, l, _, _, rfl, rfl, upd_same, by show 0 < sizeLine; decide, ?_⟩
      rw [upd_upd]
      have e2 : Evl.Ex H (upd H l (.lst [.ref a])) := Evl.Ex.new hl
      refine ⟨_, rfl, two, fun t ht => ⟨_, t, _, _, _, true, rfl, upd_same, .cons (.ty "list") (.cons (.ty "tuple") .nil), .base (.lst (Evl.Ex.new ht _ _ (e2 _ _ hI))), kA_lst, true, rfl, if_t rfl ?_⟩⟩
      have e3 := e2.trans (Evl.Ex.new (o := .tup [.ty "list", .ty "tuple"]) ht)
      refine ⟨_, rfl, a, rfl, ⟨_, SqL.of (e3 _ _ hI)⟩, for_list (xs := xs) (fun i σ H' => Evl.Ex H H' ∧ ∃ q v, σ = [some (.ref a), some (.ref q), v] ∧ H q = none ∧ H' q = some (.lst ((a :: (bss.take i).flatten).map V.ref)))
        ⟨e3, l, none, rfl, hl, Evl.Ex.new ht _ _ upd_same⟩ (fun i σ H' _ q => SqL.of (q.1 _ _ hI)) ?_ ?_⟩
      · rintro i x σ H' hi ⟨e4, q, v, rfl, hq, hq2⟩
        obtain ⟨d, bs, g1, g2, g3⟩ := b3 i x hi
        have fl := flat_len bss (i + 1)
        rw [flat_take g2, List.length_append] at fl
        refine ⟨_, rfl, _, rfl, x, d, bs, rfl, g3.go e4, hcs d (List.mem_of_getElem? g1), by omega, fun z H2 hz2 e5 h5 => ⟨q, z, _, _, rfl, rfl, e5 _ _ hq2, h5, ?_, fun y hy => ?_⟩⟩
        · rw [List.length_map, List.length_map, List.length_cons]
          exact Nat.le_trans (show (bss.take i).flatten.length + 1 + bs.length ≤ 1001 by omega) (by decide)
        · refine ⟨(e4.trans e5).trans (Evl.Ex.new hy), y, _, rfl, Evl.fresh_back (e4.trans e5) hy, ?_⟩
          rw [upd_same, flat_take g2, ← List.map_append]; rfl
      · rintro σ H' ⟨e4, q, v, rfl, hq, hq2⟩
        rw [← b1, List.take_length] at hq2
        exact ⟨_, rfl, kk q H' hq e4 hq2⟩
    · cases ht with
      | @tup a xs _ as hI hA =>
      obtain ⟨bss, b1, b2, b3⟩ := hA.get
      subst b2
      refine ⟨_, pss_cons (ps_set (i := 1) nd rfl (Or.inl rfl) (pe_lst pa_nil))
        (pss_cons (ps_if (pt_val (pe_callB call_isi (by rfl) T.t5.isi (by decide +kernel) (pa_cons (pv 0) (pa_cons (pe_bltn (v := .ty "list") (by rfl) T.t5.lst (by decide +kernel) rfl) pa_nil)))) (pss_one ps_never) pss_nil)
        (pss_cons (ps_if (pt_val (pe_callB call_isiT (by rfl) T.t5.isi (by decide +kernel) (pa_cons (pv 0) (pa_cons (pe_tup (pa_cons (pe_bltn (v := .ty "list") (by rfl) T.t5.lst (by decide +kernel) rfl) (pa_cons (pe_bltn (v := .ty "tuple") (by rfl) T.t5.tup (by decide +kernel) rfl) pa_nil))) pa_nil))))
          (pss_one (ps_for PassesOwn.never rfl (pi_tup (pv 0)) (pg_name (i := 2) nd rfl (Or.inl rfl)) (pss_one (ps_set (i := 1) nd rfl (Or.inl rfl) (pe_op op_cat (pv 1) (pe_c c0 hr (pa_cons (pv 2) pa_nil))))))) pss_nil)
        (pss_one (ps_ret (pv 1))))), ?_⟩
      (refine ⟨Nat.zero_le _, fun l hl => ?_⟩)
      have e1 : Evl.Ex H (upd H l (.lst [])) := Evl.Ex.new hl
      refine ⟨_, rfl, _, _, _, _, false, rfl, .ty "list", .base (.tup (e1 _ _ hI)), kit_ty (by decide +kernel), false, rfl, if_f rfl ?_⟩
      refine ⟨_, rfl, two, fun t ht => ⟨_, t, _, _, _, true, rfl, upd_same, .cons (.ty "list") (.cons (.ty "tuple") .nil), .base (.tup (Evl.Ex.new ht _ _ (e1 _ _ hI))), kA_tup, true, rfl, if_t rfl ?_⟩⟩
      have e3 := e1.trans (Evl.Ex.new (o := .tup [.ty "list", .ty "tuple"]) ht)
      refine ⟨_, rfl, a, rfl, ⟨_, SqT.of (e3 _ _ hI)⟩, for_tup (xs := xs) (fun i σ H' => Evl.Ex H H' ∧ ∃ q v, σ = [some (.ref a), some (.ref q), v] ∧ H q = none ∧ H' q = some (.lst (((bss.take i).flatten).map V.ref)))
        ⟨e3, l, none, rfl, hl, Evl.Ex.new ht _ _ upd_same⟩ (fun i σ H' _ q => SqT.of (q.1 _ _ hI)) ?_ ?_⟩
      · rintro i x σ H' hi ⟨e4, q, v, rfl, hq, hq2⟩
        obtain ⟨d, bs, g1, g2, g3⟩ := b3 i x hi
        have fl := flat_len bss (i + 1)
        rw [flat_take g2, List.length_append] at fl
        refine ⟨_, rfl, _, rfl, x, d, bs, rfl, g3.go e4, hcs d (List.mem_of_getElem? g1), by omega, fun z H2 hz2 e5 h5 => ⟨q, z, _, _, rfl, rfl, e5 _ _ hq2, h5, ?_, fun y hy => ?_⟩⟩
        · rw [List.length_map, List.length_map]
          exact Nat.le_trans (show (bss.take i).flatten.length + bs.length ≤ 1001 by omega) (by decide)
        · refine ⟨(e4.trans e5).trans (Evl.Ex.new hy), y, _, rfl, Evl.fresh_back (e4.trans e5) hy, ?_⟩
          rw [upd_same, flat_take g2, ← List.map_append]
      · rintro σ H' ⟨e4, q, v, rfl, hq, hq2⟩
        rw [← b1, List.take_length] at hq2
        exact ⟨_, rfl, kk q H' hq e4 hq2⟩
end
end V2


namespace V2
open PySem L2
open PySem.Spec PyProof.Rows
mutual
theorem TrD.lists {H : Hp} : ∀ {d : PyData} {v : V} {as : List Addr}, TrD H v d as → ∀ {n : Nat}, Cp n d → ∀ a ∈ as, ∃ xs, H a = some (.lst xs) ∧ xs.length ≤ 100
  | _, _, _, .non, _, _, _, m => by cases m
  | _, _, _, .bl b, _, _, _, m => by cases m
  | _, _, _, .int i, _, _, _, m => by cases m
  | _, _, _, .str x, _, _, _, m => by cases m
  | _, _, _, @TrD.lst _ a xs ds as h r, _, c, b, m => by
    cases c with
    | lst hl hc =>
      rcases List.mem_cons.mp m with rfl | m
      · exact ⟨xs, h, by rw [r.dq.len]; exact hl⟩
      · exact TrA.lists r hc b m
  | _, _, _, @TrD.tup _ a xs ds as h r, _, c, b, m => by
    cases c with
    | tup hl hc => exact TrA.lists r hc b m
theorem TrA.lists {H : Hp} : ∀ {ds : List PyData} {vs : List V} {as : List Addr}, TrA H vs ds as → ∀ {n : Nat}, (∀ d ∈ ds, Cp n d) → ∀ a ∈ as, ∃ xs, H a = some (.lst xs) ∧ xs.length ≤ 100
  | _, _, _, .nil, _, _, _, m => by cases m
  | _, _, _, .cons a b, _, c, q, m => by
    rcases List.mem_append.mp m with m | m
    · exact TrD.lists a (c _ List.mem_cons_self) q m
    · exact TrA.lists b (fun d hd => c d (List.mem_cons_of_mem _ hd)) q m
end
mutual
theorem Dq.tr {H : Hp} : ∀ {d : PyData} {v : V}, Dq H v d → ∀ {n : Nat}, Cp n d → ∃ as, TrD H v d as
  | _, _, .non, _, _ => ⟨_, .non⟩
  | _, _, .bl b, _, _ => ⟨_, .bl b⟩
  | _, _, .int i, _, _ => ⟨_, .int i⟩
  | _, _, .str x, _, _ => ⟨_, .str x⟩
  | _, _, .lst h r, _, c => by
    cases c with
    | lst hl hc =>
      obtain ⟨as, t⟩ := DqAll.tr r hc
      exact ⟨_, .lst h t⟩
  | _, _, .tup h r, _, c => by
    cases c with
    | tup hl hc =>
      obtain ⟨as, t⟩ := DqAll.tr r hc
      exact ⟨_, .tup h t⟩
  | _, _, .dct h r, _, c => nomatch c
theorem DqAll.tr {H : Hp} : ∀ {ds : List PyData} {vs : List V}, DqAll H vs ds → ∀ {n : Nat}, (∀ d ∈ ds, Cp n d) → ∃ as, TrA H vs ds as
  | _, _, .nil, _, _ => ⟨_, .nil⟩
  | _, _, .cons a b, _, c => by
    obtain ⟨as, t⟩ := Dq.tr a (c _ List.mem_cons_self)
    obtain ⟨bs, u⟩ := DqAll.tr b fun d hd => c d (List.mem_cons_of_mem _ hd)
    exact ⟨_, .cons t u⟩
end
/-- what may be shown -/
def ShD (d : PyData) : Prop := d.showable = true ∧ d.depth ≤ 60 ∧ d.shown.length ≤ sizeLine
def spMk (n : Nat) : Sp := fun vs H Q _ => ∃ (v : V) (d : PyData) (as : List Addr), vs = [v] ∧ TrD H v d as ∧ Cp n d ∧ as.Nodup ∧ as.length ≤ 1000 ∧ ShD (mkD 0 d) ∧ ∀ H', ButL as H H' → Q (.str (mkD 0 d).shown) H'
def spRt (n : Nat) : Sp := fun vs H Q _ => ∃ (v u : V) (d : PyData) (as : List Addr), vs = [v, u] ∧ TrD H v d as ∧ Cp n d ∧ as.Nodup ∧ as.length ≤ 1000 ∧ Dq (woL as H) u d ∧ cntD d ≤ 1 ∧ ShD d ∧ ShD (mkD 0 d) ∧ ∀ H', ButL as H H' → Q (.bl true) H'
section
variable {base : Heap} {mg : Str → Option Value} {K : PySem.W.Frag} {w : World} {P : Program}
theorem ok_marked {n k : Nat} {f : Addr} {fd : FuncData} (F : Fun K "_law_pv_marked" "_law_pv_marked" s_l_marked f fd) (T : T8 mg) (cL : Cal P w K mg base k "_law_pv_lists" p_l_lists (spLs n)) : FnG P w K mg base (k + 1) f fd p_l_marked (spMk n) := by
  refine Fun.okG F sc_l_marked (fun vs H Q E h => ?_) (fun cdv A outer s H vs Q E hg hr h => ?_)
  · obtain ⟨v, d, as, rfl, _⟩ := h
    rfl
  · obtain ⟨v, d, as, rfl, hT, hC, hD, hl, ⟨w1, w2, w3⟩, kk⟩ := h
    have nd := sc_l_marked.nd
    refine ⟨_, pss_cons (ps_set (i := 1) nd rfl (Or.inl rfl) (pe_c cL hr (pa_cons (pv 0) pa_nil)))
      (pss_cons (ps_for PassesOwn.never rfl (pi_range1 (by rfl) T.rng (pa_cons (pe_callB call_len_seq (by rfl) T.len PySem.boot_len (pa_cons (pv 1) pa_nil)) pa_nil)) (pg_name (i := 2) nd rfl (Or.inl rfl))
        (pss_one (ps_expr (pe_bm PySem.F.plainAttrs_list PySem.F.slot_list_append PySem.F.type_list_append mt_append (pe_ix ix_list (pv 1) (pv 2) (fun _ _ => rfl)) (pa_cons (pv 2) pa_nil)))))
      (pss_one (ps_ret (pe_callB (call_showS hg hr.units) (by rfl) T.rep (by decide +kernel) (pa_cons (pv 0) pa_nil))))), ?_⟩
    refine ⟨_, rfl, v, d, as, rfl, hT, hC, hl, fun q H1 hq e1 h1 => ?_⟩
    have hls := hT.lists hC
    have qn : ∀ x ∈ as, x ≠ q := fun x hx e => by
      obtain ⟨xs, hxs, _⟩ := hls x hx
      rw [e, hq] at hxs
      cases hxs
    refine ⟨_, rfl, q, _, rfl, .inl (SqL.of h1), _, rfl, by omega, ?_, ?_⟩
    · rw [List.length_map]; omega
    rw [Int.toNat_natCast, List.length_map]
    refine for_range (n := as.length) (fun k σ H' => (∃ u, σ = [some v, some (.ref q), u]) ∧ ButL as H1 H' ∧ H' q = some (.lst (as.map V.ref)) ∧
      ∀ j x xs, as[j]? = some x → H x = some (.lst xs) → H' x = some (.lst (xs ++ if j < k then [.int (j : Int)] else []))) ⟨⟨_, rfl⟩, fun _ _ _ h => h, h1, fun j x xs hj hx => ?_⟩ ?_ ?_
    · rw [if_neg (Nat.not_lt_zero _), List.append_nil]
      exact e1 _ _ hx
    · rintro i σ H' hi ⟨⟨u, rfl⟩, g1, g2, g3⟩
      have hx := List.getElem?_eq_getElem hi
      obtain ⟨xs, hxs, hxl⟩ := hls _ (List.getElem_mem hi)
      have hx3 := g3 i _ xs hx hxs
      rw [if_neg (Nat.lt_irrefl _), List.append_nil] at hx3
      have nq := qn _ (List.getElem_mem hi)
      have e0 : (0 : Int) + (i : Int) = (i : Int) := (Int.zero_add _)
      refine ⟨_, rfl, _, rfl, q, _, _, .ref as[i], rfl, rfl, SqL.of g2, ?_, .inl ⟨rfl, _, SqL.of hx3⟩, _, rfl, _, _, _, rfl, rfl, hx3, ?_, ?_⟩
      · show atI _ ((0 : Int) + (i : Int)) = _
        rw [e0]
        refine atI_nat ?_
        rw [List.getElem?_map, hx]; rfl
      · exact Nat.lt_of_le_of_lt hxl (by decide)
      · refine ⟨⟨_, rfl⟩, fun b o hb h => ?_, ?_, fun j x ys hj hy => ?_⟩
        · rw [upd_ne (fun e => hb (by rw [e]; exact List.getElem_mem hi))]
          exact g1 b o hb h
        · rw [upd_ne nq.symm]; exact g2
        · by_cases e : j = i
          · subst e
            rw [hx] at hj
            cases hj
            rw [hxs] at hy
            cases hy
            rw [upd_same, if_pos (Nat.lt_succ_self _)]
            show some (HO.lst (xs ++ [.int ((0 : Int) + (j : Int))])) = _
            rw [e0]
          · have nx : x ≠ as[i] := by
              intro e2
              have hj2 : j < as.length := (List.getElem?_eq_some_iff.mp hj).1
              have ej : as[j] = x := (List.getElem?_eq_some_iff.mp hj).2
              have := (List.pairwise_iff_getElem.mp hD)
              rcases Nat.lt_or_gt_of_ne e with c | c
              · exact this j i hj2 hi c (by rw [ej, e2])
              · exact this i j hi hj2 c (by rw [ej, e2])
            rw [upd_ne nx, g3 j x ys hj hy]
            by_cases c : j < i
            · rw [if_pos c, if_pos (by omega)]
            · rw [if_neg c, if_neg (by omega)]
    · rintro σ H' ⟨⟨u, rfl⟩, g1, g2, g3⟩
      refine ⟨_, rfl, v, mkD 0 d, rfl, tr_mk (H := H) (H' := H') (fun a xs ha => g1 _ _ (fun m => ?_) (e1 _ _ ha)) hT (fun j a xs hj ha => ?_), w1, w2, w3, kk H' fun b o hb h => g1 b o hb (e1 b o h)⟩
      · obtain ⟨ys, hy, _⟩ := hls _ m
        rw [ha] at hy
        cases hy
      · rw [g3 j a xs hj ha, if_pos (List.getElem?_eq_some_iff.mp hj).1, Nat.zero_add]
theorem nodup1 {as : List Addr} (h : as.length ≤ 1) : as.Nodup := by
  match as, h with
  | [], _ => exact List.nodup_nil
  | [a], _ => exact List.nodup_cons.mpr ⟨List.not_mem_nil, List.nodup_nil⟩
theorem ok_right {n k m : Nat} {f : Addr} {fd : FuncData} (F : Fun K "_law_pv_right" "_law_pv_right" s_l_right f fd) (T : T8 mg) (cC : Cal P w K mg base k "_law_pv_copied" p_l_copied (spCp n)) (hkm : k ≤ m) (cM : CalG P w K mg base m "_law_pv_marked" p_l_marked (spMk n)) : FnG P w K mg base (m + 1) f fd p_l_right (spRt n) := by
  refine Fun.okG F sc_l_right (fun vs H Q E h => ?_) (fun cdv A outer s H vs Q E hg hr h => ?_)
  · obtain ⟨v, u, d, as, rfl, _⟩ := h
    rfl
  · obtain ⟨v, u, d, as, rfl, hT, hC, hD, hl, hU, h1, ⟨t1, t2, t3⟩, hM, kk⟩ := h
    have hmk : Room k _ := hr.mono hkm
    refine ⟨_, pss_cons (ps_if (pt_cmpR op_ne (pe_callB (call_showS hg hr.units) (by rfl) T.rep (by decide +kernel) (pa_cons (pv 0) pa_nil)) (pe_callB (call_showS hg hr.units) (by rfl) T.rep (by decide +kernel) (pa_cons (pv 1) pa_nil)) (nomark _)) (pss_one (ps_ret pe_bl)) pss_nil)
      (pss_one (ps_ret (pe_cmpR op_eq (pe_cg cM hg hr (pa_cons (pv 0) pa_nil)) (pe_cg cM hg hr (pa_cons (pe_c cC hmk (pa_cons (pv 1) pa_nil)) pa_nil)) (nomark _)))), ?_⟩
    refine ⟨_, rfl, v, d, rfl, hT.dq, t1, t2, t3, _, rfl, u, d, rfl, hU.go woL_ex, t1, t2, t3, rfl, _, rfl, ?_⟩
    refine if_f (by simp) ?_
    refine ⟨_, rfl, v, d, as, rfl, hT, hC, hD, hl, hM, fun H1 o1 => ?_⟩
    have hU1 : Dq H1 u d := hU.go fun b o z => o1 b o (woL_ne z) (woL_ex _ _ z)
    refine ⟨_, rfl, u, d, rfl, hU1, hC, fun v' H2 e2 hv' => ?_⟩
    obtain ⟨bs, hB⟩ := hv'.tr hC
    have hbl := hB.cnt
    refine ⟨v', d, bs, rfl, hB.go Nw.ex, hC, nodup1 (by omega), by omega, hM, fun H3 o3 => ⟨rfl, ?_⟩⟩
    show Q (.bl (decide (V.str (mkD 0 d).shown = V.str (mkD 0 d).shown))) H3
    rw [decide_eq_true rfl]
    refine kk H3 fun b o hb h => o3 b o (fun hm => ?_) (e2 b o (o1 b o hb h))
    obtain ⟨xs, hx, _⟩ := hB.lists hC b hm
    have h5 := o1 b o hb h
    rw [nw_none hx] at h5
    cases h5
end
end V2


namespace V2
open PySem L2
open PySem.Spec PyProof.Rows
/-- the law's state: waters, index, steps done -/
def StAt (H : Hp) (q : Addr) (ds : List Deed) (A : List Int) (W : Int) (v : V) : Prop := ∃ D L, H q = some (.tup [.ref D, v, .ref L]) ∧ PrAt H D (Bh A W) ∧ DsAt H L ds
theorem StAt.ex {H H' : Hp} {q : Addr} {ds : List Deed} {A : List Int} {W : Int} {v : V} (h : StAt H q ds A W v) (e : Evl.Ex H H') : StAt H' q ds A W v := by
  obtain ⟨D, L, h1, h2, h3⟩ := h
  exact ⟨D, L, e _ _ h1, h2.ex e, h3.ex e⟩
/-- objects that are no tuples -/
def Nt (ps : List Addr) (H : Hp) : Prop := ∀ p ∈ ps, (∃ o, H p = some o) ∧ ∀ xs, H p ≠ some (.tup xs)
theorem Nt.ex {ps : List Addr} {H H' : Hp} (h : Nt ps H) (e : Evl.Ex H H') : Nt ps H' := fun p hp => by
  obtain ⟨⟨o, h1⟩, h2⟩ := h p hp
  refine ⟨⟨o, e _ _ h1⟩, fun xs z => h2 xs ?_⟩
  rw [e _ _ h1] at z
  rw [h1, z]
theorem Nt.new {ps : List Addr} {H H' : Hp} {p : Addr} (h : Nt ps H) (e : Evl.Ex H H') (n : H' p = none) : p ∉ ps := fun hp => by
  obtain ⟨⟨o, h1⟩, _⟩ := h p hp
  rw [e _ _ h1] at n
  cases n
theorem Nt.tup {ps : List Addr} {H : Hp} {p : Addr} {xs : List V} (h : Nt ps H) (z : H p = some (.tup xs)) : p ∉ ps := fun hp => (h p hp).2 xs z
theorem prat_wo {ps : List Addr} {H : Hp} {D : Addr} {fs : List (Int × Int)} (h : PrAt H D fs) (n : D ∉ ps) (t : Nt ps H) : PrAt (woL ps H) D fs := by
  obtain ⟨as, h1, h2, h3⟩ := h
  exact ⟨as, woL_at n h1, h2, fun i a f x y => woL_at (t.tup (h3 i a f x y)) (h3 i a f x y)⟩
theorem woL_go {ps : List Addr} {H H' : Hp} (e : Evl.Ex H H') : Evl.Ex (woL ps H) (woL ps H') := fun b o z => woL_at (woL_ne z) (e _ _ (woL_ex _ _ z))
def spBeg : Sp := fun vs H Q _ => ∃ (l : Addr) (ts : List Tk) (ps : List Addr), vs = [.ref l] ∧ TksAt H l ts ∧ ts.length ≤ 20 ∧ Nt ps H ∧ ∀ q H', Evl.Ex H H' → StAt (woL ps H') q [] (ts.map (·.2)) 1 .non → Q (.ref q) H'
def spGone : Sp := fun vs H Q _ => ∃ (lb q dd : Addr) (d : Deed) (ts : List Tk) (ds : List Deed) (A : List Int) (W u b : Int) (v : V) (ps : List Addr), vs = [.ref lb, .ref q, .ref dd] ∧ PrAt H lb (ts.map (widP u b)) ∧ StAt (woL ps H) q ds A W v ∧ Nt ps H ∧ DAt (woL ps H) dd d ∧ okD ts.length d ∧ A.length = ts.length ∧ ts.length ≤ 20 ∧ ds.length ≤ 100 ∧ OkW 4000 A W ∧ (∀ k a, d = .po k a → a ≤ 1000) ∧ OkV ts.length (ts.map (wid u b)) ∧ Qn u b ∧ 0 < u ∧ (∀ t ∈ ts, ∀ z, t.1 = some z → 1 ≤ z ∧ z ≤ 1000) ∧
  ∀ q' H', Evl.Ex H H' → StAt (woL ps H') q' (ds ++ [d]) (stepA (ts.map (wid u b)) (A, W) d).1 (stepA (ts.map (wid u b)) (A, W) d).2 (if endB (ts.map (wid u b)) A d = true then .int ds.length else .non) → Q (.ref q') H'
theorem end_un {ws : List Int} {A : List Int} {d : Deed} (h : endB ws A d = true) (W : Int) : stepA ws (A, W) d = (A, W) := by
  cases d with
  | un k m => rfl
  | op ks => cases h
  | po k a => cases h
  | sc k p q => cases h
  | mv k m p q => cases h
theorem ds_snoc {H : Hp} {as : List Addr} {ds : List Deed} {a : Addr} {d : Deed} (hl : as.length = ds.length) (h : ∀ (i : Nat) (a : Addr) (d : Deed), as[i]? = some a → ds[i]? = some d → DAt H a d) (ha : DAt H a d) : ∀ (i : Nat) (b : Addr) (e : Deed), (as ++ [a])[i]? = some b → (ds ++ [d])[i]? = some e → DAt H b e :=
  ds_app hl h fun i b e h1 h2 => by
    match i, h1, h2 with
    | 0, h1, h2 =>
      cases h1
      cases h2
      exact ha
    | i + 1, h1, h2 => cases h1
section
variable {base : Heap} {mg : Str → Option Value} {K : PySem.W.Frag} {w : World} {P : Program}
theorem ok_begun {f : Addr} {fd : FuncData} (F : Fun K "_law_pv_begun" "_law_pv_begun" s_l_begun f fd) : FnOk P w K mg base CX0 1 f fd p_l_begun spBeg := by
  refine F.ok sc_l_begun (fun vs H Q E h => ?_) (fun cdv A outer s H vs Q E hr h => ?_)
  · obtain ⟨l, ts, ps, rfl, _⟩ := h
    rfl
  · obtain ⟨l, ts, ps, rfl, hT, h20, hN, k⟩ := h
    have nd := sc_l_begun.nd
    have two : 2 ≤ sizeLine := by show 2 ≤ sizeLine; decide
    have three : 3 ≤ sizeLine := by show 3 ≤ sizeLine; decide
    refine ⟨_, pss_one (ps_ret (pe_tup (pa_cons (pe_lc (own := [("vessel", 1)]) (g := (gName 1)) (tt := tYes) (te := (tTup (tCons (tOp (rIxT K) (tVar 1) (tC (.int 1))) (tCons (tC (.int 1)) tNil)))) rfl nd (pi_list (pv 0)) (blkOk_by (N := n_l_begun) (sc := defScope s_l_begun) (by decide +kernel)) (fun _ _ _ _ _ => (pg_name (i := 1) nd rfl (Or.inl rfl))) (fun _ _ _ _ _ => pts_nil) (fun _ _ _ _ _ => (pe_tup (pa_cons (pe_ix ix_tup (pv 1) pe_int (fun _ _ => rfl)) (pa_cons pe_int pa_nil))))) (pa_cons pe_non (pa_cons (pe_lst pa_nil) pa_nil))))), ?_⟩
    obtain ⟨xs, hl, hlen, hx⟩ := tks_get hT
    refine ⟨_, rfl, l, rfl, ⟨_, SqL.of hl⟩, fun D hD => lc_list (xs := xs) (fun i H' => Evl.Ex H H' ∧ PrN H' D ((Bh (ts.map (·.2)) 1).take i)) ⟨Evl.Ex.new hD, PrN.start upd_same⟩ (fun i H' _ q => SqL.of (q.1 _ _ hl)) ?_ ?_⟩
    · rintro i v H2 hi ⟨e2, hPN⟩
      obtain ⟨a, t, rfl, ht, ha⟩ := hx i v hi
      have hm : (Bh (ts.map (·.2)) 1).take (i + 1) = (Bh (ts.map (·.2)) 1).take i ++ [(t.2, 1)] := by
        unfold Bh
        rw [List.take_add_one, List.getElem?_map, List.getElem?_map, ht]
        show _ ++ [fr t.2 1] = _
        rw [fr_1]
      have hl1 : ((Bh (ts.map (·.2)) 1).take i).length ≤ 1000 := by
        unfold Bh
        rw [List.length_take, List.length_map, List.length_map]
        omega
      rw [hm]
      refine ⟨rfl, ?_⟩
      unfold tYes
      refine if_t rfl ?_
      have ha2 := e2 _ _ ha
      refine ⟨_, rfl, a, _, _, _, rfl, rfl, SqT.of ha2, rfl, two, fun t2 ht2 => ?_⟩
      have e3 := Evl.Ex.new (o := .tup [.int t.2, .int 1]) ht2
      obtain ⟨acc, q1, q2, _, q3⟩ := hPN.more e3 (f := (t.2, 1)) (t := t2) upd_same hl1
      exact ⟨acc, q1, q2, Evl.Ex.mut (e2.trans e3) hD, q3⟩
    · rintro H2 ⟨e2, hPN⟩
      rw [hlen, show ts.length = (Bh (ts.map (·.2)) 1).length by unfold Bh; rw [List.length_map, List.length_map], List.take_length] at hPN
      refine ⟨Nat.zero_le _, fun L hL => ⟨three, fun q hq => ?_⟩⟩
      have e3 := Evl.Ex.new (o := .lst []) hL
      have e4 := Evl.Ex.new (o := .tup [.ref D, .non, .ref L]) hq
      have e24 := e3.trans e4
      exact k q _ (e2.trans e24) ⟨D, L, woL_at (hN.new (e2.trans e3) hq) upd_same, prat_wo ((hPN.done.ex e3).ex e4) (hN.new (Evl.Ex.refl _) hD) (hN.ex (e2.trans e24)), [], woL_at (hN.new e2 hL) (e4 _ _ upd_same), rfl, fun i a d h => by cases h⟩
theorem ok_gone {f : Addr} {fd : FuncData} (F : Fun K "_law_pv_gone" "_law_pv_gone" s_l_gone f fd) (mL : mg "len" = none) (cO : Cal P w K mg base 4 "_law_pv_over" p_l_over spOver) (cA : Cal P w K mg base 4 "_law_pv_after" p_l_after spAftL) : FnOk P w K mg base CX0 5 f fd p_l_gone spGone := by
  refine F.ok sc_l_gone (fun vs H Q E h => ?_) (fun cdv A outer s H vs Q E hr h => ?_)
  · obtain ⟨lb, q, dd, d, ts, ds, A, W, u, b, v, ps, rfl, _⟩ := h
    rfl
  · obtain ⟨lb, q, dd, d, ts, ds, Am, W, u, b, v, ps, rfl, hb, ⟨D, L, hqw, hDw, hLw⟩, hNt, hdw, hok, hAl, h20, hn, hO, hpo, hV, hQ, hu, hz, k⟩ := h
    have nd := sc_l_gone.nd
    have r4 := hr
    have one : 1 ≤ sizeLine := by show 1 ≤ sizeLine; decide
    have three : 3 ≤ sizeLine := by show 3 ≤ sizeLine; decide
    refine ⟨_, pss_cons (ps_asg (pv 1) (pg_tup rfl (pgs_cons (pg_name (i := 3) nd rfl (Or.inl rfl)) (pgs_cons (pg_name (i := 4) nd rfl (Or.inl rfl)) (pgs_cons (pg_name (i := 5) nd rfl (Or.inl rfl)) pgs_nil)))))
      (pss_cons (ps_if (pt_val (pe_c cO r4 (pa_cons (pv 0) (pa_cons (pv 3) (pa_cons (pv 2) pa_nil))))) (pss_one (ps_ret (pe_tup (pa_cons (pv 3) (pa_cons (pe_callB call_len_seq (by rfl) mL PySem.boot_len (pa_cons (pv 5) pa_nil)) (pa_cons (pe_op op_cat (pv 5) (pe_lst (pa_cons (pv 2) pa_nil))) pa_nil)))))) pss_nil)
      (pss_one (ps_ret (pe_tup (pa_cons (pe_c cA r4 (pa_cons (pv 0) (pa_cons (pv 3) (pa_cons (pv 2) pa_nil)))) (pa_cons pe_non (pa_cons (pe_op op_cat (pv 5) (pe_lst (pa_cons (pv 2) pa_nil))) pa_nil))))))), ?_⟩
    have hq := woL_ex _ _ hqw
    have hD := hDw.ex woL_ex
    have hd := hdw.ex woL_ex
    obtain ⟨as, hLaw, hLl, hLd⟩ := id hLw
    have hLa := woL_ex _ _ hLaw
    refine ⟨_, rfl, q, _, rfl, SqT.of hq, rfl, _, _, rfl, _, _, rfl, _, _, rfl, rfl, ?_⟩
    refine ⟨_, rfl, _, rfl, _, rfl, lb, D, dd, d, ts, Am, W, u, b, 4000, rfl, hb, hD, hd, hok, hAl, h20, hO, by decide, hV, hQ, hu, hz, fun H1 e1 => ?_⟩
    have big : (as.map V.ref).length + 1 ≤ sizeLine := by
      rw [List.length_map]
      exact Nat.le_trans (show as.length + 1 ≤ 101 by omega) (by decide)
    have fin : ∀ {H2 : Hp} {r D' : Addr} {v' : V} {q' : Addr} {A' : List Int} {W' : Int}, Evl.Ex H H2 → PrAt (woL ps H2) D' (Bh A' W') → r ∉ ps → H2 r = some (.lst (as.map V.ref ++ [V.ref dd])) → q' ∉ ps → H2 q' = some (.tup [.ref D', v', .ref r]) → StAt (woL ps H2) q' (ds ++ [d]) A' W' v' := fun {H2} {r} {D'} {v'} {q'} {A'} {W'} e hP nr hr nq hq => ⟨D', r, woL_at nq hq, hP, as ++ [dd], by rw [woL_at nr hr, List.map_append]; rfl, by rw [List.length_append, List.length_append, hLl]; rfl, fun i a x h1 h2 => (ds_snoc hLl hLd hdw i a x h1 h2).ex (woL_go e)⟩
    cases he : endB (ts.map (wid u b)) Am d with
    | true =>
      rw [he, end_un he] at k
      refine ⟨_, rfl, if_t rfl ?_⟩
      refine ⟨_, rfl, _, rfl, L, _, rfl, .inl (SqL.of (e1 _ _ hLa)), _, rfl, _, rfl, one, fun r1 hr1 => ?_⟩
      have e2 := Evl.Ex.new (o := .lst [V.ref dd]) hr1
      refine ⟨L, r1, _, _, rfl, rfl, e2 _ _ (e1 _ _ hLa), upd_same, big, fun r2 hr2 => ?_⟩
      have e3 := Evl.Ex.new (o := .lst (as.map V.ref ++ [V.ref dd])) hr2
      refine ⟨three, fun q' hq' => ?_⟩
      have e4 := Evl.Ex.new (o := .tup [.ref D, .int ((as.map V.ref).length : Nat), .ref r2]) hq'
      have e04 := ((e1.trans e2).trans e3).trans e4
      refine k q' _ e04 (fin e04 (hDw.ex (woL_go e04)) (hNt.new (e1.trans e2) hr2) (e4 _ _ upd_same) (hNt.new ((e1.trans e2).trans e3) hq') ?_)
      rw [upd_same, List.length_map, hLl]
      rfl
    | false =>
      rw [he] at k
      refine ⟨_, rfl, if_f rfl ?_⟩
      refine ⟨_, rfl, _, rfl, _, rfl, lb, D, dd, d, ts, Am, W, u, b, rfl, hb.ex e1, hD.ex e1, hd.ex e1, hok, hAl, h20, hO, hpo, hV, hQ, hu, hz, fun D2 H2 hD2 e2 hP2 => ?_⟩
      refine ⟨_, rfl, _, rfl, one, fun r1 hr1 => ?_⟩
      have e3 := Evl.Ex.new (o := .lst [V.ref dd]) hr1
      refine ⟨L, r1, _, _, rfl, rfl, e3 _ _ (e2 _ _ (e1 _ _ hLa)), upd_same, big, fun r2 hr2 => ?_⟩
      have e4 := Evl.Ex.new (o := .lst (as.map V.ref ++ [V.ref dd])) hr2
      refine ⟨three, fun q' hq' => ?_⟩
      have e5 := Evl.Ex.new (o := .tup [.ref D2, .non, .ref r2]) hq'
      have e25 := (e3.trans e4).trans e5
      have e05 := (e1.trans e2).trans e25
      exact k q' _ e05 (fin e05 (prat_wo (hP2.ex e25) (hNt.new e1 hD2) (hNt.ex e05)) (hNt.new ((e1.trans e2).trans e3) hr2) (e5 _ _ upd_same) (hNt.new (((e1.trans e2).trans e3).trans e4) hq') upd_same)
end
end V2


namespace V2
open PySem L2
open PySem.Spec PyProof.Rows
theorem shp_po {ts : List Tk} {ds : List Deed} (hS : ShW ts ds) {d : Deed} (hdm : d ∈ ds) : ∀ k a, d = .po k a → Bn 60 a := fun k a e => by
  subst e
  have h1 := hS.p1000 k a hdm
  have h2 := (hS.ok.2.2 _ hdm).2
  exact Nat.lt_of_le_of_lt (show a.natAbs ≤ 1000 by omega) (by decide)
/-! ## a bench and its steps -/
abbrev wEnd (ts : List Tk) (es : List Deed) (u b : Int) : List Int × Int := wAt ts es u b es.length
def hist (ts : List Tk) (es : List Deed) (u b : Int) : List (List Int × Int) := (List.range es.length).map fun j => wAt ts es u b j
theorem wAt_pre {ts : List Tk} {es fs : List Deed} {u b : Int} {j : Nat} (h : j ≤ es.length) : wAt ts (es ++ fs) u b j = wAt ts es u b j := by
  unfold wAt
  rw [List.take_append_of_le_length h]
theorem wEnd_snoc {ts : List Tk} {es : List Deed} {d : Deed} {u b : Int} : wEnd ts (es ++ [d]) u b = stepA (ts.map (wid u b)) (wEnd ts es u b) d := by
  have h : (es ++ [d])[es.length]? = some d := by rw [List.getElem?_append_right (Nat.le_refl _), Nat.sub_self]; rfl
  have := runA_take (ws := ts.map (wid u b)) (S := (ts.map (·.2), 1)) h
  have l : (es ++ [d]).length = es.length + 1 := by rw [List.length_append]; rfl
  show wAt ts (es ++ [d]) u b (es ++ [d]).length = _
  rw [l]
  refine Eq.trans this ?_
  show stepA _ (wAt ts (es ++ [d]) u b es.length) d = _
  rw [wAt_pre (Nat.le_refl _)]
theorem hist_snoc {ts : List Tk} {es : List Deed} {d : Deed} {u b : Int} : hist ts (es ++ [d]) u b = hist ts es u b ++ [((wEnd ts es u b).1, (wEnd ts es u b).2)] := by
  unfold hist
  rw [List.length_append, show es.length + [d].length = es.length + 1 from rfl, List.range_succ, List.map_append]
  refine congr (congrArg _ (List.map_congr_left fun j hj => wAt_pre (Nat.le_of_lt (List.mem_range.mp hj)))) ?_
  show [wAt ts (es ++ [d]) u b es.length] = _
  rw [wAt_pre (Nat.le_refl _)]
/-- a drawn step that fits -/
def GD (ts : List Tk) (d : Deed) : Prop := okD ts.length d ∧ ∀ k a, d = .po k a → a ≤ 1000
theorem shw_of {ts : List Tk} {ds es : List Deed} (h : ShW ts ds) (hl : es.length ≤ 60) (g : ∀ d ∈ es, GD ts d) : ShW ts es :=
  ⟨⟨h.ok.1, by omega, fun d hd => (g d hd).1⟩, h.w1000, fun k a hm => (g _ hm).2 k a rfl⟩
theorem BnAt.nt {C s : Addr} {H : Hp} {x ls lt : Addr} {ts : List Tk} {ds : List Deed} {S : List (List Int × Int)} {A ws : List Int} {W u b : Int} {v : V} {m : Nat} (h : BnAt C s H x ls lt ts ds S A ws W u b v) (k : Sk H s m) : Nt [s, x, ls, lt] H := by
  obtain ⟨⟨dx, lq, g, lw, t, as, bs, h1, h2, _, h3, _⟩, _, _, _⟩ := h
  obtain ⟨a, b, c, h4, _⟩ := k
  intro p hp
  simp only [List.mem_cons, List.not_mem_nil, or_false] at hp
  rcases hp with rfl | rfl | rfl | rfl
  · exact ⟨⟨_, h4⟩, fun xs e => by rw [h4] at e; cases e⟩
  · exact ⟨⟨_, h1⟩, fun xs e => by rw [h1] at e; cases e⟩
  · exact ⟨⟨_, h2⟩, fun xs e => by rw [h2] at e; cases e⟩
  · exact ⟨⟨_, h3⟩, fun xs e => by rw [h3] at e; cases e⟩
theorem BnAt.ins {C s : Addr} {H : Hp} {x ls lt : Addr} {ts : List Tk} {ds : List Deed} {S : List (List Int × Int)} {A ws : List Int} {W u b : Int} {v : V} (h : BnAt C s H x ls lt ts ds S A ws W u b v) : ∃ dx fs, H x = some (.ins C dx fs) := by
  obtain ⟨⟨dx, lq, g, lw, t, as, bs, h1, _⟩, _, _, _⟩ := h
  exact ⟨_, _, h1⟩
abbrev BL (B sk : Addr) (H : Hp) (x ls lt : Addr) (ts : List Tk) (es : List Deed) (u b : Int) (e : V) : Prop := BnAt B sk H x ls lt ts es (hist ts es u b) (wEnd ts es u b).1 (ts.map (wid u b)) (wEnd ts es u b).2 u b e
/-- water behind few steps -/
theorem wAt_few {ts : List Tk} {ds : List Deed} {u b : Int} (h : ShW ts ds) (hu : 0 < u) (hQ : Qn u b) (i : Nat) : OkW (11 + 66 * (ds.take i).length) (wAt ts ds u b i).1 (wAt ts ds u b i).2 :=
  (runA_ok (shp_v h hu hQ) (ds := ds.take i) (N := 11) (S := (ts.map (·.2), 1)) (List.length_map ..) (shp_w h) (fun d hd => by
    have md := List.mem_of_mem_take hd
    exact ⟨h.ok.2.2 d md, shp_po h md⟩)).2
end V2


namespace V2
open PySem L2
open PySem.Spec PyProof.Rows
theorem cut_last (ys : List V) (z : V) : cutV (ys ++ [z]) none (some (-1)) = ys := by
  have e : (ys ++ [z]).length = ys.length + 1 := by rw [List.length_append]; rfl
  unfold cutV
  have h1 : HT.sIx (ys ++ [z]).length (ys ++ [z]).length (some (-1)) = ys.length := by
    unfold HT.sIx
    rw [e]
    simp
    omega
  have h0 : HT.sIx (ys ++ [z]).length 0 none = 0 := rfl
  rw [h1, h0]
  simp
theorem lay_ints : ∀ ns : List Int, PyData.canLayAll0 (ns.map .int) = true
  | [] => by simp [PyData.canLayAll0]
  | n :: ns => by simp [PyData.canLayAll0, PyData.canLay0, lay_ints ns]
theorem dep_ints : ∀ ns : List Int, PyData.depthAll (ns.map .int) ≤ 1
  | [] => by simp [PyData.depthAll]
  | n :: ns => by
    have := dep_ints ns
    simp [PyData.depthAll, PyData.depth]
    omega
theorem lay_dD (d : Deed) : PyData.canLay0 (dD d) = true ∧ PyData.depth (dD d) ≤ 3 := by
  cases d with
  | op ks =>
    have h1 := lay_ints ks
    have h2 := dep_ints ks
    exact ⟨by simp [dD, PyData.canLay0, PyData.canLayAll0, h1]; decide +kernel, by simp [dD, PyData.depth, PyData.depthAll]; omega⟩
  | po k a => exact ⟨by simp [dD, PyData.canLay0, PyData.canLayAll0]; decide +kernel, by simp [dD, PyData.depth, PyData.depthAll]⟩
  | sc k p q => exact ⟨by simp [dD, PyData.canLay0, PyData.canLayAll0]; decide +kernel, by simp [dD, PyData.depth, PyData.depthAll]⟩
  | mv k m p q => exact ⟨by simp [dD, PyData.canLay0, PyData.canLayAll0]; decide +kernel, by simp [dD, PyData.depth, PyData.depthAll]⟩
  | un k m => exact ⟨by simp [dD, PyData.canLay0, PyData.canLayAll0]; decide +kernel, by simp [dD, PyData.depth, PyData.depthAll]⟩
theorem lay_ds : ∀ es : List Deed, PyData.canLayAll0 (es.map dD) = true ∧ PyData.depthAll (es.map dD) ≤ 3
  | [] => by simp [PyData.canLayAll0, PyData.depthAll]
  | d :: es => by
    obtain ⟨h1, h2⟩ := lay_ds es
    obtain ⟨h3, h4⟩ := lay_dD d
    exact ⟨by simp [PyData.canLayAll0, h1, h3], by simp [PyData.depthAll]; omega⟩
theorem shp_ds (es : List Deed) : SeqAt.shaped (.list (es.map dD)) = true := by
  obtain ⟨h1, h2⟩ := lay_ds es
  simp [SeqAt.shaped, PyData.canLay0, PyData.depth, h1]
  omega
theorem dp_deed {K : PySem.W.Frag} {H : Hp} {a : Addr} {d : Deed} (h : DAt H a d) : Dp K H (.ref a) (dD d) := by
  cases d with
  | op ks =>
    obtain ⟨l, h1, h2⟩ := h
    exact .tup (SqT.of h1) (.cons (.str _) (.cons (.lst (SqL.of h2) (dpI2 ks)) .nil))
  | po k x => exact .tup (SqT.of h) (.cons (.str _) (.cons (.int _) (.cons (.int _) .nil)))
  | sc k p q =>
    obtain ⟨l, h1, h2⟩ := h
    exact .tup (SqT.of h1) (.cons (.str _) (.cons (.int _) (.cons (.tup (SqT.of h2) (.cons (.int _) (.cons (.int _) .nil))) .nil)))
  | mv k m p q =>
    obtain ⟨l, h1, h2⟩ := h
    exact .tup (SqT.of h1) (.cons (.str _) (.cons (.int _) (.cons (.int _) (.cons (.tup (SqT.of h2) (.cons (.int _) (.cons (.int _) .nil))) .nil))))
  | un k m => exact .tup (SqT.of h) (.cons (.str _) (.cons (.int _) (.cons (.int _) .nil)))
where dpI2 {K : PySem.W.Frag} {H : Hp} : ∀ ns : List Int, DpAll K H (iV ns) (ns.map .int)
  | [] => .nil
  | n :: r => .cons (.int n) (dpI2 r)
theorem dp_ds {K : PySem.W.Frag} {H : Hp} {l : Addr} {es : List Deed} (h : DsAt H l es) : Dp K H (.ref l) (.list (es.map dD)) := by
  obtain ⟨as, h1, h2, h3⟩ := h
  refine .lst (SqL.of h1) ?_
  clear h1
  induction as generalizing es with
  | nil =>
    cases es with
    | nil => exact .nil
    | cons d r => cases h2
  | cons a r ih =>
    cases es with
    | nil => cases h2
    | cons d q => exact .cons (dp_deed (h3 0 a d rfl rfl)) (ih (Nat.succ.inj h2) fun i b e x y => h3 (i + 1) b e x y)
theorem eqv_nil (es : List Deed) : PyData.eqv (.list (es.map dD)) (.list []) = decide (es = []) := by
  cases es with
  | nil => simp [PyData.eqv, PyData.eqvAll]
  | cons d r => simp [PyData.eqv, PyData.eqvAll]
theorem lay_tks : ∀ ts : List Tk, PyData.canLayAll0 (ts.map tkD) = true ∧ PyData.depthAll (ts.map tkD) ≤ 2
  | [] => by simp [PyData.canLayAll0, PyData.depthAll]
  | (none, a) :: ts => by
    obtain ⟨h1, h2⟩ := lay_tks ts
    exact ⟨by simp [tkD, wD, PyData.canLayAll0, PyData.canLay0, h1], by simp [tkD, wD, PyData.depthAll, PyData.depth]; omega⟩
  | (some z, a) :: ts => by
    obtain ⟨h1, h2⟩ := lay_tks ts
    exact ⟨by simp [tkD, wD, PyData.canLayAll0, PyData.canLay0, h1], by simp [tkD, wD, PyData.depthAll, PyData.depth]; omega⟩
theorem shp_tks (ts : List Tk) : SeqAt.shaped (.list (ts.map tkD)) = true := by
  obtain ⟨h1, h2⟩ := lay_tks ts
  simp [SeqAt.shaped, PyData.canLay0, PyData.depth, h1]
  omega
theorem dp_tks {K : PySem.W.Frag} {H : Hp} {l : Addr} {ts : List Tk} (h : TksAt H l ts) : Dp K H (.ref l) (.list (ts.map tkD)) := by
  obtain ⟨as, h1, h2, h3⟩ := h
  refine .lst (SqL.of h1) ?_
  clear h1
  induction as generalizing ts with
  | nil =>
    cases ts with
    | nil => exact .nil
    | cons d r => cases h2
  | cons a r ih =>
    cases ts with
    | nil => cases h2
    | cons d q =>
      refine .cons ?_ (ih (Nat.succ.inj h2) fun i b e x y => h3 (i + 1) b e x y)
      have z := h3 0 a d rfl rfl
      obtain ⟨w, am⟩ := d
      cases w with
      | none => exact .tup (SqT.of z) (.cons .non (.cons (.int _) .nil))
      | some n => exact .tup (SqT.of z) (.cons (.int _) (.cons (.int _) .nil))
theorem eqv_same {d : PyData} (h : SeqAt.shaped d = true) : PyData.eqv d d = true := by
  refine PySem.SeqAt.eqv_refl _ ?_
  unfold SeqAt.shaped at h
  exact (Bool.and_eq_true_iff.mp h).1
/-! ## errors that a bench raises -/
/-- a refused call on a bench that has ended -/
def spBnR (B CE : Addr) : Sp := fun vs H _ E => ∃ (x ls lt d s : Addr) (ts : List Tk) (ds : List Deed) (S : List (List Int × Int)) (A ws : List Int) (W u b i : Int) (dd : Deed), vs = [.ref x, .ref d] ∧ BnAt B s H x ls lt ts ds S A ws W u b (.int i) ∧ DAt H d dd ∧ okD ts.length dd ∧
  ∀ (y : V) (e : Addr) (H' : Hp), H e = none → Evl.Ex H H' → H' e = some (.xd [("value", y)]) → E (.ref CE) (some e) H'
/-- nothing to take back -/
def spBnN0 (B CE : Addr) : Sp := fun vs H _ E => ∃ (x ls lt s : Addr) (ts : List Tk) (S : List (List Int × Int)) (A ws : List Int) (W u b : Int) (v : V), vs = [.ref x] ∧ BnAt B s H x ls lt ts [] S A ws W u b v ∧
  ∀ (e : Addr) (H' : Hp), H e = none → Evl.Ex H H' → H' e = some (.xd [("value", .int 0)]) → E (.ref CE) (some e) H'
/-- what == of benches looks at -/
def BnV (B : Addr) (H : Hp) (a : Addr) (ts : List Tk) (ds : List Deed) (u b : Int) : Prop := ∃ (dx lq g lw ls lt : Addr) (v : V), H a = some (.ins B dx (bnF lq g lw ls lt v)) ∧ TksAt H lq ts ∧ DsAt H ls ds ∧ Fr H g u b
theorem BnAt.bv {B s : Addr} {H : Hp} {x ls lt : Addr} {ts : List Tk} {ds : List Deed} {S : List (List Int × Int)} {A ws : List Int} {W u b : Int} {v : V} (h : BnAt B s H x ls lt ts ds S A ws W u b v) : BnV B H x ts ds u b := by
  obtain ⟨⟨dx, lq, g, lw, t, as, bs, hx, hls, hxs, hlt, hys, hP⟩, _, _, _⟩ := h
  have p := hP.ex woL_ex
  exact ⟨dx, lq, g, lw, ls, lt, v, hx, p.q, ⟨as, hls, hxs, p.d⟩, p.f⟩
def EqB (B : Addr) : Addr → Addr → Hp → Prop := fun a c H => ∃ (ts : List Tk) (ds : List Deed) (u b : Int), BnV B H a ts ds u b ∧ BnV B H c ts ds u b
section
variable {base : Heap} {mg : Str → Option Value} {K : PySem.W.Frag} {w : World} {P : Program} {B gI gC gL gW gE qE CE fI : Addr}
theorem ok_Be_callR {f : Addr} {fd fdI : FuncData} (F : Fun K "__call__" "Bench.__call__" s_Be_call f fd) (mL : mg "len" = none) (c : BeC K B gI gC gL gW gE qE) (cS : Cal P w K mg base 4 "check_step" p_check_step spChkS) (c2 : Cal P w K mg base 3 "copied" p_copied (spCp 2))
    (T : EC K CE fI) (G : EG K fI) (mE : mg "InvalidStep" = some (.ref CE)) (FI : FnOk P w K mg base CX0 1 fI fdI ["self", "value"] (spInit K)) (bI : Binds K fdI ["self", "value"] []) : FnOk P w K mg base (L2.CX P w) 5 f fd p_Be_call (spBnR B CE) := by
  refine F.okX sc_Be_call (fun vs H Q E h => ?_) (fun cdv A outer s H vs Q E hr h => ?_)
  · obtain ⟨x, ls, lt, d, s, ts, ds, S, A, ws, W, u, b, i, dd, rfl, _⟩ := h
    rfl
  · obtain ⟨x, ls, lt, d, s, ts, ds, S, Am, ws, W, u, b, i, dd, rfl, hB, hd, hok, k⟩ := h
    obtain ⟨⟨dx, lq, g, lw, t, as, bs, hx, hls, hxs, hlt, hys, hP⟩, _, _, _⟩ := hB
    have hp := hP.ex woL_ex
    have nd := sc_Be_call.nd
    have r2 : Room (1 + 1) _ := hr.mono (by decide)
    have r3 : Room 3 _ := hr.mono (by decide)
    refine ⟨_, pss_cons (ps_expr (pe_c cS hr (pa_cons (pv 1) (pa_cons (pe_callB call_len_seq (by rfl) mL PySem.boot_len (pa_cons (pe_fld (pv 0) rfl) pa_nil)) pa_nil))))
      (pss_cons (ps_if (pt_cmp (pc_notN (pe_fld (pv 0) rfl))) (pss_one (ps_raise rfl (takes_of rfl rfl rfl rfl) (pmk_oex (k := 1) T.ox T.iC G.tI FI r2 bI .nil pass0 (by rfl) mE (pa_cons (pe_c c2 r3 (pa_cons (pv 1) pa_nil)) pa_nil)))) pss_nil)
      (pss_cons ps_never (pss_cons ps_never (pss_cons ps_never (pss_cons ps_never (pss_cons ps_never (pss_one ps_never))))))), ?_⟩
    obtain ⟨qs, hq, hql⟩ := tks_len hp.q
    refine ⟨_, rfl, _, rfl, x, B, dx, _, _, rfl, hx, c.cls, c.na1, rfl, lq, _, rfl, .inl (SqL.of hq), d, dd, _, rfl, hd, by rw [hql]; exact hok, fun H1 e1 => ?_⟩
    refine ⟨_, rfl, x, B, dx, _, _, rfl, e1 _ _ hx, c.cls, c.na6, rfl, _, rfl, if_t (by rw [decide_eq_false (fun z => by cases z)]; rfl) ?_⟩
    refine ⟨_, rfl, _, _, rfl, dat_dq (hd.ex e1), cp_dD hok, fun v' H4 e4 hv' => ?_⟩
    exact raise_in T fun e G' he ee hx' => k _ e G' (Evl.fresh_back (e1.trans e4) he) ((e1.trans e4).trans ee) hx'
theorem ok_Be_undoR {f : Addr} {fd fdI : FuncData} (F : Fun K "undo" "Bench.undo" s_Be_undo f fd) (c : BeC K B gI gC gL gW gE qE)
    (T : EC K CE fI) (G : EG K fI) (mE : mg "NothingToUndo" = some (.ref CE)) (FI : FnOk P w K mg base CX0 1 fI fdI ["self", "value"] (spInit K)) (bI : Binds K fdI ["self", "value"] []) : FnOk P w K mg base (L2.CX P w) 3 f fd p_Be_undo (spBnN0 B CE) := by
  refine F.okX sc_Be_undo (fun vs H Q E h => ?_) (fun cdv A outer s H vs Q E hr h => ?_)
  · obtain ⟨x, ls, lt, s, ts, S, A, ws, W, u, b, v, rfl, _⟩ := h
    rfl
  · obtain ⟨x, ls, lt, s, ts, S, Am, ws, W, u, b, v, rfl, hB, k⟩ := h
    obtain ⟨⟨dx, lq, g, lw, t, as, bs, hx, hls, hxs, hlt, hys, hP⟩, _, _, _⟩ := hB
    have nd := sc_Be_undo.nd
    refine ⟨_, pss_cons (ps_if (pt_not (pt_truth (pe_fld (pv 0) rfl) (by intro _; rfl))) (pss_one (ps_raise rfl (takes_of rfl rfl rfl rfl) (pmk_oex (k := 1) T.ox T.iC G.tI FI hr bI .nil pass0 (by rfl) mE (pa_cons pe_int pa_nil)))) pss_nil)
      (pss_cons ps_never (pss_cons ps_never (pss_one ps_never))), ?_⟩
    obtain rfl : as = [] := List.length_eq_zero_iff.mp hxs
    refine ⟨_, rfl, x, B, dx, _, _, rfl, hx, c.cls, c.na4, rfl, ?_⟩
    refine ⟨_, .inl ⟨_, SqL.of hls, rfl⟩, if_t (by rfl) ?_⟩
    exact raise_in T fun e G' he ee hx' => k e G' he ee hx'
theorem ok_Be_eq {f : Addr} {fd : FuncData} (F : Fun K "__eq__" "Bench.__eq__" s_Be_eq f fd) (c : BeC K B gI gC gL gW gE qE) (mI : mg "isinstance" = none) (mB : mg "Bench" = some (.ref B)) (ty : ∀ {H : Hp} {a dx : Addr} {fs : List (Str × V)}, H a = some (.ins B dx fs) → TyX K H (.ref a) (.ref B)) : FnOk P w K mg base CX0 1 f fd p_Be_eq (spEq (EqB B)) := by
  refine F.ok sc_Be_eq (fun vs H Q E h => ?_) (fun cdv A outer s H vs Q E hr h => ?_)
  · obtain ⟨x, y, rfl, _⟩ := h
    rfl
  · obtain ⟨x, y, rfl, ⟨ts, ds, u, b, ⟨dx, lq, g, lw, ls, lt, v, hx, hq, hs, hf⟩, ⟨dy, lq', g', lw', ls', lt', v', hy, hq', hs', hf'⟩⟩, k⟩ := h
    have nd := sc_Be_eq.nd
    refine ⟨_, pss_cons (ps_if (pt_not (pt_val (pe_callB call_isi (by rfl) mI (by decide +kernel) (pa_cons (pv 1) (pa_cons (pe_glob (v := .ref B) (by rfl) mB rfl) pa_nil))))) (pss_one (ps_ret pe_bl)) pss_nil)
      (pss_one (ps_ret (pe_and (pe_cmpR (op_eqD hr.units) (pe_fld (pv 0) rfl) (pe_fld (pv 1) rfl) (nomark _)) (pe_and (pe_cmpR (op_eqD hr.units) (pe_fld (pv 0) rfl) (pe_fld (pv 1) rfl) (nomark _)) (pe_one (pe_cmpR (op_eqD hr.units) (pe_fld (pv 0) rfl) (pe_fld (pv 1) rfl) (nomark _))))))), ?_⟩
    have kt : PySem.W.kitOne K (.ref B) (.ref B) = some true := by
      unfold PySem.W.kitOne
      rw [if_pos (by simp)]
    refine ⟨_, rfl, .ref y, .ref B, _, _, true, rfl, .own B, ty hy, kt, _, rfl, if_f rfl ?_⟩
    refine ⟨_, rfl, x, B, dx, _, _, rfl, hx, c.cls, c.na1, rfl, _, rfl, y, B, dy, _, _, rfl, hy, c.cls, c.na1, rfl, _, _, dp_tks hq, dp_tks hq', shp_tks ts, shp_tks ts, ?_⟩
    rw [eqv_same (shp_tks ts)]
    refine ⟨_, rfl, if_t rfl ?_⟩
    refine ⟨_, rfl, x, B, dx, _, _, rfl, hx, c.cls, c.na4, rfl, _, rfl, y, B, dy, _, _, rfl, hy, c.cls, c.na4, rfl, _, _, dp_ds hs, dp_ds hs', shp_ds ds, shp_ds ds, ?_⟩
    rw [eqv_same (shp_ds ds)]
    refine ⟨_, rfl, if_t rfl ?_⟩
    refine ⟨_, rfl, x, B, dx, _, _, rfl, hx, c.cls, c.na2, rfl, _, rfl, y, B, dy, _, _, rfl, hy, c.cls, c.na2, rfl, _, _, dp_fr (f := (u, b)) hf, dp_fr (f := (u, b)) hf', shp_fr _, shp_fr _, ?_⟩
    rw [eqv_same (shp_fr (u, b))]
    exact k H fun _ _ z => z
end
end V2


namespace V2
open PySem L2 L2H
open PySem.Spec PyProof.Rows
/-! ## a def called with the error that is handled -/
structure FnP (P : Program) (w : World) (K : PySem.W.Frag) (mg : Str → Option Value) (base : Heap) (k : Nat) (f : Addr) (fd : FuncData) (ps : List Str) (sp : Addr × Obj → Sp) : Prop where
  len : ∀ p vs H Q E, sp p vs H Q E → vs.length = ps.length
  run : ∀ (A : Around) (outer : List Env) (s : Shared) (H : Hp) (args : Args) (us : List Value) (vs : List V) (Q : VK) (E : XK) (p : Addr × Obj), RoomH k A → PinOk outer H s p → Env0 P w K mg base A outer s H → BindsTo s fd args (ps.zip us) → Vals vs us → sp p vs H Q E →
    codeAny (model P w) A (.call (.ref f) args) (CR CX0 outer P w H s Q E) s
theorem fn_ofP {P : Program} {w : World} {K : PySem.W.Frag} {mg : Str → Option Value} {base : Heap} {k : Nat} {f : Addr} {name qual : Str} {params : Arguments} {body : List Stmt} {scope : Scope} {dV kV doc pm cdv ct oc : Value} {an od : Option Addr}
    {osl : Array (Option Value)} {N ps : List Str} {sp : Addr × Obj → Sp} (lk : K.lookup f = some ⟨oc, od, .func (PySem.W.fnOf name qual params body scope dV kV doc pm an cdv ct), osl⟩) (hcd : PySem.W.codeIn K cdv qual = true) (S : FnScope N ps scope)
    (len : ∀ p vs H Q E, sp p vs H Q E → vs.length = ps.length)
    (hbody : ∀ (A : Around) (outer : List Env) (s : Shared) (H : Hp) (vs : List V) (Q : VK) (E : XK) (p : Addr × Obj), RoomH k (A.deeper (envOfC qual scope s.heap.objs.size f cdv)) → sp p vs H Q E →
      ∃ t, PSs (cxH CX0 P w K mg base N qual scope f cdv A outer s H E p) body t ∧ t { nx := fun _ H' => Q .non H', rt := Q } (L2.start N vs) H) :
    FnP P w K mg base (k + 1) f (PySem.W.fnOf name qual params body scope dV kV doc pm an cdv ct) ps sp := by
  refine ⟨len, fun A outer s H args us vs Q E p hr hpin e0 hb r hsp => ?_⟩
  have hl := len _ _ _ _ _ hsp
  have KX : K.In s.heap := e0.mod.kin.keeps fun b o e => (e0.bs b o e).1
  have lim : s.heap.NoLimit := e0.mod.nolimit.keeps fun b o e => (e0.bs b o e).1
  have hkind : ∀ y ∈ ps.zip us, scope.names.lookup y.1 = some .local ∨ (scope.names.lookup y.1 = some .cell ∧ ((cellsFrom (s.heap.objs.size + 1) scope.names []).lookup y.1).isSome = true) := fun ⟨n, v⟩ hy => by
    rcases S.par n (List.of_mem_zip hy).1 with q | q
    · exact .inl q
    · exact .inr ⟨q, PySem.W.cellsFrom_some _ _ _ (.inl q)⟩
  refine codeAny_call_function hr.depth (KX _ _ lk) rfl S.co S.gen rfl (PySem.W.codeRec_of KX hcd) (hb _ _ _ _ ?_)
  refine wpAny_newFunctionEnv_cells S.kind hkind fun env he s1 x => ?_
  subst he
  refine ⟨lim.keeps x.toInCall.keep, codeAny_func ?_⟩
  obtain ⟨t, ht, hq⟩ := hbody A outer s H vs Q E p (hr.deeper _) hsp
  have I : Inv (cxH CX0 P w K mg base N qual scope f cdv A outer s H E p) [] (L2.start N vs) H s1 := inv_startH S hpin e0 hl r x
  refine wpAny_mono (ht.run [] s1 (L2.start N vs) H _ I hq) (fun fl s' hs => ?_) fun e s' hs => hs
  have fin : ∀ {σ' : L2.St} {H' : Hp} {v : V} {u : Value}, Inv (cxH CX0 P w K mg base N qual scope f cdv A outer s H E p) [] σ' H' s' → RelV v u → Q v H' → CE outer P w H s Q u s' :=
    fun {σ' H' v u} J rv q => ⟨v, H', J.os, J.bare, J.base, J.hok, rv, q⟩
  cases fl with
  | ret u =>
    obtain ⟨v, σ', H', J, rv, q⟩ := hs
    exact fin J rv q
  | next =>
    obtain ⟨σ', H', J, q⟩ := hs
    exact fin (v := V.non) (u := Value.none) J rfl q
  | brk =>
    obtain ⟨_, _, _, q⟩ := hs
    exact False.elim q
  | cont =>
    obtain ⟨_, _, _, q⟩ := hs
    exact False.elim q
def CalP (P : Program) (w : World) (K : PySem.W.Frag) (mg : Str → Option Value) (base : Heap) (k : Nat) (x : Str) (ps : List Str) (sp : Addr × Obj → Sp) : Prop :=
  ∃ (f : Addr) (fd : FuncData), FnP P w K mg base k f fd ps sp ∧ mg x = some (.ref f) ∧ PySem.W.keepIn K (.ref f) = true ∧ Binds K fd ps []
theorem pe_cp {X : Cx} {k : Nat} {x : Str} {ps : List Str} {sp : Addr × Obj → Sp} {p : Addr × Obj} {e : Expr} {es : List Expr} {t : TA} {q pos : Pos} (c : CalP X.prog X.w X.K X.mg X.base k x ps sp) (hp : p ∈ X.pn) (hr : RoomH k X.A) (ha : PA X (e :: es) t) (hg : Gl X x := by rfl)
    (hdb : (x == ("__debug__" : Str)) = false := by decide) (he : starEach (e :: es) X.env = (false, eval e X.env) :: starEach es X.env := by rfl) (hpl : (backTo pos (starEach es X.env)).any (·.1) = false := by rfl) :
    PE X (.Call (.Name x q) (e :: es) [] pos) (tCall (sp p) [] E0 t) := by
  obtain ⟨f, fd, F, hm, hk, hb⟩ := c
  refine ⟨fun pins s σ H Q I h => ?_⟩
  refine wpAny_Call_Name_kw (ld_glob I hg hm ?_ hdb)
  refine PySem.W.callWith_K (h₀ := X.base) I.ok.mod.kin hk (thn (ha.run pos pins s σ H _ I h) fun us s1 ⟨vs, H1, I1, r, z⟩ => ⟨I1.kIn, ?_⟩) he hpl
  have z : sp p (vs ++ []) H1 Q E0 := z
  rw [List.append_nil] at z
  show wpAny _ _ (call (.ref f) us) _ _ _
  have hl : us.length = ps.length := by rw [← r.length]; exact F.len _ _ _ _ _ z
  have b := hb s1 us I1.kIn (by rw [List.append_nil]; exact hl)
  rw [List.append_nil] at b
  have P1 := I1.pin p (List.mem_append_left _ hp)
  have hpin : PinOk X.stack H1 s1 p := ⟨P1.1, P1.2.1, fun hm => (List.mem_cons.mp (I1.stkSub p.1 hm)).elim P1.2.2.1 P1.2.2.2.1, P1.2.2.2.2⟩
  refine wpAny_call (codeAny_mono (F.run X.A X.stack s1 H1 ⟨us, []⟩ us vs Q E0 p hr hpin I1.env0 b r z) fun r s' hq => ?_)
  cases r with
  | error e => exact hq.elim
  | ok fl =>
    cases fl with
    | ret u => exact I1.after hq
    | next => exact False.elim hq
    | brk => exact False.elim hq
    | cont => exact False.elim hq
/-- isinstance(e, c), e the error that is handled -/
def rIsP (K : PySem.W.Frag) (p : Addr × Obj) (C fI : Addr) : List V → Hp → VK → Prop := fun xs H Q => ∃ (d : Addr) (fs : List (Str × V)) (c : V) (cv : Value) (b : Bool), xs = [.ref p.1, c] ∧ p.2.dict = some d ∧ H d = some (.xd fs) ∧ EC K C fI ∧ (∀ u, RelV c u → u = cv) ∧ PySem.W.kitOne K (.ref C) cv = some b ∧ Q (.bl b) H
theorem inst_pin {P : Program} {w : World} {H : Hp} {h : Heap} {p : Addr × Obj} {C d : Addr} {fs : List (Str × V)} (hok : HOk P w H h) (hg : h.get? p.1 = some p.2) (hc : p.2.cls = .ref C) (hf : ∃ vs, p.2.data = .fields vs) (hd : p.2.dict = some d) (hx : H d = some (.xd fs)) : ∃ od, PySem.W.InstAt h p.1 p.2 C (some od) := by
  have z : ObjOk P w H h d (.xd fs) := hok d _ hx
  obtain ⟨mA, ⟨o, es, ep, e1, e2⟩, hr⟩ := z
  obtain ⟨vs, hv⟩ := hf
  exact ⟨o, hg, hc, by unfold PySem.W.notCls; rw [hv] <;> rfl, by rw [hd]; exact e1⟩
theorem call_isP {X : Cx} {p : Addr × Obj} {C fI : Addr} (G : EG X.K fI) (hp : p ∈ X.pn) (hc : p.2.cls = .ref C) (hf : ∃ vs, p.2.data = .fields vs) : CallR X (.builtin "isinstance") (rIsP X.K p C fI) := by
  intro pins s σ H xs us Q I r h
  obtain ⟨d, fs, c, cv, b, rfl, hd, hx, T, hcv, e, q⟩ := h
  cases r with
  | cons rx rr =>
    cases rr with
    | cons rt rr =>
      cases rr
      cases rx
      have ec := hcv _ rt
      subst ec
      obtain ⟨od, J⟩ := inst_pin I.hok (I.pin p (List.mem_append_left _ hp)).1 hc hf hd hx
      exact PySem.W.kia_one (PySem.W.kitx_exc T.hcl T.xf.ga T.xf.gg T.xf.exC T.ha G.hn G.ht T.hm) I.kIn J e (fun z => nomatch z) fun tk => ⟨.bl b, H, I.kept (t' := tk) fun _ _ z => z, rfl, q⟩
end V2


namespace V2
open PySem L2
open PySem.Spec PyProof.Rows
/-! ## the error that is handled, of one known class -/
def tI1E (C : Addr) (a : Addr) (cls : Value) (d : Option Addr) (n : Nat) : TE := fun σ H Q => ∃ (dd : Addr) (fs : List (Str × V)), σ[n]? = some (some (.ref a)) ∧ cls = .ref C ∧ d = some dd ∧ H dd = some (.xd fs) ∧ Q (.bl true) H
def tV1E (C : Addr) (a : Addr) (cls : Value) (d : Option Addr) (n : Nat) : TE := fun σ H Q => ∃ (dd : Addr) (fs : List (Str × V)) (v : V), σ[n]? = some (some (.ref a)) ∧ cls = .ref C ∧ d = some dd ∧ H dd = some (.xd fs) ∧ fs.lookup ("value" : Str) = some v ∧ Q v H
section
variable {X : Cx} {C fI a : Addr} {oe : Obj} {cls : Value} {d : Option Addr} {pn : List (Addr × Obj)} {n : Nat} {x : Str} {p1 p2 p3 pos : Pos}
theorem pe_i1E {K : PySem.W.Frag} {mg : Str → Option Value} (hK : X.K = K) (hmg : X.mg = mg) (T : EC K C fI) (G : EG K fI) (mI : mg "isinstance" = none) (mV : mg "ValueError" = none) (kv : PySem.W.kitOne K (.ref C) (.type "ValueError") = some true) (hz : Zc cls d oe) (hf : ∃ vs, oe.data = .fields vs) (he : PE (X.suite a ((a, oe) :: pn)) (.Name x p1) (tVar n))
    (hg : Gl (X.suite a ((a, oe) :: pn)) "isinstance" := by rfl) (hg2 : Gl (X.suite a ((a, oe) :: pn)) "ValueError" := by rfl) :
    PE (X.suite a ((a, oe) :: pn)) (.Call (.Name "isinstance" p2) [.Name x p1, .Name "ValueError" p3] [] pos) (tI1E C a cls d n) := by
  subst hK hmg
  refine ⟨fun pins s σ H Q I h => ?_⟩
  obtain ⟨dd, fs, h3, e1, e2, hx, q⟩ := h
  have hc : (a, oe).2.cls = .ref C := hz.1.trans e1
  have z := pe_callB (X := X.suite a ((a, oe) :: pn)) (p := p2) (pos := pos) (call_isP (p := (a, oe)) (C := C) G List.mem_cons_self hc hf) hg mI (by decide +kernel) (pa_cons he (pa_cons (pe_bltn (pos := p3) (v := .ty "ValueError") hg2 mV (by decide +kernel) rfl) pa_nil))
  exact z.run pins s σ H Q I ⟨_, h3, dd, fs, .ty "ValueError", .type "ValueError", true, rfl, hz.2.trans e2, hx, T, fun u h => h, kv, q⟩
theorem pe_v1E {K : PySem.W.Frag} (hK : X.K = K) (T : EC K C fI) (hz : Zc cls d oe) (hf : ∃ vs, oe.data = .fields vs) (he : PE (X.suite a ((a, oe) :: pn)) (.Name x p1) (tVar n))
    (hb : attributeBase (.Name x p1) "value" (X.suite a ((a, oe) :: pn)).env (eval (.Name x p1) (X.suite a ((a, oe) :: pn)).env) = eval (.Name x p1) (X.suite a ((a, oe) :: pn)).env := by rfl) :
    PE (X.suite a ((a, oe) :: pn)) (.Attribute (.Name x p1) "value" pos) (tV1E C a cls d n) := by
  subst hK
  refine ⟨fun pins s σ H Q I h => ?_⟩
  obtain ⟨dd, fs, v, h3, e1, e2, hx, hv, q⟩ := h
  exact (pe_xf (X := X) (a := a) (C := C) (oe := oe) (cls := cls) (d := d) (pn := pn) (pos := pos) (n := "value") T.xf T.noV hz hf he hb).run pins s σ H Q I ⟨_, h3, rfl, e1, dd, fs, v, e2, hx, hv, q⟩
end
/-- a refused call that is caught -/
def spRef (B : Addr) : Sp := fun vs H Q _ => ∃ (x ls lt d s : Addr) (ts : List Tk) (ds : List Deed) (S : List (List Int × Int)) (A ws : List Int) (W u b i : Int) (dd : Deed), vs = [.ref x, .ref d] ∧ BnAt B s H x ls lt ts ds S A ws W u b (.int i) ∧ DAt H d dd ∧ okD ts.length dd ∧ ∀ H', Evl.Ex H H' → Q (.bl true) H'
def spNoU (B : Addr) : Sp := fun vs H Q _ => ∃ (x ls lt s : Addr) (ts : List Tk) (S : List (List Int × Int)) (A ws : List Int) (W u b : Int) (v : V), vs = [.ref x] ∧ BnAt B s H x ls lt ts [] S A ws W u b v ∧ ∀ q H', H q = none → Evl.Ex H H' → H' q = some (.lst [.int 0]) → Q (.ref q) H'
section
variable {base : Heap} {mg : Str → Option Value} {K : PySem.W.Frag} {w : World} {P : Program} {B gI gC gL gW gE qE gU CE CN CT fI : Addr}
theorem ok_refusal {f : Addr} {fd fdC : FuncData} (F : Fun K "_law_pv_refusal" "_law_pv_refusal" s_l_refusal f fd) (c : BeC K B gI gC gL gW gE qE) (FC : FnOk P w K mg base (L2.CX P w) 5 gC fdC p_Be_call (spBnR B CE)) (bC : Binds K fdC p_Be_call [])
    (T : EC K CE fI) (TT : EC K CT fI) (G : EG K fI) (mT : mg "TankError" = some (.ref CT)) (sb : PySem.W.subIn K (.ref CE) (.ref CT) = some true) (mI : mg "isinstance" = none) (mV : mg "ValueError" = none) (kv : PySem.W.kitOne K (.ref CE) (.type "ValueError") = some true) : FnOk P w K mg base CX0 6 f fd p_l_refusal (spRef B) := by
  refine F.ok sc_l_refusal (fun vs H Q E h => ?_) (fun cdv A outer s H vs Q E hr h => ?_)
  · obtain ⟨x, ls, lt, d, s, ts, ds, S, A, ws, W, u, b, i, dd, rfl, _⟩ := h
    rfl
  · obtain ⟨x, ls, lt, d, s, ts, ds, S, Am, ws, W, u, b, i, dd, rfl, hB, hd, hok, k⟩ := h
    have nd := sc_l_refusal.nd
    refine ⟨_, pss_cons (ps_set (i := 2) nd rfl (Or.inl rfl) pe_bl)
      (pss_cons (ps_try_as (i := 3) (tb := fun W => tDrop (tI1 B (spBnR B CE) (WE W) (tVar 0) (tCons (tVar 1) tNil))) (ts := fun a cls d => tAsg (tI1E CE a cls d 3) (gName 2)) (Wout := fun _ _ _ _ => False) rfl rfl nd rfl rfl ⟨rfl, by decide, Or.inl mT⟩ takes0
          (fun W pn xe tk _ => pss_one (ps_expr (by exact (pe_i1S (by exact (pv 0)) c.cal FC hr bC (fun σ => passAt tk σ) (by exact (pa_cons (pv 1) pa_nil))))))
          (fun a oe cls d pn hz hf => pss_one (ps_set (i := 2) nd rfl (Or.inl rfl) (pe_i1E rfl rfl T G mI mV kv hz hf (pv 3)))))
      (pss_one (ps_ret (pv 2)))), ?_⟩
    obtain ⟨dx, fs, hx⟩ := hB.ins
    refine ⟨_, rfl, x, rfl, _, rfl, ⟨dx, fs, hx⟩, x, ls, lt, d, s, ts, ds, S, Am, ws, W, u, b, i, dd, rfl, hB, hd, hok, fun y e H1 he e1 hx1 => ⟨true, PySem.W.exm_ref TT.xf.exC TT.xf.hdC TT.ox.tyC sb, fun _ a ha => ?_, fun z => Bool.noConfusion z⟩⟩
    exact ⟨e, _, rfl, rfl, rfl, hx1, _, rfl, k H1 e1⟩
theorem ok_no_undo {f : Addr} {fd fdU : FuncData} (F : Fun K "_law_pv_no_undo" "_law_pv_no_undo" s_l_no_undo f fd) (c : BeC K B gI gC gL gW gE qE) (meU : Meth K B "undo" gU) (FU : FnOk P w K mg base (L2.CX P w) 3 gU fdU p_Be_undo (spBnN0 B CN)) (bU : Binds K fdU p_Be_undo [])
    (T : EC K CN fI) (mT : mg "TankError" = some (.ref CT)) (mN : mg "NothingToUndo" = some (.ref CN)) (sb : PySem.W.subIn K (.ref CN) (.ref CN) = some true) : FnOk P w K mg base CX0 4 f fd p_l_no_undo (spNoU B) := by
  refine F.ok sc_l_no_undo (fun vs H Q E h => ?_) (fun cdv A outer s H vs Q E hr h => ?_)
  · obtain ⟨x, ls, lt, s, ts, S, A, ws, W, u, b, v, rfl, _⟩ := h
    rfl
  · obtain ⟨x, ls, lt, s, ts, S, Am, ws, W, u, b, v, rfl, hB, k⟩ := h
    have nd := sc_l_no_undo.nd
    have one : 1 ≤ sizeLine := by show 1 ≤ sizeLine; decide
    refine ⟨_, pss_cons (ps_set (i := 1) nd rfl (Or.inl rfl) (pe_lst pa_nil))
      (pss_cons (ps_try_es (n := "e") (i := 2) (tb := fun W => tDrop (tM0 B "undo" (spBnN0 B CN) (WE W) (tVar 0))) (W0 := fun _ _ _ _ => False) (l := [(.ref CN, fun a cls d => tAsg (tLst (tCons (tV1E CN a cls d 2) tNil)) (gName 1)), (.ref CT, fun _ _ _ => fun _ _ _ => False)]) rfl rfl nd rfl rfl takes0
          (fun W pn xe tk _ => pss_one (ps_expr (by exact (pe_m0S (by exact (pv 0)) c.cls meU FU hr bU (fun σ => passAt tk σ)))))
          (.cons ⟨rfl, by decide, Or.inl mN⟩ (fun a oe cls d pn hz hf => pss_one (ps_set (i := 1) nd rfl (Or.inl rfl) (pe_lst (pa_cons (pe_v1E rfl T hz hf (pv 2)) pa_nil)))) (.cons ⟨rfl, by decide, Or.inl mT⟩ (fun a oe cls d pn hz hf => pss_one ps_never) .nil)))
      (pss_one (ps_ret (pv 1)))), ?_⟩
    refine ⟨Nat.zero_le _, fun l0 hl0 => ?_⟩
    have e0 := Evl.Ex.new (o := .lst []) hl0
    generalize upd H l0 (.lst []) = H0 at e0
    have hB0 := hB.go e0
    obtain ⟨⟨dx, lq, gg, lw, tw, as, bs, hx, _⟩, _, _, _⟩ := id hB0
    refine ⟨_, rfl, x, dx, _, rfl, hx, rfl, x, ls, lt, s, ts, S, Am, ws, W, u, b, v, rfl, hB0, fun e H1 he e1 hx1 => ⟨true, PySem.W.exm_ref T.xf.exC T.xf.hdC T.ox.tyC sb, fun _ a ha => ?_, fun z => Bool.noConfusion z⟩⟩
    refine ⟨e, _, _, rfl, rfl, rfl, hx1, rfl, one, fun q hq => ⟨_, rfl, ?_⟩⟩
    exact k q _ (Evl.fresh_back (e0.trans e1) hq) ((e0.trans e1).trans (Evl.Ex.new hq)) upd_same
end
end V2


namespace V2
open PySem L2
open PySem.Spec PyProof.Rows
/-! ## copies: each list in one place alone -/
theorem TrA.snoc {H : Hp} : ∀ {ds : List PyData} {vs : List V} {as : List Addr} {v : V} {d : PyData} {bs : List Addr}, TrA H vs ds as → TrD H v d bs → TrA H (vs ++ [v]) (ds ++ [d]) (as ++ bs)
  | _, _, _, v, d, bs, .nil, h => by
    have := TrA.cons h (.nil (H := H))
    rw [List.append_nil] at this
    exact this
  | _, _, _, v, d, bs, .cons a b, h => by
    rw [List.append_assoc]
    exact .cons a (TrA.snoc b h)
def woD (D : Addr) (H : Hp) : Hp := fun b => if b = D then none else H b
theorem woD_some {D : Addr} {H : Hp} {b : Addr} {o : HO} (h : woD D H b = some o) : b ≠ D ∧ H b = some o := by
  unfold woD at h
  split at h
  · cases h
  · rename_i n
    exact ⟨n, h⟩
theorem woD_at {D : Addr} {H : Hp} {b : Addr} {o : HO} (n : b ≠ D) (h : H b = some o) : woD D H b = some o := by
  unfold woD
  rw [if_neg n]
  exact h
theorem nwd_go {H H2 H3 : Hp} {D : Addr} {o : HO} (e : Evl.Ex H2 H3) : Evl.Ex (Nw H (woD D H2)) (Nw H (woD D (upd H3 D o))) := fun b u z => by
  obtain ⟨n, z2⟩ := woD_some (Nw.ex _ _ z)
  exact nw_at (nw_none z) (woD_at n (by rw [upd_ne n]; exact e _ _ z2))
theorem nwd_new {H H2 H3 : Hp} {D : Addr} {o u : HO} (e0 : Evl.Ex H H2) (hD : H2 D = some u) : Evl.Ex (Nw H2 H3) (Nw H (woD D (upd H3 D o))) := fun b x z => by
  have n := nw_none z
  have nd : b ≠ D := fun q => by
    rw [q, hD] at n
    cases n
  exact nw_at (Evl.fresh_back e0 n) (woD_at nd (by rw [upd_ne nd]; exact Nw.ex _ _ z))
theorem nodup_app {as bs : List Addr} (h1 : as.Nodup) (h2 : bs.Nodup) (h : ∀ a ∈ as, a ∉ bs) : (as ++ bs).Nodup := List.nodup_append.mpr ⟨h1, h2, fun a ha b hb e => h a ha (e ▸ hb)⟩
def spCt (n : Nat) : Sp := fun vs H Q _ => ∃ (v : V) (d : PyData), vs = [v] ∧ Dq H v d ∧ Cp n d ∧ ∀ v' as H', Evl.Ex H H' → TrD (Nw H H') v' d as → as.Nodup → Q v' H'
theorem turn_nd {H H2 H3 : Hp} {D : Addr} {acc : List V} {ds : List PyData} {bs as : List Addr} {v : V} {d : PyData} {n i : Nat} (hcs : ∀ x ∈ ds, Cp n x) (hd : d ∈ ds) (hA : TrA (Nw H (woD D H2)) acc (ds.take i) bs) (hn : bs.Nodup) (hT : TrD (Nw H2 H3) v d as) (hm : as.Nodup) : (bs ++ as).Nodup :=
  nodup_app hn hm fun a ha hb => by
    obtain ⟨xs, h1, _⟩ := hA.lists (fun x hx => hcs x (List.mem_of_mem_take hx)) a ha
    obtain ⟨ys, h2, _⟩ := hT.lists (hcs d hd) a hb
    have := nw_none h2
    rw [(woD_some (Nw.ex _ _ h1)).2] at this
    cases this
section
variable {base : Heap} {mg : Str → Option Value} {K : PySem.W.Frag} {w : World} {P : Program}
theorem ok_ct0 {f : Addr} {fd : FuncData} (F : Fun K "copied" "copied" s_copied f fd) (T : T5 mg) : FnOk P w K mg base CX0 1 f fd p_copied (spCt 0) := by
  refine F.ok sc_copied (fun vs H Q E h => ?_) (fun cdv A outer s H vs Q E hr h => ?_)
  · obtain ⟨v, d, rfl, _⟩ := h
    rfl
  · obtain ⟨v, d, rfl, hd, hc, kk⟩ := h
    obtain ⟨as, tb⟩ := hd.tr hc
    obtain ⟨rfl, t, k1, k2, ty⟩ := ls_base (K := K) tb fun ds => ⟨(fun z => (by subst z; cases hc)), (fun z => (by subst z; cases hc))⟩
    have tb : TrD (Nw H H) v d [] := by
      cases tb with
      | non => exact .non
      | bl b => exact .bl b
      | int i => exact .int i
      | str x => exact .str x
      | tup h1 h2 => cases hc
    exact ⟨_, pss_cons (ps_if (pt_val (pe_callB call_isi (by rfl) T.isi (by decide +kernel) (pa_cons (pv 0) (pa_cons (pe_bltn (v := .ty "list") (by rfl) T.lst (by decide +kernel) rfl) pa_nil)))) (pss_one ps_never) pss_nil)
        (pss_cons (ps_if (pt_val (pe_callB call_isi (by rfl) T.isi (by decide +kernel) (pa_cons (pv 0) (pa_cons (pe_bltn (v := .ty "tuple") (by rfl) T.tup (by decide +kernel) rfl) pa_nil)))) (pss_one ps_never) pss_nil)
        (pss_one (ps_ret (pv 0)))), ⟨_, rfl, _, _, _, _, false, rfl, .ty "list", ty _, kit_ty k1, false, rfl, if_f rfl ⟨_, rfl, _, _, _, _, false, rfl, .ty "tuple", ty _, kit_ty k2, false, rfl, if_f rfl ⟨_, rfl, kk _ [] _ (Evl.Ex.refl _) tb List.nodup_nil⟩⟩⟩⟩
theorem ok_ctS {n k : Nat} {f : Addr} {fd : FuncData} (F : Fun K "copied" "copied" s_copied f fd) (T : T5 mg) (c0 : Cal P w K mg base k "copied" p_copied (spCt n)) : FnOk P w K mg base CX0 (k + 1) f fd p_copied (spCt (n + 1)) := by
  refine F.ok sc_copied (fun vs H Q E h => ?_) (fun cdv A outer s H vs Q E hr h => ?_)
  · obtain ⟨v, d, rfl, _⟩ := h
    rfl
  · obtain ⟨v, d, rfl, hd, hc, kk⟩ := h
    have nd := sc_copied.nd
    rcases cp_cases hc with nn | ⟨ds, rfl, hl, hcs⟩ | ⟨ds, rfl, hl, hcs⟩
    · obtain ⟨as, tb⟩ := hd.tr hc
      obtain ⟨rfl, t, k1, k2, ty⟩ := ls_base (K := K) tb nn
      have tb : TrD (Nw H H) v d [] := by
        cases tb with
        | non => exact .non
        | bl b => exact .bl b
        | int i => exact .int i
        | str x => exact .str x
        | tup h1 h2 => exact absurd rfl (nn _).2
      exact ⟨_, pss_cons (ps_if (pt_val (pe_callB call_isi (by rfl) T.isi (by decide +kernel) (pa_cons (pv 0) (pa_cons (pe_bltn (v := .ty "list") (by rfl) T.lst (by decide +kernel) rfl) pa_nil)))) (pss_one ps_never) pss_nil)
        (pss_cons (ps_if (pt_val (pe_callB call_isi (by rfl) T.isi (by decide +kernel) (pa_cons (pv 0) (pa_cons (pe_bltn (v := .ty "tuple") (by rfl) T.tup (by decide +kernel) rfl) pa_nil)))) (pss_one ps_never) pss_nil)
        (pss_one (ps_ret (pv 0)))), ⟨_, rfl, _, _, _, _, false, rfl, .ty "list", ty _, kit_ty k1, false, rfl, if_f rfl ⟨_, rfl, _, _, _, _, false, rfl, .ty "tuple", ty _, kit_ty k2, false, rfl, if_f rfl ⟨_, rfl, kk _ [] _ (Evl.Ex.refl _) tb List.nodup_nil⟩⟩⟩⟩
    · cases hd with
      | @lst a xs _ ha hds =>
      refine ⟨_, pss_cons (ps_if (pt_val (pe_callB call_isi (by rfl) T.isi (by decide +kernel) (pa_cons (pv 0) (pa_cons (pe_bltn (v := .ty "list") (by rfl) T.lst (by decide +kernel) rfl) pa_nil))))
          (pss_one (ps_ret (pe_lc (own := [("part", 1)]) (g := gName 1) (tt := tYes) (te := tCall (spCt n) [] E0 (tCons (tVar 1) tNil)) rfl nd (pi_list (pv 0)) (blkOk_by (N := n_copied) (sc := defScope s_copied) (by decide +kernel)) (fun _ _ _ _ _ => pg_name (i := 1) nd rfl (Or.inl rfl)) (fun _ _ _ _ _ => pts_nil)
            (fun _ _ _ _ _ => pe_c c0 hr (pa_cons (pv 1) pa_nil))))) pss_nil)
        (pss_cons ps_never (pss_one ps_never)), ?_⟩
      refine ⟨_, rfl, _, _, _, _, true, rfl, .ty "list", .base (.lst ha), kit_ty (by decide +kernel), true, rfl, if_t rfl ?_⟩
      have hlen := hds.len
      refine ⟨_, rfl, a, rfl, ⟨_, SqL.of ha⟩, fun D hD => lc_list (xs := xs) (fun i H' => Evl.Ex H H' ∧ ∃ acc bs, H' D = some (.lst acc) ∧ TrA (Nw H (woD D H')) acc (ds.take i) bs ∧ bs.Nodup) ⟨Evl.Ex.new hD, [], [], upd_same, .nil, List.nodup_nil⟩ (fun i H' _ q => SqL.of (q.1 _ _ ha)) ?_ ?_⟩
      · rintro i x H2 hi ⟨e2, acc, bs, hD2, hacc, hnd⟩
        obtain ⟨d, hdi, hdx⟩ := hds.get hi
        refine ⟨rfl, ?_⟩
        show tCall (spCt n) [] E0 (tCons (tVar 1) tNil) _ _ _
        refine ⟨_, rfl, x, d, rfl, hdx.go e2, hcs d (List.mem_of_getElem? hdi), fun v' as' H3 e3 hv' hn' => ⟨acc, e3 _ _ hD2, ?_, Evl.Ex.mut (e2.trans e3) hD, _, bs ++ as', upd_same, ?_, turn_nd hcs (List.mem_of_getElem? hdi) hacc hnd hv' hn'⟩⟩
        · have h1 := hacc.dq.len
          rw [List.length_take] at h1
          exact Nat.lt_of_le_of_lt (show acc.length ≤ 100 by omega) (by decide)
        · rw [ds_take hdi]
          exact (hacc.go (nwd_go e3)).snoc (hv'.go (nwd_new e2 hD2))
      · rintro H2 ⟨e2, acc, bs, hD2, hacc, hnd⟩
        rw [hlen, List.take_length] at hacc
        refine kk _ _ _ e2 (.lst (nw_at hD hD2) (hacc.go fun b o h => nw_at (nw_none h) (woD_some (Nw.ex _ _ h)).2)) (List.nodup_cons.mpr ⟨fun hm => ?_, hnd⟩)
        obtain ⟨ys, h1, _⟩ := hacc.lists hcs D hm
        exact (woD_some (Nw.ex _ _ h1)).1 rfl
    · cases hd with
      | @tup a xs _ ha hds =>
      refine ⟨_, pss_cons (ps_if (pt_val (pe_callB call_isi (by rfl) T.isi (by decide +kernel) (pa_cons (pv 0) (pa_cons (pe_bltn (v := .ty "list") (by rfl) T.lst (by decide +kernel) rfl) pa_nil)))) (pss_one ps_never) pss_nil)
        (pss_cons (ps_if (pt_val (pe_callB call_isi (by rfl) T.isi (by decide +kernel) (pa_cons (pv 0) (pa_cons (pe_bltn (v := .ty "tuple") (by rfl) T.tup (by decide +kernel) rfl) pa_nil))))
          (pss_one (ps_ret (pe_callTy call_tuple_of (by rfl) T.tup (by decide +kernel) (pa_cons (pe_lc (own := [("part", 1)]) (g := gName 1) (tt := tYes) (te := tCall (spCt n) [] E0 (tCons (tVar 1) tNil)) rfl nd (pi_tup (pv 0)) (blkOk_by (N := n_copied) (sc := defScope s_copied) (by decide +kernel)) (fun _ _ _ _ _ => pg_name (i := 1) nd rfl (Or.inl rfl)) (fun _ _ _ _ _ => pts_nil)
            (fun _ _ _ _ _ => pe_c c0 hr (pa_cons (pv 1) pa_nil))) pa_nil)))) pss_nil)
        (pss_one ps_never)), ?_⟩
      refine ⟨_, rfl, _, _, _, _, false, rfl, .ty "list", .base (.tup ha), kit_ty (by decide +kernel), false, rfl, if_f rfl ?_⟩
      refine ⟨_, rfl, _, _, _, _, true, rfl, .ty "tuple", .base (.tup ha), kit_ty (by decide +kernel), true, rfl, if_t rfl ?_⟩
      have hlen := hds.len
      refine ⟨_, rfl, a, rfl, ⟨_, SqT.of ha⟩, fun D hD => lc_tup (xs := xs) (fun i H' => Evl.Ex H H' ∧ ∃ acc bs, H' D = some (.lst acc) ∧ TrA (Nw H (woD D H')) acc (ds.take i) bs ∧ bs.Nodup) ⟨Evl.Ex.new hD, [], [], upd_same, .nil, List.nodup_nil⟩ (fun i H' _ q => SqT.of (q.1 _ _ ha)) ?_ ?_⟩
      · rintro i x H2 hi ⟨e2, acc, bs, hD2, hacc, hnd⟩
        obtain ⟨d, hdi, hdx⟩ := hds.get hi
        refine ⟨rfl, ?_⟩
        show tCall (spCt n) [] E0 (tCons (tVar 1) tNil) _ _ _
        refine ⟨_, rfl, x, d, rfl, hdx.go e2, hcs d (List.mem_of_getElem? hdi), fun v' as' H3 e3 hv' hn' => ⟨acc, e3 _ _ hD2, ?_, Evl.Ex.mut (e2.trans e3) hD, _, bs ++ as', upd_same, ?_, turn_nd hcs (List.mem_of_getElem? hdi) hacc hnd hv' hn'⟩⟩
        · have h1 := hacc.dq.len
          rw [List.length_take] at h1
          exact Nat.lt_of_le_of_lt (show acc.length ≤ 100 by omega) (by decide)
        · rw [ds_take hdi]
          exact (hacc.go (nwd_go e3)).snoc (hv'.go (nwd_new e2 hD2))
      · rintro H2 ⟨e2, acc, bs, hD2, hacc, hnd⟩
        rw [hlen, List.take_length] at hacc
        refine ⟨D, _, rfl, .inl ⟨SqL.of hD2, fun l hl2 => ?_⟩⟩
        have e3 := Evl.Ex.new (o := .tup acc) hl2
        exact kk _ _ _ (e2.trans e3) (.tup (nw_at (Evl.fresh_back e2 hl2) upd_same) (hacc.go fun b o h => nw_at (nw_none h) (e3 _ _ (woD_some (Nw.ex _ _ h)).2))) hnd
theorem ok_lct0 {f : Addr} {fd : FuncData} (F : Fun K "_law_pv_copied" "_law_pv_copied" s_l_copied f fd) (T : T5 mg) : FnOk P w K mg base CX0 1 f fd p_l_copied (spCt 0) := by
  refine F.ok sc_l_copied (fun vs H Q E h => ?_) (fun cdv A outer s H vs Q E hr h => ?_)
  · obtain ⟨v, d, rfl, _⟩ := h
    rfl
  · obtain ⟨v, d, rfl, hd, hc, kk⟩ := h
    obtain ⟨as, tb⟩ := hd.tr hc
    obtain ⟨rfl, t, k1, k2, ty⟩ := ls_base (K := K) tb fun ds => ⟨(fun z => (by subst z; cases hc)), (fun z => (by subst z; cases hc))⟩
    have tb : TrD (Nw H H) v d [] := by
      cases tb with
      | non => exact .non
      | bl b => exact .bl b
      | int i => exact .int i
      | str x => exact .str x
      | tup h1 h2 => cases hc
    exact ⟨_, pss_cons (ps_if (pt_val (pe_callB call_isi (by rfl) T.isi (by decide +kernel) (pa_cons (pv 0) (pa_cons (pe_bltn (v := .ty "list") (by rfl) T.lst (by decide +kernel) rfl) pa_nil)))) (pss_one ps_never) pss_nil)
        (pss_cons (ps_if (pt_val (pe_callB call_isi (by rfl) T.isi (by decide +kernel) (pa_cons (pv 0) (pa_cons (pe_bltn (v := .ty "tuple") (by rfl) T.tup (by decide +kernel) rfl) pa_nil)))) (pss_one ps_never) pss_nil)
        (pss_one (ps_ret (pv 0)))), ⟨_, rfl, _, _, _, _, false, rfl, .ty "list", ty _, kit_ty k1, false, rfl, if_f rfl ⟨_, rfl, _, _, _, _, false, rfl, .ty "tuple", ty _, kit_ty k2, false, rfl, if_f rfl ⟨_, rfl, kk _ [] _ (Evl.Ex.refl _) tb List.nodup_nil⟩⟩⟩⟩
theorem ok_lctS {n k : Nat} {f : Addr} {fd : FuncData} (F : Fun K "_law_pv_copied" "_law_pv_copied" s_l_copied f fd) (T : T5 mg) (c0 : Cal P w K mg base k "_law_pv_copied" p_l_copied (spCt n)) : FnOk P w K mg base CX0 (k + 1) f fd p_l_copied (spCt (n + 1)) := by
  refine F.ok sc_l_copied (fun vs H Q E h => ?_) (fun cdv A outer s H vs Q E hr h => ?_)
  · obtain ⟨v, d, rfl, _⟩ := h
    rfl
  · obtain ⟨v, d, rfl, hd, hc, kk⟩ := h
    have nd := sc_l_copied.nd
    rcases cp_cases hc with nn | ⟨ds, rfl, hl, hcs⟩ | ⟨ds, rfl, hl, hcs⟩
    · obtain ⟨as, tb⟩ := hd.tr hc
      obtain ⟨rfl, t, k1, k2, ty⟩ := ls_base (K := K) tb nn
      have tb : TrD (Nw H H) v d [] := by
        cases tb with
        | non => exact .non
        | bl b => exact .bl b
        | int i => exact .int i
        | str x => exact .str x
        | tup h1 h2 => exact absurd rfl (nn _).2
      exact ⟨_, pss_cons (ps_if (pt_val (pe_callB call_isi (by rfl) T.isi (by decide +kernel) (pa_cons (pv 0) (pa_cons (pe_bltn (v := .ty "list") (by rfl) T.lst (by decide +kernel) rfl) pa_nil)))) (pss_one ps_never) pss_nil)
        (pss_cons (ps_if (pt_val (pe_callB call_isi (by rfl) T.isi (by decide +kernel) (pa_cons (pv 0) (pa_cons (pe_bltn (v := .ty "tuple") (by rfl) T.tup (by decide +kernel) rfl) pa_nil)))) (pss_one ps_never) pss_nil)
        (pss_one (ps_ret (pv 0)))), ⟨_, rfl, _, _, _, _, false, rfl, .ty "list", ty _, kit_ty k1, false, rfl, if_f rfl ⟨_, rfl, _, _, _, _, false, rfl, .ty "tuple", ty _, kit_ty k2, false, rfl, if_f rfl ⟨_, rfl, kk _ [] _ (Evl.Ex.refl _) tb List.nodup_nil⟩⟩⟩⟩
    · cases hd with
      | @lst a xs _ ha hds =>
      refine ⟨_, pss_cons (ps_if (pt_val (pe_callB call_isi (by rfl) T.isi (by decide +kernel) (pa_cons (pv 0) (pa_cons (pe_bltn (v := .ty "list") (by rfl) T.lst (by decide +kernel) rfl) pa_nil))))
          (pss_one (ps_ret (pe_lc (own := [("part", 1)]) (g := gName 1) (tt := tYes) (te := tCall (spCt n) [] E0 (tCons (tVar 1) tNil)) rfl nd (pi_list (pv 0)) (blkOk_by (N := n_l_copied) (sc := defScope s_l_copied) (by decide +kernel)) (fun _ _ _ _ _ => pg_name (i := 1) nd rfl (Or.inl rfl)) (fun _ _ _ _ _ => pts_nil)
            (fun _ _ _ _ _ => pe_c c0 hr (pa_cons (pv 1) pa_nil))))) pss_nil)
        (pss_cons ps_never (pss_one ps_never)), ?_⟩
      refine ⟨_, rfl, _, _, _, _, true, rfl, .ty "list", .base (.lst ha), kit_ty (by decide +kernel), true, rfl, if_t rfl ?_⟩
      have hlen := hds.len
      refine ⟨_, rfl, a, rfl, ⟨_, SqL.of ha⟩, fun D hD => lc_list (xs := xs) (fun i H' => Evl.Ex H H' ∧ ∃ acc bs, H' D = some (.lst acc) ∧ TrA (Nw H (woD D H')) acc (ds.take i) bs ∧ bs.Nodup) ⟨Evl.Ex.new hD, [], [], upd_same, .nil, List.nodup_nil⟩ (fun i H' _ q => SqL.of (q.1 _ _ ha)) ?_ ?_⟩
      · rintro i x H2 hi ⟨e2, acc, bs, hD2, hacc, hnd⟩
        obtain ⟨d, hdi, hdx⟩ := hds.get hi
        refine ⟨rfl, ?_⟩
        show tCall (spCt n) [] E0 (tCons (tVar 1) tNil) _ _ _
        refine ⟨_, rfl, x, d, rfl, hdx.go e2, hcs d (List.mem_of_getElem? hdi), fun v' as' H3 e3 hv' hn' => ⟨acc, e3 _ _ hD2, ?_, Evl.Ex.mut (e2.trans e3) hD, _, bs ++ as', upd_same, ?_, turn_nd hcs (List.mem_of_getElem? hdi) hacc hnd hv' hn'⟩⟩
        · have h1 := hacc.dq.len
          rw [List.length_take] at h1
          exact Nat.lt_of_le_of_lt (show acc.length ≤ 100 by omega) (by decide)
        · rw [ds_take hdi]
          exact (hacc.go (nwd_go e3)).snoc (hv'.go (nwd_new e2 hD2))
      · rintro H2 ⟨e2, acc, bs, hD2, hacc, hnd⟩
        rw [hlen, List.take_length] at hacc
        refine kk _ _ _ e2 (.lst (nw_at hD hD2) (hacc.go fun b o h => nw_at (nw_none h) (woD_some (Nw.ex _ _ h)).2)) (List.nodup_cons.mpr ⟨fun hm => ?_, hnd⟩)
        obtain ⟨ys, h1, _⟩ := hacc.lists hcs D hm
        exact (woD_some (Nw.ex _ _ h1)).1 rfl
    · cases hd with
      | @tup a xs _ ha hds =>
      refine ⟨_, pss_cons (ps_if (pt_val (pe_callB call_isi (by rfl) T.isi (by decide +kernel) (pa_cons (pv 0) (pa_cons (pe_bltn (v := .ty "list") (by rfl) T.lst (by decide +kernel) rfl) pa_nil)))) (pss_one ps_never) pss_nil)
        (pss_cons (ps_if (pt_val (pe_callB call_isi (by rfl) T.isi (by decide +kernel) (pa_cons (pv 0) (pa_cons (pe_bltn (v := .ty "tuple") (by rfl) T.tup (by decide +kernel) rfl) pa_nil))))
          (pss_one (ps_ret (pe_callTy call_tuple_of (by rfl) T.tup (by decide +kernel) (pa_cons (pe_lc (own := [("part", 1)]) (g := gName 1) (tt := tYes) (te := tCall (spCt n) [] E0 (tCons (tVar 1) tNil)) rfl nd (pi_tup (pv 0)) (blkOk_by (N := n_l_copied) (sc := defScope s_l_copied) (by decide +kernel)) (fun _ _ _ _ _ => pg_name (i := 1) nd rfl (Or.inl rfl)) (fun _ _ _ _ _ => pts_nil)
            (fun _ _ _ _ _ => pe_c c0 hr (pa_cons (pv 1) pa_nil))) pa_nil)))) pss_nil)
        (pss_one ps_never)), ?_⟩
      refine ⟨_, rfl, _, _, _, _, false, rfl, .ty "list", .base (.tup ha), kit_ty (by decide +kernel), false, rfl, if_f rfl ?_⟩
      refine ⟨_, rfl, _, _, _, _, true, rfl, .ty "tuple", .base (.tup ha), kit_ty (by decide +kernel), true, rfl, if_t rfl ?_⟩
      have hlen := hds.len
      refine ⟨_, rfl, a, rfl, ⟨_, SqT.of ha⟩, fun D hD => lc_tup (xs := xs) (fun i H' => Evl.Ex H H' ∧ ∃ acc bs, H' D = some (.lst acc) ∧ TrA (Nw H (woD D H')) acc (ds.take i) bs ∧ bs.Nodup) ⟨Evl.Ex.new hD, [], [], upd_same, .nil, List.nodup_nil⟩ (fun i H' _ q => SqT.of (q.1 _ _ ha)) ?_ ?_⟩
      · rintro i x H2 hi ⟨e2, acc, bs, hD2, hacc, hnd⟩
        obtain ⟨d, hdi, hdx⟩ := hds.get hi
        refine ⟨rfl, ?_⟩
        show tCall (spCt n) [] E0 (tCons (tVar 1) tNil) _ _ _
        refine ⟨_, rfl, x, d, rfl, hdx.go e2, hcs d (List.mem_of_getElem? hdi), fun v' as' H3 e3 hv' hn' => ⟨acc, e3 _ _ hD2, ?_, Evl.Ex.mut (e2.trans e3) hD, _, bs ++ as', upd_same, ?_, turn_nd hcs (List.mem_of_getElem? hdi) hacc hnd hv' hn'⟩⟩
        · have h1 := hacc.dq.len
          rw [List.length_take] at h1
          exact Nat.lt_of_le_of_lt (show acc.length ≤ 100 by omega) (by decide)
        · rw [ds_take hdi]
          exact (hacc.go (nwd_go e3)).snoc (hv'.go (nwd_new e2 hD2))
      · rintro H2 ⟨e2, acc, bs, hD2, hacc, hnd⟩
        rw [hlen, List.take_length] at hacc
        refine ⟨D, _, rfl, .inl ⟨SqL.of hD2, fun l hl2 => ?_⟩⟩
        have e3 := Evl.Ex.new (o := .tup acc) hl2
        exact kk _ _ _ (e2.trans e3) (.tup (nw_at (Evl.fresh_back e2 hl2) upd_same) (hacc.go fun b o h => nw_at (nw_none h) (e3 _ _ (woD_some (Nw.ex _ _ h)).2))) hnd
end
end V2


/-! ## the text of data with ints of up to 4300 digits -/
namespace PySem
section
variable {prog : Program} {w : World} {A : Around} {E : Value → Shared → Prop} {s : Shared}
/-- nobody has set the digits' limit -/
def NoDig (K : PySem.W.Frag) : Prop := PySem.W.nsIn K cStatics "sys.int_max_str_digits" = some none
theorem over_small {K : PySem.W.Frag} (hK : K.In s.heap) (e : NoDig K) {a : Int} (ha : a.natAbs < 10 ^ 4300) {Q : Option Nat → Shared → Prop} (h : Q none s) : wpAny (model prog w) A (Builtin.overDigitLimit? a) Q E s := by
  generalize hP : 10 ^ 4300 = P at ha
  have lo : 2 ^ 12900 ≤ P := hP ▸ PyProof.Rows.pow_lo
  have hi : P ≤ 2 ^ 30000 := hP ▸ PyProof.Rows.pow_hi
  unfold Builtin.overDigitLimit?
  by_cases hs : a.natAbs.log2 < 1920
  · rw [if_pos hs]
    exact wpAny_pure h
  · rw [if_neg hs]
    unfold Builtin.intMaxStrDigits
    refine wpAny_bind (wpAny_bind (PySem.W.looks_nsIn hK e A _ _ s (fun _ _ z => z) ?_))
    refine wpAny_pure ?_
    rw [hP]
    dsimp only
    by_cases hz : a.natAbs.log2 / 30 + 1 > 1000
    · exact absurd (Nat.le_trans hi (PyProof.Rows.le_of_log2 (by decide) (show 30000 ≤ a.natAbs.log2 by omega))) (Nat.not_le_of_lt ha)
    · rw [if_neg hz]
      by_cases h3 : a.natAbs.log2 < 3 * 4300
      · rw [if_pos (by simp [h3])]
        exact wpAny_pure h
      · rw [if_neg (by simp [h3])]
        rw [if_neg (Nat.not_le_of_lt ha)]
        exact wpAny_pure h
theorem gives_int_reprW {K : PySem.W.Frag} (e : NoDig K) {a : Int} {t : Tok} (ha : a.natAbs < 10 ^ 4300) : GivesAt (fun s => K.In s.heap) (Builtin.«int.__repr__» ⟨[.int a t], []⟩) (.str (toString a)) := by
  intro prog w A R s hK h
  unfold Builtin.«int.__repr__»
  show wpAny _ _ (do let r ← Builtin.overDigitLimit? a; _) _ _ s
  refine wpAny_bind (over_small hK e ha ?_)
  exact wpAny_bind (wpAny_mkStr (wpAny_pure h.2) (int_text_fits10 ha))
theorem pyReprObj_intW {K : PySem.W.Frag} (hK : K.In s.heap) (e : NoDig K) {a : Int} {t : Tok} (ha : a.natAbs < 10 ^ 4300) {Q : Value → Shared → Prop} (h : Q (.str (toString a) s.toks) { s with toks := s.toks + 1 }) : wpAny (model prog w) A (pyReprObj (.int a t)) Q E s := by
  have hv : [Value.int a t].any Value.onHeap = false := rfl
  have hT := typeIs_int s a t
  unfold pyReprObj
  simp only [cRoomFor, hv, Bool.false_eq_true, if_false, pure_bind]
  refine wpAny_bind (wpAny_specialOf (name := Str.ofString "__repr__") hT F.slot_int_repr.lookup ?_)
  refine wpAny_bind (m := callSpecialIfBound? (.int a t) (Str.ofString "__repr__")) (wpAny_callSpecialIfBound?_slot (name := Str.ofString "__repr__") hT F.slot_int_repr (call_givesAt F.slot_int_repr hT F.entry_int_repr (F.args_int_repr_1 _) (gives_int_reprW e ha) hK ⟨int_text_fits10 ha, ?_⟩))
  exact wpAny_bind (wpAny_isInstance (T := "str") (b := true) rfl isSubtype_str_str (wpAny_pure h))
theorem ReprK.intW {K : PySem.W.Frag} {h₀ : Heap} (hK : K.In h₀) (e : NoDig K) {a : Int} {t : Tok} (ha : a.natAbs < 10 ^ 4300) (bs : List Addr) (d : Nat) : ReprK prog w bs h₀ d (.int a t) (toString a) := by
  intro n hn A g E s Q _ _ _ hk hQ
  have hn' : n ≤ sizeLine := by omega
  rw [pyReprUnder_leaf (v := .int a t) hn' (fun _ e => nomatch e)]
  unfold pyRepr
  exact wpAny_bind (pyReprObj_intW (PySem.W.Frag.In.keeps hK hk) e ha (wpAny_pure (hQ s.heap _ fun _ _ z => z)))
end
/-! ### data -/
mutual
/-- what may be shown so -/
def WideD : PyData → Prop
  | .none => True
  | .bool _ => True
  | .int n => n.natAbs < 10 ^ 4300
  | .str _ => True
  | .list ds => WideA ds
  | .tuple ds => WideA ds
  | _ => False
def WideA : List PyData → Prop
  | [] => True
  | d :: ds => WideD d ∧ WideA ds
end
section
variable {prog : Program} {w : World} {h₀ : Heap} {K : PySem.W.Frag}
mutual
theorem ReprK.of_readsW (hK : K.In h₀) (e : NoDig K) : ∀ {v : Value} {d : PyData}, ReadsS h₀ v d → WideD d → d.shown.length ≤ sizeLine → ∃ bs, ReadAtMost h₀ d.depth bs ∧ ReprK prog w bs h₀ d.depth v d.shown
  | _, _, .none, _, _ => ⟨[], (fun _ h => nomatch h), by simp only [PyData.shown]; exact .of_is ReprIs.none _ _ _⟩
  | _, _, .bool b, _, _ => ⟨[], (fun _ h => nomatch h), by simp only [PyData.shown]; exact .of_is (ReprIs.bool b) _ _ _⟩
  | _, _, .int i t, hs, _ => ⟨[], (fun _ h => nomatch h), by simp only [PyData.shown]; exact ReprK.intW hK e hs _ _⟩
  | _, _, .str x t, _, hz => ⟨[], (fun _ h => nomatch h), by simp only [PyData.shown]; exact .of_is (ReprIs.str x t (by simpa only [PyData.shown] using hz)) _ _ _⟩
  | _, _, .list (a := a) (vs := vs) (xs := xs) h1 h2 h3 h4, hs, hz => by
    have hz' : (listText (PyData.shownAll xs)).length ≤ sizeLine := by simpa only [PyData.shown] using hz
    obtain ⟨bs, hb, hk⟩ := ReprAllK.of_readsAllW hK e h4 (by simpa only [WideD] using hs) (fun t ht => Nat.le_trans (listText_mem_le ht) hz')
    obtain ⟨_, r4⟩ := h4.reads
    have r : Reads h₀ (.ref a) (.list xs) _ := .list h1 h2 h3 r4
    have hna : a ∉ bs := not_mem_of_deeper r (by simp only [PyData.depth]; omega) hb
    refine ⟨a :: bs, ReadAtMost.cons r (by simp only [PyData.depth]; omega) hb, ?_⟩
    simp only [PyData.depth, PyData.shown]
    obtain ⟨l⟩ := vs
    cases l with
    | nil =>
      have h4' : ReadsAllS h₀ [] xs := h4
      cases h4'
      simp only [PyData.shownAll, listText_nil]
      exact ReprK.listEmpty h1 h2 h3
    | cons x l => exact ReprK.list h1 h2 h3 hna (by simpa using hk.length_eq) (fun i y e => hk.item i y (by simpa using e))
  | _, _, .tuple (a := a) (xs := xs) h1 h2 h3 h4, hs, hz => by
    have hz' : (tupleText (PyData.shownAll xs)).length ≤ sizeLine := by simpa only [PyData.shown] using hz
    obtain ⟨bs, hb, hk⟩ := ReprAllK.of_readsAllW hK e h4 (by simpa only [WideD] using hs) (fun t ht => Nat.le_trans (tupleText_mem_le ht) hz')
    obtain ⟨_, r4⟩ := h4.reads
    have r : Reads h₀ (.ref a) (.tuple xs) _ := .tuple h1 h2 h3 r4
    have hna : a ∉ bs := not_mem_of_deeper r (by simp only [PyData.depth]; omega) hb
    refine ⟨a :: bs, ReadAtMost.cons r (by simp only [PyData.depth]; omega) hb, ?_⟩
    simp only [PyData.depth, PyData.shown]
    exact ReprK.tuple h1 h2 h3 hna hk
  | _, _, .dict h1 h2 h3 hsys h4 h5, hs, hz => by
    simp only [WideD] at hs
theorem ReprAllK.of_readsAllW (hK : K.In h₀) (e : NoDig K) : ∀ {vs : List Value} {ds : List PyData}, ReadsAllS h₀ vs ds → WideA ds → (∀ t ∈ PyData.shownAll ds, t.length ≤ sizeLine) →
    ∃ bs, ReadAtMost h₀ (PyData.depthAll ds) bs ∧ ReprAllK prog w bs h₀ (PyData.depthAll ds) vs (PyData.shownAll ds)
  | _, _, .nil, _, _ => ⟨[], (fun _ h => nomatch h), by simp only [PyData.shownAll]; exact .nil⟩
  | _, _, .cons (d := d) (ds := ds) r rs, hs, hz => by
    have hs' : WideD d ∧ WideA ds := by simpa only [WideA] using hs
    obtain ⟨b1, hb1, k1⟩ := ReprK.of_readsW hK e r hs'.1 (hz _ (by simp only [PyData.shownAll]; exact List.mem_cons_self ..))
    obtain ⟨b2, hb2, k2⟩ := ReprAllK.of_readsAllW hK e rs hs'.2 (fun t ht => hz t (by simp only [PyData.shownAll]; exact List.mem_cons_of_mem _ ht))
    refine ⟨b1 ++ b2, ?_, ?_⟩
    · intro b hm
      simp only [PyData.depthAll]
      rcases List.mem_append.mp hm with hm | hm
      · obtain ⟨d', as', r', hd'⟩ := hb1 b hm
        exact ⟨d', as', r', Nat.le_trans hd' (Nat.le_max_left _ _)⟩
      · obtain ⟨d', as', r', hd'⟩ := hb2 b hm
        exact ⟨d', as', r', Nat.le_trans hd' (Nat.le_max_right _ _)⟩
    · simp only [PyData.depthAll, PyData.shownAll]
      exact .cons ((k1.more fun b hb => List.mem_append_left _ hb).level_le (Nat.le_max_left _ _)) (k2.more_le (fun b hb => List.mem_append_right _ hb) (Nat.le_max_right _ _))
end
theorem showsBy_of_readsW (hK : K.In h₀) (e : NoDig K) {a : Addr} {d : PyData} (r : ReadsS h₀ (.ref a) d) (hs : WideD d) (hsz : d.shown.length ≤ sizeLine) : ∃ T idr, ShowsBy prog w h₀ a d T idr := by
  cases r with
  | list h1 h2 h3 h4 =>
    rename_i o vs n xs
    have hz' : (listText (PyData.shownAll xs)).length ≤ sizeLine := by simpa only [PyData.shown] using hsz
    obtain ⟨bs, hb, hk⟩ := ReprAllK.of_readsAllW (prog := prog) (w := w) hK e h4 (by simpa only [WideD] using hs) (fun t ht => Nat.le_trans (listText_mem_le ht) hz')
    obtain ⟨_, r4⟩ := h4.reads
    have hna : a ∉ bs := not_mem_of_deeper (.list h1 h2 h3 r4) (by simp only [PyData.depth]; omega) hb
    refine ⟨"list", "list.__repr__", F.slot_list_repr.toG, F.slot_list_str, F.slot_list_format, fun s hk0 => ⟨o, hk0 _ _ h1, h2⟩, fun A E s Q hg hu hk0 hQ => ?_⟩
    simp only [PyData.depth] at hu
    simp only [PyData.shown] at hQ
    obtain ⟨l⟩ := vs
    cases l with
    | nil =>
      have h4' : ReadsAllS h₀ [] xs := h4
      cases h4'
      simp only [PyData.shownAll, listText_nil] at hQ
      exact call_list_repr_empty ⟨o, hk0 _ _ h1, h2⟩ (hk0 _ _ h1) h3 (hQ s.heap _ _ fun _ _ e => e)
    | cons x l =>
      exact call_list_reprK h1 h2 h3 hna (by simpa using hk.length_eq) (fun i y e => hk.item i y (by simpa using e)) hg (fun b _ => Clear.nil b) hu hk0 hQ hz'
  | tuple h1 h2 h3 h4 =>
    rename_i o vs n xs
    have hz' : (tupleText (PyData.shownAll xs)).length ≤ sizeLine := by simpa only [PyData.shown] using hsz
    obtain ⟨bs, hb, hk⟩ := ReprAllK.of_readsAllW (prog := prog) (w := w) hK e h4 (by simpa only [WideD] using hs) (fun t ht => Nat.le_trans (tupleText_mem_le ht) hz')
    obtain ⟨_, r4⟩ := h4.reads
    have hna : a ∉ bs := not_mem_of_deeper (.tuple h1 h2 h3 r4) (by simp only [PyData.depth]; omega) hb
    refine ⟨"tuple", "tuple.__repr__", F.slot_tuple_repr, F.slot_tuple_str, F.slot_tuple_format, fun s hk0 => ⟨o, hk0 _ _ h1, h2⟩, fun A E s Q hg hu hk0 hQ => ?_⟩
    simp only [PyData.depth] at hu
    simp only [PyData.shown] at hQ
    exact call_tuple_reprK h1 h2 h3 hna hk hg (fun b _ => Clear.nil b) hu hk0 hQ hz'
  | dict h1 h2 h3 hsys h4 h5 => simp only [WideD] at hs
theorem repr_of_readsW (hK : K.In h₀) (e : NoDig K) {a : Addr} {d : PyData} {A : Around} {E : Value → Shared → Prop} {s : Shared} {Q : Value → Shared → Prop} (r : ReadsS h₀ (.ref a) d) (hs : WideD d) (hg : A.guards = some []) (hu : A.units + (d.depth + 1) < cLine) (hk0 : ∀ b o, h₀.get? b = some o → s.heap.get? b = some o)
    (hQ : ∀ h' u tk, (∀ b o, s.heap.get? b = some o → h'.get? b = some o) → Q (.str d.shown u) { s with heap := h', toks := tk })
    (hsz : d.shown.length ≤ sizeLine) : wpAny (model prog w) A (call (.builtin "repr") [.ref a]) Q E s := by
  obtain ⟨T, idr, S⟩ := showsBy_of_readsW (prog := prog) (w := w) hK e r hs hsz
  exact call_repr_slot (by omega) (S.typeIs s hk0) S.slotRepr (S.call A.in1 E s _ hg (by show A.units + 1 + d.depth < cLine; omega) hk0 fun h' u tk hk => ⟨_, _, rfl, hQ h' u tk hk⟩)
end
end PySem
namespace V2
open PySem L2
open PySem.Spec PyProof.Rows
/-- repr of lists and tuples that are data, with ints of up to 4300 digits -/
def rShowW : List V → Hp → VK → Prop := fun xs H Q => ∃ (a : Addr) (d : PyData), xs = [.ref a] ∧ Dq H (.ref a) d ∧ WideD d ∧ d.depth ≤ 60 ∧ d.shown.length ≤ sizeLine ∧ Q (.str d.shown) H
theorem call_showW {X : Cx} (hN : NoDig X.K) (hgd : X.A.guards = some []) (hu : X.A.units + 64 < cLine) : CallR X (.builtin "repr") rShowW := by
  intro pins s σ H xs us Q I r h
  obtain ⟨a, d, rfl, hd, hs, hp, hz, q⟩ := h
  obtain ⟨u, rfl, ru⟩ : ∃ u, us = [u] ∧ RelV (.ref a) u := by
    cases r with
    | cons ra rb =>
      cases rb
      exact ⟨_, rfl, ra⟩
  have rd := Dq.reads I hd ru
  cases ru
  exact repr_of_readsW I.kIn hN rd hs hgd (by omega) (fun _ _ e => e) (fun h' u tk k => ⟨.str _, H, I.kept (t' := tk) k, ⟨u, rfl⟩, q⟩) hz
end V2


namespace V2
open PySem L2
open PySem.Spec PyProof.Rows
/-! ## marked and right, with great numbers -/
def ShX (d : PyData) : Prop := WideD d ∧ d.depth ≤ 60 ∧ d.shown.length ≤ sizeLine
def spMkW (n : Nat) : Sp := fun vs H Q _ => ∃ (a : Addr) (d : PyData) (as : List Addr), vs = [.ref a] ∧ TrD H (.ref a) d as ∧ Cp n d ∧ as.Nodup ∧ as.length ≤ 1000 ∧ ShX (mkD 0 d) ∧ ∀ H', ButL as H H' → Q (.str (mkD 0 d).shown) H'
def spRtW (n : Nat) : Sp := fun vs H Q _ => ∃ (a b : Addr) (d : PyData) (as : List Addr), vs = [.ref a, .ref b] ∧ TrD H (.ref a) d as ∧ Cp n d ∧ as.Nodup ∧ as.length ≤ 1000 ∧ Dq (woL as H) (.ref b) d ∧ ShX d ∧ ShX (mkD 0 d) ∧ ∀ H', ButL as H H' → Q (.bl true) H'
section
variable {base : Heap} {mg : Str → Option Value} {K : PySem.W.Frag} {w : World} {P : Program}
theorem ok_markedW {n k : Nat} {f : Addr} {fd : FuncData} (F : Fun K "_law_pv_marked" "_law_pv_marked" s_l_marked f fd) (hN : NoDig K) (T : T8 mg) (cL : Cal P w K mg base k "_law_pv_lists" p_l_lists (spLs n)) : FnG P w K mg base (k + 1) f fd p_l_marked (spMkW n) := by
  refine Fun.okG F sc_l_marked (fun vs H Q E h => ?_) (fun cdv A outer s H vs Q E hg hr h => ?_)
  · obtain ⟨v, d, as, rfl, _⟩ := h
    rfl
  · obtain ⟨v, d, as, rfl, hT, hC, hD, hl, ⟨w1, w2, w3⟩, kk⟩ := h
    have nd := sc_l_marked.nd
    refine ⟨_, pss_cons (ps_set (i := 1) nd rfl (Or.inl rfl) (pe_c cL hr (pa_cons (pv 0) pa_nil)))
      (pss_cons (ps_for PassesOwn.never rfl (pi_range1 (by rfl) T.rng (pa_cons (pe_callB call_len_seq (by rfl) T.len PySem.boot_len (pa_cons (pv 1) pa_nil)) pa_nil)) (pg_name (i := 2) nd rfl (Or.inl rfl))
        (pss_one (ps_expr (pe_bm PySem.F.plainAttrs_list PySem.F.slot_list_append PySem.F.type_list_append mt_append (pe_ix ix_list (pv 1) (pv 2) (fun _ _ => rfl)) (pa_cons (pv 2) pa_nil)))))
      (pss_one (ps_ret (pe_callB (call_showW hN hg hr.units) (by rfl) T.rep (by decide +kernel) (pa_cons (pv 0) pa_nil))))), ?_⟩
    refine ⟨_, rfl, .ref v, d, as, rfl, hT, hC, hl, fun q H1 hq e1 h1 => ?_⟩
    have hls := hT.lists hC
    have qn : ∀ x ∈ as, x ≠ q := fun x hx e => by
      obtain ⟨xs, hxs, _⟩ := hls x hx
      rw [e, hq] at hxs
      cases hxs
    refine ⟨_, rfl, q, _, rfl, .inl (SqL.of h1), _, rfl, by omega, ?_, ?_⟩
    · rw [List.length_map]; omega
    rw [Int.toNat_natCast, List.length_map]
    refine for_range (n := as.length) (fun k σ H' => (∃ u, σ = [some (.ref v), some (.ref q), u]) ∧ ButL as H1 H' ∧ H' q = some (.lst (as.map V.ref)) ∧
      ∀ j x xs, as[j]? = some x → H x = some (.lst xs) → H' x = some (.lst (xs ++ if j < k then [.int (j : Int)] else []))) ⟨⟨_, rfl⟩, fun _ _ _ h => h, h1, fun j x xs hj hx => ?_⟩ ?_ ?_
    · rw [if_neg (Nat.not_lt_zero _), List.append_nil]
      exact e1 _ _ hx
    · rintro i σ H' hi ⟨⟨u, rfl⟩, g1, g2, g3⟩
      have hx := List.getElem?_eq_getElem hi
      obtain ⟨xs, hxs, hxl⟩ := hls _ (List.getElem_mem hi)
      have hx3 := g3 i _ xs hx hxs
      rw [if_neg (Nat.lt_irrefl _), List.append_nil] at hx3
      have nq := qn _ (List.getElem_mem hi)
      have e0 : (0 : Int) + (i : Int) = (i : Int) := (Int.zero_add _)
      refine ⟨_, rfl, _, rfl, q, _, _, .ref as[i], rfl, rfl, SqL.of g2, ?_, .inl ⟨rfl, _, SqL.of hx3⟩, _, rfl, _, _, _, rfl, rfl, hx3, ?_, ?_⟩
      · show atI _ ((0 : Int) + (i : Int)) = _
        rw [e0]
        refine atI_nat ?_
        rw [List.getElem?_map, hx]; rfl
      · exact Nat.lt_of_le_of_lt hxl (by decide)
      · refine ⟨⟨_, rfl⟩, fun b o hb h => ?_, ?_, fun j x ys hj hy => ?_⟩
        · rw [upd_ne (fun e => hb (by rw [e]; exact List.getElem_mem hi))]
          exact g1 b o hb h
        · rw [upd_ne nq.symm]; exact g2
        · by_cases e : j = i
          · subst e
            rw [hx] at hj
            cases hj
            rw [hxs] at hy
            cases hy
            rw [upd_same, if_pos (Nat.lt_succ_self _)]
            show some (HO.lst (xs ++ [.int ((0 : Int) + (j : Int))])) = _
            rw [e0]
          · have nx : x ≠ as[i] := by
              intro e2
              have hj2 : j < as.length := (List.getElem?_eq_some_iff.mp hj).1
              have ej : as[j] = x := (List.getElem?_eq_some_iff.mp hj).2
              have := (List.pairwise_iff_getElem.mp hD)
              rcases Nat.lt_or_gt_of_ne e with c | c
              · exact this j i hj2 hi c (by rw [ej, e2])
              · exact this i j hi hj2 c (by rw [ej, e2])
            rw [upd_ne nx, g3 j x ys hj hy]
            by_cases c : j < i
            · rw [if_pos c, if_pos (by omega)]
            · rw [if_neg c, if_neg (by omega)]
    · rintro σ H' ⟨⟨u, rfl⟩, g1, g2, g3⟩
      refine ⟨_, rfl, v, mkD 0 d, rfl, tr_mk (H := H) (H' := H') (fun a xs ha => g1 _ _ (fun m => ?_) (e1 _ _ ha)) hT (fun j a xs hj ha => ?_), w1, w2, w3, kk H' fun b o hb h => g1 b o hb (e1 b o h)⟩
      · obtain ⟨ys, hy, _⟩ := hls _ m
        rw [ha] at hy
        cases hy
      · rw [g3 j a xs hj ha, if_pos (List.getElem?_eq_some_iff.mp hj).1, Nat.zero_add]
theorem dq_ref {H : Hp} {v : V} {d : PyData} {a : Addr} {H0 : Hp} (h : Dq H v d) (k : Dq H0 (.ref a) d) : ∃ b, v = .ref b := by
  cases k with
  | lst _ _ => cases h; exact ⟨_, rfl⟩
  | tup _ _ => cases h; exact ⟨_, rfl⟩
  | dct _ _ => cases h; exact ⟨_, rfl⟩
theorem ok_rightW {n k m : Nat} {f : Addr} {fd : FuncData} (F : Fun K "_law_pv_right" "_law_pv_right" s_l_right f fd) (hN : NoDig K) (T : T8 mg) (cC : Cal P w K mg base k "_law_pv_copied" p_l_copied (spCt n)) (hkm : k ≤ m) (cM : CalG P w K mg base m "_law_pv_marked" p_l_marked (spMkW n)) : FnG P w K mg base (m + 1) f fd p_l_right (spRtW n) := by
  refine Fun.okG F sc_l_right (fun vs H Q E h => ?_) (fun cdv A outer s H vs Q E hg hr h => ?_)
  · obtain ⟨v, u, d, as, rfl, _⟩ := h
    rfl
  · obtain ⟨v, u, d, as, rfl, hT, hC, hD, hl, hU, ⟨t1, t2, t3⟩, hM, kk⟩ := h
    have hmk : Room k _ := hr.mono hkm
    refine ⟨_, pss_cons (ps_if (pt_cmpR op_ne (pe_callB (call_showW hN hg hr.units) (by rfl) T.rep (by decide +kernel) (pa_cons (pv 0) pa_nil)) (pe_callB (call_showW hN hg hr.units) (by rfl) T.rep (by decide +kernel) (pa_cons (pv 1) pa_nil)) (nomark _)) (pss_one (ps_ret pe_bl)) pss_nil)
      (pss_one (ps_ret (pe_cmpR op_eq (pe_cg cM hg hr (pa_cons (pv 0) pa_nil)) (pe_cg cM hg hr (pa_cons (pe_c cC hmk (pa_cons (pv 1) pa_nil)) pa_nil)) (nomark _)))), ?_⟩
    refine ⟨_, rfl, v, d, rfl, hT.dq, t1, t2, t3, _, rfl, u, d, rfl, hU.go woL_ex, t1, t2, t3, rfl, _, rfl, ?_⟩
    refine if_f (by simp) ?_
    refine ⟨_, rfl, v, d, as, rfl, hT, hC, hD, hl, hM, fun H1 o1 => ?_⟩
    have hU1 : Dq H1 (.ref u) d := hU.go fun b o z => o1 b o (woL_ne z) (woL_ex _ _ z)
    refine ⟨_, rfl, .ref u, d, rfl, hU1, hC, fun v' bs H2 e2 hB hnd => ?_⟩
    obtain ⟨b, rfl⟩ := dq_ref hB.dq hU1
    have hbl : bs.length = as.length := by rw [hB.cnt, hT.cnt]
    refine ⟨b, d, bs, rfl, hB.go Nw.ex, hC, hnd, by omega, hM, fun H3 o3 => ⟨rfl, ?_⟩⟩
    show Q (.bl (decide (V.str (mkD 0 d).shown = V.str (mkD 0 d).shown))) H3
    rw [decide_eq_true rfl]
    refine kk H3 fun b o hb h => o3 b o (fun hm => ?_) (e2 b o (o1 b o hb h))
    obtain ⟨xs, hx, _⟩ := hB.lists hC b hm
    have h5 := o1 b o hb h
    rw [nw_none hx] at h5
    cases h5
end
end V2


namespace V2
open PySem L2
open PySem.Spec PyProof.Rows
def spTotal : Sp := fun vs H Q _ => ∃ (l : Addr) (A : List Int) (W : Int) (N : Nat), vs = [.ref l] ∧ PrAt H l (Bh A W) ∧ A.length ≤ 20 ∧ OkW N A W ∧ N ≤ 4300 ∧ ∀ t H', Evl.Ex H H' → Fr H' t (fr A.sum W).1 (fr A.sum W).2 → Q (.ref t) H'
section
variable {base : Heap} {mg : Str → Option Value} {K : PySem.W.Frag} {w : World} {P : Program}
theorem ok_total {f : Addr} {fd : FuncData} (F : Fun K "_law_pv_total" "_law_pv_total" s_l_total f fd) (cA : Cal P w K mg base 3 "_law_pv_add" p_l_add spA) : FnOk P w K mg base CX0 4 f fd p_l_total spTotal := by
  refine F.ok sc_l_total (fun vs H Q E h => ?_) (fun cdv A outer s H vs Q E hr h => ?_)
  · obtain ⟨l, A, W, N, rfl, _⟩ := h
    rfl
  · obtain ⟨l, Am, W, N, rfl, hP, h20, hO, hN, k⟩ := h
    have nd := sc_l_total.nd
    have two : 2 ≤ sizeLine := by show 2 ≤ sizeLine; decide
    refine ⟨_, pss_cons (ps_set (i := 1) nd rfl (Or.inl rfl) (pe_tup (pa_cons pe_int (pa_cons pe_int pa_nil))))
      (pss_cons (ps_for PassesOwn.never rfl (pi_list (pv 0)) (pg_name (i := 2) nd rfl (Or.inl rfl)) (pss_one (ps_set (i := 1) nd rfl (Or.inl rfl) (pe_c cA hr (pa_cons (pv 1) (pa_cons (pv 2) pa_nil))))))
      (pss_one (ps_ret (pv 1)))), ?_⟩
    obtain ⟨xs, hl, hlen, hx⟩ := pr_items hP
    rw [bh_len] at hlen hx
    have W0 := hO.pos
    refine ⟨two, fun t0 ht0 => ?_⟩
    have e0 := Evl.Ex.new (o := .tup [.int 0, .int 1]) ht0
    have h0 : upd H t0 (.tup [.int 0, .int 1]) t0 = some (.tup [.int 0, .int 1]) := upd_same
    generalize upd H t0 (.tup [.int 0, .int 1]) = H0 at e0 h0
    refine ⟨_, rfl, l, rfl, ⟨_, SqL.of (e0 _ _ hl)⟩, for_list (xs := xs) (fun i σ H' => ∃ (t : Addr) (v : Option V), σ = [some (.ref l), some (.ref t), v] ∧ Evl.Ex H H' ∧ Fr H' t (fr (Am.take i).sum W).1 (fr (Am.take i).sum W).2) ⟨t0, none, rfl, e0, by rw [show (Am.take 0).sum = 0 from rfl, fr_0 W0]; exact h0⟩ (fun i σ H' _ q => by obtain ⟨_, _, _, q, _⟩ := q; exact SqL.of (q _ _ hl)) ?_ ?_⟩
    · rintro i y σ H1 hi ⟨t, v, rfl, e1, hF⟩
      have hi2 : i < Am.length := by
        have := (List.getElem?_eq_some_iff.mp hi).1
        omega
      obtain ⟨a, ha, hFa, ma⟩ := hx i hi2
      rw [ha] at hi
      cases hi
      have bits := bh_bits hO _ ma
      have tb : Bn (N + 5) (Am.take i).sum := bn_sum20 (fun z hz => hO.bA z (List.mem_of_mem_take hz)) (by rw [List.length_take]; omega)
      have b1 := fr_abs1 (a := (Am.take i).sum) W0
      have b2 := fr_abs2 (a := (Am.take i).sum) W0
      have tb' : (Am.take i).sum.natAbs < 2 ^ (N + 5) := tb
      have bW : W.natAbs < 2 ^ N := hO.bW
      refine ⟨_, rfl, _, rfl, t, a, _, _, _, _, rfl, hF, e1 _ _ hFa, fr_pos W0, bits.1, (show Bn (N + 5) _ from Nat.lt_of_le_of_lt b1 tb').le (by omega), (show Bn N _ from Nat.lt_of_le_of_lt b2 bW).le (by omega), bits.2.1.le (by omega), bits.2.2.le (by omega), fun t2 H2 ht2 e2 h2 => ⟨t2, _, rfl, e1.trans e2, ?_⟩⟩
      have e : fr (Am.take (i + 1)).sum W = frA (fr (Am.take i).sum W) ((Bh Am W).getD i (0, 1)) := by
        rw [bh_get hi2, frA_fr W0 W0, sum_take (List.getElem?_eq_getElem hi2), getD_el hi2, ← Int.add_mul, fr_sc W0 W0]
      rw [e]
      exact h2
    · rintro σ H1 ⟨t, v, rfl, e1, hF⟩
      rw [hlen, List.take_length] at hF
      exact ⟨_, rfl, k t H1 e1 hF⟩
end
end V2


namespace V2
open PySem L2
open PySem.Spec PyProof.Rows
/-! ## len of an instance with its own __len__ -/
def rLenO (C : Addr) (sp : Sp) : List V → Hp → VK → Prop := fun xs H Q => ∃ (a dx : Addr) (fs : List (Str × V)), xs = [.ref a] ∧ H a = some (.ins C dx fs) ∧ sp [.ref a] H (fun v H' => ∃ n : Nat, v = .int (n : Int) ∧ n ≤ 1000000 ∧ Q (.int (n : Int)) H') E0
theorem call_lenO {X : Cx} {k : Nat} {C g : Addr} {fd : FuncData} {ps : List Str} {sp : Sp} (F : FnOk X.prog X.w X.K X.mg X.base CX0 k g fd ps sp) (hs : PySem.W.findIn X.K (.ref C) "__len__" = some (some (.ref g))) (hf : PySem.W.isFn X.K (.ref g) = true) (hb : Binds X.K fd ps []) (hr : Room (k + 1) X.A) : CallR X (.builtin "len") (rLenO C sp) := by
  intro pins s σ H xs us Q I r h
  obtain ⟨a, dx, fs, rfl, ha, hsp⟩ := h
  obtain ⟨u, rfl, ru⟩ : ∃ u, us = [u] ∧ RelV (.ref a) u := by
    cases r with
    | cons ra rb =>
      cases rb
      exact ⟨_, rfl, ra⟩
  obtain rfl : u = Value.ref a := ru
  obtain ⟨mA, J, _⟩ := ins_get I.hok ha
  obtain ⟨od, J, _⟩ := J.look
  refine PySem.Calls.call_function_entry PySem.kind_len PySem.plain_len PySem.entry_len (PySem.args_len1 _) ?_
  unfold Builtin.«len»
  refine wpAny_bind (m := oneArg "len" _) (wpAny_pure ?_)
  refine wpAny_bind (m := callSpecial? (.ref a) (PySem.Str.ofString "__len__")) (PySem.W.special_fn I.kIn J hs (beq_iff_eq.mp hf) ?_)
  have e0 : Env0 X.prog X.w X.K X.mg X.base X.A.in1 X.stack s H := by
    have e := I.env0
    exact ⟨e.frames, e.mod, e.bs, e.bsz, e.funs, e.frf, e.hok, e.bare⟩
  have hl := F.len _ _ _ _ hsp
  have r2 : Vals [V.ref a] [Value.ref a] := .cons rfl .nil
  refine wpAny_call (codeAny_mono (F.run X.A.in1 X.stack s H ⟨[.ref a], []⟩ [.ref a] [.ref a] _ E0 hr.in1 e0 (by
    have := hb s [.ref a] I.kIn (by simpa using hl)
    simpa using this) r2 hsp) fun r s' hq => ?_)
  cases r with
  | error e => exact hq.elim
  | ok fl =>
    cases fl with
    | ret w =>
      obtain ⟨z, H', I', rz, n, ez, hn, q⟩ := I.after hq
      subst ez
      obtain ⟨t, rfl⟩ := rz
      refine wpAny_bind (wpAny_holding (wpAny_pure ?_))
      refine wpAny_bind (wpAny_letGo ?_)
      show wpAny _ _ (if ((n : Nat) : Int) < 0 then _ else _) _ _ _
      rw [if_neg (by omega)]
      show wpAny _ _ (if ((n : Nat) : Int) ≥ 2 ^ 63 then _ else _) _ _ _
      rw [if_neg (by omega)]
      exact wpAny_bind (wpAny_mkInt (wpAny_pure ⟨_, rfl, .int (n : Int), H', I'.tok _, ⟨_, rfl⟩, q⟩))
    | next => exact hq.elim
    | brk => exact hq.elim
    | cont => exact hq.elim
end V2


namespace V2
open PySem L2
open PySem.Spec PyProof.Rows
/-! ## what is shown: wide data -/
structure Sx (n B : Nat) (d : PyData) : Prop where
  s : WideD d
  dp : d.depth ≤ n
  l : d.shown.length ≤ B
theorem Sx.le {n m B C : Nat} {d : PyData} (h : Sx n B d) (a : n ≤ m) (b : B ≤ C) : Sx m C d := ⟨h.s, Nat.le_trans h.dp a, Nat.le_trans h.l b⟩
theorem Sx.sh {n B : Nat} {d : PyData} (h : Sx n B d) (a : n ≤ 60) (b : B ≤ 10000000) : ShX d := ⟨h.s, Nat.le_trans h.dp a, Nat.le_trans h.l (Nat.le_trans b (by decide))⟩
theorem sx_int {B : Nat} {n : Int} (h : n.natAbs < 2 ^ B) (b0 : 0 < B) (b1 : B ≤ 12900) : Sx 1 (B + 1) (.int n) := by
  have h4 := PySem.Flt.log2_lt_of b0 h
  refine ⟨?_, by simp [PyData.depth], ?_⟩
  · have h5 : (2 : Nat) ^ B ≤ 2 ^ 12900 := Nat.pow_le_pow_right (by decide) b1
    show n.natAbs < 10 ^ 4300
    exact Nat.lt_of_lt_of_le (Nat.lt_of_lt_of_le h h5) PyProof.Rows.pow_lo
  · show (Str.ofString (toString n)).length ≤ _
    rw [PySem.ofString_length]
    exact int_text_length_le b0 h4
theorem sx_non : Sx 1 10 .none := ⟨trivial, by simp [PyData.depth], by decide⟩
theorem sx_bool (b : Bool) : Sx 1 10 (.bool b) := ⟨trivial, by simp [PyData.depth], by cases b <;> decide⟩
theorem sx_str {x : Str} (h : (PyData.shown (.str x)).length ≤ 10) : Sx 1 10 (.str x) := ⟨trivial, by simp [PyData.depth], h⟩
theorem sx_all {n B : Nat} : ∀ xs : List PyData, (∀ d ∈ xs, Sx n B d) → WideA xs ∧ PyData.depthAll xs ≤ n ∧ ((PyData.shownAll xs).map (·.length)).sum ≤ xs.length * B
  | [], _ => ⟨trivial, by simp [PyData.depthAll], by simp [PyData.shownAll]⟩
  | d :: r, h => by
    obtain ⟨a1, a2, a3⟩ := sx_all r fun x hx => h x (List.mem_cons_of_mem _ hx)
    obtain ⟨b1, b2, b3⟩ := h d List.mem_cons_self
    refine ⟨⟨b1, a1⟩, by simp [PyData.depthAll]; omega, ?_⟩
    simp only [PyData.shownAll, List.map_cons, List.sum_cons, List.length_cons, Nat.succ_mul]
    omega
theorem sx_list {n B : Nat} {xs : List PyData} (h : ∀ d ∈ xs, Sx n B d) : Sx (n + 1) (xs.length * B + 2 * xs.length + 3) (.list xs) := by
  obtain ⟨h1, h2, h3⟩ := sx_all xs h
  have h4 := listText_len_le (PyData.shownAll xs)
  have h5 := PyData.shownAll_length xs
  refine ⟨h1, by simp [PyData.depth]; omega, ?_⟩
  simp only [PyData.shown]
  omega
theorem sx_tup {n B : Nat} {xs : List PyData} (h : ∀ d ∈ xs, Sx n B d) : Sx (n + 1) (xs.length * B + 2 * xs.length + 3) (.tuple xs) := by
  obtain ⟨h1, h2, h3⟩ := sx_all xs h
  have h4 := tupleText_len_le (PyData.shownAll xs)
  have h5 := PyData.shownAll_length xs
  refine ⟨h1, by simp [PyData.depth]; omega, ?_⟩
  simp only [PyData.shown]
  omega
theorem sx_fr {B : Nat} {f : Int × Int} (b0 : 0 < B) (b1 : B ≤ 12900) (h : Fb B f) : Sx 2 (2 * B + 9) (frD f) := by
  obtain ⟨_, h1, h2⟩ := h
  have := sx_tup (xs := [.int f.1, .int f.2]) (n := 1) (B := B + 1) fun d hd => by
    simp only [List.mem_cons, List.not_mem_nil, or_false] at hd
    rcases hd with rfl | rfl
    · exact sx_int h1 b0 b1
    · exact sx_int h2 b0 b1
  exact this.le (Nat.le_refl _) (by show 2 * (B + 1) + 2 * 2 + 3 ≤ _; omega)
theorem sx_i50 {n : Int} (h : n.natAbs < 2 ^ 50) : Sx 1 60 (.int n) := (sx_int h (by decide) (by decide)).le (Nat.le_refl _) (by decide)
theorem sx_nat {k : Nat} (h : k ≤ 100000) : Sx 1 60 (.int (k : Int)) := sx_i50 (Nat.lt_of_le_of_lt (show ((k : Int)).natAbs ≤ 100000 by omega) (by decide))
theorem sx_ints {ns : List Int} (hl : ns.length ≤ 21) (h : ∀ n ∈ ns, n.natAbs < 2 ^ 50) : Sx 2 1400 (.list (ns.map .int)) := by
  have := sx_list (xs := ns.map .int) (n := 1) (B := 60) fun d hd => by
    obtain ⟨n, hn, rfl⟩ := List.mem_map.mp hd
    exact sx_i50 (h n hn)
  rw [List.length_map] at this
  exact this.le (Nat.le_refl _) (by omega)
theorem sx_four {xs : List PyData} (hl : xs.length ≤ 4) (h : ∀ d ∈ xs, Sx 2 1400 d) : Sx 3 6000 (.tuple xs) := (sx_tup h).le (Nat.le_refl _) (by
  have := Nat.mul_le_mul_right 1400 hl
  omega)
/-- a step, its list marked by k or not -/
def dDk (k : Option Nat) : Deed → PyData
  | .op ks => .tuple [.str "open", .list ((ks ++ k.toList.map fun i : Nat => (i : Int)).map .int)]
  | d => dD d
theorem sx_dk {n : Nat} {d : Deed} {k : Option Nat} (h : okD (n : Int) d) (hn : n ≤ 20) (hp : ∀ k a, d = .po k a → a ≤ 1000) (hk : ∀ i, k = some i → i ≤ 100000) : Sx 3 6000 (dDk k d) := by
  have up : ∀ {d : PyData}, Sx 1 60 d → Sx 2 1400 d := fun h => h.le (by decide) (by decide)
  have us : ∀ {d : PyData}, Sx 1 10 d → Sx 2 1400 d := fun h => h.le (by decide) (by decide)
  have sm : ∀ {z : Int}, 0 ≤ z → z ≤ 1000 → Sx 2 1400 (.int z) := fun h0 h1 => up (sx_i50 (Nat.lt_of_le_of_lt (show _ ≤ 1000 by omega) (by decide)))
  have fr : ∀ {p q : Int}, Pt p q → Sx 2 1400 (.tuple [.int p, .int q]) := fun {p q} hp => (sx_tup (xs := [.int p, .int q]) (n := 1) (B := 60) fun d hd => by
    simp only [List.mem_cons, List.not_mem_nil, or_false] at hd
    rcases hd with rfl | rfl
    · exact sx_i50 hp.2.2.2.2.1
    · exact sx_i50 hp.2.2.2.2.2).le (Nat.le_refl _) (by show 2 * 60 + 2 * 2 + 3 ≤ 1400; decide)
  cases d with
  | op ks =>
    obtain ⟨h1, h2, h3, h4⟩ := h
    refine sx_four (by show 2 ≤ 4; decide) fun d hd => ?_
    simp only [List.mem_cons, List.not_mem_nil, or_false] at hd
    rcases hd with rfl | rfl
    · exact us (sx_str (by decide +kernel))
    · refine sx_ints ?_ fun z hz => ?_
      · rw [List.length_append, List.length_map]
        cases k with
        | none => exact Nat.le_trans h2 (by decide)
        | some i => exact Nat.succ_le_succ h2
      · rcases List.mem_append.mp hz with hz | hz
        · exact Nat.lt_of_le_of_lt (show z.natAbs ≤ 1000 by have := h4 z hz; omega) (by decide)
        · obtain ⟨i, hi, rfl⟩ := List.mem_map.mp hz
          have := hk i (by simpa using hi)
          exact Nat.lt_of_le_of_lt (show ((i : Int)).natAbs ≤ 100000 by omega) (by decide)
  | po k' a =>
    obtain ⟨h1, h2⟩ := h
    have h3 := hp k' a rfl
    refine sx_four (by show 3 ≤ 4; decide) fun d hd => ?_
    simp only [List.mem_cons, List.not_mem_nil, or_false] at hd
    rcases hd with rfl | rfl | rfl
    · exact us (sx_str (by decide +kernel))
    · exact sm h1.1 (by omega)
    · exact sm h2 h3
  | sc k' p q =>
    obtain ⟨h1, h2⟩ := h
    refine sx_four (by show 3 ≤ 4; decide) fun d hd => ?_
    simp only [List.mem_cons, List.not_mem_nil, or_false] at hd
    rcases hd with rfl | rfl | rfl
    · exact us (sx_str (by decide +kernel))
    · exact sm h1.1 (by omega)
    · exact fr h2
  | mv k' m p q =>
    obtain ⟨h1, h2, h3, h4⟩ := h
    refine sx_four (by show 4 ≤ 4; decide) fun d hd => ?_
    simp only [List.mem_cons, List.not_mem_nil, or_false] at hd
    rcases hd with rfl | rfl | rfl | rfl
    · exact us (sx_str (by decide +kernel))
    · exact sm h1.1 (by omega)
    · exact sm h2.1 (by omega)
    · exact fr h4
  | un k' m =>
    obtain ⟨h1, h2, h3⟩ := h
    refine sx_four (by show 3 ≤ 4; decide) fun d hd => ?_
    simp only [List.mem_cons, List.not_mem_nil, or_false] at hd
    rcases hd with rfl | rfl | rfl
    · exact us (sx_str (by decide +kernel))
    · exact sm h1.1 (by omega)
    · exact sm h2.1 (by omega)
theorem dk_none (d : Deed) : dDk none d = dD d := by
  cases d <;> simp [dDk, dD]
theorem mkA_ints : ∀ (ns : List Int) (k : Nat), mkA k (ns.map .int) = ns.map .int
  | [], _ => by simp only [List.map_nil, mkA]
  | n :: ns, k => by
    have := mkA_ints ns
    simp only [List.map_cons, mkA, mkD, cntD, this]
theorem cntA_ints : ∀ ns : List Int, cntA (ns.map .int) = 0
  | [] => rfl
  | n :: ns => by
    have := cntA_ints ns
    simp only [List.map_cons, cntA, cntD, this]
theorem mk_dD (k : Nat) (d : Deed) : mkD k (dD d) = dDk (some k) d ∧ cntD (dD d) ≤ 1 := by
  cases d with
  | op ks =>
    have h1 := mkA_ints ks
    have h2 := cntA_ints ks
    refine ⟨?_, ?_⟩
    · simp only [dD, mkD, mkA, cntD, h1, dDk, Nat.add_zero]
      simp
    · simp only [dD, cntD, cntA, h2]
      omega
  | po k' a => exact ⟨by simp only [dD, mkD, mkA, dDk, cntD], by simp [dD, cntD, cntA]⟩
  | sc k' p q => exact ⟨by simp only [dD, mkD, mkA, dDk, cntD], by simp [dD, cntD, cntA]⟩
  | mv k' m p q => exact ⟨by simp only [dD, mkD, mkA, dDk, cntD], by simp [dD, cntD, cntA]⟩
  | un k' m => exact ⟨by simp only [dD, mkD, mkA, dDk, cntD], by simp [dD, cntD, cntA]⟩
theorem sx_mk_ds {n : Nat} (hn : n ≤ 20) : ∀ (es : List Deed) (k : Nat), (∀ d ∈ es, okD (n : Int) d ∧ ∀ k a, d = .po k a → a ≤ 1000) → k + es.length ≤ 100000 → (mkA k (es.map dD)).length = es.length ∧ (∀ x ∈ mkA k (es.map dD), Sx 3 6000 x) ∧ cntA (es.map dD) ≤ es.length
  | [], _, _, _ => by simp [mkA, cntA]
  | d :: es, k, h, hk => by
    obtain ⟨m1, m2⟩ := mk_dD k d
    rw [List.length_cons] at hk
    obtain ⟨a1, a2, a3⟩ := sx_mk_ds hn es (k + cntD (dD d)) (fun x hx => h x (List.mem_cons_of_mem _ hx)) (by omega)
    obtain ⟨g1, g2⟩ := h d List.mem_cons_self
    refine ⟨by simp only [List.map_cons, mkA, List.length_cons, a1], fun x hx => ?_, by simp only [List.map_cons, cntA, List.length_cons]; omega⟩
    simp only [List.map_cons, mkA, List.mem_cons] at hx
    rcases hx with rfl | hx
    · rw [m1]
      exact sx_dk g1 hn g2 fun i e => by cases e; omega
    · exact a2 x hx
theorem sx_tk {t : Tk} (h : (∀ z, t.1 = some z → 1 ≤ z) ∧ 0 ≤ t.2) (k : (∀ z, t.1 = some z → z ≤ 1000) ∧ t.2 ≤ 1000) : Sx 3 6000 (tkD t) := by
  have sm : ∀ {z : Int}, 0 ≤ z → z ≤ 1000 → Sx 2 1400 (.int z) := fun h0 h1 => (sx_i50 (Nat.lt_of_le_of_lt (show _ ≤ 1000 by omega) (by decide))).le (by decide) (by decide)
  refine sx_four (by show 2 ≤ 4; decide) fun d hd => ?_
  simp only [List.mem_cons, List.not_mem_nil, or_false] at hd
  rcases hd with rfl | rfl
  · obtain ⟨z0, a⟩ := t
    cases z0 with
    | none => exact sx_non.le (by decide) (by decide)
    | some z => exact sm (by have := h.1 z rfl; omega) (k.1 z rfl)
  · exact sm h.2 k.2
theorem mk_tks : ∀ (ts : List Tk) (k : Nat), mkA k (ts.map tkD) = ts.map tkD ∧ cntA (ts.map tkD) = 0
  | [], _ => by simp [mkA, cntA]
  | t :: ts, k => by
    obtain ⟨z0, a⟩ := t
    obtain ⟨h1, h2⟩ := mk_tks ts k
    cases z0 <;> simp [tkD, wD, mkA, mkD, cntD, cntA, h1, h2]
theorem cnt_fr : ∀ fs : List (Int × Int), cntA (fs.map frD) = 0
  | [] => rfl
  | f :: fs => by
    have := cnt_fr fs
    simp only [List.map_cons, cntA, frD, cntD, this]
theorem mk_fr : ∀ (fs : List (Int × Int)) (k : Nat), mkA k (fs.map frD) = fs.map frD
  | [], _ => by simp only [List.map_nil, mkA]
  | f :: fs, k => by
    have := mk_fr fs
    simp only [List.map_cons, mkA, frD, cntD, cntA, mkD, this]
def eD : V → PyData
  | .int i => .int i
  | _ => .none
/-- an index, or none -/
def IxV (e : V) : Prop := e = .non ∨ ∃ i : Nat, e = .int (i : Int) ∧ i ≤ 1000
def bD1 (e : V) (n : Nat) (fs : List (Int × Int)) (t : Int × Int) : PyData := .list [eD e, .int (n : Int), .list (fs.map frD), frD t]
def bD2 (ts : List Tk) (es : List Deed) (fs : List (Int × Int)) : PyData := .list [.list (ts.map tkD), .list (es.map dD), .list (fs.map frD)]
theorem sx_ix {e : V} (he : IxV e) : Sx 1 60 (eD e) := by
  rcases he with rfl | ⟨i, rfl, h⟩
  · exact sx_non.le (Nat.le_refl _) (by decide)
  · exact sx_nat (by omega)
theorem sx_frs {B : Nat} {fs : List (Int × Int)} {xs : List PyData} (b0 : 0 < B) (b1 : B ≤ 12900) (hl : fs.length ≤ 20) (h : ∀ f ∈ fs, Fb B f) (hx : xs = [] ∨ ∃ k : Nat, xs = [.int (k : Int)] ∧ k ≤ 1000) : Sx 3 600000 (.list (fs.map frD ++ xs)) := by
  have h1 := sx_list (xs := fs.map frD ++ xs) (n := 2) (B := 25809) fun d hd => by
    rcases List.mem_append.mp hd with hd | hd
    · obtain ⟨f, hf, rfl⟩ := List.mem_map.mp hd
      exact (sx_fr b0 b1 (h f hf)).le (Nat.le_refl _) (by omega)
    · rcases hx with rfl | ⟨k, rfl, hk⟩
      · cases hd
      · cases List.mem_singleton.mp hd
        exact (sx_nat (by omega)).le (by decide) (by decide)
  have hxl : xs.length ≤ 1 := by
    rcases hx with rfl | ⟨k, rfl, hk⟩
    · exact Nat.zero_le _
    · exact Nat.le_refl _
  have hL : (fs.map frD ++ xs).length ≤ 21 := by rw [List.length_append, List.length_map]; omega
  exact h1.le (Nat.le_refl _) (by
    have := Nat.mul_le_mul_right 25809 hL
    omega)
theorem sh_b1 {B n : Nat} {e : V} {fs : List (Int × Int)} {t : Int × Int} (he : IxV e) (hn : n ≤ 1000) (b0 : 0 < B) (b1 : B ≤ 12900) (hl : fs.length ≤ 20) (h : ∀ f ∈ fs, Fb B f) (ht : Fb B t) : ShX (bD1 e n fs t) ∧ ShX (mkD 0 (bD1 e n fs t)) := by
  have up : ∀ {d : PyData}, Sx 1 60 d → Sx 3 600000 d := fun h => h.le (by decide) (by decide)
  have g1 := up (sx_ix he)
  have g2 : Sx 3 600000 (.int (n : Int)) := up (sx_nat (by omega))
  have g4 : Sx 3 600000 (frD t) := (sx_fr b0 b1 ht).le (by decide) (by omega)
  refine ⟨?_, ?_⟩
  · have g3 := sx_frs (xs := []) b0 b1 hl h (.inl rfl)
    rw [List.append_nil] at g3
    have := sx_list (xs := [eD e, .int (n : Int), .list (fs.map frD), frD t]) (n := 3) (B := 600000) fun d hd => by
      simp only [List.mem_cons, List.not_mem_nil, or_false] at hd
      rcases hd with rfl | rfl | rfl | rfl
      · exact g1
      · exact g2
      · exact g3
      · exact g4
    exact this.sh (by decide) (by show 4 * 600000 + 2 * 4 + 3 ≤ 10000000; decide)
  · have g3 := sx_frs (xs := [.int ((1 : Nat) : Int)]) b0 b1 hl h (.inr ⟨1, rfl, by decide⟩)
    have e1 : mkD 0 (bD1 e n fs t) = .list ([eD e, .int (n : Int), .list (fs.map frD ++ [.int ((1 : Nat) : Int)]), frD t] ++ [.int 0]) := by
      have hf := mk_fr fs
      have hm : ∀ k, mkD k (eD e) = eD e ∧ cntD (eD e) = 0 := fun k => by
        rcases he with rfl | ⟨i, rfl, _⟩ <;> simp [eD, mkD, cntD]
      simp only [bD1, mkD, mkA, (hm _).1, (hm 0).2, cntD, hf, frD]
      rfl
    rw [e1]
    have := sx_list (xs := [eD e, .int (n : Int), .list (fs.map frD ++ [.int ((1 : Nat) : Int)]), frD t] ++ [.int 0]) (n := 3) (B := 600000) fun d hd => by
      simp only [List.mem_append, List.mem_cons, List.not_mem_nil, or_false] at hd
      rcases hd with (rfl | rfl | rfl | rfl) | rfl
      · exact g1
      · exact g2
      · exact g3
      · exact g4
      · exact up (sx_nat (k := 0) (by decide))
    exact this.sh (by decide) (by show 5 * 600000 + 2 * 5 + 3 ≤ 10000000; decide)
theorem sh_b2 {B : Nat} {ts : List Tk} {es : List Deed} {fs : List (Int × Int)} (hS : ShW ts es) (b0 : 0 < B) (b1 : B ≤ 12900) (hl : fs.length ≤ 20) (h : ∀ f ∈ fs, Fb B f) : ShX (bD2 ts es fs) ∧ ShX (mkD 0 (bD2 ts es fs)) := by
  have hes : ∀ d ∈ es, okD (ts.length : Int) d ∧ ∀ k a, d = .po k a → a ≤ 1000 := fun d hd => ⟨hS.ok.2.2 d hd, fun k a e => by subst e; exact hS.p1000 k a hd⟩
  have hts : ∀ d ∈ ts.map tkD, Sx 3 6000 d := fun d hd => by
    obtain ⟨t, ht, rfl⟩ := List.mem_map.mp hd
    exact sx_tk (hS.ok.1.2.1 t ht) (hS.w1000 t ht)
  have h20 := hS.ok.1.1
  have h60 := hS.ok.2.1
  have num : ∀ {k : Nat}, k ≤ 1000 → Sx 3 6000 (.int (k : Int)) := fun h => (sx_nat (by omega)).le (by decide) (by decide)
  have lst : ∀ {xs : List PyData} {k : Nat}, (∀ d ∈ xs, Sx 3 6000 d) → k ≤ 1000 → xs.length ≤ 61 → Sx 4 700000 (.list (xs ++ [.int (k : Int)])) ∧ Sx 4 700000 (.list xs) := fun {xs} {k} hx hk hl => by
    constructor
    · have := sx_list (xs := xs ++ [.int (k : Int)]) (n := 3) (B := 6000) fun d hd => by
        rcases List.mem_append.mp hd with hd | hd
        · exact hx d hd
        · cases List.mem_singleton.mp hd
          exact num hk
      refine this.le (Nat.le_refl _) ?_
      have l : (xs ++ [PyData.int (k : Int)]).length ≤ 62 := by rw [List.length_append]; exact Nat.succ_le_succ hl
      have := Nat.mul_le_mul_right 6000 l
      omega
    · refine (sx_list hx).le (Nat.le_refl _) ?_
      have := Nat.mul_le_mul_right 6000 hl
      omega
  refine ⟨?_, ?_⟩
  · have g3 := sx_frs (xs := []) b0 b1 hl h (.inl rfl)
    rw [List.append_nil] at g3
    have ges : ∀ d ∈ es.map dD, Sx 3 6000 d := fun d hd => by
      obtain ⟨e, he, rfl⟩ := List.mem_map.mp hd
      rw [← dk_none]
      exact sx_dk (hes e he).1 h20 (hes e he).2 fun i z => by cases z
    have := sx_list (xs := [.list (ts.map tkD), .list (es.map dD), .list (fs.map frD)]) (n := 4) (B := 700000) fun d hd => by
      simp only [List.mem_cons, List.not_mem_nil, or_false] at hd
      rcases hd with rfl | rfl | rfl
      · exact (lst (k := 0) hts (by decide) (by rw [List.length_map]; omega)).2
      · exact (lst (k := 0) ges (by decide) (by rw [List.length_map]; omega)).2
      · exact g3.le (by decide) (by decide)
    exact this.sh (by decide) (by show 3 * 700000 + 2 * 3 + 3 ≤ 10000000; decide)
  · obtain ⟨t1, t2⟩ := mk_tks ts 2
    have hf := mk_fr fs
    have kE := sx_mk_ds h20 es 3 hes (by omega)
    have e1 : ∃ k : Nat, k ≤ 1000 ∧ mkD 0 (bD2 ts es fs) = .list ([.list (ts.map tkD ++ [.int ((1 : Nat) : Int)]), .list (mkA 3 (es.map dD) ++ [.int ((2 : Nat) : Int)]), .list (fs.map frD ++ [.int (k : Int)])] ++ [.int 0]) := by
      refine ⟨1 + 1 + (1 + cntA (es.map dD)), by omega, ?_⟩
      simp only [bD2, mkD, mkA, cntD, t1, t2, hf, Nat.zero_add, Nat.add_zero]
      rfl
    obtain ⟨k, hk, e1⟩ := e1
    rw [e1]
    have g3 := sx_frs (xs := [.int (k : Int)]) b0 b1 hl h (.inr ⟨k, rfl, hk⟩)
    have := sx_list (xs := [.list (ts.map tkD ++ [.int ((1 : Nat) : Int)]), .list (mkA 3 (es.map dD) ++ [.int ((2 : Nat) : Int)]), .list (fs.map frD ++ [.int (k : Int)])] ++ [.int 0]) (n := 4) (B := 700000) fun d hd => by
      simp only [List.mem_append, List.mem_cons, List.not_mem_nil, or_false] at hd
      rcases hd with (rfl | rfl | rfl) | rfl
      · exact (lst (k := 1) hts (by decide) (by rw [List.length_map]; omega)).1
      · exact (lst (k := 2) kE.2.1 (by decide) (by rw [kE.1]; omega)).1
      · exact g3.le (by decide) (by decide)
      · exact (sx_nat (k := 0) (by decide)).le (by decide) (by decide)
    exact this.sh (by decide) (by show 4 * 700000 + 2 * 4 + 3 ≤ 10000000; decide)
end V2


namespace V2
open PySem L2
open PySem.Spec PyProof.Rows
theorem tr_ix {H : Hp} {e : V} (h : IxV e) : TrD H e (eD e) [] := by
  rcases h with rfl | ⟨i, rfl, _⟩
  · exact .non
  · exact .int _
theorem tr_fr {H : Hp} {t : Addr} {f : Int × Int} (h : Fr H t f.1 f.2) : TrD H (.ref t) (frD f) [] := .tup h (.cons (as := []) (bs := []) (.int _) (.cons (as := []) (bs := []) (.int _) .nil))
theorem tr_frs {H : Hp} : ∀ (as : List Addr) (fs : List (Int × Int)), as.length = fs.length → (∀ (i : Nat) (a : Addr) (f : Int × Int), as[i]? = some a → fs[i]? = some f → Fr H a f.1 f.2) → TrA H (as.map V.ref) (fs.map frD) []
  | [], [], _, _ => .nil
  | [], _ :: _, h, _ => by cases h
  | _ :: _, [], h, _ => by cases h
  | a :: as, f :: fs, h, g => .cons (as := []) (bs := []) (tr_fr (g 0 a f rfl rfl)) (tr_frs as fs (Nat.succ.inj h) fun i b e x y => g (i + 1) b e x y)
theorem tr_pr {H : Hp} {D : Addr} {fs : List (Int × Int)} (h : PrAt H D fs) : TrD H (.ref D) (.list (fs.map frD)) [D] := by
  obtain ⟨as, h1, h2, h3⟩ := h
  exact .lst h1 (tr_frs as fs h2 h3)
theorem cp_fr {n : Nat} (f : Int × Int) : Cp (n + 1) (frD f) := .tup (by show 2 ≤ 100; decide) fun d hd => by
  simp only [List.mem_cons, List.not_mem_nil, or_false] at hd
  rcases hd with rfl | rfl
  · exact .int _
  · exact .int _
theorem cp_frs {n : Nat} {fs : List (Int × Int)} (h : fs.length ≤ 20) : Cp (n + 2) (.list (fs.map frD)) := .lst (by rw [List.length_map]; omega) fun d hd => by
  obtain ⟨f, _, rfl⟩ := List.mem_map.mp hd
  exact cp_fr f
theorem cp_ix {n : Nat} {e : V} (h : IxV e) : Cp n (eD e) := by
  rcases h with rfl | ⟨i, rfl, _⟩
  · exact .non
  · exact .int _
theorem Cp.up {n : Nat} {d : PyData} (h : Cp n d) : Cp (n + 1) d := by
  induction h with
  | non => exact .non
  | bl b => exact .bl b
  | int i => exact .int i
  | str x => exact .str x
  | lst h1 h2 ih => exact .lst h1 ih
  | tup h1 h2 ih => exact .tup h1 ih
theorem cp_b1 {e : V} {n : Nat} {fs : List (Int × Int)} {t : Int × Int} (he : IxV e) (hl : fs.length ≤ 20) : Cp 4 (bD1 e n fs t) := .lst (by show 4 ≤ 100; decide) fun d hd => by
  simp only [List.mem_cons, List.not_mem_nil, or_false] at hd
  rcases hd with rfl | rfl | rfl | rfl
  · exact cp_ix he
  · exact .int _
  · exact cp_frs hl
  · exact cp_fr t
theorem cp_b2 {ts : List Tk} {es : List Deed} {fs : List (Int × Int)} (hS : ShW ts es) (hl : fs.length ≤ 20) : Cp 4 (bD2 ts es fs) := .lst (by show 3 ≤ 100; decide) fun d hd => by
  simp only [List.mem_cons, List.not_mem_nil, or_false] at hd
  rcases hd with rfl | rfl | rfl
  · exact (cp_tks (Nat.le_trans hS.ok.1.1 (by decide))).up
  · exact cp_deeds hS.ok.2.2 (Nat.le_trans hS.ok.2.1 (by decide))
  · exact cp_frs hl
/-- a property's lists, each in one place alone -/
def spGetT (C : Addr) (n : Nat) (f : Str) : Sp := fun vs H Q _ => ∃ (x dx : Addr) (fs : List (Str × V)) (v : V) (d : PyData), vs = [.ref x] ∧ H x = some (.ins C dx fs) ∧ fs.lookup f = some v ∧ Dq H v d ∧ Cp n d ∧ ∀ v' as H', Evl.Ex H H' → TrD (Nw H H') v' d as → as.Nodup → Q v' H'
def spBnN (C : Addr) : Sp := fun vs H Q _ => ∃ (x ls lt s : Addr) (ts : List Tk) (ds : List Deed) (S : List (List Int × Int)) (A ws : List Int) (W u b : Int) (v : V), vs = [.ref x] ∧ BnAt C s H x ls lt ts ds S A ws W u b v ∧ ds.length ≤ 100 ∧ Q (.int (ds.length : Nat)) H
def spBR (B : Addr) : Sp := fun vs H Q _ => ∃ (x lv lb q sk ls lt : Addr) (m : Nat) (ts : List Tk) (es : List Deed) (u b : Int) (e : V), vs = [.ref x, .ref lv, .ref lb, .ref q] ∧ BL B sk H x ls lt ts es u b e ∧ Sk H sk m ∧ TksAt H lv ts ∧ PrAt H lb (ts.map (widP u b)) ∧ StAt H q es (wEnd ts es u b).1 (wEnd ts es u b).2 e ∧ ShW ts es ∧ IxV e ∧ 0 < u ∧ Qn u b ∧ ∀ H', Evl.Ex H H' → Q (.bl true) H'
section
variable {base : Heap} {mg : Str → Option Value} {K : PySem.W.Frag} {w : World} {P : Program} {B gI gC gL gW gE qE gS gN C fI fT fS pT pS : Addr}
theorem ok_Sc_tanksT {f : Addr} {fd : FuncData} (F : Fun K "tanks" "Script.tanks" s_Sc_tanks f fd) (c : ScC K C fI fT fS pT pS) (c2 : Cal P w K mg base 3 "copied" p_copied (spCt 2)) : FnOk P w K mg base CX0 4 f fd p_Sc_tanks (spGetT C 2 "_tanks") := by
  refine F.ok sc_Sc_tanks (fun vs H Q E h => ?_) (fun cdv A outer s H vs Q E hr h => ?_)
  · obtain ⟨x, dx, fs, v, d, rfl, _⟩ := h
    rfl
  · obtain ⟨x, dx, fs, v, d, rfl, hx, hf, hd, hc, k⟩ := h
    refine ⟨_, pss_one (ps_ret (pe_c c2 hr (pa_cons (pe_fld (pv 0) rfl) pa_nil))), ?_⟩
    exact ⟨_, rfl, x, C, dx, fs, v, rfl, hx, c.cls, c.na1, hf, v, d, rfl, hd, hc, k⟩
theorem ok_Sc_stepsT {f : Addr} {fd : FuncData} (F : Fun K "steps" "Script.steps" s_Sc_steps f fd) (c : ScC K C fI fT fS pT pS) (c3 : Cal P w K mg base 4 "copied" p_copied (spCt 3)) : FnOk P w K mg base CX0 5 f fd p_Sc_steps (spGetT C 3 "_steps") := by
  refine F.ok sc_Sc_steps (fun vs H Q E h => ?_) (fun cdv A outer s H vs Q E hr h => ?_)
  · obtain ⟨x, dx, fs, v, d, rfl, _⟩ := h
    rfl
  · obtain ⟨x, dx, fs, v, d, rfl, hx, hf, hd, hc, k⟩ := h
    refine ⟨_, pss_one (ps_ret (pe_c c3 hr (pa_cons (pe_fld (pv 0) rfl) pa_nil))), ?_⟩
    exact ⟨_, rfl, x, C, dx, fs, v, rfl, hx, c.cls, c.na2, hf, v, d, rfl, hd, hc, k⟩
theorem ok_Be_len {f : Addr} {fd : FuncData} (F : Fun K "__len__" "Bench.__len__" s_Be_len f fd) (mL : mg "len" = none) (c : BeC K B gI gC gL gW gE qE) : FnOk P w K mg base CX0 1 f fd p_Be_len (spBnN B) := by
  refine F.ok sc_Be_len (fun vs H Q E h => ?_) (fun cdv A outer s H vs Q E hr h => ?_)
  · obtain ⟨x, ls, lt, s, ts, ds, S, A, ws, W, u, b, v, rfl, _⟩ := h
    rfl
  · obtain ⟨x, ls, lt, s, ts, ds, S, Am, ws, W, u, b, v, rfl, ⟨⟨dx, lq, g, lw, t, as, bs, hx, hls, hxs, hlt, hys, hP⟩, _, _, _⟩, hn, k⟩ := h
    refine ⟨_, pss_one (ps_ret (pe_callB call_len_seq (by rfl) mL PySem.boot_len (pa_cons (pe_fld (pv 0) rfl) pa_nil))), ?_⟩
    refine ⟨_, rfl, x, B, dx, _, _, rfl, hx, c.cls, c.na4, rfl, ls, _, rfl, .inl (SqL.of hls), ?_⟩
    show Q (.int ((as.map V.ref).length : Nat)) H
    rw [List.length_map, hxs]
    exact k
theorem ok_bench_right {f : Addr} {fd fdL fdW fdE fdN fdSc fdT fdS : FuncData} (F : Fun K "_law_pv_bench_right" "_law_pv_bench_right" s_l_bench_right f fd) (T : T8 mg) (cb : BeC K B gI gC gL gW gE qE) (c : ScC K C fI fT fS pT pS) (meS : Meth K B "script" gS) (meN : Meth K B "__len__" gN)
    (FL : FnOk P w K mg base CX0 8 gL fdL p_Be_levels (spBnL B)) (bL : Binds K fdL p_Be_levels []) (FW : FnOk P w K mg base CX0 7 gW fdW p_Be_water (spBnW B)) (bW : Binds K fdW p_Be_water []) (FE : FnOk P w K mg base CX0 1 gE fdE p_Be_ended (spBnE B)) (bE : Binds K fdE p_Be_ended []) (FN : FnOk P w K mg base CX0 1 gN fdN p_Be_len (spBnN B)) (bN : Binds K fdN p_Be_len []) (FSc : FnOk P w K mg base CX0 7 gS fdSc p_Be_script (spBnS B C)) (bSc : Binds K fdSc p_Be_script [])
    (FT : FnOk P w K mg base CX0 4 fT fdT p_Sc_tanks (spGetT C 2 "_tanks")) (bT : Binds K fdT p_Sc_tanks []) (FS : FnOk P w K mg base CX0 5 fS fdS p_Sc_steps (spGetT C 3 "_steps")) (bS : Binds K fdS p_Sc_steps [])
    (cH : Cal P w K mg base 3 "_law_pv_heights" p_l_heights spHei) (cTo : Cal P w K mg base 4 "_law_pv_total" p_l_total spTotal) (cRt : CalG P w K mg base 7 "_law_pv_right" p_l_right (spRtW 4)) : FnG P w K mg base 9 f fd p_l_bench_right (spBR B) := by
  refine Fun.okG F sc_l_bench_right (fun vs H Q E h => ?_) (fun cdv A outer s H vs Q E hg hr h => ?_)
  · obtain ⟨x, lv, lb, q, sk, ls, lt, m, ts, es, u, b, e, rfl, _⟩ := h
    rfl
  · obtain ⟨x, lv, lb, q, sk, ls, lt, m, ts, es, u, b, e, rfl, hB, hk, hT, hPb, hSt, hS, hIx, hu, hQ, kk⟩ := h
    have nd := sc_l_bench_right.nd
    have r2 : Room 2 _ := hr.mono (by decide)
    have r3 : Room 3 _ := hr.mono (by decide)
    have r4 : Room 4 _ := hr.mono (by decide)
    have r5 : Room 5 _ := hr.mono (by decide)
    have r6 : Room 6 _ := hr.mono (by decide)
    have r7 : Room 7 _ := hr.mono (by decide)
    have r8 : Room 8 _ := hr.mono (by decide)
    have three : 3 ≤ sizeLine := by show 3 ≤ sizeLine; decide
    have four : 4 ≤ sizeLine := by show 4 ≤ sizeLine; decide
    refine ⟨_, pss_cons (ps_asg (pv 3) (pg_tup rfl (pgs_cons (pg_name (i := 4) nd rfl (Or.inl rfl)) (pgs_cons (pg_name (i := 5) nd rfl (Or.inl rfl)) (pgs_cons (pg_name (i := 6) nd rfl (Or.inl rfl)) pgs_nil)))))
      (pss_cons (ps_set (i := 7) nd rfl (Or.inl rfl) (pe_c cH r3 (pa_cons (pv 2) (pa_cons (pv 4) pa_nil))))
      (pss_cons (ps_set (i := 8) nd rfl (Or.inl rfl) (pe_lst (pa_cons (pe_prop (pv 0) cb.cls cb.prE FE r2 bE .nil pass0 (by rfl)) (pa_cons (pe_callB (call_lenO FN meN.at_ meN.fn bN r2) (by rfl) T.len PySem.boot_len (pa_cons (pv 0) pa_nil)) (pa_cons (pe_meth0 (pv 0) cb.cls cb.meL FL r8 bL .nil pass0) (pa_cons (pe_meth0 (pv 0) cb.cls cb.meW FW r7 bW .nil pass0) pa_nil))))))
      (pss_cons (ps_if (pt_not (pt_val (pe_cg cRt hg r7 (pa_cons (pv 8) (pa_cons (pe_lst (pa_cons (pv 5) (pa_cons (pe_callB call_len_seq (by rfl) T.len PySem.boot_len (pa_cons (pv 6) pa_nil)) (pa_cons (pv 7) (pa_cons (pe_c cTo r4 (pa_cons (pv 4) pa_nil)) pa_nil))))) pa_nil))))) (pss_one (ps_ret pe_bl)) pss_nil)
      (pss_cons (ps_set (i := 9) nd rfl (Or.inl rfl) (pe_meth0 (pv 0) cb.cls meS FSc r7 bSc .nil pass0))
      (pss_one (ps_ret (pe_cg cRt hg r7 (pa_cons (pe_lst (pa_cons (pe_prop (pv 9) c.cls c.prT FT r5 bT .nil pass0 rfl) (pa_cons (pe_prop (pv 9) c.cls c.prS FS r6 bS .nil pass0 rfl) (pa_cons (pe_meth0 (pv 0) cb.cls cb.meL FL r8 bL .nil pass0) pa_nil)))) (pa_cons (pe_lst (pa_cons (pv 1) (pa_cons (pv 6) (pa_cons (pv 7) pa_nil)))) pa_nil))))))))), ?_⟩
    have h60 := hS.ok.2.1
    have h20 := hS.ok.1.1
    have hAl := (wAt_ok hS hu hQ es.length).1
    have hO := wAt_few hS hu hQ es.length
    rw [List.take_length] at hO
    have hV := shp_v hS hu hQ
    have hz : ∀ t ∈ ts, ∀ z, t.1 = some z → 1 ≤ z ∧ z ≤ 1000 := fun t ht z hz => ⟨(hS.ok.1.2.1 t ht).1 z hz, (hS.w1000 t ht).1 z hz⟩
    have h20' : (wEnd ts es u b).1.length ≤ 20 := by rw [hAl]; exact h20
    have hVA : OkV (wEnd ts es u b).1.length (ts.map (wid u b)) := by rw [hAl]; exact hV
    have N4 : 11 + 66 * es.length ≤ 4000 := by omega
    have fl20 : (lvs (wEnd ts es u b).1 (ts.map (wid u b)) (wEnd ts es u b).2 b).length ≤ 20 := by rw [lvs_len]; exact h20'
    have flb : ∀ f ∈ lvs (wEnd ts es u b).1 (ts.map (wid u b)) (wEnd ts es u b).2 b, Fb 4100 f := fun f hf => by
      obtain ⟨h1, h2, h3⟩ := lvl_bits rfl hO hVA hQ.1 hQ.2.2.2 f hf
      exact ⟨h1, h2.le (by omega), h3.le (by omega)⟩
    have tb : Fb 4100 (fr (wEnd ts es u b).1.sum (wEnd ts es u b).2) := by
      have t1 : (wEnd ts es u b).1.sum.natAbs < 2 ^ (11 + 66 * es.length + 5) := bn_sum20 hO.bA h20'
      have t2 : (wEnd ts es u b).2.natAbs < 2 ^ (11 + 66 * es.length) := hO.bW
      have a1 := fr_abs1 (a := (wEnd ts es u b).1.sum) hO.pos
      have a2 := fr_abs2 (a := (wEnd ts es u b).1.sum) hO.pos
      exact ⟨fr_pos hO.pos, (show Bn (11 + 66 * es.length + 5) _ from Nat.lt_of_le_of_lt a1 t1).le (by omega), (show Bn (11 + 66 * es.length) _ from Nat.lt_of_le_of_lt a2 t2).le (by omega)⟩
    obtain ⟨sA1, sA2⟩ := sh_b1 (n := es.length) hIx (by omega) (by decide : 0 < 4100) (by decide) fl20 flb tb
    obtain ⟨sB1, sB2⟩ := sh_b2 hS (by decide : 0 < 4100) (by decide) fl20 flb
    have hC1 := cp_b1 (n := es.length) (t := fr (wEnd ts es u b).1.sum (wEnd ts es u b).2) hIx fl20
    have hC2 := cp_b2 hS fl20
    obtain ⟨⟨dx, lq, gg, lw, tw, asx, bsx, hx, _⟩, _, _, _⟩ := id hB
    obtain ⟨Dz, Lq, hqt, hqD, hqL⟩ := hSt
    obtain ⟨asL, hLa, hLl, hLd⟩ := id hqL
    refine ⟨_, rfl, q, _, rfl, SqT.of hqt, rfl, _, _, rfl, _, _, rfl, _, _, rfl, rfl, ?_⟩
    refine ⟨_, rfl, _, rfl, lb, Dz, ts, _, _, u, b, _, rfl, hPb, hqD, hAl, h20, hO, N4, hV, hQ, hu, hz, fun D0 H1 hD0 e1 hP0 => ?_⟩
    have hB1 := hB.go e1
    have hx1 := e1 _ _ hx
    refine ⟨_, rfl, x, dx, _, rfl, hx1, x, ls, lt, sk, ts, es, hist ts es u b, _, _, _, u, b, e, rfl, hB1, ?_⟩
    refine ⟨_, rfl, x, dx, _, rfl, hx1, x, ls, lt, sk, ts, es, hist ts es u b, _, _, _, u, b, e, rfl, hB1, by omega, es.length, rfl, by omega, ?_⟩
    refine ⟨_, rfl, x, dx, _, rfl, hx1, rfl, x, ls, lt, sk, _, ts, es, hist ts es u b, _, _, _, u, b, e, rfl, hB1, h20', hVA, hO, by omega, hQ.1, hQ.2.2.2, fun D1 H2 hD1 e2 hP1 => ?_⟩
    have hB2 := hB1.go e2
    have hx2 := e2 _ _ hx1
    refine ⟨_, rfl, x, dx, _, rfl, hx2, rfl, x, ls, lt, sk, _, ts, es, hist ts es u b, _, _, _, u, b, e, rfl, hB2, h20', hO, by omega, fun t1 H3 ht1 e3 hF1 => ⟨four, fun f hf => ?_⟩⟩
    have e4 := Evl.Ex.new (o := .lst [e, .int (es.length : Nat), .ref D1, .ref t1]) hf
    have f4 : upd H3 f (.lst [e, .int (es.length : Nat), .ref D1, .ref t1]) f = some (.lst [e, .int (es.length : Nat), .ref D1, .ref t1]) := upd_same
    generalize upd H3 f (.lst [e, .int (es.length : Nat), .ref D1, .ref t1]) = H4 at e4 f4
    have e14 := (e2.trans e3).trans e4
    have e04 := e1.trans e14
    refine ⟨_, rfl, _, rfl, _, rfl, Lq, _, rfl, .inl (SqL.of (e04 _ _ hLa)), _, rfl, _, rfl, Dz, _, _, _, rfl, hqD.ex e04, h20', hO, by omega, fun t2 H5 e5 hF2 => ⟨four, fun g hgn => ?_⟩⟩
    have e6 := Evl.Ex.new (o := .lst [e, .int ((asL.map V.ref).length : Nat), .ref D0, .ref t2]) hgn
    have g6 : upd H5 g (.lst [e, .int ((asL.map V.ref).length : Nat), .ref D0, .ref t2]) g = some (.lst [e, .int ((asL.map V.ref).length : Nat), .ref D0, .ref t2]) := upd_same
    have hF6 := e6 _ _ hF2
    generalize upd H5 g (.lst [e, .int ((asL.map V.ref).length : Nat), .ref D0, .ref t2]) = H6 at e6 g6 hF6
    have e46 := e5.trans e6
    have e16 := e14.trans e46
    obtain ⟨as1, q11, q12, q13⟩ := id hP1
    have D1f : D1 ≠ f := fun z => by
      have := e3 _ _ q11
      rw [z, hf] at this
      cases this
    have nt4 : Nt [f, D1] H4 := fun p hp => by
      simp only [List.mem_cons, List.not_mem_nil, or_false] at hp
      rcases hp with rfl | rfl
      · exact ⟨⟨_, f4⟩, fun xs z => by rw [f4] at z; cases z⟩
      · have := e4 _ _ (e3 _ _ q11)
        exact ⟨⟨_, this⟩, fun xs z => by rw [this] at z; cases z⟩
    have nt6 := nt4.ex e46
    have D0n : D0 ∉ [f, D1] := by
      obtain ⟨as0, q01, _, _⟩ := id hP0
      simp only [List.mem_cons, List.not_mem_nil, or_false, not_or]
      exact ⟨ne_of_none' ((e2.trans e3) _ _ q01) hf, ne_of_none' q01 hD1⟩
    have gn : g ∉ [f, D1] := nt4.new e5 hgn
    have dqf : Dq (woL [f, D1] H6) (.ref g) (bD1 e es.length (lvs (wEnd ts es u b).1 (ts.map (wid u b)) (wEnd ts es u b).2 b) (fr (wEnd ts es u b).1.sum (wEnd ts es u b).2)) := by
      refine .lst (woL_at gn g6) (.cons (tr_ix (H := woL [f, D1] H6) hIx).dq (.cons ?_ (.cons (tr_pr (prat_wo (hP0.ex e16) D0n nt6)).dq (.cons (tr_fr (woL_at (nt6.tup hF6) hF6)).dq .nil))))
      rw [List.length_map, hLl]
      exact .int _
    refine ⟨f, g, _, [f, D1], rfl, .lst (e46 _ _ f4) (.cons (as := []) (bs := [D1]) (tr_ix hIx) (.cons (as := []) (bs := [D1]) (.int _) (.cons (as := [D1]) (bs := []) (tr_pr (hP1.ex ((e3.trans e4).trans e46))) (.cons (as := []) (bs := []) (tr_fr (e46 _ _ (e4 _ _ hF1))) .nil)))), hC1, List.nodup_cons.mpr ⟨fun mm => D1f (List.mem_singleton.mp mm).symm, nodup1 (Nat.le_refl _)⟩, by show 2 ≤ 1000; decide, dqf, sA1, sA2, fun H7 o7 => ⟨true, rfl, if_f rfl ?_⟩⟩
    have e17 : Evl.Ex H1 H7 := fun cc o z => o7 _ _ (by
      simp only [List.mem_cons, List.not_mem_nil, or_false, not_or]
      exact ⟨ne_of_none' ((e2.trans e3) _ _ z) hf, ne_of_none' z hD1⟩) (e16 _ _ z)
    have e07 := e1.trans e17
    have hB7 := hB.go e07
    have hx7 := e07 _ _ hx
    refine ⟨_, rfl, x, dx, _, rfl, hx7, rfl, x, ls, lt, sk, ts, es, hist ts es u b, _, _, _, u, b, e, rfl, hB7, hS.ok, fun y H8 hy e8 hSc => ?_⟩
    obtain ⟨dy, fsy, vt, vs, hyx, hyt, hys, hdt, hds, _⟩ := hSc.ex Nw.ex
    refine ⟨_, rfl, y, dy, _, rfl, hyx, y, dy, _, vt, _, rfl, hyx, hyt, hdt, cp_tks (Nat.le_trans h20 (by decide)), fun v1 a1 H9 e9 hv1 hn1 => ?_⟩
    refine ⟨_, rfl, y, dy, _, rfl, e9 _ _ hyx, y, dy, _, vs, _, rfl, e9 _ _ hyx, hys, hds.go e9, cp_deeds hS.ok.2.2 (Nat.le_trans h60 (by decide)), fun v2 a2 H10 e10 hv2 hn2 => ?_⟩
    have e710 := (e8.trans e9).trans e10
    have hB10 := hB7.go e710
    have hx10 := e710 _ _ hx7
    refine ⟨_, rfl, x, dx, _, rfl, hx10, rfl, x, ls, lt, sk, _, ts, es, hist ts es u b, _, _, _, u, b, e, rfl, hB10, h20', hVA, hO, by omega, hQ.1, hQ.2.2.2, fun D3 H11 hD3 e11 hP3 => ⟨three, fun hh hhn => ?_⟩⟩
    have e12 := Evl.Ex.new (o := .lst [v1, v2, .ref D3]) hhn
    have h12 : upd H11 hh (.lst [v1, v2, .ref D3]) hh = some (.lst [v1, v2, .ref D3]) := upd_same
    generalize upd H11 hh (.lst [v1, v2, .ref D3]) = H12 at e12 h12
    refine ⟨_, rfl, _, rfl, _, rfl, three, fun g2 hg2 => ?_⟩
    have e13 := Evl.Ex.new (o := .lst [.ref lv, .ref Lq, .ref D0]) hg2
    have g13 : upd H12 g2 (.lst [.ref lv, .ref Lq, .ref D0]) g2 = some (.lst [.ref lv, .ref Lq, .ref D0]) := upd_same
    generalize upd H12 g2 (.lst [.ref lv, .ref Lq, .ref D0]) = H13 at e13 g13
    have A1 : ∀ a ∈ a1, H8 a = none ∧ ∃ o, H9 a = some o := fun a ha => by
      obtain ⟨xs, z, _⟩ := hv1.lists (cp_tks (Nat.le_trans h20 (by decide))) a ha
      exact ⟨nw_none z, _, Nw.ex _ _ z⟩
    have A2 : ∀ a ∈ a2, H9 a = none ∧ ∃ o, H10 a = some o := fun a ha => by
      obtain ⟨xs, z, _⟩ := hv2.lists (cp_deeds hS.ok.2.2 (Nat.le_trans h60 (by decide))) a ha
      exact ⟨nw_none z, _, Nw.ex _ _ z⟩
    obtain ⟨as3, q31, _, _⟩ := id hP3
    have l1 : a1.length = 1 := by
      rw [hv1.cnt]
      show 1 + cntA (ts.map tkD) = 1
      rw [(mk_tks ts 0).2]
    have l2 : a2.length ≤ 61 := by
      rw [hv2.cnt]
      show 1 + cntA (es.map dD) ≤ 61
      have := (sx_mk_ds h20 es 0 (fun d hd => ⟨hS.ok.2.2 d hd, fun k a e => by subst e; exact hS.p1000 k a hd⟩) (by omega)).2.2
      omega
    -- none of the lists stood ahead
    have new8 : ∀ a ∈ hh :: (a1 ++ (a2 ++ ([D3] ++ []))), H8 a = none := fun a ha => by
      simp only [List.mem_cons, List.mem_append, List.not_mem_nil, or_false] at ha
      rcases ha with rfl | ha | ha | rfl
      · exact Evl.fresh_back ((e9.trans e10).trans e11) hhn
      · exact (A1 a ha).1
      · exact Evl.fresh_back e9 (A2 a ha).1
      · exact Evl.fresh_back (e9.trans e10) hD3
    have has : ∀ a ∈ hh :: (a1 ++ (a2 ++ ([D3] ++ []))), ∃ o, H12 a = some o := fun a ha => by
      simp only [List.mem_cons, List.mem_append, List.not_mem_nil, or_false] at ha
      rcases ha with rfl | ha | ha | rfl
      · exact ⟨_, h12⟩
      · obtain ⟨_, o, z⟩ := A1 a ha
        exact ⟨o, e12 _ _ (e11 _ _ (e10 _ _ z))⟩
      · obtain ⟨_, o, z⟩ := A2 a ha
        exact ⟨o, e12 _ _ (e11 _ _ z)⟩
      · exact ⟨_, e12 _ _ q31⟩
    have hnd : (hh :: (a1 ++ (a2 ++ ([D3] ++ [])))).Nodup := by
      refine List.nodup_cons.mpr ⟨fun mm => ?_, nodup_app hn1 (nodup_app hn2 (nodup1 (Nat.le_refl _)) fun a ha mm => ?_) fun a ha mm => ?_⟩
      · simp only [List.mem_append, List.mem_cons, List.not_mem_nil, or_false] at mm
        rcases mm with mm | mm | mm
        · obtain ⟨_, o, z⟩ := A1 _ mm
          rw [e11 _ _ (e10 _ _ z)] at hhn
          cases hhn
        · obtain ⟨_, o, z⟩ := A2 _ mm
          rw [e11 _ _ z] at hhn
          cases hhn
        · rw [mm, q31] at hhn
          cases hhn
      · have mm := List.mem_singleton.mp (by simpa using mm)
        obtain ⟨_, o, z⟩ := A2 a ha
        rw [mm, hD3] at z
        cases z
      · obtain ⟨_, o, z⟩ := A1 a ha
        rcases List.mem_append.mp mm with mm | mm
        · rw [(A2 a mm).1] at z
          cases z
        · have mm := List.mem_singleton.mp (by simpa using mm)
          have z2 := e10 _ _ z
          rw [mm, hD3] at z2
          cases z2
    have e813 := (((e9.trans e10).trans e11).trans e12).trans e13
    have eW : Evl.Ex H8 (woL (hh :: (a1 ++ (a2 ++ ([D3] ++ [])))) H13) := fun cc o z => woL_at (fun mm => by rw [new8 _ mm] at z; cases z) (e813 _ _ z)
    have g2n : g2 ∉ hh :: (a1 ++ (a2 ++ ([D3] ++ []))) := fun mm => by
      obtain ⟨o, z⟩ := has _ mm
      rw [z] at hg2
      cases hg2
    have dq2 : Dq (woL (hh :: (a1 ++ (a2 ++ ([D3] ++ [])))) H13) (.ref g2) (bD2 ts es (lvs (wEnd ts es u b).1 (ts.map (wid u b)) (wEnd ts es u b).2 b)) :=
      .lst (woL_at g2n g13) (.cons (((hT.ex (e07.trans e8)).dq).go eW) (.cons (((hqL.ex (e07.trans e8)).dq).go eW) (.cons ((tr_pr (hP0.ex (e17.trans e8))).dq.go eW) .nil)))
    refine ⟨hh, g2, _, _, rfl, .lst (e13 _ _ h12) (.cons (as := a1) (bs := a2 ++ ([D3] ++ [])) ((hv1.go Nw.ex).go (((e10.trans e11).trans e12).trans e13)) (.cons (as := a2) (bs := [D3] ++ []) ((hv2.go Nw.ex).go ((e11.trans e12).trans e13)) (.cons (as := [D3]) (bs := []) (tr_pr (hP3.ex (e12.trans e13))) .nil))), hC2, hnd, ?_, dq2, sB1, sB2, fun H14 o14 => kk H14 fun cc o z => ?_⟩
    · rw [List.length_cons, List.length_append, List.length_append]
      show a1.length + (a2.length + 1) + 1 ≤ 1000
      omega
    · have z8 := (e07.trans e8) _ _ z
      exact o14 _ _ (fun mm => by rw [new8 _ mm] at z8; cases z8) (e813 _ _ z8)
end
end V2


namespace V2
open PySem L2
open PySem.Spec PyProof.Rows
/-! ## a list of states, one for each step and one ahead -/
theorem woL_put {ps : List Addr} {l : Addr} {H : Hp} {x : HO} : ∀ b o, b ≠ l → woL ps H b = some o → woL ps (upd H l x) b = some o := fun b o nb h => woL_at (woL_ne h) (Eq.trans (upd_ne nb) (woL_ex _ _ h))
theorem woL_app {ps : List Addr} {l t : Addr} {H : Hp} {acc0 : List V} (h : H l = some (.lst acc0)) : ∀ acc, woL ps H l = some (.lst acc) → woL ps (upd H l (.lst (acc0 ++ [.ref t]))) l = some (.lst (acc ++ [.ref t])) := fun acc h' => by
  have e := woL_ex _ _ h'
  rw [h] at e
  injection e with e
  injection e with e
  rw [← e]
  exact woL_at (woL_ne h') upd_same
theorem nw_woL {ps : List Addr} {H H' : Hp} (n : Nt ps H) : Evl.Ex (Nw H H') (woL ps H') := fun b o h => woL_at (fun z => by
  obtain ⟨⟨o', h'⟩, _⟩ := n _ z
  rw [nw_none h] at h'
  cases h') (Nw.ex _ _ h)
def Sts (H G : Hp) (l : Addr) (ts : List Tk) (es : List Deed) (u b : Int) (e : V) : Prop := ∃ qs : List Addr, H l = some (.lst (qs.map V.ref)) ∧ qs.length = es.length + 1 ∧ ∀ (j : Nat) (q : Addr), qs[j]? = some q → StAt G q (es.take j) (wAt ts es u b j).1 (wAt ts es u b j).2 (if j = es.length then e else .non)
theorem Sts.mv {H G H' G' : Hp} {l : Addr} {ts : List Tk} {es : List Deed} {u b : Int} {e : V} (h : Sts H G l ts es u b e) (k : ∀ o, H l = some o → H' l = some o) (x : Evl.Ex G G') : Sts H' G' l ts es u b e := by
  obtain ⟨qs, h1, h2, h3⟩ := h
  exact ⟨qs, k _ h1, h2, fun j q z => (h3 j q z).ex x⟩
theorem Sts.last {H G : Hp} {l : Addr} {ts : List Tk} {es : List Deed} {u b : Int} {e : V} (h : Sts H G l ts es u b e) : ∃ (ys : List V) (q : Addr), H l = some (.lst (ys ++ [.ref q])) ∧ ys.length = es.length ∧ StAt G q es (wEnd ts es u b).1 (wEnd ts es u b).2 e := by
  obtain ⟨qs, h1, h2, h3⟩ := h
  obtain ⟨ys, q, rfl⟩ : ∃ a c, qs = a ++ [c] := last_split (by omega)
  rw [List.length_append] at h2
  have h2 : ys.length = es.length := Nat.succ.inj h2
  have z := h3 es.length q (by rw [← h2, List.getElem?_append_right (Nat.le_refl _), Nat.sub_self]; rfl)
  rw [if_pos rfl, List.take_length] at z
  exact ⟨ys.map V.ref, q, by rw [h1, List.map_append]; rfl, by rw [List.length_map]; exact h2, z⟩
theorem Sts.odd {H G : Hp} {l : Addr} {ts : List Tk} {es : List Deed} {u b : Int} {e : V} (h : Sts H G l ts es u b e) (x : Evl.Ex G H) : Odd H l := by
  obtain ⟨ys, q, h1, _, D, L, h2, _⟩ := h.last
  exact .inr (.inr ⟨ys, q, _, h1, x _ _ h2⟩)
theorem Sts.push {H G H' G' : Hp} {l q : Addr} {ts : List Tk} {es : List Deed} {d : Deed} {u b : Int} {v : V} {xs : List V} (h : Sts H G l ts es u b .non) (hx : H l = some (.lst xs)) (x : Evl.Ex G G') (hl : H' l = some (.lst (xs ++ [.ref q])))
    (hq : StAt G' q (es ++ [d]) (wEnd ts (es ++ [d]) u b).1 (wEnd ts (es ++ [d]) u b).2 v) : Sts H' G' l ts (es ++ [d]) u b v := by
  obtain ⟨qs, h1, h2, h3⟩ := h
  rw [hx] at h1
  injection h1 with h1
  injection h1 with h1
  subst h1
  have ln : (es ++ [d]).length = es.length + 1 := by rw [List.length_append]; rfl
  refine ⟨qs ++ [q], by rw [hl, List.map_append]; rfl, by rw [List.length_append, h2, ln]; rfl, fun j p z => ?_⟩
  rcases get_app z with ⟨h4, h5⟩ | ⟨h4, rfl⟩
  · have hj : j ≤ es.length := by omega
    have y := (h3 j p h4).ex x
    have e1 : (if j = es.length then V.non else V.non) = V.non := by split <;> rfl
    rw [e1] at y
    rw [if_neg (by omega), wAt_pre hj, List.take_append_of_le_length hj]
    exact y
  · have hj : j = (es ++ [d]).length := by omega
    rw [if_pos hj, hj, List.take_length]
    exact hq
theorem Sts.pop {H G H' G' : Hp} {l : Addr} {ts : List Tk} {es : List Deed} {d : Deed} {u b : Int} {v : V} {xs : List V} (h : Sts H G l ts (es ++ [d]) u b v) (hx : H l = some (.lst xs)) (x : Evl.Ex G G') (hl : H' l = some (.lst xs.dropLast)) : Sts H' G' l ts es u b .non := by
  obtain ⟨qs, h1, h2, h3⟩ := h
  rw [hx] at h1
  injection h1 with h1
  injection h1 with h1
  subst h1
  have ln : (es ++ [d]).length = es.length + 1 := by rw [List.length_append]; rfl
  refine ⟨qs.dropLast, by rw [hl, List.map_dropLast], by rw [List.length_dropLast]; omega, fun j p z => ?_⟩
  rw [List.getElem?_dropLast] at z
  by_cases c : j < qs.length - 1
  · rw [if_pos c] at z
    have hj : j ≤ es.length := by omega
    have y := (h3 j p z).ex x
    rw [if_neg (by omega), wAt_pre hj, List.take_append_of_le_length hj] at y
    have e1 : (if j = es.length then V.non else V.non) = V.non := by split <;> rfl
    rw [e1]
    exact y
  · rw [if_neg c] at z
    cases z
theorem Sts.one {H G : Hp} {l q : Addr} {ts : List Tk} {u b : Int} (hl : H l = some (.lst [.ref q])) (hq : StAt G q [] (ts.map (·.2)) 1 .non) : Sts H G l ts [] u b .non := by
  refine ⟨[q], hl, rfl, fun j p z => ?_⟩
  match j, z with
  | 0, z =>
    cases z
    exact hq
  | j + 1, z => cases z
theorem Sts.pops {H G : Hp} {l : Addr} {ts : List Tk} {es : List Deed} {u b : Int} {e : V} {xs : List V} (h : Sts H G l ts es u b e) (hx : H l = some (.lst xs)) : ∃ y, xs[xs.length - 1]? = some y ∧ xs.length = es.length + 1 := by
  obtain ⟨ys, q, h1, h2, _⟩ := h.last
  rw [hx] at h1
  injection h1 with h1
  injection h1 with h1
  subst h1
  exact ⟨_, pop_at2, by rw [List.length_append, h2]; rfl⟩
end V2


namespace V2
open PySem L2
open PySem.Spec PyProof.Rows
theorem end_no {d : Deed} (h : ∀ k m, d ≠ .un k m) (ws A : List Int) : endB ws A d = false := by
  cases d with
  | un k m => exact absurd rfl (h k m)
  | _ => rfl
theorem eqv1 {d : PyData} (h : SeqAt.shaped d = true) : (!PyData.eqv d d) = false := by rw [eqv_same h]; rfl
/-- a bench and its states, the list of states at l -/
abbrev BLr (B sk l : Addr) (H : Hp) (x ls lt : Addr) (ts : List Tk) (es : List Deed) (u b : Int) (e : V) : Prop := BnAt B sk (woL [l] H) x ls lt ts es (hist ts es u b) (wEnd ts es u b).1 (ts.map (wid u b)) (wEnd ts es u b).2 u b e
def spDeep : Sp := fun vs H Q _ => ∃ (sk t g : Addr) (o : Int) (m : Nat) (lv ld : Addr) (ts : List Tk) (ds : List Deed) (u b : Int), vs = [.ref sk, .ref t, .int o, .ref g] ∧ Sk H sk m ∧ m ≤ 20000 ∧ wo sk H t = some (.tup [.ref lv, .ref ld]) ∧ TksAt (wo sk H) lv ts ∧ DsAt (wo sk H) ld ds ∧ ShW ts ds ∧ 0 < o ∧ o ≤ 1000 ∧ Fr (wo sk H) g u b ∧ Qn u b ∧ 0 < u ∧ ∀ H', But sk H H' → Q (.bl true) H'
section
variable {base : Heap} {mg : Str → Option Value} {K : PySem.W.Frag} {w : World} {P : Program} {B gI gC gL gW gE qE gU : Addr}
theorem ok_deep_right {f : Addr} {fd fdI fdC fdL fdU : FuncData} (F : Fun K "_law_pv_deep_right" "_law_pv_deep_right" s_l_deep_right f fd) (T : T8 mg) (mMin : mg "min" = none) (mB : mg "Bench" = some (.ref B)) (cb : BeC K B gI gC gL gW gE qE) (meU : Meth K B "undo" gU)
    (FI : FnOk P w K mg base CX0 5 gI fdI p_Be_init (spBnI B)) (bI : Binds K fdI p_Be_init []) (FC : FnOk P w K mg base CX0 9 gC fdC p_Be_call (spBnC B)) (bC : Binds K fdC p_Be_call []) (FL : FnOk P w K mg base CX0 8 gL fdL p_Be_levels (spBnL B)) (bL : Binds K fdL p_Be_levels []) (FU : FnOk P w K mg base CX0 1 gU fdU p_Be_undo (spBnU B)) (bU : Binds K fdU p_Be_undo [])
    (cB : Cal P w K mg base 1 "_law_pv_broads" p_l_broads spBroads) (cBg : Cal P w K mg base 1 "_law_pv_begun" p_l_begun spBeg) (cG : Cal P w K mg base 5 "_law_pv_gone" p_l_gone spGone) (cD : Cal P w K mg base 4 "_law_pv_deed" p_l_deed spDeed) (lc2 : Cal P w K mg base 3 "_law_pv_copied" p_l_copied (spCp 2)) (cH : Cal P w K mg base 3 "_law_pv_heights" p_l_heights spHei) (cNU : Cal P w K mg base 4 "_law_pv_no_undo" p_l_no_undo (spNoU B)) (cBR : CalG P w K mg base 9 "_law_pv_bench_right" p_l_bench_right (spBR B)) : FnG P w K mg base 10 f fd p_l_deep_right spDeep := by
  refine Fun.okG F sc_l_deep_right (fun vs H Q E h => ?_) (fun cdv A outer s H vs Q E hg r9 h => ?_)
  · obtain ⟨p, t, g, o, m, lv, ld, ts, ds, u, b, rfl, _⟩ := h
    rfl
  · obtain ⟨sk, t, g, o, m, lv, ld, ts, ds, u, b, rfl, hS, hm, ht, hT, hD, hW, ho0, ho1, hF, hQ, hu, kk⟩ := h
    have nd := sc_l_deep_right.nd
    have hr := r9
    have r1 : Room 1 _ := hr.mono (by decide)
    have r3 : Room 3 _ := hr.mono (by decide)
    have r4 : Room 4 _ := hr.mono (by decide)
    have r5 : Room (5 + 1) _ := hr.mono (by decide)
    have r8 : Room 8 _ := hr.mono (by decide)
    have r5' := r5.mono (show 5 ≤ 5 + 1 by decide)
    have one : 1 ≤ sizeLine := by show 1 ≤ sizeLine; decide
    have four : 4 ≤ sizeLine := by show 4 ≤ sizeLine; decide
    refine ⟨_, pss_cons (ps_set (i := 4) nd rfl (Or.inr rfl) (pe_ix ix_tup (pv 1) pe_int (fun _ _ => rfl)))
      (pss_cons (ps_setLc (i := 5) (own := [("turn", 11)]) (g := (gName 11)) (tt := tYes) (te := (tCall spDeed [] E0 (tCons (tVar 0) (tCons (tCB (Evl.rLenS K) (tCons (tVar 4) tNil)) (tCons (tVar 2) (tCons (tLst (tCons (tC (.str "pour")) (tCons (tC (.str "scoop")) (tCons (tC (.str "move")) (tCons (tC (.str "open")) tNil))))) tNil)))))) rfl nd rfl rfl (sw_true rfl rfl rfl (by decide +kernel)) (pi_range1 (by rfl) T.rng (pa_cons pe_int pa_nil)) (blkOk_by (N := n_l_deep_right) (sc := defScope s_l_deep_right) (by decide +kernel)) (fun _ _ _ _ _ => (pg_name (i := 11) nd rfl (Or.inl rfl))) (fun _ _ _ _ _ => pts_nil) (fun _ _ _ _ _ => (pe_c cD r4 (pa_cons (pv 0) (pa_cons (pe_callB call_len_seq (by rfl) T.len PySem.boot_len (pa_cons (pv 4) pa_nil)) (pa_cons (pv 2) (pa_cons (pe_lst (pa_cons pe_str (pa_cons pe_str (pa_cons pe_str (pa_cons pe_str pa_nil))))) pa_nil)))))))
      (pss_cons (ps_set (i := 6) nd rfl (Or.inl rfl) (pe_slice sl_list (pe_lc (own := [("deed", 10)]) (g := (gName 10)) (tt := (tTest (tOp rNe (tOp (rIxT K) (tVar 10) (tC (.int 0))) (tC (.str "unless"))))) (te := (tVar 10)) rfl nd (pi_list (pe_op op_cat (pe_ix ix_tup (pv 1) pe_int (fun _ _ => rfl)) (pv 5))) (blkOk_by (N := n_l_deep_right) (sc := defScope s_l_deep_right) (by decide +kernel)) (fun _ _ _ _ _ => (pg_name (i := 10) nd rfl (Or.inl rfl))) (fun _ _ _ _ _ => pts_one (pt_cmpR op_ne (pe_ix ix_tup (pv 10) pe_int (fun _ _ => rfl)) pe_str (nomark _))) (fun _ _ _ _ _ => (pv 10))) po_none (po_some (pe_callB (call_min2 rfl) (by rfl) mMin (by decide +kernel) (pa_cons pe_int (pa_cons (pe_op op_fdivW pe_int (pe_callB call_len_seq (by rfl) T.len PySem.boot_len (pa_cons (pv 4) pa_nil))) pa_nil))))))
      (pss_cons (ps_par3 (i := 7) (j := 8) (l := 9) rfl nd rfl rfl rfl (by decide) (by decide) (by decide) rfl rfl rfl (pa_cons (pe_c cB r1 (pa_cons (pv 4) (pa_cons (pv 3) pa_nil))) (pa_cons (pe_lst (pa_cons (pe_c cBg r1 (pa_cons (pv 4) pa_nil)) pa_nil)) (pa_cons (pe_make cb.mkI FI r5 (by rfl) mB bI .nil pass0 (pa_cons (pv 4) (pa_cons (pv 3) pa_nil))) pa_nil))) (by rfl))
      (pss_cons (ps_for PassesOwn.never rfl (pi_list (pv 6)) (pg_name (i := 10) nd rfl (Or.inl rfl)) (pss_cons (ps_expr (pe_bm PySem.F.plainAttrs_list PySem.F.slot_list_append PySem.F.type_list_append mt_append (pv 8) (pa_cons (pe_c cG r5' (pa_cons (pv 7) (pa_cons (pe_ix ix_list (pv 8) (pe_un un_neg pe_int) (fun _ _ => rfl)) (pa_cons (pv 10) pa_nil)))) pa_nil)))
      (pss_one (ps_expr (StX.pe_callO (pv 9) cb.cal (FC.raw bC .nil) r9 pass0 (pa_cons (pe_c lc2 r3 (pa_cons (pv 10) pa_nil)) pa_nil))))))
      (pss_cons (ps_for PassesOwn.never rfl (pi_range1 (by rfl) T.rng (pa_cons (pe_callB call_len_seq (by rfl) T.len PySem.boot_len (pa_cons (pv 6) pa_nil)) pa_nil)) (pg_name (i := 11) nd rfl (Or.inl rfl)) (pss_cons (ps_expr (pe_bm0 PySem.F.plainAttrs_list PySem.F.slot_list_pop PySem.F.type_list_pop mt_pop (pv 8)))
      (pss_one (ps_if (PW.pt (pw_or (pt_cmp (pc_notN (pe_meth0 (pv 9) cb.cls meU FU r1 bU .nil pass0))) (pw_or1 (pt_cmpR (op_neD hr.units) (pe_meth0 (pv 9) cb.cls cb.meL FL r8 bL .nil pass0) (pe_c cH r3 (pa_cons (pv 7) (pa_cons (pe_ix ix_tup (pe_ix ix_list (pv 8) (pe_un un_neg pe_int) (fun _ _ => rfl)) pe_int (fun _ _ => rfl)) pa_nil))) (nomark _))))) (pss_one (ps_ret pe_bl)) pss_nil))))
      (pss_one (ps_ret (pe_and (pe_cmpR (op_eqD hr.units) (pe_c cNU r4 (pa_cons (pv 9) pa_nil)) (pe_lst (pa_cons pe_int pa_nil)) (nomark _)) (pe_one (pe_cg cBR hg r9 (pa_cons (pv 9) (pa_cons (pv 4) (pa_cons (pv 7) (pa_cons (pe_ix ix_list (pv 8) (pe_un un_neg pe_int) (fun _ _ => rfl)) pa_nil)))))))))))))), ?_⟩
    have ts0 : 0 < ts.length := by
      have := hW.ok.1.2.2
      cases ts with
      | nil => cases this
      | cons t r => exact Nat.succ_pos _
    have h20 := hW.ok.1.1
    have hV := shp_v hW hu hQ
    have hz : ∀ t ∈ ts, ∀ z, t.1 = some z → 1 ≤ z ∧ z ≤ 1000 := fun t ht z hz => ⟨(hW.ok.1.2.1 t ht).1 z hz, (hW.w1000 t ht).1 z hz⟩
    refine ⟨_, rfl, t, _, _, _, rfl, rfl, SqT.of (wo_ex _ _ ht), rfl, ?_⟩
    refine ⟨30, rfl, by decide, by decide, fun l5 hl5 => ?_⟩
    have e5 := Evl.Ex.new (o := .lst []) hl5
    have l5s : l5 ≠ sk := sk_ne hS hl5
    refine lc_range (n := 30) (fun i H' => ∃ fs : List Deed, But sk H H' ∧ Sk H' sk (m + 24 * i) ∧ DsAt (wo sk H') l5 fs ∧ fs.length = i ∧ ∀ d ∈ fs, GD ts d)
      ⟨[], But.of_ex e5, hS.ex e5, ⟨[], wo_at l5s upd_same, rfl, fun i a t h => (by cases h)⟩, rfl, fun d h => by cases h⟩ ?_ ?_
    · rintro i H6 hi ⟨fs, b6, s6, hD6, hl, hgd⟩
      rw [Int.zero_add]
      refine ⟨rfl, ?_⟩
      unfold tYes
      refine if_t rfl ?_
      obtain ⟨at_, hat, hal, _⟩ := hT.ex b6.wo
      show tCall spDeed [] E0 _ _ _ _
      refine ⟨_, rfl, _, rfl, lv, _, rfl, .inl (SqL.of (wo_ex _ _ hat)), _, rfl, four, fun lk hlk => ?_⟩
      have e7 := Evl.Ex.new (o := .lst [.str "pour", .str "scoop", .str "move", .str "open"]) hlk
      have hk7 := upd_same (H := H6) (a := lk) (o := .lst [.str "pour", .str "scoop", .str "move", .str "open"])
      generalize upd H6 lk (.lst [.str "pour", .str "scoop", .str "move", .str "open"]) = H7 at e7 hk7
      refine ⟨sk, lk, ts.length, o, ["pour", "scoop", "move", "open"], _, by rw [List.length_map, hal]; rfl, by omega, by omega, ho0, ho1, hk7, by decide, by decide, (fun z hz => by simp only [List.mem_cons, List.not_mem_nil, or_false] at hz; unfold Word; grind), s6.ex e7, by omega, fun td d H8 b8 s8 hd hdo hdp => ?_⟩
      have hD8 := (hD6.ex (ex_wo (p := sk) e7)).ex b8.wo
      obtain ⟨acc, q1, q2⟩ := ds_list hD8
      have q1 := wo_ex _ _ q1
      have q3 := ds_more hD8 (fun d' h' => (hgd d' h').1) (hd.ex (nw_wo (s6.ex e7))) hdo (wo_upd (x := .lst (acc ++ [.ref td]))) (wo_app q1)
      refine ⟨acc, q1, ?_, fs ++ [d], ?_, (s8.upd l5s).le (by omega), q3, by rw [List.length_append, hl]; rfl, ?_⟩
      · rw [q2, hl]
        exact Nat.lt_of_lt_of_le (show i < 100 by omega) (by decide)
      · exact fun c o nc e => Eq.trans (upd_ne (ne_of_none' e hl5)) (b8 _ _ nc (e7 _ _ (b6 _ _ nc e)))
      · intro d' h'
        rcases List.mem_append.mp h' with h | h
        · exact hgd _ h
        · rw [List.mem_singleton.mp h]
          exact ⟨hdo, hdp⟩
    · rintro H1 ⟨fs, b1, s1, hD1, hl30, hgdF⟩
      obtain ⟨ad, had, hal0, hat0⟩ := id (hD.ex b1.wo)
      obtain ⟨bd, hbd, hbl0, hbt0⟩ := id hD1
      obtain ⟨vt, hvt, hvl, _⟩ := id (hT.ex b1.wo)
      have ht1 := b1.wo _ _ ht
      have hd60 := hW.ok.2.1
      refine ⟨_, rfl, t, _, _, _, rfl, rfl, SqT.of (wo_ex _ _ ht1), rfl, _, rfl, ld, l5, _, _, rfl, rfl, wo_ex _ _ had, wo_ex _ _ hbd, ?_, fun l2 hl2' => ?_⟩
      · rw [List.length_map, List.length_map, hal0, hbl0, hl30]
        exact Nat.le_trans (show ds.length + 30 ≤ 100 by omega) (by decide)
      have e2 := Evl.Ex.new (o := .lst (ad.map V.ref ++ bd.map V.ref)) hl2'
      have hl2a : upd H1 l2 (.lst (ad.map V.ref ++ bd.map V.ref)) l2 = some (.lst ((ad ++ bd).map V.ref)) := Eq.trans upd_same (by rw [List.map_append])
      generalize upd H1 l2 (.lst (ad.map V.ref ++ bd.map V.ref)) = H2 at e2 hl2a
      have hasd : ∀ (i : Nat) (a : Addr) (d : Deed), (ad ++ bd)[i]? = some a → (ds ++ fs)[i]? = some d → DAt (wo sk H2) a d := fun i a d h1 h2 => (ds_app hal0 hat0 hbt0 i a d h1 h2).ex (ex_wo (p := sk) e2)
      have hgA : ∀ d ∈ ds ++ fs, GD ts d := fun d hd => by
        rcases List.mem_append.mp hd with md | md
        · exact ⟨hW.ok.2.2 d md, fun k a e => by subst e; exact hW.p1000 k a md⟩
        · exact hgdF d md
      have hlen : (ad ++ bd).length = (ds ++ fs).length := by rw [List.length_append, List.length_append, hal0, hbl0]
      have hl90 : (ad ++ bd).length ≤ 90 := by rw [List.length_append]; omega
      generalize ad ++ bd = as at hasd hlen hl90 hl2a
      generalize ds ++ fs = gs0 at hasd hgA hlen
      refine ⟨l2, rfl, ⟨_, SqL.of hl2a⟩, fun D hDn => lc_list (xs := as.map V.ref) (fun i H' => ∃ (xs : List Addr) (gs : List Deed), Evl.Ex H2 H' ∧ H' D = some (.lst (xs.map V.ref)) ∧ xs.length = gs.length ∧ gs.length ≤ i ∧ (∀ (j : Nat) (a : Addr) (d : Deed), xs[j]? = some a → gs[j]? = some d → DAt (wo sk H2) a d) ∧ ∀ d ∈ gs, GD ts d ∧ ∀ k m, d ≠ .un k m)
        ⟨[], [], Evl.Ex.new hDn, upd_same, rfl, Nat.le_refl _, (fun j a d h => by cases h), fun d hd => by cases hd⟩ (fun i H' _ z => by
          obtain ⟨_, _, z, _⟩ := z
          exact SqL.of (z _ _ hl2a)) ?_ ?_⟩
      · rintro i y H3 hi ⟨xs, gs, e3, hxs, hlx, hli, hxd, hxg⟩
        rw [List.getElem?_map] at hi
        obtain ⟨a, ha, rfl⟩ : ∃ a, as[i]? = some a ∧ y = .ref a := by
          cases e : as[i]? with
          | none =>
            rw [e] at hi
            cases hi
          | some a =>
            rw [e] at hi
            exact ⟨a, rfl, (Option.some.inj hi).symm⟩
        have hi2 : i < gs0.length := by
          have := (List.getElem?_eq_some_iff.mp ha).1
          omega
        have hi90 : i < 90 := by omega
        have hdw := hasd i a _ ha (List.getElem?_eq_getElem hi2)
        have hgi := hgA _ (List.getElem_mem hi2)
        generalize gs0[i] = d at hdw hgi
        refine ⟨rfl, ?_⟩
        rcases dat_un hdw with ⟨k, n, rfl⟩ | ⟨x, r, hx, hne⟩
        · have hx : wo sk H2 a = some (.tup [.str "unless", .int k, .int n]) := hdw
          refine ⟨_, rfl, a, _, _, _, rfl, rfl, SqT.of (e3 _ _ (wo_ex _ _ hx)), rfl, rfl, _, rfl, if_f (by rw [decide_eq_true rfl]; rfl) ?_⟩
          exact ⟨xs, gs, e3, hxs, hlx, by omega, hxd, hxg⟩
        · refine ⟨_, rfl, a, _, _, _, rfl, rfl, SqT.of (e3 _ _ (wo_ex _ _ hx)), (by exact atI_nat (j := 0) rfl), rfl, _, rfl, if_t (by rw [hne]; rfl) ?_⟩
          have nun : ∀ k m, d ≠ .un k m := fun k n z => by
            subst z
            have hx2 : wo sk H2 a = some (.tup [.str "unless", .int k, .int n]) := hdw
            rw [hx] at hx2
            injection hx2 with hx2
            injection hx2 with hx2
            injection hx2 with hx2
            rw [hx2, decide_eq_true rfl] at hne
            cases hne
          refine ⟨_, rfl, xs.map V.ref, hxs, ?_, xs ++ [a], gs ++ [d], ?_, by rw [List.map_append]; exact upd_same, by rw [List.length_append, List.length_append, hlx]; rfl, by rw [List.length_append]; show gs.length + 1 ≤ i + 1; omega, ?_, ?_⟩
          · rw [List.length_map, hlx]
            exact Nat.lt_of_lt_of_le (show gs.length < 100 by omega) (by decide)
          · exact fun c o e => Eq.trans (upd_ne (ne_of_none' e hDn)) (e3 _ _ e)
          · exact ds_snoc hlx hxd hdw
          · intro d' h'
            rcases List.mem_append.mp h' with h | h
            · exact hxg _ h
            · rw [List.mem_singleton.mp h]
              exact ⟨hgi, nun⟩
      · rintro H3 ⟨xs, gs, e3, hxs, hlx, hli, hxd, hxg⟩
        have e13 := e2.trans e3
        have hvt3 : H3 lv = some (.lst (vt.map V.ref)) := e13 _ _ (wo_ex _ _ hvt)
        have wd : CDivW 240 (((vt.map V.ref).length : Nat) : Int) := wide_div (b := 10) (by rw [List.length_map]; omega) (Nat.lt_of_le_of_lt (show (((vt.map V.ref).length : Nat) : Int).natAbs ≤ 20 by rw [List.length_map, hvl]; omega) (by decide)) (by decide) (by decide)
        refine ⟨_, rfl, lv, _, rfl, .inl (SqL.of hvt3), _, _, rfl, rfl, wd, _, _, rfl, ?_⟩
        obtain ⟨k2, hk2, hk60⟩ : ∃ k2 : Nat, (if (240 : Int) / (((vt.map V.ref).length : Nat) : Int) < 60 then (240 : Int) / (((vt.map V.ref).length : Nat) : Int) else 60) = k2 ∧ k2 ≤ 60 := by
          have h0 := Int.ediv_nonneg (show (0 : Int) ≤ 240 by decide) (Int.natCast_nonneg (vt.map V.ref).length)
          refine ⟨(if (240 : Int) / (((vt.map V.ref).length : Nat) : Int) < 60 then (240 : Int) / (((vt.map V.ref).length : Nat) : Int) else 60).toNat, ?_, ?_⟩
          · split <;> omega
          · split <;> omega
        refine ⟨(k2 : Int), congrArg V.int hk2, D, _, rfl, SqL.of hxs, fun l6 hl6 => ?_⟩
        have e6 := Evl.Ex.new (o := .lst (cutV (xs.map V.ref) none (some (k2 : Int)))) hl6
        have hl6a : upd H3 l6 (.lst (cutV (xs.map V.ref) none (some (k2 : Int)))) l6 = some (.lst ((xs.take k2).map V.ref)) := Eq.trans upd_same (by rw [cut_min, List.map_take])
        generalize upd H3 l6 (.lst (cutV (xs.map V.ref) none (some (k2 : Int)))) = H4 at e6 hl6a
        have hxd' : ∀ (j : Nat) (a : Addr) (d : Deed), (xs.take k2)[j]? = some a → (gs.take k2)[j]? = some d → DAt (wo sk H2) a d := fun j a d h1 h2 => by
          rw [List.getElem?_take] at h1 h2
          split at h1
          · rename_i c2
            rw [if_pos c2] at h2
            exact hxd j a d h1 h2
          · cases h1
        have hxg' : ∀ d ∈ gs.take k2, GD ts d ∧ ∀ k m, d ≠ .un k m := fun d hd => hxg d (List.mem_of_mem_take hd)
        have hlx' : (xs.take k2).length = (gs.take k2).length := by rw [List.length_take, List.length_take, hlx]
        have hk60' : (gs.take k2).length ≤ 60 := by rw [List.length_take]; omega
        generalize xs.take k2 = zs at hl6a hxd' hlx'
        generalize gs.take k2 = ws at hxd' hxg' hlx' hk60'
        have e24 := e3.trans e6
        have e14 := e2.trans e24
        have hT4 := (hT.ex b1.wo).ex (ex_wo (p := sk) e14)
        have hF4 := (ex_wo (p := sk) e14) _ _ (b1.wo _ _ hF)
        have s4 := s1.ex e14
        have b4 := b1.trans (But.of_ex (p := sk) e14)
        refine ⟨_, rfl, _, rfl, lv, g, ts, u, b, rfl, hT4.ex wo_ex, h20, wo_ex _ _ hF4, fun lb H5 lbn e5 hPb => ?_⟩
        have s5 := s4.ex e5
        have nts : Nt [sk] H5 := fun p hp => by
          rw [List.mem_singleton.mp hp]
          obtain ⟨a, c, d, h4, _⟩ := s5
          exact ⟨⟨_, h4⟩, fun xs e => by rw [h4] at e; cases e⟩
        refine ⟨_, rfl, lv, ts, [sk], rfl, (hT4.ex (ex_wo (p := sk) e5)).ex wo_ex, h20, nts, fun q0 H6 e6' hq0 => ⟨one, fun l8 hl8 => ?_⟩⟩
        have e8 := Evl.Ex.new (o := .lst [.ref q0]) hl8
        have hl8a := upd_same (H := H6) (a := l8) (o := .lst [.ref q0])
        generalize upd H6 l8 (.lst [.ref q0]) = H7 at e8 hl8a
        have e67 := (e5.trans e6').trans e8
        obtain ⟨Dz0, Lz0, hq0t, _⟩ := id hq0
        have odd7 : Odd H7 l8 := .inr (.inr ⟨[], q0, _, hl8a, e8 _ _ (woL_ex _ _ hq0t)⟩)
        refine ⟨_, rfl, _, rfl, fun x dx hx hdx hne => ?_⟩
        have e9 : Evl.Ex H7 (upd (upd H7 dx (.own x)) x (.ins B dx [])) := fun b o h => Eq.trans (upd_ne (ne_of_none' h hx)) (Eq.trans (upd_ne (ne_of_none' h hdx)) h)
        have x9 : upd (upd H7 dx (.own x)) x (.ins B dx []) x = some (.ins B dx []) := upd_same
        generalize upd (upd H7 dx (.own x)) x (.ins B dx []) = H9 at e9 x9
        have e49 := e67.trans e9
        have s9 := s4.ex e49
        refine ⟨x, dx, lv, g, sk, [l8], _, ts, u, b, rfl, x9, (hT4.ex wo_ex).ex e49, hW.ok.1, fun t ht => (hW.w1000 t ht).1, e49 _ _ (wo_ex _ _ hF4), hu, hQ, s9, (fun r hr => by rw [List.mem_singleton.mp hr]; exact odd7.ex e9), (fun hr => by rw [List.mem_singleton.mp hr, hl8a] at hx; cases hx), fun ls lt H10 w1 w2 b10 hB => ⟨rfl, _, _, _, rfl, ?_⟩⟩
        have hB10 : BLr B sk l8 H10 x ls lt ts [] u b .non := hB
        have e710 : Evl.Ex H7 H10 := fun c o h => b10 _ _ (ne_of_none' h hx) (e9 _ _ h)
        have e410 := e67.trans e710
        have ls7 : H7 ls = none := Evl.fresh_back e9 w1
        have lt7 : H7 lt = none := Evl.fresh_back e9 w2
        have skx : ∀ {q : Addr} {o : HO}, H7 q = some o → q ≠ x ∧ q ≠ ls ∧ q ≠ lt := fun h => ⟨ne_of_none h hx, ne_of_none h ls7, ne_of_none h lt7⟩
        have s10 : Sk H10 sk (m + 24 * 30) := by
          have := s4.ex e410
          exact this
        have l8a := e710 _ _ hl8a
        -- what stood ahead of the list of states
        have G6 : ∀ {q : Addr} {o : HO}, H6 q = some o → q ≠ sk → woL [sk, x, ls, lt, l8] H10 q = some o := fun {q} {o} h hs => by
          have h7 := e8 _ _ h
          obtain ⟨n1, n2, n3⟩ := skx h7
          refine woL_at ?_ (e710 _ _ h7)
          simp only [List.mem_cons, List.not_mem_nil, or_false, not_or]
          exact ⟨hs, n1, n2, n3, ne_of_none h hl8⟩
        have g2 : Evl.Ex (wo sk H2) (woL [sk, x, ls, lt, l8] H10) := fun c o h => G6 (e6' _ _ (e5 _ _ (e24 _ _ (wo_ex _ _ h)))) (wo_ne h)
        have g4 : Evl.Ex (wo sk H4) (woL [sk, x, ls, lt, l8] H10) := fun c o h => G6 (e6' _ _ (e5 _ _ (wo_ex _ _ h))) (wo_ne h)
        have hq10 : StAt (woL [sk, x, ls, lt, l8] H10) q0 [] (ts.map (·.2)) 1 .non := hq0.ex fun c o h => G6 (woL_ex _ _ h) (fun z => woL_ne h (List.mem_singleton.mpr z))
        have hT10 := hT4.ex g4
        have hPb10 : PrAt (woL [sk, x, ls, lt, l8] H10) lb (ts.map (widP u b)) := by
          obtain ⟨as', q1, q2, q3⟩ := hPb
          have n1 : lb ≠ sk := sk_ne s4 lbn
          refine ⟨as', G6 (e6' _ _ q1) n1, q2, fun i a f y z => G6 (e6' _ _ (q3 i a f y z)) (fun q => ?_)⟩
          have h9 : H5 a = some (.tup _) := q3 i a f y z
          obtain ⟨_, _, _, h8, _⟩ := s5
          rw [q, h8] at h9
          cases h9
        have hdA : ∀ (j : Nat) (a : Addr) (d : Deed), zs[j]? = some a → ws[j]? = some d → DAt (woL [sk, x, ls, lt, l8] H10) a d := fun j a d h1 h2 => (hxd' j a d h1 h2).ex g2
        obtain ⟨⟨dxb, lqb, gb, lwb, twb, asb, bsb, hxb, hlsb, _, hltb, _, _⟩, ⟨nb1, nb2, nb3, nb4⟩, _, _⟩ := id hB10
        have nt10 : Nt [sk, x, ls, lt, l8] H10 := fun p hp => by
          simp only [List.mem_cons, List.not_mem_nil, or_false] at hp
          rcases hp with rfl | rfl | rfl | rfl | rfl
          · obtain ⟨a, c, d, h4, _⟩ := s10
            exact ⟨⟨_, h4⟩, fun xs e => by rw [h4] at e; cases e⟩
          · have := woL_ex _ _ hxb
            exact ⟨⟨_, this⟩, fun xs e => by rw [this] at e; cases e⟩
          · have := woL_ex _ _ hlsb
            exact ⟨⟨_, this⟩, fun xs e => by rw [this] at e; cases e⟩
          · have := woL_ex _ _ hltb
            exact ⟨⟨_, this⟩, fun xs e => by rw [this] at e; cases e⟩
          · exact ⟨⟨_, l8a⟩, fun xs e => by rw [l8a] at e; cases e⟩
        have hSt10 : Sts H10 (woL [sk, x, ls, lt, l8] H10) l8 ts [] u b .non := Sts.one l8a hq10
        have l6n : l6 ∉ [x, ls, lt, l8] := by
          have h6 := e6' _ _ (e5 _ _ hl6a)
          obtain ⟨n1, n2, n3⟩ := skx (e8 _ _ h6)
          simp only [List.mem_cons, List.not_mem_nil, or_false, not_or]
          exact ⟨n1, n2, n3, ne_of_none h6 hl8⟩
        have hl6b := e710 _ _ (e8 _ _ (e6' _ _ (e5 _ _ hl6a)))
        have l8s : l8 ≠ sk := fun z => by
          obtain ⟨a, c, d, h4, _⟩ := s10
          rw [z, h4] at l8a
          cases l8a
        have skn : sk ∉ [x, ls, lt, l8] := by
          simp only [List.mem_cons, List.not_mem_nil, or_false, not_or]
          exact ⟨nb4.symm, nb2.symm, nb3.symm, l8s.symm⟩
        have SK : ∀ {H' : Hp}, ButL [x, ls, lt, l8] H10 H' → Sk H' sk (m + 24 * 30) := fun w => by
          obtain ⟨a, c, d, h4, h5⟩ := s10
          exact ⟨a, c, d, w _ _ skn h4, h5⟩
        have GW : ∀ {Ha Hb : Hp}, ButL [x, ls, lt, l8] Ha Hb → Evl.Ex (woL [sk, x, ls, lt, l8] Ha) (woL [sk, x, ls, lt, l8] Hb) := fun w => w.wo fun _ h => List.mem_cons_of_mem _ h
        have NT : ∀ {H' : Hp} {es : List Deed} {e : V}, ButL [x, ls, lt, l8] H10 H' → BLr B sk l8 H' x ls lt ts es u b e → Sts H' (woL [sk, x, ls, lt, l8] H') l8 ts es u b e → Nt [sk, x, ls, lt, l8] H' := fun w hb hs p hp => by
          obtain ⟨⟨dxb, lqb, gb, lwb, twb, asb, bsb, hxb, hlsb, _, hltb, _, _⟩, _, _, _⟩ := id hb
          simp only [List.mem_cons, List.not_mem_nil, or_false] at hp
          rcases hp with rfl | rfl | rfl | rfl | rfl
          · obtain ⟨a, c, d, h4, _⟩ := SK w
            exact ⟨⟨_, h4⟩, fun xs e => by rw [h4] at e; cases e⟩
          · have := woL_ex _ _ hxb
            exact ⟨⟨_, this⟩, fun xs e => by rw [this] at e; cases e⟩
          · have := woL_ex _ _ hlsb
            exact ⟨⟨_, this⟩, fun xs e => by rw [this] at e; cases e⟩
          · have := woL_ex _ _ hltb
            exact ⟨⟨_, this⟩, fun xs e => by rw [this] at e; cases e⟩
          · obtain ⟨ys, q, h1, _⟩ := hs.last
            exact ⟨⟨_, h1⟩, fun xs e => by rw [h1] at e; cases e⟩
        have hPbW : ∀ {H' : Hp}, ButL [x, ls, lt, l8] H10 H' → PrAt H' lb (ts.map (widP u b)) := fun w => (hPb10.ex (GW w)).ex woL_ex
        have hTvW : ∀ {H' : Hp}, ButL [x, ls, lt, l8] H10 H' → TksAt H' lv ts := fun w => (hT10.ex (GW w)).ex woL_ex
        have few : ∀ {es : List Deed}, es.length ≤ 60 → (∀ d ∈ es, GD ts d) → ShW ts es ∧ (wEnd ts es u b).1.length = ts.length ∧ OkW 4000 (wEnd ts es u b).1 (wEnd ts es u b).2 := fun {es} hl hg => by
          have sh := shw_of hW hl hg
          have hO := wAt_few sh hu hQ es.length
          rw [List.take_length] at hO
          exact ⟨sh, (wAt_ok sh hu hQ es.length).1, hO.le (by omega)⟩
        refine ⟨_, rfl, l6, rfl, ⟨_, SqL.of hl6b⟩, for_list (xs := zs.map V.ref) (fun i σ H' => ∃ (v10 v11 : Option V), σ = [some (.ref sk), some (.ref t), some (.int o), some (.ref g), some (.ref lv), some (.ref l5), some (.ref l6), some (.ref lb), some (.ref l8), some (.ref x), v10, v11] ∧ ButL [x, ls, lt, l8] H10 H' ∧ BLr B sk l8 H' x ls lt ts (ws.take i) u b .non ∧ Sts H' (woL [sk, x, ls, lt, l8] H') l8 ts (ws.take i) u b .non)
          ⟨_, _, rfl, fun _ _ _ h => h, hB10, hSt10⟩ (fun i σ H' _ z => by
            obtain ⟨_, _, _, z, _⟩ := z
            exact SqL.of (z _ _ l6n hl6b)) ?_ ?_⟩
        · rintro i y σ H11 hi ⟨v10, v11, rfl, w11, hB11, hS11⟩
          rw [List.getElem?_map] at hi
          obtain ⟨a, ha, rfl⟩ : ∃ a, zs[i]? = some a ∧ y = .ref a := by
            cases e : zs[i]? with
            | none =>
              rw [e] at hi
              cases hi
            | some a =>
              rw [e] at hi
              exact ⟨a, rfl, (Option.some.inj hi).symm⟩
          have hi2 : i < ws.length := by
            have := (List.getElem?_eq_some_iff.mp ha).1
            omega
          have hdi := List.getElem?_eq_getElem hi2
          have hda := hdA i a _ ha hdi
          obtain ⟨hgi, hno⟩ := hxg' _ (List.getElem_mem hi2)
          have htk : ws.take (i + 1) = ws.take i ++ [ws[i]] := by rw [List.take_add_one, hdi]; rfl
          rw [htk]
          have hes : (ws.take i).length ≤ 59 := by rw [List.length_take]; omega
          have hgE : ∀ d ∈ ws.take i, GD ts d := fun d hd => (hxg' d (List.mem_of_mem_take hd)).1
          generalize ws[i] = d at hda hgi hno
          generalize ws.take i = es at hB11 hS11 hes hgE
          obtain ⟨shE, hAl, hO4⟩ := few (by omega) hgE
          obtain ⟨ys, q, hl11, hyl, hq11⟩ := hS11.last
          have nt11 := NT w11 hB11 hS11
          have hda11 := hda.ex (GW w11)
          refine ⟨_, rfl, .inl ⟨rfl, _, SqL.of hl11⟩, ?_⟩
          refine ⟨_, rfl, _, rfl, _, rfl, l8, _, _, _, rfl, rfl, SqL.of hl11, at_last _ _, _, rfl, lb, q, a, d, ts, es, _, _, u, b, .non, [sk, x, ls, lt, l8], rfl, hPbW w11, hq11, nt11, hda11, hgi.1, hAl, h20, by omega, hO4, hgi.2, hV, hQ, hu, hz, fun q' H12 e12 hq' => ?_⟩
          refine ⟨l8, _, _, rfl, rfl, e12 _ _ hl11, ?_, ?_⟩
          · rw [List.length_append, hyl]
            exact Nat.lt_of_le_of_lt (show es.length + 1 ≤ 100 by omega) (by decide)
          have w12 : ButL [x, ls, lt, l8] H11 (upd H12 l8 (.lst (ys ++ [.ref q] ++ [.ref q']))) := fun c o n h => Eq.trans (upd_ne (fun z => n (by rw [z]; simp))) (e12 _ _ h)
          have l12 := upd_same (H := H12) (a := l8) (o := .lst (ys ++ [.ref q] ++ [.ref q']))
          have g12 : Evl.Ex (woL [sk, x, ls, lt, l8] H12) (woL [sk, x, ls, lt, l8] (upd H12 l8 (.lst (ys ++ [.ref q] ++ [.ref q'])))) := fun c o h => woL_at (woL_ne h) (Eq.trans (upd_ne (fun z => woL_ne h (by rw [z]; simp))) (woL_ex _ _ h))
          have hq12 := hq'.ex g12
          have c12 : Evl.Ex H11 (upd H12 l8 (.lst (ys ++ [.ref q] ++ [.ref q']))) ∨ True := .inr trivial
          have k12 : Evl.Ex (woL [l8] H11) (woL [l8] (upd H12 l8 (.lst (ys ++ [.ref q] ++ [.ref q'])))) := fun c o h => woL_at (woL_ne h) (Eq.trans (upd_ne (fun z => woL_ne h (List.mem_singleton.mpr z))) (e12 _ _ (woL_ex _ _ h)))
          have p12 : ∀ o', H11 l8 = some o' → True := fun _ _ => trivial
          rw [end_no hno, if_neg (by decide)] at hq12
          have hS12 := hS11.push (d := d) hl11 (GW w12) l12 (by rw [wEnd_snoc]; exact hq12)
          generalize upd H12 l8 (.lst (ys ++ [.ref q] ++ [.ref q'])) = H13 at w12 l12 k12 hS12
          have hB13 := hB11.go k12
          have w13 := w11.trans w12
          have hda13 := hda.ex (GW w13)
          have odd13 : ∀ r ∈ [l8], Odd H13 r := fun r hr => by
            rw [List.mem_singleton.mp hr]
            exact hS12.odd woL_ex
          obtain ⟨⟨dx3, lq3, g3, lw3, tw3, as3, bs3, hx3, hls3, _, hlt3, _, _⟩, _, _, _⟩ := id hB13
          have hx3 := woL_ex _ _ hx3
          have hls3 := woL_ex _ _ hls3
          have hlt3 := woL_ex _ _ hlt3
          refine ⟨_, rfl, x, rfl, _, rfl, _, _, rfl, dat_dq (hda13.ex woL_ex), cp_dD hgi.1, fun v' H14 e14 hv' => ?_⟩
          obtain ⟨ga, rfl, hga⟩ := dq_deed hv'
          have hd2 : DAt (woL [x, ls, lt] H14) ga d := hga.ex fun p o z => by
            have q0 := nw_none z
            have ne : ∀ {p' : Addr} {o' : HO}, H13 p' = some o' → p ≠ p' := fun hp y => by rw [y, hp] at q0; cases q0
            exact woL_at (by simp only [List.mem_cons, List.not_mem_nil, or_false, not_or]; exact ⟨ne hx3, ne hls3, ne hlt3⟩) (Nw.ex _ _ z)
          have hpo : ∀ k a, d = .po k a → Bn 60 a := fun k a e => by
            have h1 := hgi.2 k a e
            have h2 := hgi.1
            subst e
            have h2 := h2.2
            exact Nat.lt_of_le_of_lt (show a.natAbs ≤ 1000 by omega) (by decide)
          have w14 := w13.trans (ButL.of_ex e14)
          refine ⟨.inr ⟨_, _, e14 _ _ hx3⟩, x, ls, lt, ga, sk, [l8], _, 4000, ts, es, hist ts es u b, _, _, _, u, b, d, rfl, hB13.go (woL_go e14), hAl, (fun r hr => (odd13 r hr).ex e14), SK w14, by omega, hd2, by rw [hAl]; exact hgi.1, hpo, by rw [hAl]; exact h20, by rw [hAl]; exact hV, hO4, by decide, fun v H15 w15 hB15 hv => ?_⟩
          rw [end_no hno, if_neg (by decide)] at hv
          subst hv
          have w15' : ButL [x, ls, lt, l8] H14 H15 := w15.mono fun p hp => by simp only [List.mem_cons, List.not_mem_nil, or_false] at hp ⊢; rcases hp with h | h | h <;> simp [h]
          have l8n : l8 ∉ [x, ls, lt] := fun hm => by
            have hm2 : l8 ∈ [l8] := List.mem_singleton.mpr rfl
            obtain ⟨⟨dx3', lq3', g3', lw3', tw3', as3', bs3', hx3', hls3', _, hlt3', _, _⟩, _, _, _⟩ := id hB13
            simp only [List.mem_cons, List.not_mem_nil, or_false] at hm
            rcases hm with h | h | h
            · rw [← h] at hx3'
              exact woL_ne hx3' hm2
            · rw [← h] at hls3'
              exact woL_ne hls3' hm2
            · rw [← h] at hlt3'
              exact woL_ne hlt3' hm2
          refine ⟨_, _, rfl, w14.trans w15', ?_, (hS12.mv (fun o h => w15 _ _ l8n (e14 _ _ h)) ((woL_go e14).trans (GW w15')))⟩
          unfold BLr
          rw [hist_snoc, wEnd_snoc]
          exact hB15
        · rintro σ H11 ⟨v10, v11, rfl, w11, hB11, hS11⟩
          rw [List.length_map, hlx', List.take_length] at hB11 hS11
          have hl6c := w11 _ _ l6n hl6b
          refine ⟨_, rfl, l6, _, rfl, .inl (SqL.of hl6c), _, rfl, ?_, ?_, ?_⟩
          · rw [List.length_map, hlx']; omega
          · rw [List.length_map, hlx']; omega
          rw [List.length_map, hlx']
          refine for_range (n := ws.length) (fun j σ H' => ∃ (es : List Deed) (v10 v11 : Option V), σ = [some (.ref sk), some (.ref t), some (.int o), some (.ref g), some (.ref lv), some (.ref l5), some (.ref l6), some (.ref lb), some (.ref l8), some (.ref x), v10, v11] ∧ es.length + j = ws.length ∧ (∀ d ∈ es, GD ts d) ∧ ButL [x, ls, lt, l8] H10 H' ∧ BLr B sk l8 H' x ls lt ts es u b .non ∧ Sts H' (woL [sk, x, ls, lt, l8] H') l8 ts es u b .non)
            ⟨ws, _, _, rfl, rfl, fun d hd => (hxg' d hd).1, w11, hB11, hS11⟩ ?_ ?_
          · rintro j σ H12 hj ⟨es, v10, v11, rfl, hel, hgE, w12, hB12, hS12⟩
            obtain ⟨es0, d0, rfl⟩ : ∃ a c, es = a ++ [c] := last_split (by omega)
            have hel0 : es0.length + 1 + j = ws.length := by rw [List.length_append] at hel; exact hel
            have hgE0 : ∀ d ∈ es0, GD ts d := fun d hd => hgE d (List.mem_append_left _ hd)
            obtain ⟨shE, hAl, hO4⟩ := few (es := es0) (by omega) hgE0
            obtain ⟨ys, q, hl12, hyl, hq12⟩ := hS12.last
            refine ⟨_, rfl, .inl ⟨rfl, _, SqL.of hl12⟩, l8, _, _, rfl, rfl, hl12, pop_at2, ?_⟩
            have w13 : ButL [x, ls, lt, l8] H12 (upd H12 l8 (.lst (ys ++ [V.ref q]).dropLast)) := fun c o n h => Eq.trans (upd_ne (fun z => n (by rw [z]; simp))) h
            have k13 : Evl.Ex (woL [l8] H12) (woL [l8] (upd H12 l8 (.lst (ys ++ [V.ref q]).dropLast))) := fun c o h => woL_at (woL_ne h) (Eq.trans (upd_ne (fun z => woL_ne h (List.mem_singleton.mpr z))) (woL_ex _ _ h))
            have hS13 := hS12.pop hl12 (GW w13) (upd_same (H := H12) (a := l8) (o := .lst (ys ++ [V.ref q]).dropLast))
            generalize upd H12 l8 (.lst (ys ++ [V.ref q]).dropLast) = H13 at w13 k13 hS13
            have hB13 := hB12.go k13
            have w13' := w12.trans w13
            have hB13' := hB13
            unfold BLr at hB13'
            rw [hist_snoc] at hB13'
            obtain ⟨⟨dx3, lq3, g3, lw3, tw3, as3, bs3, hx3, hls3, _, hlt3, _, _⟩, _, _, _⟩ := id hB13
            have l8n : l8 ∉ [x, ls, lt] := fun hm => by
              have hm2 : l8 ∈ [l8] := List.mem_singleton.mpr rfl
              simp only [List.mem_cons, List.not_mem_nil, or_false] at hm
              rcases hm with h | h | h
              · rw [← h] at hx3
                exact woL_ne hx3 hm2
              · rw [← h] at hls3
                exact woL_ne hls3 hm2
              · rw [← h] at hlt3
                exact woL_ne hlt3 hm2
            have hx3 := woL_ex _ _ hx3
            refine ⟨_, rfl, x, dx3, _, rfl, hx3, rfl, x, ls, lt, sk, [l8], _, ts, es0, d0, hist ts es0 u b, _, _, _, _, _, u, b, _, rfl, hB13', SK w13', fun H14 w14 hB14 => ⟨_, rfl, if_f rfl ?_⟩⟩
            have w14' : ButL [x, ls, lt, l8] H13 H14 := w14.mono fun p hp => by simp only [List.mem_cons, List.not_mem_nil, or_false] at hp ⊢; rcases hp with h | h | h <;> simp [h]
            have hS14 := hS13.mv (fun o h => w14 _ _ l8n h) (GW w14')
            have w14'' := w13'.trans w14'
            have hB14' : BLr B sk l8 H14 x ls lt ts es0 u b .non := hB14
            obtain ⟨⟨dx4, lq4, g4', lw4, tw4, as4, bs4, hx4, _⟩, _, _, _⟩ := id hB14'
            refine ⟨_, rfl, x, dx4, _, rfl, woL_ex _ _ hx4, rfl, x, ls, lt, sk, _, ts, es0, hist ts es0 u b, _, _, _, u, b, .non, rfl, hB14'.go woL_ex, by rw [hAl]; exact h20, by rw [hAl]; exact hV, hO4, by decide, hQ.1, hQ.2.2.2, fun D1 H15 hD1 e15 hP1 => ?_⟩
            obtain ⟨ys4, q4, hl14, _, hq14⟩ := (hS14.mv (e15 _) (woL_go e15)).last
            obtain ⟨Dz, Lz, hqt, hqD, hqL⟩ := id hq14
            refine ⟨_, rfl, _, rfl, _, rfl, l8, _, _, _, rfl, rfl, SqL.of hl14, at_last _ _, q4, _, _, _, rfl, rfl, SqT.of (woL_ex _ _ hqt), rfl, lb, Dz, ts, _, _, u, b, _, rfl, (hPbW w14'').ex e15, hqD.ex woL_ex, hAl, h20, hO4, by decide, hV, hQ, hu, hz, fun D2 H16 hD2 e16 hP2 => ⟨_, _, dp_pr (hP1.ex e16), dp_pr hP2, shp_pr _, shp_pr _, _, rfl, if_f (eqv1 (shp_pr _)) ?_⟩⟩
            have e1416 := e15.trans e16
            exact ⟨es0, _, _, rfl, by omega, hgE0, w14''.trans (ButL.of_ex e1416), hB14'.go (woL_go e1416), hS14.mv (e1416 _) (woL_go e1416)⟩
          · rintro σ H12 ⟨es, v10, v11, rfl, hel, hgE, w12, hB12, hS12⟩
            obtain rfl : es = [] := List.length_eq_zero_iff.mp (by omega)
            refine ⟨_, rfl, x, ls, lt, sk, ts, _, _, _, _, u, b, _, rfl, hB12.go woL_ex, fun q H13 hq e13 hq13 => ⟨one, fun q2 hq2 => ?_⟩⟩
            have e14 := Evl.Ex.new (o := .lst [.int 0]) hq2
            have q14 := upd_same (H := H13) (a := q2) (o := .lst [.int 0])
            have q13' := e14 _ _ hq13
            generalize upd H13 q2 (.lst [.int 0]) = H14 at e14 q14 q13'
            have e1214 := e13.trans e14
            have w14 := w12.trans (ButL.of_ex e1214)
            refine ⟨.list [.int 0], .list [.int 0], .lst (SqL.of q13') (.cons (.int _) .nil), .lst (SqL.of q14) (.cons (.int _) .nil), by decide, by decide, _, rfl, if_t (by decide) ?_⟩
            obtain ⟨ys, q4, hl14, _, hq4⟩ := (hS12.mv (e1214 _) (woL_go e1214)).last
            obtain ⟨shE, hAl, hO4⟩ := few (es := []) (by decide) (fun d hd => by cases hd)
            refine ⟨_, rfl, _, rfl, _, rfl, _, rfl, _, rfl, l8, _, _, _, rfl, rfl, SqL.of hl14, at_last _ _, x, lv, lb, q4, sk, ls, lt, _, ts, [], u, b, .non, rfl, (hB12.go (woL_go e1214)).go woL_ex, SK w14, hTvW w14, hPbW w14, hq4.ex woL_ex, shE, .inl rfl, hu, hQ, fun H15 e15 => kk _ fun c o' nc hc => ?_⟩
            have h10 := e410 _ _ (b4 c o' nc hc)
            refine (w14.trans (ButL.of_ex e15)) c o' ?_ h10
            have h7 := e67 _ _ (b4 c o' nc hc)
            obtain ⟨n1, n2, n3⟩ := skx h7
            simp only [List.mem_cons, List.not_mem_nil, or_false, not_or]
            exact ⟨n1, n2, n3, ne_of_none (e6' _ _ (e5 _ _ (b4 c o' nc hc))) hl8⟩
end
end V2


namespace V2
open PySem L2
open PySem.Spec PyProof.Rows
/-! ## what a bench and its states say at once -/
/-- what ended is told by the last step -/
def eV (ts : List Tk) (es : List Deed) (u b : Int) : V := match es.getLast? with
  | none => .non
  | some d => if endB (ts.map (wid u b)) (wAt ts es u b (es.length - 1)).1 d = true then .int ((es.length - 1 : Nat) : Int) else .non
theorem eV_nil {ts : List Tk} {u b : Int} : eV ts [] u b = .non := rfl
theorem eV_snoc {ts : List Tk} {es : List Deed} {d : Deed} {u b : Int} : eV ts (es ++ [d]) u b = if endB (ts.map (wid u b)) (wEnd ts es u b).1 d = true then .int (es.length : Int) else .non := by
  have l : (es ++ [d]).length - 1 = es.length := by rw [List.length_append]; rfl
  unfold eV
  rw [List.getLast?_append, l, wAt_pre (Nat.le_refl _)]
  rfl
theorem eV_ix {ts : List Tk} {es : List Deed} {u b : Int} : eV ts es u b = .non ∨ ∃ i : Nat, eV ts es u b = .int (i : Int) ∧ i ≤ es.length := by
  unfold eV
  split
  · exact .inl rfl
  · split
    · exact .inr ⟨_, rfl, by omega⟩
    · exact .inl rfl
/-- no step but the last one ends -/
def Led (ts : List Tk) (es : List Deed) (u b : Int) : Prop := ∀ (j : Nat) (d : Deed), j + 1 < es.length → es[j]? = some d → endB (ts.map (wid u b)) (wAt ts es u b j).1 d = false
theorem led_nil {ts : List Tk} {u b : Int} : Led ts [] u b := fun j d h => absurd h (by simp)
theorem eV_no {ts : List Tk} {es : List Deed} {d : Deed} {u b : Int} (h : eV ts (es ++ [d]) u b = .non) : endB (ts.map (wid u b)) (wEnd ts es u b).1 d = false := by
  rw [eV_snoc] at h
  cases e : endB (ts.map (wid u b)) (wEnd ts es u b).1 d with
  | false => rfl
  | true =>
    rw [e, if_pos rfl] at h
    cases h
theorem led_snoc {ts : List Tk} {es : List Deed} {d : Deed} {u b : Int} (h : Led ts es u b) (e : eV ts es u b = .non) : Led ts (es ++ [d]) u b := fun j d' hj hd => by
  have l : (es ++ [d]).length = es.length + 1 := by rw [List.length_append]; rfl
  have hj2 : j < es.length := by omega
  rw [List.getElem?_append_left hj2] at hd
  rw [wAt_pre (Nat.le_of_lt hj2)]
  by_cases c : j + 1 < es.length
  · exact h j d' c hd
  · obtain ⟨es0, d0, rfl⟩ : ∃ a c, es = a ++ [c] := last_split (by omega)
    have l0 : (es0 ++ [d0]).length = es0.length + 1 := by rw [List.length_append]; rfl
    have hj3 : j = es0.length := by omega
    subst hj3
    rw [List.getElem?_append_right (Nat.le_refl _), Nat.sub_self] at hd
    have hd : some d0 = some d' := hd
    cases hd
    rw [wAt_pre (Nat.le_refl _)]
    exact eV_no e
theorem led_cut {ts : List Tk} {es : List Deed} {d : Deed} {u b : Int} (h : Led ts (es ++ [d]) u b) : Led ts es u b ∧ eV ts es u b = .non := by
  have l : (es ++ [d]).length = es.length + 1 := by rw [List.length_append]; rfl
  refine ⟨fun j d' hj hd => ?_, ?_⟩
  · have := h j d' (by omega) (by rw [List.getElem?_append_left (by omega)]; exact hd)
    rw [wAt_pre (by omega)] at this
    exact this
  · rcases List.eq_nil_or_concat es with rfl | ⟨es0, d0, rfl⟩
    · rfl
    · rw [List.concat_eq_append] at h l ⊢
      have l0 : (es0 ++ [d0]).length = es0.length + 1 := by rw [List.length_append]; rfl
      have := h es0.length d0 (by omega) (by rw [List.getElem?_append_left (by omega), List.getElem?_append_right (Nat.le_refl _), Nat.sub_self]; rfl)
      rw [wAt_pre (by omega), wAt_pre (Nat.le_refl _)] at this
      rw [eV_snoc, this]
      rfl
theorem led_take {ts : List Tk} {es : List Deed} {u b : Int} (h : Led ts es u b) {i : Nat} (hi : i < es.length) : eV ts (es.take i) u b = .non := by
  have e : es.take (i + 1) = es.take i ++ [es[i]] := by rw [List.take_add_one, List.getElem?_eq_getElem hi]; rfl
  have h2 : Led ts (es.take (i + 1)) u b := fun j d hj hd => by
    rw [List.length_take] at hj
    rw [List.getElem?_take, if_pos (by omega)] at hd
    have := h j d (by omega) hd
    unfold wAt at this ⊢
    rw [List.take_take, Nat.min_eq_left (by omega)]
    exact this
  rw [e] at h2
  exact (led_cut h2).2
structure Bd (B sk l : Addr) (H : Hp) (x ls lt : Addr) (ts : List Tk) (es : List Deed) (u b : Int) : Prop where
  bn : BLr B sk l H x ls lt ts es u b (eV ts es u b)
  st : Sts H (woL [sk, x, ls, lt, l] H) l ts es u b (eV ts es u b)
  led : Led ts es u b
  ns : l ≠ sk
theorem Bd.ex {B sk l : Addr} {H H' : Hp} {x ls lt : Addr} {ts : List Tk} {es : List Deed} {u b : Int} (h : Bd B sk l H x ls lt ts es u b) (e : Evl.Ex H H') : Bd B sk l H' x ls lt ts es u b :=
  ⟨h.bn.go (woL_go e), h.st.mv (e _) (woL_go e), h.led, h.ns⟩
theorem Bd.coin {B sk l : Addr} {H H' : Hp} {x ls lt : Addr} {ts : List Tk} {es : List Deed} {u b : Int} (h : Bd B sk l H x ls lt ts es u b) (k : But sk H H') : Bd B sk l H' x ls lt ts es u b :=
  ⟨h.bn.sep fun p o z => woL_at (woL_ne z) (woL_at (woL_ne (woL_ex _ _ z)) (k _ _ (fun y => woL_ne z (List.mem_singleton.mpr y)) (woL_ex _ _ (woL_ex _ _ z)))), h.st.mv (k _ · h.ns) ((ButL.of_but k List.mem_cons_self).wo fun _ h => h), h.led, h.ns⟩
theorem Bd.ln {B sk l : Addr} {H : Hp} {x ls lt : Addr} {ts : List Tk} {es : List Deed} {u b : Int} (h : Bd B sk l H x ls lt ts es u b) : l ∉ [x, ls, lt] ∧ (∃ dx fs, H x = some (.ins B dx fs) ∧ fs = fs) ∧ sk ∉ [x, ls, lt, l] := by
  obtain ⟨⟨dx, lq, g, lw, tw, as, bs, hx, hls, _, hlt, _, _⟩, ⟨n1, n2, n3, n4⟩, _, _⟩ := h.bn
  have hm2 : l ∈ [l] := List.mem_singleton.mpr rfl
  refine ⟨fun hm => ?_, ⟨_, _, woL_ex _ _ hx, rfl⟩, ?_⟩
  · simp only [List.mem_cons, List.not_mem_nil, or_false] at hm
    rcases hm with h | h | h
    · rw [← h] at hx
      exact woL_ne hx hm2
    · rw [← h] at hls
      exact woL_ne hls hm2
    · rw [← h] at hlt
      exact woL_ne hlt hm2
  · simp only [List.mem_cons, List.not_mem_nil, or_false, not_or]
    exact ⟨n4.symm, n2.symm, n3.symm, h.ns.symm⟩
theorem Bd.nt {B sk l : Addr} {H : Hp} {x ls lt : Addr} {ts : List Tk} {es : List Deed} {u b : Int} {m : Nat} (h : Bd B sk l H x ls lt ts es u b) (s : Sk H sk m) : Nt [sk, x, ls, lt, l] H := fun p hp => by
  obtain ⟨⟨dxb, lqb, gb, lwb, twb, asb, bsb, hxb, hlsb, _, hltb, _, _⟩, _, _, _⟩ := h.bn
  simp only [List.mem_cons, List.not_mem_nil, or_false] at hp
  rcases hp with rfl | rfl | rfl | rfl | rfl
  · obtain ⟨a, c, d, h4, _⟩ := s
    exact ⟨⟨_, h4⟩, fun xs e => by rw [h4] at e; cases e⟩
  · have := woL_ex _ _ hxb
    exact ⟨⟨_, this⟩, fun xs e => by rw [this] at e; cases e⟩
  · have := woL_ex _ _ hlsb
    exact ⟨⟨_, this⟩, fun xs e => by rw [this] at e; cases e⟩
  · have := woL_ex _ _ hltb
    exact ⟨⟨_, this⟩, fun xs e => by rw [this] at e; cases e⟩
  · obtain ⟨ys, q, h1, _⟩ := h.st.last
    exact ⟨⟨_, h1⟩, fun xs e => by rw [h1] at e; cases e⟩
/-- a step taken back of the bench; then of the states -/
theorem Bd.cutB {B sk l : Addr} {H : Hp} {x ls lt : Addr} {ts : List Tk} {es : List Deed} {d : Deed} {u b : Int} (h : Bd B sk l H x ls lt ts (es ++ [d]) u b) : BnAt B sk (woL [l] H) x ls lt ts (es ++ [d]) (hist ts es u b ++ [((wEnd ts es u b).1, (wEnd ts es u b).2)]) (wEnd ts (es ++ [d]) u b).1 (ts.map (wid u b)) (wEnd ts (es ++ [d]) u b).2 u b (eV ts (es ++ [d]) u b) := by
  have := h.bn
  unfold BLr at this
  rw [hist_snoc] at this
  exact this
end V2


namespace V2
open PySem L2
open PySem.Spec PyProof.Rows
def spChecked : Sp := fun vs H Q _ => ∃ (p : Addr) (m : Nat), vs = [.ref p] ∧ Sk H p m ∧ m ≤ 1000 ∧ ∀ H', But p H H' → Q (.bl true) H'
theorem cp_tks2 {ts : List Tk} (h : ts.length ≤ 20) : Cp 2 (.list (ts.map tkD)) := cp_tks (Nat.le_trans h (by decide))
section
variable {base : Heap} {mg : Str → Option Value} {K : PySem.W.Frag} {w : World} {P : Program} {B gI gC gL gW gE qE gU gN gQ : Addr}
theorem ok_checked {f : Addr} {fd fdI fdC fdE fdU fdN fdQ : FuncData} (F : Fun K "_law_pv_checked" "_law_pv_checked" s_l_checked f fd) (T : T8 mg) (mB : mg "Bench" = some (.ref B)) (cb : BeC K B gI gC gL gW gE qE) (meU : Meth K B "undo" gU) (meN : Meth K B "__len__" gN) (meQ : Meth K B "__eq__" gQ)
    (FI : FnOk P w K mg base CX0 5 gI fdI p_Be_init (spBnI B)) (bI : Binds K fdI p_Be_init []) (FC : FnOk P w K mg base CX0 9 gC fdC p_Be_call (spBnC B)) (bC : Binds K fdC p_Be_call []) (FE : FnOk P w K mg base CX0 1 gE fdE p_Be_ended (spBnE B)) (bE : Binds K fdE p_Be_ended []) (FU : FnOk P w K mg base CX0 1 gU fdU p_Be_undo (spBnU B)) (bU : Binds K fdU p_Be_undo []) (FN : FnOk P w K mg base CX0 1 gN fdN p_Be_len (spBnN B)) (bN : Binds K fdN p_Be_len []) (FQ : FnOk P w K mg base CX0 1 gQ fdQ p_Be_eq (spEq (EqB B))) (bQ : Binds K fdQ p_Be_eq [])
    (cC : Cal P w K mg base 1 "_law_pv_coin" p_l_coin spCoin) (cSh : Cal P w K mg base 7 "_law_pv_any_shape" p_l_any_shape spAnyS) (cW : Cal P w K mg base 4 "_law_pv_any_wide" p_l_any_wide (spWid 80000 6)) (cB : Cal P w K mg base 1 "_law_pv_broads" p_l_broads spBroads) (cBe : Cal P w K mg base 7 "_law_pv_bench" p_l_bench (spBench B)) (cDo : Cal P w K mg base 10 "_law_pv_does" p_l_does (spDoes B))
    (cBg : Cal P w K mg base 1 "_law_pv_begun" p_l_begun spBeg) (cG : Cal P w K mg base 5 "_law_pv_gone" p_l_gone spGone) (lc2 : Cal P w K mg base 3 "_law_pv_copied" p_l_copied (spCp 2)) (cRf : Cal P w K mg base 6 "_law_pv_refusal" p_l_refusal (spRef B)) (cNU : Cal P w K mg base 4 "_law_pv_no_undo" p_l_no_undo (spNoU B)) (cBR : CalG P w K mg base 9 "_law_pv_bench_right" p_l_bench_right (spBR B)) (cDeep : CalG P w K mg base 10 "_law_pv_deep_right" p_l_deep_right spDeep) : FnG P w K mg base 11 f fd p_l_checked spChecked := by
  refine Fun.okG F sc_l_checked (fun vs H Q E h => ?_) (fun cdv A outer s H vs Q E hg hr h => ?_)
  · obtain ⟨p, m, rfl, _⟩ := h
    rfl
  · obtain ⟨sk, m, rfl, hS, hm, kk⟩ := h
    have nd := sc_l_checked.nd
    have r1 : Room 1 _ := hr.mono (by decide)
    have r2 : Room (1 + 1) _ := hr.mono (by decide)
    have r3 : Room 3 _ := hr.mono (by decide)
    have r4 : Room 4 _ := hr.mono (by decide)
    have r5 : Room (5 + 1) _ := hr.mono (by decide)
    have r5' : Room 5 _ := hr.mono (by decide)
    have r6 : Room 6 _ := hr.mono (by decide)
    have r7 : Room 7 _ := hr.mono (by decide)
    have r9 : Room 9 _ := hr.mono (by decide)
    have one : 1 ≤ sizeLine := by show 1 ≤ sizeLine; decide
    have two : 2 ≤ sizeLine := by show 2 ≤ sizeLine; decide
    have three : 3 ≤ sizeLine := by show 3 ≤ sizeLine; decide
    refine ⟨_, pss_cons (ps_asg (pe_c cSh r7 (pa_cons (pv 0) pa_nil)) (pg_tup rfl (pgs_cons (pg_name (i := 1) nd rfl (Or.inl rfl)) (pgs_cons (pg_name (i := 2) nd rfl (Or.inl rfl)) pgs_nil))))
      (pss_cons (ps_par (i := 3) (j := 4) rfl nd rfl rfl (by decide) rfl rfl (pa_cons (pe_ix ix_tup (pv 1) pe_int (fun _ _ => rfl)) (pa_cons (pe_c cW r4 (pa_cons (pv 0) pa_nil)) pa_nil)) (by rfl))
      (pss_cons (ps_set (i := 5) nd rfl (Or.inl rfl) (pe_c cB r1 (pa_cons (pv 3) (pa_cons (pv 4) pa_nil))))
      (pss_cons (ps_par (i := 6) (j := 7) rfl nd rfl rfl (by decide) rfl rfl (pa_cons (pe_lst (pa_cons (pe_c cBg r1 (pa_cons (pv 3) pa_nil)) pa_nil)) (pa_cons (pe_c cBe r7 (pa_cons (pv 0) (pa_cons (pv 3) (pa_cons (pv 4) pa_nil)))) pa_nil)) (by rfl))
      (pss_cons (ps_for PassesOwn.never rfl (pi_list (pe_op op_cat (pe_slice sl_list (pe_ix ix_tup (pv 1) pe_int (fun _ _ => rfl)) po_none (po_some pe_int)) (pe_lst (pa_cons (pe_tup (pa_cons pe_str (pa_cons pe_int (pa_cons pe_int pa_nil)))) (pa_cons (pe_tup (pa_cons pe_str (pa_cons pe_int (pa_cons pe_int pa_nil)))) pa_nil))))) (pg_name (i := 8) nd rfl (Or.inl rfl)) (pss_cons (ps_set (i := 9) nd rfl (Or.inl rfl) (pe_op op_mul (pe_c cC r1 (pa_cons (pv 0) (pa_cons pe_int pa_nil))) (pe_c cC r1 (pa_cons (pv 0) (pa_cons pe_int pa_nil)))))
      (Evl.pss_cut (ps_if (pt_cmp (pc_notN (pe_ix ix_tup (pe_ix ix_list (pv 6) (pe_un un_neg pe_int) (fun _ _ => rfl)) pe_int (fun _ _ => rfl)))) (pss_cons (ps_set (i := 9) nd rfl (Or.inl rfl) (pe_op op_add (pv 9) pe_int))
      (pss_one (ps_if (pt_not (pt_val (pe_c cRf r6 (pa_cons (pv 7) (pa_cons (pv 8) pa_nil))))) (pss_one (ps_ret pe_bl)) pss_nil))) pss_nil)
      (Evl.pss_cut (ps_if (pt_cmpR op_eq (pe_c cC r1 (pa_cons (pv 0) (pa_cons pe_int pa_nil))) pe_int (nomark _)) (pss_one (ps_set (i := 9) nd rfl (Or.inl rfl) (pe_callB call_len_seq (by rfl) T.len PySem.boot_len (pa_cons (pv 6) pa_nil)))) pss_nil)
      (pss_cons (ps_for PassesOwn.never rfl (pi_range1 (by rfl) T.rng (pa_cons (pv 9) pa_nil)) (pg_name (i := 10) nd rfl (Or.inl rfl)) (pss_one (ps_if (pt_cmpR op_gt (pe_callB call_len_seq (by rfl) T.len PySem.boot_len (pa_cons (pv 6) pa_nil)) pe_int (nomark _)) (pss_cons (ps_if (pt_cmp (pc_notN (pe_meth0 (pv 7) cb.cls meU FU r1 bU .nil pass0))) (pss_one (ps_ret pe_bl)) pss_nil)
      (pss_one (ps_expr (pe_bm0 PySem.F.plainAttrs_list PySem.F.slot_list_pop PySem.F.type_list_pop mt_pop (pv 6))))) pss_nil)))
      (Evl.pss_cut (ps_if (PW.pt (pw_and (pt_cmpR op_gt (pv 9) pe_int (nomark _)) (pw_and1 (pt_not (pt_val (pe_cg cBR hg r9 (pa_cons (pv 7) (pa_cons (pv 3) (pa_cons (pv 5) (pa_cons (pe_ix ix_list (pv 6) (pe_un un_neg pe_int) (fun _ _ => rfl)) pa_nil)))))))))) (pss_one (ps_ret pe_bl)) pss_nil)
      (pss_cons (ps_expr (pe_bm PySem.F.plainAttrs_list PySem.F.slot_list_append PySem.F.type_list_append mt_append (pv 6) (pa_cons (pe_c cG r5' (pa_cons (pv 5) (pa_cons (pe_ix ix_list (pv 6) (pe_un un_neg pe_int) (fun _ _ => rfl)) (pa_cons (pv 8) pa_nil)))) pa_nil)))
      (pss_one (ps_if (pt_cmpR op_ne (pe_callB (call_showS hg hr.units) (by rfl) T.rep (by decide +kernel) (pa_cons (pe_c cDo hr (pa_cons (pv 0) (pa_cons (pv 7) (pa_cons (pv 8) pa_nil)))) pa_nil)) (pe_callB (call_showS hg hr.units) (by rfl) T.rep (by decide +kernel) (pa_cons (pe_cmp (pc_notN (pe_ix ix_tup (pe_ix ix_list (pv 6) (pe_un un_neg pe_int) (fun _ _ => rfl)) pe_int (fun _ _ => rfl)))) pa_nil)) (nomark _)) (pss_one (ps_ret pe_bl)) pss_nil)))))))))
      (pss_cons (ps_set (i := 11) nd rfl (Or.inl rfl) (pe_make cb.mkI FI r5 (by rfl) mB bI .nil pass0 (pa_cons (pe_c lc2 r3 (pa_cons (pv 3) pa_nil)) (pa_cons (pv 4) pa_nil))))
      (pss_cons (ps_for PassesOwn.never rfl (pi_list (pe_ix ix_tup (pe_ix ix_list (pv 6) (pe_un un_neg pe_int) (fun _ _ => rfl)) pe_int (fun _ _ => rfl))) (pg_name (i := 8) nd rfl (Or.inl rfl)) (pss_one (ps_expr (StX.pe_callO (pv 11) cb.cal (FC.raw bC .nil) r9 pass0 (pa_cons (pe_c lc2 r3 (pa_cons (pv 8) pa_nil)) pa_nil)))))
      (pss_cons (ps_if (PW.pt (pw_or (pt_not (pt_cmpR (op_eqG (rcG_ins FQ meQ.at_ meQ.fn bQ pass0) r1) (pv 7) (pv 11) (nomark _))) (pw_or1 (pt_not (pt_val (pe_cg cBR hg r9 (pa_cons (pv 11) (pa_cons (pv 3) (pa_cons (pv 5) (pa_cons (pe_ix ix_list (pv 6) (pe_un un_neg pe_int) (fun _ _ => rfl)) pa_nil)))))))))) (pss_one (ps_ret pe_bl)) pss_nil)
      (pss_cons (ps_if (pt_not (pt_val (pe_cg cBR hg r9 (pa_cons (pv 7) (pa_cons (pv 3) (pa_cons (pv 5) (pa_cons (pe_ix ix_list (pv 6) (pe_un un_neg pe_int) (fun _ _ => rfl)) pa_nil))))))) (pss_one (ps_ret pe_bl)) pss_nil)
      (pss_cons (ps_for PassesOwn.never rfl (pi_range1 (by rfl) T.rng (pa_cons (pe_op op_sub (pe_callB call_len_seq (by rfl) T.len PySem.boot_len (pa_cons (pv 6) pa_nil)) pe_int) pa_nil)) (pg_name (i := 10) nd rfl (Or.inl rfl)) (pss_one (ps_if (PW.pt (pw_or (pt_cmp (pc_notN (pe_meth0 (pv 7) cb.cls meU FU r1 bU .nil pass0))) (pw_or1 (pt_cmpR op_ne (pe_callB (call_lenO FN meN.at_ meN.fn bN r2) (by rfl) T.len PySem.boot_len (pa_cons (pv 7) pa_nil)) (pe_op op_sub (pe_op op_sub (pe_callB call_len_seq (by rfl) T.len PySem.boot_len (pa_cons (pv 6) pa_nil)) pe_int) (pv 10)) (nomark _))))) (pss_one (ps_ret pe_bl)) pss_nil)))
      (pss_cons (ps_if (PW.pt (pw_or (pt_cmpR (op_neD hr.units) (pe_c cNU r4 (pa_cons (pv 7) pa_nil)) (pe_lst (pa_cons pe_int pa_nil)) (nomark _)) (pw_or (pt_cmpR (op_neD hr.units) (pe_c cNU r4 (pa_cons (pv 7) pa_nil)) (pe_lst (pa_cons pe_int pa_nil)) (nomark _)) (pw_or1 (pt_cmp (pc_notN (pe_prop (pv 7) cb.cls cb.prE FE r2 bE .nil pass0 (by rfl)))))))) (pss_one (ps_ret pe_bl)) pss_nil)
      (pss_one (ps_ret (pe_and (pe_cmpR (op_eqG (rcG_ins FQ meQ.at_ meQ.fn bQ pass0) r1) (pv 7) (pe_make cb.mkI FI r5 (by rfl) mB bI .nil pass0 (pa_cons (pe_c lc2 r3 (pa_cons (pv 3) pa_nil)) (pa_cons (pv 4) pa_nil))) (nomark _)) (pe_one (pe_cg cDeep hg hr (pa_cons (pv 0) (pa_cons (pv 1) (pa_cons (pv 2) (pa_cons (pv 4) pa_nil))))))))))))))))))), ?_⟩
    refine ⟨_, rfl, sk, m, rfl, hS, by omega, fun r t o ts ds H1 b1 s1 hr1 hSh hW ho => ?_⟩
    obtain ⟨lv, ld, ht, hT, hD⟩ := hSh
    refine ⟨r, _, rfl, SqT.of (wo_ex _ _ hr1), rfl, _, _, rfl, _, _, rfl, rfl, ?_⟩
    refine ⟨_, rfl, t, _, _, _, rfl, rfl, SqT.of (wo_ex _ _ ht), rfl, _, rfl, sk, _, rfl, s1, by omega, fun g u b H2 b2 s2 gn hF hQ hu => ⟨_, _, rfl, ?_⟩⟩
    have ht2 := b2.wo _ _ ht
    have hT2 := hT.ex b2.wo
    have hD2 := hD.ex b2.wo
    have hF2 := hF
    have hV := shp_v hW hu hQ
    have h20 := hW.ok.1.1
    have hd60 := hW.ok.2.1
    have hz : ∀ t ∈ ts, ∀ z, t.1 = some z → 1 ≤ z ∧ z ≤ 1000 := fun t ht z hz => ⟨(hW.ok.1.2.1 t ht).1 z hz, (hW.w1000 t ht).1 z hz⟩
    have ts0 : 0 < ts.length := by
      have := hW.ok.1.2.2
      cases ts with
      | nil => cases this
      | cons t r => exact Nat.succ_pos _
    have b12 := b1.trans b2
    refine ⟨_, rfl, _, rfl, lv, g, ts, u, b, rfl, hT2.ex wo_ex, h20, wo_ex _ _ hF2, fun lb H3 lbn e3 hPb => ?_⟩
    have s3 := s2.ex e3
    have nts : Nt [sk] H3 := fun p hp => by
      rw [List.mem_singleton.mp hp]
      obtain ⟨a, c, d, h4, _⟩ := s3
      exact ⟨⟨_, h4⟩, fun xs e => by rw [h4] at e; cases e⟩
    refine ⟨_, rfl, lv, ts, [sk], rfl, (hT2.ex (ex_wo (p := sk) e3)).ex wo_ex, h20, nts, fun q0 H4 e4 hq0 => ⟨one, fun l8 hl8 => ?_⟩⟩
    have e5 := Evl.Ex.new (o := .lst [.ref q0]) hl8
    have hl8a := upd_same (H := H4) (a := l8) (o := .lst [.ref q0])
    generalize upd H4 l8 (.lst [.ref q0]) = H5 at e5 hl8a
    have e35 := e4.trans e5
    have e25 := e3.trans e35
    obtain ⟨Dz0, Lz0, hq0t, _⟩ := id hq0
    have odd5 : Odd H5 l8 := .inr (.inr ⟨[], q0, _, hl8a, e5 _ _ (woL_ex _ _ hq0t)⟩)
    have s5 := s2.ex e25
    have g25 := ex_wo (p := sk) e25
    refine ⟨_, rfl, _, rfl, _, rfl, sk, lv, g, [l8], _, ts, u, b, rfl, s5, (fun r hr => by rw [List.mem_singleton.mp hr]; exact odd5), by omega, (hT2.ex g25).ex wo_ex, hW.ok.1, fun t ht => (hW.w1000 t ht).1, wo_ex _ _ (g25 _ _ hF2), hu, hQ, fun x ls lt H6 xn lsn ltn b6 s6 hB6 => ⟨_, _, rfl, ?_⟩⟩
    have hB6 : BLr B sk l8 H6 x ls lt ts [] u b .non := hB6
    have l8s : l8 ≠ sk := fun z => by
      obtain ⟨a, c, d, h4, _⟩ := s5
      rw [z, h4] at hl8a
      cases hl8a
    -- what stood ahead of the list of states
    have G6 : ∀ {q : Addr} {o : HO}, H4 q = some o → q ≠ sk → woL [sk, x, ls, lt, l8] H6 q = some o := fun {q} {o} h hs => by
      have h7 := e5 _ _ h
      refine woL_at ?_ (b6 _ _ hs h7)
      simp only [List.mem_cons, List.not_mem_nil, or_false, not_or]
      exact ⟨hs, ne_of_none h7 xn, ne_of_none h7 lsn, ne_of_none h7 ltn, ne_of_none h hl8⟩
    have g2 : Evl.Ex (wo sk H2) (woL [sk, x, ls, lt, l8] H6) := fun c o h => G6 (e4 _ _ (e3 _ _ (wo_ex _ _ h))) (wo_ne h)
    have hq6 : StAt (woL [sk, x, ls, lt, l8] H6) q0 [] (ts.map (·.2)) 1 .non := hq0.ex fun c o h => G6 (woL_ex _ _ h) (fun z => woL_ne h (List.mem_singleton.mpr z))
    have hT6 := hT2.ex g2
    have hD6 := hD2.ex g2
    have ht6 := g2 _ _ ht2
    have hF6 := g2 _ _ hF2
    have hPb6 : PrAt (woL [sk, x, ls, lt, l8] H6) lb (ts.map (widP u b)) := by
      obtain ⟨as', q1, q2, q3⟩ := hPb
      have n1 : lb ≠ sk := sk_ne s2 lbn
      refine ⟨as', G6 (e4 _ _ q1) n1, q2, fun i a f y z => G6 (e4 _ _ (q3 i a f y z)) (fun q => ?_)⟩
      have h9 : H3 a = some (.tup _) := q3 i a f y z
      obtain ⟨_, _, _, h8, _⟩ := s3
      rw [q, h8] at h9
      cases h9
    have hBd6 : Bd B sk l8 H6 x ls lt ts [] u b := ⟨hB6, Sts.one (b6 _ _ l8s hl8a) hq6, led_nil, l8s⟩
    have nt6 := hBd6.nt s6
    obtain ⟨ad, had, hal0, hat0⟩ := id hD6
    refine ⟨_, rfl, t, _, _, _, rfl, rfl, SqT.of (woL_ex _ _ ht6), rfl, _, rfl, ld, _, rfl, SqL.of (woL_ex _ _ had), fun l4 hl4 => ?_⟩
    have e6a := Evl.Ex.new (o := .lst (cutV (ad.map V.ref) none (some 14))) hl4
    have hl4a : upd H6 l4 (.lst (cutV (ad.map V.ref) none (some 14))) l4 = some (.lst ((ad.take 14).map V.ref)) := Eq.trans upd_same (by rw [List.map_take, ← cut_min (ad.map V.ref) 14]; rfl)
    generalize upd H6 l4 (.lst (cutV (ad.map V.ref) none (some 14))) = H6a at e6a hl4a
    refine ⟨three, fun tp htp => ⟨three, fun tq htq => ⟨two, fun lp hlp => ?_⟩⟩⟩
    have e6b := Evl.Ex.new (o := .tup [.str "pour", .int 0, .int 1]) htp
    have e6c := Evl.Ex.new (o := .tup [.str "pour", .int 0, .int 0]) htq
    have e6d := Evl.Ex.new (o := .lst [.ref tp, .ref tq]) hlp
    refine ⟨l4, lp, _, _, rfl, rfl, e6d _ _ (e6c _ _ (e6b _ _ hl4a)), upd_same, ?_, fun l6 hl6 => ?_⟩
    · rw [List.length_map, List.length_take]
      exact Nat.le_trans (show min 14 ad.length + 2 ≤ 16 by omega) (by decide)
    have e6e := Evl.Ex.new (o := .lst ((ad.take 14).map V.ref ++ [.ref tp, .ref tq])) hl6
    have htq7 := e6e _ _ (e6d _ _ (upd_same (H := upd H6a tp (.tup [.str "pour", .int 0, .int 1])) (a := tq) (o := .tup [.str "pour", .int 0, .int 0])))
    have htp7 := e6e _ _ (e6d _ _ (e6c _ _ (upd_same (H := H6a) (a := tp) (o := .tup [.str "pour", .int 0, .int 1]))))
    have hl6a := upd_same (H := upd (upd (upd H6a tp (.tup [.str "pour", .int 0, .int 1])) tq (.tup [.str "pour", .int 0, .int 0])) lp (.lst [.ref tp, .ref tq])) (a := l6) (o := .lst ((ad.take 14).map V.ref ++ [.ref tp, .ref tq]))
    have e67 := (((e6a.trans e6b).trans e6c).trans e6d).trans e6e
    have n6 : l6 ∉ [sk, x, ls, lt, l8] := nt6.new (((e6a.trans e6b).trans e6c).trans e6d) hl6
    generalize upd (upd (upd (upd H6a tp (.tup [.str "pour", .int 0, .int 1])) tq (.tup [.str "pour", .int 0, .int 0])) lp (.lst [.ref tp, .ref tq])) l6 (.lst ((ad.take 14).map V.ref ++ [.ref tp, .ref tq])) = H7 at e6e htp7 htq7 hl6a e67
    have W67 := woL_go (ps := [sk, x, ls, lt, l8]) e67
    have nt7 := nt6.ex e67
    have tpn := nt7.tup htp7
    have tqn := nt7.tup htq7
    have hPb7 := hPb6.ex W67
    have hT7 := hT6.ex W67
    have hF7 := W67 _ _ hF6
    have ht7 := W67 _ _ ht6
    have hD7 := hD6.ex W67
    have hBd7 := hBd6.ex e67
    have s7 := s6.ex e67
    have hasd : ∀ (i : Nat) (a : Addr) (d : Deed), (ad.take 14 ++ [tp, tq])[i]? = some a → (ds.take 14 ++ [Deed.po 0 1, Deed.po 0 0])[i]? = some d → DAt (woL [sk, x, ls, lt, l8] H7) a d := ds_app (by rw [List.length_take, List.length_take, hal0]) (fun i a d h1 h2 => by
        rw [List.getElem?_take] at h1 h2
        split at h1
        · rename_i c2
          rw [if_pos c2] at h2
          exact (hat0 i a d h1 h2).ex W67
        · cases h1) (fun i a d h1 h2 => by
        match i, h1, h2 with
        | 0, h1, h2 =>
          cases h1
          cases h2
          exact woL_at tpn htp7
        | 1, h1, h2 =>
          cases h1
          cases h2
          exact woL_at tqn htq7
        | i + 2, h1, h2 => cases h1)
    have hgA : ∀ d ∈ ds.take 14 ++ [Deed.po 0 1, Deed.po 0 0], GD ts d := fun d hd => by
      rcases List.mem_append.mp hd with hd | hd
      · have md := List.mem_of_mem_take hd
        exact ⟨hW.ok.2.2 d md, fun k a e => by subst e; exact hW.p1000 k a md⟩
      · simp only [List.mem_cons, List.not_mem_nil, or_false] at hd
        rcases hd with rfl | rfl
        · exact ⟨⟨⟨by decide, by omega⟩, by decide⟩, fun k a e => by cases e; decide⟩
        · exact ⟨⟨⟨by decide, by omega⟩, by decide⟩, fun k a e => by cases e; decide⟩
    have hlen : (ad.take 14 ++ [tp, tq]).length = (ds.take 14 ++ [Deed.po 0 1, Deed.po 0 0]).length := by rw [List.length_append, List.length_append, List.length_take, List.length_take, hal0]; rfl
    have hl16 : (ad.take 14 ++ [tp, tq]).length ≤ 16 := by
      rw [List.length_append, List.length_take]
      show min 14 ad.length + 2 ≤ 16
      omega
    have hxs : (ad.take 14).map V.ref ++ [V.ref tp, V.ref tq] = (ad.take 14 ++ [tp, tq]).map V.ref := by rw [List.map_append]; rfl
    rw [hxs] at hl6a
    generalize ad.take 14 ++ [tp, tq] = as at hasd hlen hl16 hl6a
    generalize ds.take 14 ++ [Deed.po 0 1, Deed.po 0 0] = fs at hasd hgA hlen
    -- what stays
    have GW : ∀ {Ha Hb : Hp}, ButL [sk, x, ls, lt, l8] Ha Hb → Evl.Ex (woL [sk, x, ls, lt, l8] Ha) (woL [sk, x, ls, lt, l8] Hb) := fun w => w.wo fun _ h => h
    have hPbW : ∀ {H' : Hp}, ButL [sk, x, ls, lt, l8] H7 H' → PrAt H' lb (ts.map (widP u b)) := fun w => (hPb7.ex (GW w)).ex woL_ex
    have hTvW : ∀ {H' : Hp}, ButL [sk, x, ls, lt, l8] H7 H' → TksAt H' lv ts := fun w => (hT7.ex (GW w)).ex woL_ex
    have few : ∀ {es : List Deed}, es.length ≤ 20 → (∀ d ∈ es, GD ts d) → ShW ts es ∧ (wEnd ts es u b).1.length = ts.length ∧ OkW 4000 (wEnd ts es u b).1 (wEnd ts es u b).2 := fun {es} hl hg => by
      have sh := shw_of hW (show es.length ≤ 60 by omega) hg
      have hO := wAt_few sh hu hQ es.length
      rw [List.take_length] at hO
      exact ⟨sh, (wAt_ok sh hu hQ es.length).1, hO.le (by omega)⟩
    have ixOf : ∀ {es : List Deed}, es.length ≤ 20 → IxV (eV ts es u b) := fun hl => by
      rcases eV_ix (ts := ts) (u := u) (b := b) with h | ⟨i, h, hi⟩
      · exact .inl h
      · exact .inr ⟨i, h, by omega⟩
    have sub4 : ∀ {p : Addr}, p ∈ [x, ls, lt] → p ∈ [sk, x, ls, lt, l8] := fun {p} hp => by simp only [List.mem_cons, List.not_mem_nil, or_false] at hp ⊢; rcases hp with h | h | h <;> simp [h]
    -- undo of the bench alone, then of the states
    have skp : ∀ {Ha Hb : Hp} {n : Nat} {es : List Deed}, Bd B sk l8 Ha x ls lt ts es u b → Sk Ha sk n → ButL [x, ls, lt, l8] Ha Hb → Sk Hb sk n := fun hb s w => by
      obtain ⟨a, c, d, h4, h5⟩ := s
      exact ⟨a, c, d, w _ _ hb.ln.2.2 h4, h5⟩
    refine ⟨l6, rfl, ⟨_, SqL.of hl6a⟩, for_list (xs := as.map V.ref) (fun i σ H' => ∃ (es : List Deed) (v8 v9 v10 v11 : Option V), σ = [some (.ref sk), some (.ref t), some (.int o), some (.ref lv), some (.ref g), some (.ref lb), some (.ref l8), some (.ref x), v8, v9, v10, v11] ∧ ButL [sk, x, ls, lt, l8] H7 H' ∧ Sk H' sk (m + 5000 + 4 * i) ∧ Bd B sk l8 H' x ls lt ts es u b ∧ es.length ≤ i ∧ ∀ d ∈ es, GD ts d)
      ⟨[], _, _, _, _, rfl, fun _ _ _ h => h, s7.le (by omega), hBd7, Nat.le_refl _, fun d hd => by cases hd⟩ (fun i σ H' _ z => by
        obtain ⟨_, _, _, _, _, _, z, _⟩ := z
        exact SqL.of (z _ _ n6 hl6a)) ?_ ?_⟩
    · rintro i y σ H8 hi ⟨es, v8, v9, v10, v11, rfl, w8, s8, hb8, hli, hgd⟩
      rw [List.getElem?_map] at hi
      obtain ⟨a, ha, rfl⟩ : ∃ a, as[i]? = some a ∧ y = .ref a := by
        cases e : as[i]? with
        | none =>
          rw [e] at hi
          cases hi
        | some a =>
          rw [e] at hi
          exact ⟨a, rfl, (Option.some.inj hi).symm⟩
      have hi2 : i < fs.length := by
        have := (List.getElem?_eq_some_iff.mp ha).1
        omega
      have hi16 : i < 16 := by omega
      have hdw := hasd i a _ ha (List.getElem?_eq_getElem hi2)
      have hgi := hgA _ (List.getElem_mem hi2)
      generalize fs[i] = d at hdw hgi
      -- two coins
      refine ⟨_, rfl, sk, 3, _, rfl, s8, by omega, by decide, by decide, fun c1 H9 c10 c11 b9 s9 z9 => ?_⟩
      refine ⟨_, rfl, sk, 2, _, rfl, s9, by omega, by decide, by decide, fun c2 H10 c20 c21 b10 s10 z10 => ?_⟩
      have k0 : 0 ≤ c1 * c2 := Int.mul_nonneg c10 c20
      have k2 : c1 * c2 ≤ 2 := by
        have h1 : c1 = 0 ∨ c1 = 1 ∨ c1 = 2 := by omega
        have h2 : c2 = 0 ∨ c2 = 1 := by omega
        rcases h1 with rfl | rfl | rfl <;> rcases h2 with rfl | rfl <;> decide
      refine ⟨_, _, rfl, rfl, .inl ⟨by omega, by omega⟩, ?_⟩
      have b810 := b9.trans b10
      have hb10 := hb8.coin b810
      have w10 := w8.trans (ButL.of_but b810 List.mem_cons_self)
      -- ended
      refine ⟨fun σ H' => ∃ bk : Int, σ = [some (.ref sk), some (.ref t), some (.int o), some (.ref lv), some (.ref g), some (.ref lb), some (.ref l8), some (.ref x), some (.ref a), some (.int bk), v10, v11] ∧ Evl.Ex H10 H' ∧ 0 ≤ bk ∧ bk ≤ 3 ∧ (eV ts es u b ≠ .non → 0 < bk), ?_, ?_⟩
      · obtain ⟨ys, q, hl10, hyl, hq10⟩ := hb10.st.last
        obtain ⟨Dz, Lq, hqt, hqD, hqL⟩ := id hq10
        refine ⟨_, rfl, _, rfl, l8, _, _, _, rfl, rfl, SqL.of hl10, at_last _ _, q, _, _, _, rfl, rfl, SqT.of (woL_ex _ _ hqt), rfl, _, rfl, ?_⟩
        rcases eV_ix (ts := ts) (es := es) (u := u) (b := b) with hev | ⟨iv, hev, _⟩
        · refine if_f (by rw [hev]; rfl) ?_
          exact ⟨c1 * c2, rfl, Evl.Ex.refl _, k0, by omega, fun z => absurd hev z⟩
        · refine if_t (by rw [hev, decide_eq_false (fun z => by cases z)]; rfl) ?_
          refine ⟨_, rfl, _, _, rfl, rfl, ?_⟩
          have hbn := hb10.bn.go (H' := H10) woL_ex
          rw [hev] at hbn
          refine ⟨_, rfl, _, rfl, x, ls, lt, a, sk, ts, es, _, _, _, _, u, b, _, d, rfl, hbn, (hdw.ex (GW w10)).ex woL_ex, hgi.1, fun H11 e11 => ⟨true, rfl, if_f rfl ?_⟩⟩
          exact ⟨c1 * c2 + 1, rfl, e11, by omega, by omega, fun _ => by omega⟩
      rintro σ H11 ⟨bk, rfl, e11, k0, k3, kE⟩
      have hb11 := hb10.ex e11
      have s11 := s10.ex e11
      have w11 := w10.trans (ButL.of_ex e11)
      -- far back
      refine ⟨fun σ H' => ∃ bk : Int, σ = [some (.ref sk), some (.ref t), some (.int o), some (.ref lv), some (.ref g), some (.ref lb), some (.ref l8), some (.ref x), some (.ref a), some (.int bk), v10, v11] ∧ But sk H11 H' ∧ Sk H' sk (m + 5000 + 4 * i + 3) ∧ 0 ≤ bk ∧ bk ≤ 30 ∧ (eV ts es u b ≠ .non → 0 < bk), ?_, ?_⟩
      · refine ⟨_, rfl, sk, 9, _, rfl, s11, by omega, by decide, by decide, fun cc H12 c0 c1 b12 s12 z12 => ⟨rfl, _, rfl, ?_⟩⟩
        by_cases hc : cc = 0
        · refine if_t (by rw [hc]; exact decide_eq_true rfl) ?_
          obtain ⟨ys, q, hl12, hyl, _⟩ := (hb11.coin b12).st.last
          refine ⟨_, rfl, l8, _, rfl, .inl (SqL.of hl12), ?_⟩
          refine ⟨_, rfl, b12, s12, ?_, ?_, fun _ => ?_⟩
          · omega
          · rw [List.length_append, hyl]
            show ((es.length + 1 : Nat) : Int) ≤ 30
            omega
          · rw [List.length_append]
            show (0 : Int) < ((ys.length + 1 : Nat) : Int)
            omega
        · refine if_f (decide_eq_false fun z => hc (by cases z; rfl)) ?_
          exact ⟨bk, rfl, b12, s12, k0, by omega, kE⟩
      rintro σ H12 ⟨bk, rfl, b12, s12, k0, k30, kE⟩
      have hb12 := hb11.coin b12
      have w12 := w11.trans (ButL.of_but b12 List.mem_cons_self)
      -- taken back
      refine ⟨_, rfl, _, rfl, by omega, by omega, for_range (n := bk.toNat) (fun j σ H' => ∃ (es' : List Deed) (v10 : Option V), σ = [some (.ref sk), some (.ref t), some (.int o), some (.ref lv), some (.ref g), some (.ref lb), some (.ref l8), some (.ref x), some (.ref a), some (.int bk), v10, v11] ∧ ButL [x, ls, lt, l8] H12 H' ∧ Bd B sk l8 H' x ls lt ts es' u b ∧ es'.length ≤ i ∧ (∀ d ∈ es', GD ts d) ∧ (0 < j → eV ts es' u b = .non) ∧ (j = 0 → es' = es))
        ⟨es, _, rfl, fun _ _ _ h => h, hb12, hli, hgd, fun h => absurd h (Nat.lt_irrefl _), fun _ => rfl⟩ ?_ ?_⟩
      · rintro j σ H13 hj ⟨es', v10, rfl, w13, hb13, hli', hgd', hev', _⟩
        obtain ⟨ys, q, hl13, hyl, hq13⟩ := hb13.st.last
        refine ⟨_, rfl, l8, _, rfl, .inl (SqL.of hl13), _, _, rfl, rfl, _, rfl, ?_⟩
        by_cases hn : es' = []
        · subst hn
          refine if_f (decide_eq_false (by rw [List.length_append, hyl]; show ¬ (1 : Int) < ((0 + 1 : Nat) : Int); omega)) ?_
          exact ⟨[], _, rfl, w13, hb13, hli', hgd', fun _ => rfl, fun z => absurd z (by omega)⟩
        · obtain ⟨es0, d0, rfl⟩ : ∃ a c, es' = a ++ [c] := last_split (List.length_pos_iff.mpr hn)
          have l0 : (es0 ++ [d0]).length = es0.length + 1 := by rw [List.length_append]; rfl
          refine if_t (decide_eq_true (by rw [List.length_append, hyl, l0]; show (1 : Int) < ((es0.length + 1 + 1 : Nat) : Int); omega)) ?_
          obtain ⟨dx, fs', hx13, _⟩ := hb13.ln.2.1
          obtain ⟨⟨dx3, lq3, g3, lw3, tw3, as3, bs3, hx3, _⟩, _, _, _⟩ := id hb13.bn
          have hx3 := woL_ex _ _ hx3
          have s13 := skp hb12 s12 w13
          refine ⟨_, rfl, x, dx3, _, rfl, hx3, rfl, x, ls, lt, sk, [l8], _, ts, es0, d0, hist ts es0 u b, _, _, _, _, _, u, b, _, rfl, hb13.cutB, s13, fun H14 w14 hB14 => ⟨_, rfl, if_f rfl ?_⟩⟩
          have l8n := hb13.ln.1
          have w14' : ButL [x, ls, lt, l8] H13 H14 := w14.mono fun p hp => by simp only [List.mem_cons, List.not_mem_nil, or_false] at hp ⊢; rcases hp with h | h | h <;> simp [h]
          have GW3 : ∀ {Ha Hb : Hp}, ButL [x, ls, lt, l8] Ha Hb → Evl.Ex (woL [sk, x, ls, lt, l8] Ha) (woL [sk, x, ls, lt, l8] Hb) := fun w => w.wo fun _ h => List.mem_cons_of_mem _ h
          have hSt14 := hb13.st.mv (fun o h => w14 _ _ l8n h) (GW3 w14')
          have hl14 := w14 _ _ l8n hl13
          refine ⟨_, rfl, .inl ⟨rfl, _, SqL.of hl14⟩, l8, _, _, rfl, rfl, hl14, pop_at2, ?_⟩
          have w15 : ButL [x, ls, lt, l8] H14 (upd H14 l8 (.lst (ys ++ [V.ref q]).dropLast)) := fun c o n h => Eq.trans (upd_ne (fun z => n (by rw [z]; simp))) h
          have k15 : Evl.Ex (woL [l8] H14) (woL [l8] (upd H14 l8 (.lst (ys ++ [V.ref q]).dropLast))) := fun c o h => woL_at (woL_ne h) (Eq.trans (upd_ne (fun z => woL_ne h (List.mem_singleton.mpr z))) (woL_ex _ _ h))
          have hS15 := hSt14.pop hl14 (GW3 w15) (upd_same (H := H14) (a := l8) (o := .lst (ys ++ [V.ref q]).dropLast))
          generalize upd H14 l8 (.lst (ys ++ [V.ref q]).dropLast) = H15 at w15 k15 hS15
          obtain ⟨hled, hev⟩ := led_cut hb13.led
          have hB15 : BLr B sk l8 H15 x ls lt ts es0 u b .non := hB14.go k15
          exact ⟨es0, _, rfl, (w13.trans w14').trans w15, ⟨by rw [hev]; exact hB15, by rw [hev]; exact hS15, hled, l8s⟩, by omega, fun d hd => hgd' d (List.mem_append_left _ hd), fun _ => hev, fun z => absurd z (by omega)⟩
      · rintro σ H13 ⟨es', v10, rfl, w13, hb13, hli', hgd', hev', hj0⟩
        have hev : eV ts es' u b = .non := by
          by_cases c : 0 < bk.toNat
          · exact hev' c
          · rw [hj0 (by omega)]
            rcases eV_ix (ts := ts) (es := es) (u := u) (b := b) with h | ⟨iv, h, _⟩
            · exact h
            · have := kE (by rw [h]; exact fun z => by cases z)
              omega
        have s13 := skp hb12 s12 w13
        clear hj0 hev' kE hb12
        have w13' : ButL [sk, x, ls, lt, l8] H7 H13 := w12.trans (w13.mono fun _ h => List.mem_cons_of_mem _ h)
        obtain ⟨shE, hAl, hO4⟩ := few (es := es') (by omega) hgd'
        -- told
        refine ⟨fun σ H' => σ = [some (.ref sk), some (.ref t), some (.int o), some (.ref lv), some (.ref g), some (.ref lb), some (.ref l8), some (.ref x), some (.ref a), some (.int bk), v10, v11] ∧ Evl.Ex H13 H', ?_, ?_⟩
        · refine ⟨_, rfl, _, _, rfl, rfl, _, rfl, ?_⟩
          by_cases hc : (0 : Int) < bk
          · refine if_t (decide_eq_true hc) ?_
            obtain ⟨ys, q, hl13, hyl, hq13⟩ := hb13.st.last
            refine ⟨_, rfl, _, rfl, _, rfl, _, rfl, _, rfl, l8, _, _, _, rfl, rfl, SqL.of hl13, at_last _ _, x, lv, lb, q, sk, ls, lt, _, ts, es', u, b, _, rfl, hb13.bn.go woL_ex, s13, hTvW w13', hPbW w13', hq13.ex woL_ex, shE, ixOf (by omega), hu, hQ, fun H14 e14 => ⟨true, rfl, if_f rfl ?_⟩⟩
            exact ⟨rfl, e14⟩
          · refine if_f (decide_eq_false hc) ?_
            refine if_f rfl ?_
            exact ⟨rfl, Evl.Ex.refl _⟩
        rintro σ H14 ⟨rfl, e14⟩
        have hb14 := hb13.ex e14
        have s14 := s13.ex e14
        have w14 := w13'.trans (ButL.of_ex e14)
        have hda14 := hdw.ex (GW w14)
        have nt14 := hb14.nt s14
        obtain ⟨ys, q, hl14, hyl, hq14⟩ := hb14.st.last
        rw [hev] at hq14
        have hst14 := hb14.st
        have hbn14 := hb14.bn
        rw [hev] at hst14 hbn14
        refine ⟨_, rfl, .inl ⟨rfl, _, SqL.of hl14⟩, ?_⟩
        refine ⟨_, rfl, _, rfl, _, rfl, l8, _, _, _, rfl, rfl, SqL.of hl14, at_last _ _, _, rfl, lb, q, a, d, ts, es', _, _, u, b, .non, [sk, x, ls, lt, l8], rfl, hPbW w14, hq14, nt14, hda14, hgi.1, hAl, h20, by omega, hO4, hgi.2, hV, hQ, hu, hz, fun q' H15 e15 hq' => ?_⟩
        refine ⟨l8, _, _, rfl, rfl, e15 _ _ hl14, ?_, ?_⟩
        · rw [List.length_append, hyl]
          exact Nat.lt_of_le_of_lt (show es'.length + 1 ≤ 100 by omega) (by decide)
        have w16 : ButL [sk, x, ls, lt, l8] H14 (upd H15 l8 (.lst (ys ++ [.ref q] ++ [.ref q']))) := fun c o n h => Eq.trans (upd_ne (fun z => n (by rw [z]; simp))) (e15 _ _ h)
        have l16 := upd_same (H := H15) (a := l8) (o := .lst (ys ++ [.ref q] ++ [.ref q']))
        have g16 : Evl.Ex (woL [sk, x, ls, lt, l8] H15) (woL [sk, x, ls, lt, l8] (upd H15 l8 (.lst (ys ++ [.ref q] ++ [.ref q'])))) := fun c o h => woL_at (woL_ne h) (Eq.trans (upd_ne (fun z => woL_ne h (by rw [z]; simp))) (woL_ex _ _ h))
        have k16 : Evl.Ex (woL [l8] H14) (woL [l8] (upd H15 l8 (.lst (ys ++ [.ref q] ++ [.ref q'])))) := fun c o h => woL_at (woL_ne h) (Eq.trans (upd_ne (fun z => woL_ne h (List.mem_singleton.mpr z))) (e15 _ _ (woL_ex _ _ h)))
        have s16 : Sk (upd H15 l8 (.lst (ys ++ [.ref q] ++ [.ref q']))) sk (m + 5000 + 4 * i + 3) := (s14.ex e15).upd l8s
        have hq16 := hq'.ex g16
        have hS16 := hst14.push (d := d) (v := eV ts (es' ++ [d]) u b) hl14 (GW w16) l16 (by rw [wEnd_snoc, eV_snoc]; exact hq16)
        generalize upd H15 l8 (.lst (ys ++ [.ref q] ++ [.ref q'])) = H16 at w16 l16 k16 hS16 s16
        have hB16 := hbn14.go k16
        have w16' := w14.trans w16
        have hda16 := hdw.ex (GW w16')
        have odd16 : ∀ r ∈ [l8], Odd H16 r := fun r hr => by
          rw [List.mem_singleton.mp hr]
          exact hS16.odd woL_ex
        have hpo : ∀ k a, d = .po k a → Bn 60 a := fun k a e => by
          have h1 := hgi.2 k a e
          have h2 := hgi.1
          subst e
          have h2 := h2.2
          exact Nat.lt_of_le_of_lt (show a.natAbs ≤ 1000 by omega) (by decide)
        have hdl : DAt (woL [sk, x, ls, lt] H16) a d := hda16.ex fun c o h => woL_at (fun z => woL_ne h (by simp only [List.mem_cons, List.not_mem_nil, or_false] at z ⊢; rcases z with z | z | z | z <;> simp [z])) (woL_ex _ _ h)
        refine ⟨_, rfl, _, rfl, _, rfl, sk, x, ls, lt, a, [l8], _, 4000, ts, es', hist ts es' u b, _, _, _, u, b, d, rfl, hB16, odd16, hAl, s16, by omega, by omega, hdl, by rw [hAl]; exact hgi.1, hpo, by rw [hAl]; exact h20, by rw [hAl]; exact hV, hO4, by decide, fun v H17 w17 s17 hB17 hv => ?_⟩
        have l8n : l8 ∉ [sk, x, ls, lt] := fun hm => by
          rcases List.mem_cons.mp hm with h | h
          · exact l8s h
          · exact hb14.ln.1 h
        have w17' : ButL [sk, x, ls, lt, l8] H16 H17 := w17.mono fun p hp => by simp only [List.mem_cons, List.not_mem_nil, or_false] at hp ⊢; rcases hp with h | h | h | h <;> simp [h]
        have hve : v = eV ts (es' ++ [d]) u b := by rw [hv, eV_snoc]
        have hb17 : Bd B sk l8 H17 x ls lt ts (es' ++ [d]) u b := by
          refine ⟨?_, hS16.mv (fun o h => w17 _ _ l8n h) (GW w17'), led_snoc hb14.led hev, l8s⟩
          rw [← hve]
          unfold BLr
          rw [hist_snoc, wEnd_snoc]
          exact hB17
        have hgd1 : ∀ d' ∈ es' ++ [d], GD ts d' := fun d' hd' => by
          rcases List.mem_append.mp hd' with h | h
          · exact hgd' d' h
          · rw [List.mem_singleton.mp h]
            exact hgi
        have hvb : (!decide (eV ts (es' ++ [d]) u b = .non)) = endB (ts.map (wid u b)) (wEnd ts es' u b).1 d := by
          rw [eV_snoc]
          cases endB (ts.map (wid u b)) (wEnd ts es' u b).1 d <;> rfl
        have hsh : ∀ b : Bool, (PyData.bool b).showable = true ∧ (PyData.bool b).depth ≤ 60 ∧ (PyData.bool b).shown.length ≤ sizeLine := fun b => by cases b <;> exact ⟨by decide, by decide, by decide⟩
        refine ⟨.bl _, .bool _, rfl, .bl _, (hsh _).1, (hsh _).2.1, (hsh _).2.2, ?_⟩
        obtain ⟨ys7, q7, hl17, hyl7, hq17⟩ := hb17.st.last
        obtain ⟨Dz7, Lq7, hqt7, hqD7, hqL7⟩ := id hq17
        refine ⟨_, rfl, _, rfl, l8, _, _, _, rfl, rfl, SqL.of hl17, at_last _ _, q7, _, _, _, rfl, rfl, SqT.of (woL_ex _ _ hqt7), rfl, ?_⟩
        refine ⟨.bl _, .bool _, rfl, .bl _, (hsh _).1, (hsh _).2.1, (hsh _).2.2, ?_⟩
        rw [hvb]
        refine ⟨rfl, _, rfl, if_f (by rw [decide_eq_true rfl]; rfl) ?_⟩
        exact ⟨es' ++ [d], _, _, _, _, rfl, w16'.trans w17', s17.le (by omega), hb17, by rw [List.length_append]; show es'.length + 1 ≤ i + 1; omega, hgd1⟩
    · rintro σ H8 ⟨es, v8, v9, v10, v11, rfl, w8, s8, hb8, hli, hgd⟩
      rw [List.length_map] at hli
      obtain ⟨shE, hAl, hO4⟩ := few (es := es) (by omega) hgd
      have hF8 := GW w8 _ _ hF7
      -- a new one
      have NEW : ∀ {Ha : Hp} {lc : Addr} {z : Nat} (e : Evl.Ex H8 Ha), TksAt Ha lc ts → Sk Ha sk z → ∀ (y dy : Addr), Ha y = none → Ha dy = none → dy ≠ y → ∀ (Q' : VK), (∀ (ls2 lt2 : Addr) (Hb : Hp), Evl.Ex Ha Hb → Ha ls2 = none → Ha lt2 = none → BL B sk Hb y ls2 lt2 ts [] u b .non → Q' .non Hb) → spBnI B [.ref y, .ref lc, .ref g] (upd (upd Ha dy (.own y)) y (.ins B dy [])) Q' E0 := by
        intro Ha lc z e hTc hSa y dy hy hdy hne Q' k
        have e9 : Evl.Ex Ha (upd (upd Ha dy (.own y)) y (.ins B dy [])) := fun b o h => Eq.trans (upd_ne (ne_of_none' h hy)) (Eq.trans (upd_ne (ne_of_none' h hdy)) h)
        have x9 : upd (upd Ha dy (.own y)) y (.ins B dy []) y = some (.ins B dy []) := upd_same
        generalize upd (upd Ha dy (.own y)) y (.ins B dy []) = H9 at e9 x9
        exact ⟨y, dy, lc, g, sk, [], z, ts, u, b, rfl, x9, hTc.ex e9, hW.ok.1, fun t ht => (hW.w1000 t ht).1, e9 _ _ (e _ _ (woL_ex _ _ hF8)), hu, hQ, hSa.ex e9, (fun r hr => by cases hr), (fun hr => by cases hr), fun ls2 lt2 H10 w1 w2 b10 hB => k ls2 lt2 H10 (fun c o h => b10 _ _ (ne_of_none' h hy) (e9 _ _ h)) (Evl.fresh_back e9 w1) (Evl.fresh_back e9 w2) (hB.go woL_ex)⟩
      refine ⟨_, rfl, _, _, rfl, (hTvW w8).dq, cp_tks2 h20, fun v' H9 e9 hv' => ?_⟩
      obtain ⟨lc, rfl, hlc⟩ := hv'.tks
      refine ⟨_, rfl, fun y dy hy hdy hne => NEW e9 (hlc.ex Nw.ex) (s8.ex e9) y dy hy hdy hne _ fun ls2 lt2 H10 e10 ls2n lt2n hB10 => ⟨rfl, ?_⟩⟩
      have hb9 := hb8.ex e9
      have s9 := s8.ex e9
      have w9 := w8.trans (ButL.of_ex e9)
      obtain ⟨ys, q, hl9, hyl, hq9⟩ := hb9.st.last
      obtain ⟨Dz, Lq, hqt, hqD, hqL⟩ := id hq9
      obtain ⟨asL, hLa, hLl, hLd⟩ := id hqL
      have old : ∀ {c : Addr} {o : HO}, H9 c = some o → c ∉ [y, ls2, lt2] := fun h => by
        simp only [List.mem_cons, List.not_mem_nil, or_false, not_or]
        exact ⟨ne_of_none h hy, ne_of_none h ls2n, ne_of_none h lt2n⟩
      refine ⟨_, rfl, _, rfl, l8, _, _, _, rfl, rfl, SqL.of (e10 _ _ hl9), at_last _ _, q, _, _, _, rfl, rfl, SqT.of (e10 _ _ (woL_ex _ _ hqt)), rfl, Lq, rfl, ⟨_, SqL.of (e10 _ _ (woL_ex _ _ hLa))⟩, for_list (xs := asL.map V.ref) (fun i σ H' => ∃ v8, σ = [some (.ref sk), some (.ref t), some (.int o), some (.ref lv), some (.ref g), some (.ref lb), some (.ref l8), some (.ref x), v8, v9, v10, some (.ref y)] ∧ Evl.Ex H9 H' ∧ BL B sk H' y ls2 lt2 ts (es.take i) u b (eV ts (es.take i) u b))
        ⟨_, rfl, e10, hB10⟩ (fun i σ H' _ z => by
          obtain ⟨_, _, z, _⟩ := z
          exact SqL.of (z _ _ (woL_ex _ _ hLa))) ?_ ?_⟩
      · rintro i yy σ H11 hi ⟨v8, rfl, e11, hB11⟩
        rw [List.getElem?_map] at hi
        obtain ⟨a, ha, rfl⟩ : ∃ a, asL[i]? = some a ∧ yy = .ref a := by
          cases e : asL[i]? with
          | none =>
            rw [e] at hi
            cases hi
          | some a =>
            rw [e] at hi
            exact ⟨a, rfl, (Option.some.inj hi).symm⟩
        have hi2 : i < es.length := by
          have := (List.getElem?_eq_some_iff.mp ha).1
          omega
        have hdi := List.getElem?_eq_getElem hi2
        have hda := hLd i a _ ha hdi
        have hgi := hgd _ (List.getElem_mem hi2)
        have hev := led_take hb9.led hi2
        have htk : es.take (i + 1) = es.take i ++ [es[i]] := by rw [List.take_add_one, hdi]; rfl
        rw [htk]
        rw [hev] at hB11
        have hes : (es.take i).length ≤ 20 := by rw [List.length_take]; omega
        have hgE : ∀ d ∈ es.take i, GD ts d := fun d hd => hgd d (List.mem_of_mem_take hd)
        generalize es[i] = d at hda hgi
        generalize es.take i = es1 at hB11 hes hgE
        clear hev
        obtain ⟨shE1, hAl1, hO1⟩ := few hes hgE
        obtain ⟨⟨dx3, lq3, g3, lw3, tw3, as3, bs3, hx3, hls3, _, hlt3, _, _⟩, _, _, _⟩ := id hB11
        refine ⟨_, rfl, y, rfl, _, rfl, _, _, rfl, dat_dq ((hda.ex woL_ex).ex e11), cp_dD hgi.1, fun v' H12 e12 hv' => ?_⟩
        obtain ⟨ga, rfl, hga⟩ := dq_deed hv'
        have hd2 : DAt (woL [y, ls2, lt2] H12) ga d := hga.ex fun p o z => by
          have q0 := nw_none z
          have ne : ∀ {p' : Addr} {o' : HO}, H11 p' = some o' → p ≠ p' := fun hp y => by rw [y, hp] at q0; cases q0
          exact woL_at (by simp only [List.mem_cons, List.not_mem_nil, or_false, not_or]; exact ⟨ne hx3, ne hls3, ne hlt3⟩) (Nw.ex _ _ z)
        have hpo : ∀ k a, d = .po k a → Bn 60 a := fun k a e => by
          have h1 := hgi.2 k a e
          have h2 := hgi.1
          subst e
          have h2 := h2.2
          exact Nat.lt_of_le_of_lt (show a.natAbs ≤ 1000 by omega) (by decide)
        refine ⟨.inr ⟨_, _, e12 _ _ hx3⟩, y, ls2, lt2, ga, sk, [], _, 4000, ts, es1, hist ts es1 u b, _, _, _, u, b, d, rfl, hB11.go fun c o h => woL_at (by simp) (e12 _ _ h), hAl1, (fun r hr => by cases hr), (s9.ex e11).ex e12, by omega, hd2, by rw [hAl1]; exact hgi.1, hpo, by rw [hAl1]; exact h20, by rw [hAl1]; exact hV, hO1, by decide, fun v H13 w13 hB13 hv => ?_⟩
        have hve : v = eV ts (es1 ++ [d]) u b := by rw [hv, eV_snoc]
        refine ⟨_, rfl, fun c o h => w13 _ _ (old h) (e12 _ _ (e11 _ _ h)), ?_⟩
        rw [← hve]
        unfold BL
        rw [hist_snoc, wEnd_snoc]
        exact hB13.go woL_ex
      · rintro σ H11 ⟨v8, rfl, e11, hB11⟩
        rw [List.length_map, hLl, List.take_length] at hB11
        have hb11 := hb9.ex e11
        have s11 := s9.ex e11
        have w11 := w9.trans (ButL.of_ex e11)
        obtain ⟨dx1, fs1, hx1, _⟩ := hb11.ln.2.1
        obtain ⟨⟨dx2, lq2, g2', lw2, tw2, as2, bs2, hx2, _⟩, _, _, _⟩ := id hB11
        refine ⟨_, rfl, _, rfl, ⟨x, y, _, _, _, _, rfl, rfl, hx1, hx2, ts, es, u, b, (hb11.bn.go woL_ex).bv, hB11.bv⟩, fun H12 e12 => ⟨_, rfl, if_f rfl ?_⟩⟩
        have e12 : Evl.Ex H11 H12 := e12
        have l12 := e12 _ _ (e11 _ _ hl9)
        have q12 := (hq9.ex (woL_go (e11.trans e12))).ex woL_ex
        have w12 := w11.trans (ButL.of_ex e12)
        refine ⟨_, rfl, _, rfl, _, rfl, _, rfl, _, rfl, l8, _, _, _, rfl, rfl, SqL.of l12, at_last _ _, y, lv, lb, q, sk, ls2, lt2, _, ts, es, u, b, _, rfl, hB11.go e12, s11.ex e12, hTvW w12, hPbW w12, q12, shE, ixOf (by omega), hu, hQ, fun H13 e13 => ⟨true, rfl, if_f rfl ?_⟩⟩
        have e1113 := e12.trans e13
        have l13 := e13 _ _ l12
        have w13 := w12.trans (ButL.of_ex e13)
        have hb13 := hb11.ex e1113
        refine ⟨_, rfl, _, rfl, _, rfl, _, rfl, _, rfl, l8, _, _, _, rfl, rfl, SqL.of l13, at_last _ _, x, lv, lb, q, sk, ls, lt, _, ts, es, u, b, _, rfl, hb13.bn.go woL_ex, s11.ex e1113, hTvW w13, hPbW w13, q12.ex e13, shE, ixOf (by omega), hu, hQ, fun H14 e14 => ⟨true, rfl, if_f rfl ?_⟩⟩
        have l14 := e14 _ _ l13
        have hb14 := hb13.ex e14
        have s14 := (s11.ex e1113).ex e14
        have w14 := w13.trans (ButL.of_ex e14)
        have en : (((ys ++ [V.ref q]).length : Nat) : Int) - 1 = ((es.length : Nat) : Int) := by
          rw [List.length_append, hyl]
          show ((es.length + 1 : Nat) : Int) - 1 = _
          omega
        refine ⟨_, rfl, l8, _, rfl, .inl (SqL.of l14), _, _, rfl, rfl, ((es.length : Nat) : Int), congrArg (fun z => [V.int z]) en, by omega, by omega, for_range (n := es.length) (fun j σ H' => ∃ (es' : List Deed) (v10 : Option V), σ = [some (.ref sk), some (.ref t), some (.int o), some (.ref lv), some (.ref g), some (.ref lb), some (.ref l8), some (.ref x), v8, v9, v10, some (.ref y)] ∧ es'.length + j = es.length ∧ ButL [x, ls, lt] H14 H' ∧ Led ts es' u b ∧ BLr B sk l8 H' x ls lt ts es' u b (eV ts es' u b))
          ⟨es, _, rfl, rfl, fun _ _ _ h => h, hb14.led, hb14.bn⟩ ?_ ?_⟩
        · rintro j σ H15 hj ⟨es', v10, rfl, hel, w15, hld, hB15⟩
          obtain ⟨es0, d0, rfl⟩ : ∃ a c, es' = a ++ [c] := last_split (by omega)
          have hel0 : es0.length + 1 + j = es.length := by rw [List.length_append] at hel; exact hel
          obtain ⟨hld0, hev0⟩ := led_cut hld
          have hB15' := hB15
          unfold BLr at hB15'
          rw [hist_snoc] at hB15'
          obtain ⟨⟨dx3, lq3, g3, lw3, tw3, as3, bs3, hx3, _⟩, _, _, _⟩ := id hB15
          have s15 := skp hb14 s14 (w15.mono fun p hp => by simp only [List.mem_cons, List.not_mem_nil, or_false] at hp ⊢; rcases hp with h | h | h <;> simp [h])
          refine ⟨_, rfl, x, dx3, _, rfl, woL_ex _ _ hx3, rfl, x, ls, lt, sk, [l8], _, ts, es0, d0, hist ts es0 u b, _, _, _, _, _, u, b, _, rfl, hB15', s15, fun H16 w16 hB16 => ⟨_, rfl, if_f rfl ?_⟩⟩
          have w16' := w15.trans w16
          have l16 := w16' _ _ hb14.ln.1 l14
          obtain ⟨⟨dx4, lq4, g4, lw4, tw4, as4, bs4, hx4, _⟩, _, _, _⟩ := id hB16
          refine ⟨_, rfl, x, dx4, _, rfl, woL_ex _ _ hx4, x, ls, lt, sk, ts, es0, _, _, _, _, u, b, _, rfl, hB16.go woL_ex, by omega, es0.length, rfl, by omega, ?_⟩
          refine ⟨_, rfl, l8, _, rfl, .inl (SqL.of l16), _, _, rfl, rfl, _, rfl, _, _, rfl, rfl, rfl, _, rfl, if_f ?_ ?_⟩
          · have ee : ((es0.length : Nat) : Int) = (((ys ++ [V.ref q]).length : Nat) : Int) - 2 - (0 + (j : Int)) := by
              rw [List.length_append, hyl]
              show ((es0.length : Nat) : Int) = ((es.length + 1 : Nat) : Int) - 2 - (0 + (j : Int))
              omega
            exact (by rw [decide_eq_true (congrArg V.int ee)]; rfl)
          · exact ⟨es0, _, rfl, by omega, w16', hld0, by rw [hev0]; exact hB16⟩
        · rintro σ H15 ⟨es', v10, rfl, hel, w15, hld, hB15⟩
          obtain rfl : es' = [] := List.length_eq_zero_iff.mp (by omega)
          have w15' : ButL [sk, x, ls, lt, l8] H14 H15 := w15.mono fun p hp => sub4 hp
          have s15 := skp hb14 s14 (w15.mono fun p hp => by simp only [List.mem_cons, List.not_mem_nil, or_false] at hp ⊢; rcases hp with h | h | h <;> simp [h])
          refine ⟨_, rfl, x, ls, lt, sk, ts, _, _, _, _, u, b, _, rfl, hB15.go woL_ex, fun p1 H16 hp1 e16 hq16 => ⟨one, fun p2 hp2 => ?_⟩⟩
          have e17 := Evl.Ex.new (o := .lst [.int 0]) hp2
          refine ⟨.list [.int 0], .list [.int 0], .lst (SqL.of (e17 _ _ hq16)) (.cons (.int _) .nil), .lst (SqL.of upd_same) (.cons (.int _) .nil), by decide, by decide, _, rfl, if_f (by decide) ?_⟩
          generalize upd H16 p2 (.lst [.int 0]) = H17 at e17
          have e1517 := e16.trans e17
          refine ⟨_, rfl, x, ls, lt, sk, ts, _, _, _, _, u, b, _, rfl, (hB15.go (woL_go e1517)).go woL_ex, fun p3 H18 hp3 e18 hq18 => ⟨one, fun p4 hp4 => ?_⟩⟩
          have e19 := Evl.Ex.new (o := .lst [.int 0]) hp4
          refine ⟨.list [.int 0], .list [.int 0], .lst (SqL.of (e19 _ _ hq18)) (.cons (.int _) .nil), .lst (SqL.of upd_same) (.cons (.int _) .nil), by decide, by decide, _, rfl, if_f (by decide) ?_⟩
          generalize upd H18 p4 (.lst [.int 0]) = H19 at e19
          have e1519 := (e1517.trans e18).trans e19
          have hB19 := (hB15.go (woL_go e1519)).go woL_ex
          obtain ⟨⟨dx3, lq3, g3, lw3, tw3, as3, bs3, hx3, _⟩, _, _, _⟩ := id hB19
          refine ⟨_, rfl, x, dx3, _, rfl, hx3, x, ls, lt, sk, ts, [], _, _, _, _, u, b, _, rfl, hB19, _, rfl, if_f rfl ?_⟩
          have w19 := (w14.trans w15').trans (ButL.of_ex e1519)
          have e819 : Evl.Ex H8 H8 ∨ True := .inr trivial
          have s19 := s15.ex e1519
          have hT19 := hTvW w19
          have hF19 := GW w19 _ _ hF7
          refine ⟨_, rfl, _, rfl, _, _, rfl, hT19.dq, cp_tks2 h20, fun v' H20 e20 hv2 => ?_⟩
          obtain ⟨lc2', rfl, hlc2⟩ := hv2.tks
          refine ⟨_, rfl, fun y2 dy2 hy2 hdy2 hne2 => ?_⟩
          have e21 : Evl.Ex H20 (upd (upd H20 dy2 (.own y2)) y2 (.ins B dy2 [])) := fun b o h => Eq.trans (upd_ne (ne_of_none' h hy2)) (Eq.trans (upd_ne (ne_of_none' h hdy2)) h)
          have x21 : upd (upd H20 dy2 (.own y2)) y2 (.ins B dy2 []) y2 = some (.ins B dy2 []) := upd_same
          generalize upd (upd H20 dy2 (.own y2)) y2 (.ins B dy2 []) = H21 at e21 x21
          refine ⟨y2, dy2, lc2', g, sk, [], _, ts, u, b, rfl, x21, (hlc2.ex Nw.ex).ex e21, hW.ok.1, fun t ht => (hW.w1000 t ht).1, e21 _ _ (e20 _ _ (woL_ex _ _ hF19)), hu, hQ, (s19.ex e20).ex e21, (fun r hr => by cases hr), (fun hr => by cases hr), fun ls3 lt3 H22 wl3 wt3 b22 hB22 => ⟨rfl, ?_⟩⟩
          have e22 : Evl.Ex H20 H22 := fun c o h => b22 _ _ (ne_of_none' h hy2) (e21 _ _ h)
          have e1922 := e20.trans e22
          have hB22' := hB22.go (woL_ex (ps := []))
          have hB19' := hB19.go e1922
          obtain ⟨⟨dx5, lq5, g5, lw5, tw5, as5, bs5, hx5, _⟩, _, _, _⟩ := id hB22'
          refine ⟨⟨x, y2, _, _, _, _, rfl, rfl, e1922 _ _ hx3, hx5, ts, [], u, b, hB19'.bv, hB22'.bv⟩, fun H23 e23 => ⟨_, rfl, if_t rfl ?_⟩⟩
          have e23 : Evl.Ex H22 H23 := e23
          have w23 := w19.trans (ButL.of_ex (e1922.trans e23))
          have g23 := GW w23
          have toS : Evl.Ex (woL [sk, x, ls, lt, l8] H23) (wo sk H23) := fun c o h => wo_at (fun z => woL_ne h (by rw [z]; exact List.mem_cons_self)) (woL_ex _ _ h)
          refine ⟨_, rfl, _, rfl, _, rfl, _, rfl, sk, t, g, o, _, lv, ld, ts, ds, u, b, rfl, (s19.ex e1922).ex e23, by rw [List.length_map]; omega, toS _ _ (g23 _ _ ht7), (hT7.ex g23).ex toS, (hD7.ex g23).ex toS, hW, ho.1, ho.2, toS _ _ (g23 _ _ hF7), hQ, hu, fun H24 b24 => kk _ fun c o' nc hc => ?_⟩
          have h2 := b12 c o' nc hc
          have h4 := e4 _ _ (e3 _ _ h2)
          have h5 := e5 _ _ h4
          have h6 := b6 c o' nc h5
          refine b24 c o' nc (w23 c o' ?_ (e67 _ _ h6))
          simp only [List.mem_cons, List.not_mem_nil, or_false, not_or]
          exact ⟨nc, ne_of_none h5 xn, ne_of_none h5 lsn, ne_of_none h5 ltn, ne_of_none h4 hl8⟩
end
end V2


namespace V2
open PySem L2
open PySem.Spec PyProof.Rows
theorem sq_ex_but {K : PySem.W.Frag} {H H1 H2 : Hp} {a q : Addr} {xs : List V} (h : SqL K H a xs) (hq : H q = none) (e : Evl.Ex H H1) (b : But q H1 H2) : SqL K H2 a xs := by
  rcases h with h | h
  · left
    have go : ∀ o, H a = some o → H2 a = some o := fun o ho => b a o (ne_of_none ho hq) (e a o ho)
    rcases h with h | ⟨o, h⟩
    · exact .inl (go _ h)
    · exact .inr ⟨o, go _ h⟩
  · exact .inr h
def spLaw (K : PySem.W.Frag) : Sp := fun vs H Q _ => ∃ (a : Addr) (ns : List Int), vs = [.ref a] ∧ SqL K H a (iV ns) ∧ ns.length ≤ 63 ∧ ∀ H', Q (.bl true) H'
structure T6 (mg : Str → Option Value) : Prop where
  rng : mg "range" = none
  len : mg "len" = none
  max : mg "max" = none
  min : mg "min" = none
def Lay (K : PySem.W.Frag) (mg : Str → Option Value) (x : Str) (st : Stmt) (ps : List Str) : Prop := ∃ (f : Addr) (fd : FuncData), Fun K x x st f fd ∧ mg x = some (.ref f) ∧ PySem.W.keepIn K (.ref f) = true ∧ Binds K fd ps []
theorem lay_of {h : Heap} {mg : Str → Option Value} {K : PySem.W.Frag} {w : World} {L : Lk} (X : K.In h) (G : h.Ns mainGlobals mg) (c : L.seen K = L.due w) (i j : Nat) {x : Str} {st : Stmt} {ps : List Str}
    (hi : L.ds[i]? = some ⟨fun K => He.ga K x, x, x, st⟩) (hj : L.fb[j]? = some (bGlo x))
    (hb : ∀ (kV doc pm : Value) (an : Option Addr) (cdv ct : Value) (us : List Value), us.length = ps.length → bindArgs (PySem.W.fnOf x x (defArgs st) (defBody st) (defScope st) .none kV doc pm an cdv ct) ⟨us, []⟩ = pure (ps.zip us)) : Lay K mg x st ps := by
  obtain ⟨fd, F⟩ := Lk.df c i hi
  exact ⟨_, fd, F, He.glo_ok X G (Lk.fact c j hj), F.kp, Fun.binds F hb⟩
/-- a method, a getter -/
def LayM (K : PySem.W.Frag) (x y : Str) (st : Stmt) (f : Addr) (ps : List Str) : Prop := ∃ fd : FuncData, Fun K x y st f fd ∧ Binds K fd ps []
theorem laym_of {K : PySem.W.Frag} {w : World} {L : Lk} (c : L.seen K = L.due w) (i : Nat) {x y : Str} {st : Stmt} {a : PySem.W.Frag → Addr} {ps : List Str} (hi : L.ds[i]? = some ⟨a, x, y, st⟩)
    (hb : ∀ (kV doc pm : Value) (an : Option Addr) (cdv ct : Value) (us : List Value), us.length = ps.length → bindArgs (PySem.W.fnOf x y (defArgs st) (defBody st) (defScope st) .none kV doc pm an cdv ct) ⟨us, []⟩ = pure (ps.zip us)) : LayM K x y st (a K) ps := by
  obtain ⟨fd, F⟩ := Lk.df c i hi
  exact ⟨fd, F, Fun.binds F hb⟩
section
variable {base : Heap} {mg : Str → Option Value} {K : PySem.W.Frag} {w : World} {P : Program}
theorem Lay.cal {x : Str} {st : Stmt} {ps : List Str} {k : Nat} {sp : Sp} (L : Lay K mg x st ps) (h : ∀ f fd, Fun K x x st f fd → FnOk P w K mg base CX0 k f fd ps sp) : Cal P w K mg base k x ps sp := by
  obtain ⟨f, fd, F, m, kp, b⟩ := L
  exact ⟨f, fd, h f fd F, m, kp, b⟩
theorem Lay.calG {x : Str} {st : Stmt} {ps : List Str} {k : Nat} {sp : Sp} (L : Lay K mg x st ps) (h : ∀ f fd, Fun K x x st f fd → FnG P w K mg base k f fd ps sp) : CalG P w K mg base k x ps sp := by
  obtain ⟨f, fd, F, m, kp, b⟩ := L
  exact ⟨f, fd, h f fd F, m, kp, b⟩
end
end V2


namespace V2
open PySem L2
open PySem.Spec PyProof.Rows
theorem nodig_ok {K : PySem.W.Frag} (c : bNoDig K = true) : NoDig K := He.eqO_ok c
theorem rel_gW {vs zs : List V} {us ws : List Value} (r1 : Vals vs us) (r2 : Vals zs ws) : Vals (gW vs zs) (gW us ws) := by
  cases r1 with
  | nil => exact .nil
  | cons a r =>
    cases r with
    | cons b r => exact .nil
    | nil =>
      cases r2 with
      | nil => exact .nil
      | cons b r2 =>
        cases r2 with
        | nil => exact .nil
        | cons c r2 =>
          cases r2 with
          | nil => exact .cons a (.cons c (.cons b .nil))
          | cons d r2 => exact .nil
theorem rel_gS {vs zs : List V} {us ws : List Value} (r1 : Vals vs us) (r2 : Vals zs ws) : Vals (gS vs zs) (gS us ws) := by
  cases r1 with
  | nil => exact .nil
  | cons a r =>
    cases r with
    | cons b r => exact .nil
    | nil =>
      cases r2 with
      | nil => exact .nil
      | cons b r2 =>
        cases r2 with
        | nil => exact .cons a (.cons b .nil)
        | cons c r2 => exact .nil
section
variable {base : Heap} {mg : Str → Option Value} {K : PySem.W.Frag} {w : World} {P : Program}
theorem ok_law {f : Addr} {fd : FuncData} (F : Fun K "law" "law" s_law f fd) (T : T6 mg) (cP : Cal P w K mg base 1 "_law_pv_sack" p_l_sack (spSack K)) (cR : CalG P w K mg base 11 "_law_pv_checked" p_l_checked spChecked) : FnG P w K mg base 12 f fd p_law (spLaw K) := by
  refine Fun.okG F sc_law (fun vs H Q E h => ?_) (fun cdv A outer s H vs Q E hg hr h => ?_)
  · obtain ⟨a, ns, rfl, _⟩ := h
    rfl
  · obtain ⟨a, ns, rfl, hS, hl, k⟩ := h
    have nd := sc_law.nd
    have r1 : Room 1 _ := hr.mono (by decide)
    refine ⟨_, pss_cons (ps_for PassesOwn.never rfl (pi_range1 (by rfl) T.rng (pa_cons (pe_callB (call_max2 rfl) (by rfl) T.max (by decide +kernel) (pa_cons pe_int (pa_cons (pe_callB (call_min2 rfl) (by rfl) T.min (by decide +kernel) (pa_cons pe_int (pa_cons (pe_callB call_len_seq (by rfl) T.len PySem.boot_len (pa_cons (pv 0) pa_nil)) pa_nil))) pa_nil))) pa_nil)) (pg_name (i := 1) nd rfl (Or.inl rfl)) (pss_one (ps_if (pt_not (pt_val (pe_cg cR hg hr (pa_cons (pe_c cP r1 (pa_cons (pv 0) (pa_cons (pv 1) pa_nil))) pa_nil)))) (pss_one (ps_ret pe_bl)) pss_nil)))
      (pss_one (ps_ret pe_bl)), ?_⟩
    refine ⟨_, rfl, a, _, rfl, .inl hS, _, _, rfl, _, _, rfl, _, rfl, ?_, ?_, ?_⟩
    · split <;> split <;> omega
    · split <;> split <;> omega
    have hb : (if (if ((iV ns).length : Int) < 3 then ((iV ns).length : Int) else 3) > 1 then (if ((iV ns).length : Int) < 3 then ((iV ns).length : Int) else 3) else 1 : Int) ≤ 3 := by split <;> split <;> omega
    generalize (if (if ((iV ns).length : Int) < 3 then ((iV ns).length : Int) else 3) > 1 then (if ((iV ns).length : Int) < 3 then ((iV ns).length : Int) else 3) else 1 : Int) = n at hb
    refine for_range (n := n.toNat) (fun i σ H' => ∃ v1, σ = [some (.ref a), v1] ∧ SqL K H' a (iV ns)) ⟨none, rfl, hS⟩ ?_ ?_
    · rintro i σ H1 hi ⟨v1, rfl, hS1⟩
      refine ⟨_, rfl, _, rfl, a, ns, i, ?_, hS1, hl, by omega, fun q H2 hq e2 h2 => ?_⟩
      · rw [Int.zero_add]
        rfl
      exact ⟨q, 0, rfl, h2, by omega, fun H3 b3 => ⟨true, rfl, if_f rfl ⟨_, rfl, sq_ex_but hS1 hq e2 b3⟩⟩⟩
    · rintro σ H1 ⟨v1, rfl, hS1⟩
      exact k H1
end
theorem whole {P : Program} {w : World} {K : PySem.W.Frag} {h : Heap} {mg : Str → Option Value} {fa : Addr} (X : K.In h) (G : h.Ns mainGlobals mg) (hfa : mg ("law" : Str) = some (.ref fa)) (c : lk.seen K = lk.due w) :
    ∃ fd : FuncData, (∀ (s : Shared) (v : Value), BindsTo s fd ⟨[v], []⟩ [("script", v)]) ∧ ∀ base : Heap, K.In base → base.Ns mainGlobals mg → FnG P w K mg base 12 fa fd p_law (spLaw K) := by
  have z_len : mg "len" = none := (He.free_ok X G (Lk.fact c 130 (f := bFree "len") rfl))
  have z_max : mg "max" = none := (He.free_ok X G (Lk.fact c 132 (f := bFree "max") rfl))
  have z_min : mg "min" = none := (He.free_ok X G (Lk.fact c 133 (f := bFree "min") rfl))
  have z_abs : mg "abs" = none := (He.free_ok X G (Lk.fact c 124 (f := bFree "abs") rfl))
  have z_int : mg "int" = none := (He.free_ok X G (Lk.fact c 128 (f := bFree "int") rfl))
  have z_range : mg "range" = none := (He.free_ok X G (Lk.fact c 134 (f := bFree "range") rfl))
  have z_list : mg "list" = none := (He.free_ok X G (Lk.fact c 131 (f := bFree "list") rfl))
  have z_enumerate : mg "enumerate" = none := (He.free_ok X G (Lk.fact c 127 (f := bFree "enumerate") rfl))
  have z_isinstance : mg "isinstance" = none := (He.free_ok X G (Lk.fact c 129 (f := bFree "isinstance") rfl))
  have z_bool : mg "bool" = none := (He.free_ok X G (Lk.fact c 126 (f := bFree "bool") rfl))
  have z_tuple : mg "tuple" = none := (He.free_ok X G (Lk.fact c 137 (f := bFree "tuple") rfl))
  have z_all : mg "all" = none := (He.free_ok X G (Lk.fact c 125 (f := bFree "all") rfl))
  have z_str : mg "str" = none := (He.free_ok X G (Lk.fact c 136 (f := bFree "str") rfl))
  have z_repr : mg "repr" = none := (He.free_ok X G (Lk.fact c 135 (f := bFree "repr") rfl))
  have z_ValueError : mg "ValueError" = none := (He.free_ok X G (Lk.fact c 123 (f := bFree "ValueError") rfl))
  have z_gcd : mg "gcd" = some (.builtin "math.gcd") := (blt_ok X G (Lk.fact c 138 (f := bBlt "gcd" "math.gcd") rfl))
  have t0 : T0 mg := ⟨z_len, z_max, z_abs, z_int⟩
  have t2 : T2 mg := ⟨z_len, z_max, z_range, z_enumerate⟩
  have t3 : T3 mg := ⟨z_isinstance, z_int, z_bool, z_list, z_tuple, z_len, z_all, z_gcd⟩
  have t5 : T5 mg := ⟨z_isinstance, z_list, z_tuple⟩
  have t7 : T7 mg := ⟨z_len, z_abs, z_enumerate, z_gcd⟩
  have t8 : T8 mg := ⟨t5, z_range, z_len, z_repr⟩
  have hND : NoDig K := nodig_ok (Lk.fact c 139 (f := bNoDig) rfl)
  obtain ⟨es, nT, D⟩ := Lk.tab c 0 rfl
  obtain ⟨t_0, d_0⟩ := dint_ok (Lk.fact c 118 (f := bInt "THINGS" "open" 2) rfl)
  obtain ⟨t_1, d_1⟩ := dint_ok (Lk.fact c 119 (f := bInt "THINGS" "pour" 3) rfl)
  obtain ⟨t_2, d_2⟩ := dint_ok (Lk.fact c 120 (f := bInt "THINGS" "scoop" 3) rfl)
  obtain ⟨t_3, d_3⟩ := dint_ok (Lk.fact c 121 (f := bInt "THINGS" "move" 4) rfl)
  obtain ⟨t_4, d_4⟩ := dint_ok (Lk.fact c 122 (f := bInt "THINGS" "unless" 3) rfl)
  have th : Th K w mg (He.ga K "THINGS") es nT t_0 t_1 t_2 t_3 t_4 := ⟨(He.glo_ok X G (Lk.fact c 117 (f := bGlo "THINGS") rfl)), D, d_0, d_1, d_2, d_3, d_4⟩
  have L_cut : Lay K mg "cut" s_cut p_cut := lay_of X G c 2 2 rfl rfl (fun _ _ _ _ _ _ us hl => match us, hl with | [_], _ => rfl)
  have L_is_integer : Lay K mg "is_integer" s_is_integer p_is_integer := lay_of X G c 15 15 rfl rfl (fun _ _ _ _ _ _ us hl => match us, hl with | [_], _ => rfl)
  have L_is_fraction : Lay K mg "is_fraction" s_is_fraction p_is_fraction := lay_of X G c 16 16 rfl rfl (fun _ _ _ _ _ _ us hl => match us, hl with | [_], _ => rfl)
  have L_content : Lay K mg "content" s_content p_content := lay_of X G c 8 8 rfl rfl (fun _ _ _ _ _ _ us hl => match us, hl with | [_], _ => rfl)
  have L_primitive : Lay K mg "primitive" s_primitive p_primitive := lay_of X G c 9 9 rfl rfl (fun _ _ _ _ _ _ us hl => match us, hl with | [_], _ => rfl)
  have L_remainder : Lay K mg "remainder" s_remainder p_remainder := lay_of X G c 11 11 rfl rfl (fun _ _ _ _ _ _ us hl => match us, hl with | [_, _], _ => rfl)
  have L_added : Lay K mg "added" s_added p_added := lay_of X G c 4 4 rfl rfl (fun _ _ _ _ _ _ us hl => match us, hl with | [_, _], _ => rfl)
  have L_multiplied : Lay K mg "multiplied" s_multiplied p_multiplied := lay_of X G c 5 5 rfl rfl (fun _ _ _ _ _ _ us hl => match us, hl with | [_, _], _ => rfl)
  have L_upright : Lay K mg "upright" s_upright p_upright := lay_of X G c 10 10 rfl rfl (fun _ _ _ _ _ _ us hl => match us, hl with | [_], _ => rfl)
  have L_common_factor : Lay K mg "common_factor" s_common_factor p_common_factor := lay_of X G c 13 13 rfl rfl (fun _ _ _ _ _ _ us hl => match us, hl with | [_, _], _ => rfl)
  have L_quotient : Lay K mg "quotient" s_quotient p_quotient := lay_of X G c 12 12 rfl rfl (fun _ _ _ _ _ _ us hl => match us, hl with | [_, _], _ => rfl)
  have L_reduced : Lay K mg "reduced" s_reduced p_reduced := lay_of X G c 18 18 rfl rfl (fun _ _ _ _ _ _ us hl => match us, hl with | [_, _], _ => rfl)
  have L_copied : Lay K mg "copied" s_copied p_copied := lay_of X G c 14 14 rfl rfl (fun _ _ _ _ _ _ us hl => match us, hl with | [_], _ => rfl)
  have L_is_amount : Lay K mg "is_amount" s_is_amount p_is_amount := lay_of X G c 34 34 rfl rfl (fun _ _ _ _ _ _ us hl => match us, hl with | [_], _ => rfl)
  have L_is_tank : Lay K mg "is_tank" s_is_tank p_is_tank := lay_of X G c 35 35 rfl rfl (fun _ _ _ _ _ _ us hl => match us, hl with | [_], _ => rfl)
  have L_check_tanks : Lay K mg "check_tanks" s_check_tanks p_check_tanks := lay_of X G c 36 36 rfl rfl (fun _ _ _ _ _ _ us hl => match us, hl with | [_], _ => rfl)
  have L_is_ascending : Lay K mg "is_ascending" s_is_ascending p_is_ascending := lay_of X G c 37 37 rfl rfl (fun _ _ _ _ _ _ us hl => match us, hl with | [_], _ => rfl)
  have L_is_step : Lay K mg "is_step" s_is_step p_is_step := lay_of X G c 38 38 rfl rfl (fun _ _ _ _ _ _ us hl => match us, hl with | [_], _ => rfl)
  have L_sign_of : Lay K mg "sign_of" s_sign_of p_sign_of := lay_of X G c 1 1 rfl rfl (fun _ _ _ _ _ _ us hl => match us, hl with | [_], _ => rfl)
  have L_order_of_fractions : Lay K mg "order_of_fractions" s_order_of_fractions p_order_of_fractions := lay_of X G c 0 0 rfl rfl (fun _ _ _ _ _ _ us hl => match us, hl with | [_, _], _ => rfl)
  have L_tanks_of : Lay K mg "tanks_of" s_tanks_of p_tanks_of := lay_of X G c 39 39 rfl rfl (fun _ _ _ _ _ _ us hl => match us, hl with | [_], _ => rfl)
  have L_check_numbers : Lay K mg "check_numbers" s_check_numbers p_check_numbers := lay_of X G c 40 40 rfl rfl (fun _ _ _ _ _ _ us hl => match us, hl with | [_, _], _ => rfl)
  have L_check_part : Lay K mg "check_part" s_check_part p_check_part := lay_of X G c 41 41 rfl rfl (fun _ _ _ _ _ _ us hl => match us, hl with | [_], _ => rfl)
  have L_check_step : Lay K mg "check_step" s_check_step p_check_step := lay_of X G c 42 42 rfl rfl (fun _ _ _ _ _ _ us hl => match us, hl with | [_, _], _ => rfl)
  have L_told_widths : Lay K mg "told_widths" s_told_widths p_told_widths := lay_of X G c 19 19 rfl rfl (fun _ _ _ _ _ _ us hl => match us, hl with | [_, _], _ => rfl)
  have L_sum_of : Lay K mg "sum_of" s_sum_of p_sum_of := lay_of X G c 21 21 rfl rfl (fun _ _ _ _ _ _ us hl => match us, hl with | [_], _ => rfl)
  have L_together : Lay K mg "together" s_together p_together := lay_of X G c 22 22 rfl rfl (fun _ _ _ _ _ _ us hl => match us, hl with | [_, _, _], _ => rfl)
  have L_opened : Lay K mg "opened" s_opened p_opened := lay_of X G c 24 24 rfl rfl (fun _ _ _ _ _ _ us hl => match us, hl with | [_, _, _], _ => rfl)
  have L_poured : Lay K mg "poured" s_poured p_poured := lay_of X G c 25 25 rfl rfl (fun _ _ _ _ _ _ us hl => match us, hl with | [_, _, _], _ => rfl)
  have L_taken : Lay K mg "taken" s_taken p_taken := lay_of X G c 26 26 rfl rfl (fun _ _ _ _ _ _ us hl => match us, hl with | [_, _, _, _], _ => rfl)
  have L_after : Lay K mg "after" s_after p_after := lay_of X G c 23 23 rfl rfl (fun _ _ _ _ _ _ us hl => match us, hl with | [_, _, _], _ => rfl)
  have L_levels : Lay K mg "levels" s_levels p_levels := lay_of X G c 29 29 rfl rfl (fun _ _ _ _ _ _ us hl => match us, hl with | [_, _, _], _ => rfl)
  have L_number_of : Lay K mg "number_of" s_number_of p_number_of := lay_of X G c 30 30 rfl rfl (fun _ _ _ _ _ _ us hl => match us, hl with | [_], _ => rfl)
  have L_told_levels : Lay K mg "told_levels" s_told_levels p_told_levels := lay_of X G c 32 32 rfl rfl (fun _ _ _ _ _ _ us hl => match us, hl with | [_, _, _], _ => rfl)
  have L_all_water : Lay K mg "all_water" s_all_water p_all_water := lay_of X G c 33 33 rfl rfl (fun _ _ _ _ _ _ us hl => match us, hl with | [_], _ => rfl)
  have L_check_width : Lay K mg "check_width" s_check_width p_check_width := lay_of X G c 17 17 rfl rfl (fun _ _ _ _ _ _ us hl => match us, hl with | [_], _ => rfl)
  have L_first_water : Lay K mg "first_water" s_first_water p_first_water := lay_of X G c 20 20 rfl rfl (fun _ _ _ _ _ _ us hl => match us, hl with | [_], _ => rfl)
  have L_negated : Lay K mg "negated" s_negated p_negated := lay_of X G c 3 3 rfl rfl (fun _ _ _ _ _ _ us hl => match us, hl with | [_], _ => rfl)
  have L_scaled_value : Lay K mg "scaled_value" s_scaled_value p_scaled_value := lay_of X G c 6 6 rfl rfl (fun _ _ _ _ _ _ us hl => match us, hl with | [_, _], _ => rfl)
  have L_sign_at_fraction : Lay K mg "sign_at_fraction" s_sign_at_fraction p_sign_at_fraction := lay_of X G c 7 7 rfl rfl (fun _ _ _ _ _ _ us hl => match us, hl with | [_, _], _ => rfl)
  have L_lead : Lay K mg "lead" s_lead p_lead := lay_of X G c 27 27 rfl rfl (fun _ _ _ _ _ _ us hl => match us, hl with | [_, _, _, _, _], _ => rfl)
  have L_ahead : Lay K mg "ahead" s_ahead p_ahead := lay_of X G c 28 28 rfl rfl (fun _ _ _ _ _ _ us hl => match us, hl with | [_, _, _], _ => rfl)
  have L_is_ended : Lay K mg "is_ended" s_is_ended p_is_ended := lay_of X G c 31 31 rfl rfl (fun _ _ _ _ _ _ us hl => match us, hl with | [_, _, _], _ => rfl)
  have L_l_coin : Lay K mg "_law_pv_coin" s_l_coin p_l_coin := lay_of X G c 44 44 rfl rfl (fun _ _ _ _ _ _ us hl => match us, hl with | [_, _], _ => rfl)
  have L_l_sack : Lay K mg "_law_pv_sack" s_l_sack p_l_sack := lay_of X G c 43 43 rfl rfl (fun _ _ _ _ _ _ us hl => match us, hl with | [_, _], _ => rfl)
  have L_l_shared : Lay K mg "_law_pv_shared" s_l_shared p_l_shared := lay_of X G c 45 45 rfl rfl (fun _ _ _ _ _ _ us hl => match us, hl with | [_, _], _ => rfl)
  have L_l_ratio : Lay K mg "_law_pv_ratio" s_l_ratio p_l_ratio := lay_of X G c 46 46 rfl rfl (fun _ _ _ _ _ _ us hl => match us, hl with | [_, _], _ => rfl)
  have L_l_add : Lay K mg "_law_pv_add" s_l_add p_l_add := lay_of X G c 47 47 rfl rfl (fun _ _ _ _ _ _ us hl => match us, hl with | [_, _], _ => rfl)
  have L_l_mul : Lay K mg "_law_pv_mul" s_l_mul p_l_mul := lay_of X G c 48 48 rfl rfl (fun _ _ _ _ _ _ us hl => match us, hl with | [_, _], _ => rfl)
  have L_l_side : Lay K mg "_law_pv_side" s_l_side p_l_side := lay_of X G c 49 49 rfl rfl (fun _ _ _ _ _ _ us hl => match us, hl with | [_, _], _ => rfl)
  have L_l_part : Lay K mg "_law_pv_part" s_l_part p_l_part := lay_of X G c 54 54 rfl rfl (fun _ _ _ _ _ _ us hl => match us, hl with | [_, _], _ => rfl)
  have L_l_two : Lay K mg "_law_pv_two" s_l_two p_l_two := lay_of X G c 56 56 rfl rfl (fun _ _ _ _ _ _ us hl => match us, hl with | [_, _], _ => rfl)
  have L_l_vessels : Lay K mg "_law_pv_vessels" s_l_vessels p_l_vessels := lay_of X G c 55 55 rfl rfl (fun _ _ _ _ _ _ us hl => match us, hl with | [_, _, _], _ => rfl)
  have L_l_copied : Lay K mg "_law_pv_copied" s_l_copied p_l_copied := lay_of X G c 50 50 rfl rfl (fun _ _ _ _ _ _ us hl => match us, hl with | [_], _ => rfl)
  have L_l_deed : Lay K mg "_law_pv_deed" s_l_deed p_l_deed := lay_of X G c 57 57 rfl rfl (fun _ _ _ _ _ _ us hl => match us, hl with | [_, _, _, _], _ => rfl)
  have L_l_wide : Lay K mg "_law_pv_wide" s_l_wide p_l_wide := lay_of X G c 60 60 rfl rfl (fun _ _ _ _ _ _ us hl => match us, hl with | [_], _ => rfl)
  have L_l_any_wide : Lay K mg "_law_pv_any_wide" s_l_any_wide p_l_any_wide := lay_of X G c 73 73 rfl rfl (fun _ _ _ _ _ _ us hl => match us, hl with | [_], _ => rfl)
  have L_l_long : Lay K mg "_law_pv_long" s_l_long p_l_long := lay_of X G c 59 59 rfl rfl (fun _ _ _ _ _ _ us hl => match us, hl with | [_], _ => rfl)
  have L_l_capped : Lay K mg "_law_pv_capped" s_l_capped p_l_capped := lay_of X G c 71 71 rfl rfl (fun _ _ _ _ _ _ us hl => match us, hl with | [_], _ => rfl)
  have L_l_shape : Lay K mg "_law_pv_shape" s_l_shape p_l_shape := lay_of X G c 58 58 rfl rfl (fun _ _ _ _ _ _ us hl => match us, hl with | [_], _ => rfl)
  have L_l_any_shape : Lay K mg "_law_pv_any_shape" s_l_any_shape p_l_any_shape := lay_of X G c 72 72 rfl rfl (fun _ _ _ _ _ _ us hl => match us, hl with | [_], _ => rfl)
  have L_l_broads : Lay K mg "_law_pv_broads" s_l_broads p_l_broads := lay_of X G c 64 64 rfl rfl (fun _ _ _ _ _ _ us hl => match us, hl with | [_, _], _ => rfl)
  have L_l_bench : Lay K mg "_law_pv_bench" s_l_bench p_l_bench := lay_of X G c 65 65 rfl rfl (fun _ _ _ _ _ _ us hl => match us, hl with | [_, _, _], _ => rfl)
  have L_l_does : Lay K mg "_law_pv_does" s_l_does p_l_does := lay_of X G c 66 66 rfl rfl (fun _ _ _ _ _ _ us hl => match us, hl with | [_, _, _], _ => rfl)
  have L_l_heights : Lay K mg "_law_pv_heights" s_l_heights p_l_heights := lay_of X G c 61 61 rfl rfl (fun _ _ _ _ _ _ us hl => match us, hl with | [_, _], _ => rfl)
  have L_l_over : Lay K mg "_law_pv_over" s_l_over p_l_over := lay_of X G c 63 63 rfl rfl (fun _ _ _ _ _ _ us hl => match us, hl with | [_, _, _], _ => rfl)
  have L_l_after : Lay K mg "_law_pv_after" s_l_after p_l_after := lay_of X G c 62 62 rfl rfl (fun _ _ _ _ _ _ us hl => match us, hl with | [_, _, _], _ => rfl)
  have L_l_begun : Lay K mg "_law_pv_begun" s_l_begun p_l_begun := lay_of X G c 68 68 rfl rfl (fun _ _ _ _ _ _ us hl => match us, hl with | [_], _ => rfl)
  have L_l_gone : Lay K mg "_law_pv_gone" s_l_gone p_l_gone := lay_of X G c 69 69 rfl rfl (fun _ _ _ _ _ _ us hl => match us, hl with | [_, _, _], _ => rfl)
  have L_l_lists : Lay K mg "_law_pv_lists" s_l_lists p_l_lists := lay_of X G c 51 51 rfl rfl (fun _ _ _ _ _ _ us hl => match us, hl with | [_], _ => rfl)
  have L_l_marked : Lay K mg "_law_pv_marked" s_l_marked p_l_marked := lay_of X G c 52 52 rfl rfl (fun _ _ _ _ _ _ us hl => match us, hl with | [_], _ => rfl)
  have L_l_right : Lay K mg "_law_pv_right" s_l_right p_l_right := lay_of X G c 53 53 rfl rfl (fun _ _ _ _ _ _ us hl => match us, hl with | [_, _], _ => rfl)
  have L_l_total : Lay K mg "_law_pv_total" s_l_total p_l_total := lay_of X G c 70 70 rfl rfl (fun _ _ _ _ _ _ us hl => match us, hl with | [_], _ => rfl)
  have L_l_bench_right : Lay K mg "_law_pv_bench_right" s_l_bench_right p_l_bench_right := lay_of X G c 67 67 rfl rfl (fun _ _ _ _ _ _ us hl => match us, hl with | [_, _, _, _], _ => rfl)
  have L_l_refusal : Lay K mg "_law_pv_refusal" s_l_refusal p_l_refusal := lay_of X G c 74 74 rfl rfl (fun _ _ _ _ _ _ us hl => match us, hl with | [_, _], _ => rfl)
  have L_l_no_undo : Lay K mg "_law_pv_no_undo" s_l_no_undo p_l_no_undo := lay_of X G c 75 75 rfl rfl (fun _ _ _ _ _ _ us hl => match us, hl with | [_], _ => rfl)
  have L_l_deep_right : Lay K mg "_law_pv_deep_right" s_l_deep_right p_l_deep_right := lay_of X G c 76 76 rfl rfl (fun _ _ _ _ _ _ us hl => match us, hl with | [_, _, _, _], _ => rfl)
  have L_l_checked : Lay K mg "_law_pv_checked" s_l_checked p_l_checked := lay_of X G c 77 77 rfl rfl (fun _ _ _ _ _ _ us hl => match us, hl with | [_], _ => rfl)
  obtain ⟨fd_Be_init, F_Be_init, b_Be_init⟩ : LayM K "__init__" "Bench.__init__" s_Be_init _ p_Be_init := laym_of c 83 rfl (fun _ _ _ _ _ _ us hl => match us, hl with | [_, _, _], _ => rfl)
  obtain ⟨fd_Be_call, F_Be_call, b_Be_call⟩ : LayM K "__call__" "Bench.__call__" s_Be_call _ p_Be_call := laym_of c 84 rfl (fun _ _ _ _ _ _ us hl => match us, hl with | [_, _], _ => rfl)
  obtain ⟨fd_Be_levels, F_Be_levels, b_Be_levels⟩ : LayM K "levels" "Bench.levels" s_Be_levels _ p_Be_levels := laym_of c 85 rfl (fun _ _ _ _ _ _ us hl => match us, hl with | [_], _ => rfl)
  obtain ⟨fd_Be_water, F_Be_water, b_Be_water⟩ : LayM K "water" "Bench.water" s_Be_water _ p_Be_water := laym_of c 86 rfl (fun _ _ _ _ _ _ us hl => match us, hl with | [_], _ => rfl)
  obtain ⟨fd_Be_ended, F_Be_ended, b_Be_ended⟩ : LayM K "ended" "Bench.ended" s_Be_ended _ p_Be_ended := laym_of c 87 rfl (fun _ _ _ _ _ _ us hl => match us, hl with | [_], _ => rfl)
  obtain ⟨fd_Be_script, F_Be_script, b_Be_script⟩ : LayM K "script" "Bench.script" s_Be_script _ p_Be_script := laym_of c 89 rfl (fun _ _ _ _ _ _ us hl => match us, hl with | [_], _ => rfl)
  obtain ⟨fd_Be_len, F_Be_len, b_Be_len⟩ : LayM K "__len__" "Bench.__len__" s_Be_len _ p_Be_len := laym_of c 90 rfl (fun _ _ _ _ _ _ us hl => match us, hl with | [_], _ => rfl)
  obtain ⟨fd_Be_undo, F_Be_undo, b_Be_undo⟩ : LayM K "undo" "Bench.undo" s_Be_undo _ p_Be_undo := laym_of c 88 rfl (fun _ _ _ _ _ _ us hl => match us, hl with | [_], _ => rfl)
  obtain ⟨fd_Be_eq, F_Be_eq, b_Be_eq⟩ : LayM K "__eq__" "Bench.__eq__" s_Be_eq _ p_Be_eq := laym_of c 91 rfl (fun _ _ _ _ _ _ us hl => match us, hl with | [_, _], _ => rfl)
  obtain ⟨fd_TE_init, F_TE_init, b_TE_init⟩ : LayM K "__init__" "TankError.__init__" s_TE_init _ p_TE_init := laym_of c 79 rfl (fun _ _ _ _ _ _ us hl => match us, hl with | [_, _], _ => rfl)
  obtain ⟨fd_Sc_init, F_Sc_init, b_Sc_init⟩ : LayM K "__init__" "Script.__init__" s_Sc_init _ p_Sc_init := laym_of c 80 rfl (fun _ _ _ _ _ _ us hl => match us, hl with | [_, _, _], _ => rfl)
  obtain ⟨fd_Sc_tanks, F_Sc_tanks, b_Sc_tanks⟩ : LayM K "tanks" "Script.tanks" s_Sc_tanks _ p_Sc_tanks := laym_of c 81 rfl (fun _ _ _ _ _ _ us hl => match us, hl with | [_], _ => rfl)
  obtain ⟨fd_Sc_steps, F_Sc_steps, b_Sc_steps⟩ : LayM K "steps" "Script.steps" s_Sc_steps _ p_Sc_steps := laym_of c 82 rfl (fun _ _ _ _ _ _ us hl => match us, hl with | [_], _ => rfl)
  have cb : BeC K (He.ga K "Bench") _ _ _ _ _ _ := ⟨(He.cls_ok (Lk.fact c 98 (f := bCls "Bench") rfl)), (He.noat_ok (Lk.fact c 113 (f := bNo "Bench" "_tanks") rfl)), (He.noat_ok (Lk.fact c 115 (f := bNo "Bench" "_width") rfl)), (He.noat_ok (Lk.fact c 116 (f := bNo "Bench" "_widths") rfl)), (He.noat_ok (Lk.fact c 112 (f := bNo "Bench" "_steps") rfl)), (He.noat_ok (Lk.fact c 114 (f := bNo "Bench" "_waters") rfl)), (He.noat_ok (Lk.fact c 111 (f := bNo "Bench" "_ended") rfl)), (He.mkr_ok (Lk.fact c 99 (f := bMk "Bench") rfl)), (cal_ok (Lk.fact c 102 (f := bCal "Bench") rfl)), (He.meth_ok (Lk.fact c 103 (f := bMeth "Bench" "levels") rfl)), (He.meth_ok (Lk.fact c 104 (f := bMeth "Bench" "water") rfl)), (prop_ok (Lk.fact c 105 (f := bProp "Bench" "ended") rfl))⟩
  have cs : ScC K (He.ga K "Script") _ _ _ _ _ := ⟨(He.cls_ok (Lk.fact c 90 (f := bCls "Script") rfl)), (He.noat_ok (Lk.fact c 96 (f := bNo "Script" "_tanks") rfl)), (He.noat_ok (Lk.fact c 95 (f := bNo "Script" "_steps") rfl)), (He.mkr_ok (Lk.fact c 91 (f := bMk "Script") rfl)), (prop_ok (Lk.fact c 93 (f := bProp "Script" "tanks") rfl)), (prop_ok (Lk.fact c 94 (f := bProp "Script" "steps") rfl))⟩
  have hgB : mg "Bench" = some (.ref (He.ga K "Bench")) := (He.glo_ok X G (Lk.fact c 97 (f := bGlo "Bench") rfl))
  have hgS : mg "Script" = some (.ref (He.ga K "Script")) := (He.glo_ok X G (Lk.fact c 89 (f := bGlo "Script") rfl))
  have kI : KBn K fd_Be_init p_Be_init 1 ["width", "tanks"] (fun us ws => gW us ws) (fun us ws => gW us ws) := by
    obtain ⟨ow, oe, kw, dc, pn, am, cdv, cu, sl, rfl, lk, hcd⟩ := F_Be_init.ex
    exact ⟨fun s us ws X h1 h2 => match us, ws, h1, h2 with | [_], [_, _], _, _ => .of_eq rfl, fun r1 r2 => rel_gW r1 r2⟩
  have kC : KBn K fd_Be_call p_Be_call 1 ["step"] (fun us ws => gS us ws) (fun us ws => gS us ws) := by
    obtain ⟨ow, oe, kw, dc, pn, am, cdv, cu, sl, rfl, lk, hcd⟩ := F_Be_call.ex
    exact ⟨fun s us ws X h1 h2 => match us, ws, h1, h2 with | [_], [_], _, _ => .of_eq rfl, fun r1 r2 => rel_gS r1 r2⟩
  obtain ⟨fdw, Fw⟩ := Lk.df c 78 rfl
  have efa := hfa.symm.trans (He.glo_ok X G (Lk.fact c 78 (f := bGlo "law") rfl))
  cases efa
  have main : ∀ base : Heap, K.In base → base.Ns mainGlobals mg → FnG P w K mg base 12 (He.ga K "law") fdw p_law (spLaw K) := fun base _ _ => by
    have cut : Cal P w K mg base 1 "cut" p_cut (spTrim K) := L_cut.cal fun f fd F => ok_cut F z_len
    have isint : Cal P w K mg base 1 "is_integer" p_is_integer spInt := L_is_integer.cal fun f fd F => ok_is_integer F t3
    have isfr : Cal P w K mg base 2 "is_fraction" p_is_fraction spIsFr := L_is_fraction.cal fun f fd F => ok_is_fraction F t3 isint
    have content : Cal P w K mg base 1 "content" p_content (spCont K) := L_content.cal fun f fd F => ok_content F z_gcd
    have prim_ : Cal P w K mg base 2 "primitive" p_primitive spPrim := L_primitive.cal fun f fd F => ok_primitive F content
    have rem : Cal P w K mg base 3 "remainder" p_remainder spRemW := L_remainder.cal fun f fd F => ok_remainder F t7 cut prim_
    have addW : Cal P w K mg base 2 "added" p_added (spTwoW (fun _ _ => True) fun xs ys => trm (padd xs ys)) := L_added.cal fun f fd F => ok_addedW F t2 cut
    have mulC : Cal P w K mg base 1 "multiplied" p_multiplied spMc := L_multiplied.cal fun f fd F => (ok_multipliedW F t2).imp mc_of
    have addC : Cal P w K mg base 2 "added" p_added spAc := L_added.cal fun f fd F => (ok_addedW F t2 cut).imp ac_of
    have upr : Cal P w K mg base 3 "upright" p_upright spUp1 := L_upright.cal fun f fd F => ok_upright1 F prim_
    have comm : Cal P w K mg base 4 "common_factor" p_common_factor spCf1 := L_common_factor.cal fun f fd F => ok_common1 F rem upr
    have quo : Cal P w K mg base 1 "quotient" p_quotient spQ1 := L_quotient.cal fun f fd F => ok_quotient1 F t2 z_list
    have red : Cal P w K mg base 5 "reduced" p_reduced spRed1 := L_reduced.cal fun f fd F => ok_reduced1 F z_gcd comm quo content
    have cp0 : Cal P w K mg base 1 "copied" p_copied (spCp 0) := L_copied.cal fun f fd F => ok_copied0 F t5
    have cp1 : Cal P w K mg base 2 "copied" p_copied (spCp 1) := L_copied.cal fun f fd F => ok_copiedS F t5 cp0
    have cp2 : Cal P w K mg base 3 "copied" p_copied (spCp 2) := L_copied.cal fun f fd F => ok_copiedS F t5 cp1
    have amt : Cal P w K mg base 2 "is_amount" p_is_amount spAmt := L_is_amount.cal fun f fd F => ok_is_amount F isint
    have tank : Cal P w K mg base 3 "is_tank" p_is_tank spTank := L_is_tank.cal fun f fd F => ok_is_tank F t3 isint amt
    have chkT : Cal P w K mg base 4 "check_tanks" p_check_tanks spChkT := L_check_tanks.cal fun f fd F => ok_check_tanks F z_len tank
    have asc : Cal P w K mg base 2 "is_ascending" p_is_ascending spAsc := L_is_ascending.cal fun f fd F => ok_is_ascending F t3 z_range isint
    have isstep : Cal P w K mg base 3 "is_step" p_is_step spStep := L_is_step.cal fun f fd F => ok_is_step F t3 z_str th asc amt
    have sgn_ : Cal P w K mg base 1 "sign_of" p_sign_of spSgn := L_sign_of.cal fun f fd F => ok_sign_of F
    have ord_ : Cal P w K mg base 2 "order_of_fractions" p_order_of_fractions spOrd := L_order_of_fractions.cal fun f fd F => ok_order F sgn_
    have tof : ∀ n, Cal P w K mg base 1 "tanks_of" p_tanks_of (spTof n) := fun n => L_tanks_of.cal fun f fd F => ok_tanks_of F
    have nums : Cal P w K mg base 3 "check_numbers" p_check_numbers spNums := L_check_numbers.cal fun f fd F => ok_check_numbers F amt
    have chkP : Cal P w K mg base 3 "check_part" p_check_part spPart := L_check_part.cal fun f fd F => ok_check_part F isfr ord_
    have chkS : Cal P w K mg base 4 "check_step" p_check_step spChkS := L_check_step.cal fun f fd F => ok_check_step F isstep tof nums chkP
    have told : Cal P w K mg base 1 "told_widths" p_told_widths spTold := L_told_widths.cal fun f fd F => ok_told_widths F
    have sum : Cal P w K mg base 3 "sum_of" p_sum_of spSum := L_sum_of.cal fun f fd F => ok_sum_of F addW
    have tog : Cal P w K mg base 4 "together" p_together spTog := L_together.cal fun f fd F => ok_together F sum
    have opened : Cal P w K mg base 5 "opened" p_opened spOpen := L_opened.cal fun f fd F => ok_opened F t2 tog mulC
    have poured : Cal P w K mg base 3 "poured" p_poured spPour := L_poured.cal fun f fd F => ok_poured F t2 cut mulC addC
    have taken : Cal P w K mg base 3 "taken" p_taken spTake := L_taken.cal fun f fd F => ok_taken F cut mulC addC
    have after_ : Cal P w K mg base 6 "after" p_after spAfter := L_after.cal fun f fd F => ok_after F opened poured taken
    have levels_ : Cal P w K mg base 6 "levels" p_levels spLev := L_levels.cal fun f fd F => ok_levels F t2 mulC red
    have numof : Cal P w K mg base 1 "number_of" p_number_of spNum := L_number_of.cal fun f fd F => ok_number_of F
    have tl : Cal P w K mg base 7 "told_levels" p_told_levels spTL := L_told_levels.cal fun f fd F => ok_told_levels F numof levels_
    have chkW : Cal P w K mg base 3 "check_width" p_check_width spCw := L_check_width.cal fun f fd F => ok_check_width F isfr
    have firstP : Cal P w K mg base 2 "first_water" p_first_water spFirstP := L_first_water.cal fun f fd F => ok_first_waterP F cut
    have neg1 : Cal P w K mg base 1 "negated" p_negated spNeg1 := L_negated.cal fun f fd F => ok_neg1 F
    have sc1 : Cal P w K mg base 1 "scaled_value" p_scaled_value spSc1 := L_scaled_value.cal fun f fd F => ok_sc1 F t2
    have sg1 : Cal P w K mg base 2 "sign_at_fraction" p_sign_at_fraction spSg1 := L_sign_at_fraction.cal fun f fd F => ok_sg1 F sgn_ sc1
    have lead_ : Cal P w K mg base 6 "lead" p_lead spLead := L_lead.cal fun f fd F => ok_lead F addC mulC neg1 red
    have ahead_ : Cal P w K mg base 7 "ahead" p_ahead spAhead := L_ahead.cal fun f fd F => ok_ahead F lead_
    have ended : Cal P w K mg base 8 "is_ended" p_is_ended spEnd := L_is_ended.cal fun f fd F => ok_is_ended F sg1 ahead_
    have cp3 : Cal P w K mg base 4 "copied" p_copied (spCp 3) := L_copied.cal fun f fd F => ok_copiedS F t5 cp2
    have first : Cal P w K mg base 2 "first_water" p_first_water spFirst := L_first_water.cal fun f fd F => ok_first_water F cut
    have ct0 : Cal P w K mg base 1 "copied" p_copied (spCt 0) := L_copied.cal fun f fd F => ok_ct0 F t5
    have ct1 : Cal P w K mg base 2 "copied" p_copied (spCt 1) := L_copied.cal fun f fd F => ok_ctS F t5 ct0
    have ct2 : Cal P w K mg base 3 "copied" p_copied (spCt 2) := L_copied.cal fun f fd F => ok_ctS F t5 ct1
    have ct3 : Cal P w K mg base 4 "copied" p_copied (spCt 3) := L_copied.cal fun f fd F => ok_ctS F t5 ct2
    have allw : Cal P w K mg base 6 "all_water" p_all_water spAll := L_all_water.cal fun f fd F => ok_all F numof red sum
    have bi := ok_Be_init (P := P) (w := w) (mg := mg) (base := base) F_Be_init cb chkT chkW cp2 told firstP
    have bc := ok_Be_call (P := P) (w := w) (mg := mg) (base := base) F_Be_call z_len cb chkS ended cp2 after_
    have bl := ok_Be_levels (P := P) (w := w) (mg := mg) (base := base) F_Be_levels cb tl
    have bw := ok_Be_water (P := P) (w := w) (mg := mg) (base := base) F_Be_water cb allw
    have be := ok_Be_ended (P := P) (w := w) (mg := mg) (base := base) F_Be_ended cb
    have bn := ok_Be_len (P := P) (w := w) (mg := mg) (base := base) F_Be_len z_len cb
    have si := ok_Sc_init (P := P) (w := w) (mg := mg) (base := base) F_Sc_init z_len cs cp2 cp3 chkT chkS
    have st := ok_Sc_tanksT (P := P) (w := w) (mg := mg) (base := base) F_Sc_tanks cs ct2
    have ss := ok_Sc_stepsT (P := P) (w := w) (mg := mg) (base := base) F_Sc_steps cs ct3
    have bs := ok_Be_script (P := P) (w := w) (mg := mg) (base := base) F_Be_script cb hgS cs si b_Sc_init
    obtain ⟨fSh, fdSh, FSh, msh, kSh, bSh⟩ := id L_l_shared
    obtain ⟨fRa, fdRa, FRa, mra, kRa, bRa⟩ := id L_l_ratio
    have l_coin : Cal P w K mg base 1 "_law_pv_coin" p_l_coin spCoin := L_l_coin.cal fun f fd F => ok_coin F t0
    have l_sack : Cal P w K mg base 1 "_law_pv_sack" p_l_sack (spSack K) := L_l_sack.cal fun f fd F => ok_sack F t0
    have l_shared : Cal P w K mg base 1 "_law_pv_shared" p_l_shared spShared := L_l_shared.cal fun f fd F => ok_shared F (⟨t0, z_range, z_list, msh, mra⟩ : T1 mg _ _)
    have l_ratio : Cal P w K mg base 2 "_law_pv_ratio" p_l_ratio spRatio := L_l_ratio.cal fun f fd F => ok_ratio F t0 l_shared
    have l_add : Cal P w K mg base 3 "_law_pv_add" p_l_add spA := L_l_add.cal fun f fd F => ok_add F l_ratio
    have l_mul : Cal P w K mg base 3 "_law_pv_mul" p_l_mul spM := L_l_mul.cal fun f fd F => ok_mul F l_ratio
    have l_side : Cal P w K mg base 1 "_law_pv_side" p_l_side spSide := L_l_side.cal fun f fd F => ok_side F t0
    have l_part : Cal P w K mg base 3 "_law_pv_part" p_l_part spPt := L_l_part.cal fun f fd F => ok_part F l_coin l_ratio
    have l_two : Cal P w K mg base 2 "_law_pv_two" p_l_two spTwo2 := L_l_two.cal fun f fd F => ok_two F t0 l_coin
    have l_vessels : Cal P w K mg base 2 "_law_pv_vessels" p_l_vessels spVats := L_l_vessels.cal fun f fd F => ok_vessels F z_range z_min l_coin
    have lc0 : Cal P w K mg base 1 "_law_pv_copied" p_l_copied (spCp 0) := L_l_copied.cal fun f fd F => ok_lcopied0 F t5
    have lc1 : Cal P w K mg base 2 "_law_pv_copied" p_l_copied (spCp 1) := L_l_copied.cal fun f fd F => ok_lcopiedS F t5 lc0
    have lc2 : Cal P w K mg base 3 "_law_pv_copied" p_l_copied (spCp 2) := L_l_copied.cal fun f fd F => ok_lcopiedS F t5 lc1
    have l_deed : Cal P w K mg base 4 "_law_pv_deed" p_l_deed spDeed := L_l_deed.cal fun f fd F => ok_deed F z_range z_len l_coin l_part l_two
    have l_wide : Cal P w K mg base 3 "_law_pv_wide" p_l_wide (spWid 90000 4) := L_l_wide.cal fun f fd F => ok_wide F l_coin l_ratio
    have l_any_wide : Cal P w K mg base 4 "_law_pv_any_wide" p_l_any_wide (spWid 80000 6) := L_l_any_wide.cal fun f fd F => ok_any_wide F l_coin l_ratio l_wide
    have l_long : Cal P w K mg base 5 "_law_pv_long" p_l_long spLong := L_l_long.cal fun f fd F => ok_long F z_range l_coin l_vessels l_deed
    have l_capped : Cal P w K mg base 6 "_law_pv_capped" p_l_capped spLong := L_l_capped.cal fun f fd F => ok_capped F z_len l_long
    have l_shape : Cal P w K mg base 5 "_law_pv_shape" p_l_shape spShape := L_l_shape.cal fun f fd F => ok_shape F z_range z_int l_coin l_vessels l_deed
    have l_any_shape : Cal P w K mg base 7 "_law_pv_any_shape" p_l_any_shape spAnyS := L_l_any_shape.cal fun f fd F => ok_any_shape F l_coin l_capped l_shape
    have l_broads : Cal P w K mg base 1 "_law_pv_broads" p_l_broads spBroads := L_l_broads.cal fun f fd F => ok_broads F 
    have l_bench : Cal P w K mg base 7 "_law_pv_bench" p_l_bench (spBench (He.ga K "Bench")) := L_l_bench.cal fun f fd F => ok_bench F cb bi b_Be_init kI hgB l_coin lc2
    have l_does : Cal P w K mg base 10 "_law_pv_does" p_l_does (spDoes (He.ga K "Bench")) := L_l_does.cal fun f fd F => ok_does F z_len z_isinstance z_list cb bc b_Be_call kC l_coin lc2
    have lt0 : Cal P w K mg base 1 "_law_pv_copied" p_l_copied (spCt 0) := L_l_copied.cal fun f fd F => ok_lct0 F t5
    have lt1 : Cal P w K mg base 2 "_law_pv_copied" p_l_copied (spCt 1) := L_l_copied.cal fun f fd F => ok_lctS F t5 lt0
    have lt2 : Cal P w K mg base 3 "_law_pv_copied" p_l_copied (spCt 2) := L_l_copied.cal fun f fd F => ok_lctS F t5 lt1
    have lt3 : Cal P w K mg base 4 "_law_pv_copied" p_l_copied (spCt 3) := L_l_copied.cal fun f fd F => ok_lctS F t5 lt2
    have lt4 : Cal P w K mg base 5 "_law_pv_copied" p_l_copied (spCt 4) := L_l_copied.cal fun f fd F => ok_lctS F t5 lt3
    have l_hei : Cal P w K mg base 3 "_law_pv_heights" p_l_heights spHei := L_l_heights.cal fun f fd F => ok_heights F z_range z_len l_ratio
    have l_over : Cal P w K mg base 4 "_law_pv_over" p_l_over spOver := L_l_over.cal fun f fd F => ok_over F l_hei l_side
    have l_after : Cal P w K mg base 4 "_law_pv_after" p_l_after spAftL := L_l_after.cal fun f fd F => ok_lafter F z_list l_add l_mul
    have l_begun : Cal P w K mg base 1 "_law_pv_begun" p_l_begun spBeg := L_l_begun.cal fun f fd F => ok_begun F
    have l_gone : Cal P w K mg base 5 "_law_pv_gone" p_l_gone spGone := L_l_gone.cal fun f fd F => ok_gone F z_len l_over l_after
    have l_tot : Cal P w K mg base 4 "_law_pv_total" p_l_total spTotal := L_l_total.cal fun f fd F => ok_total F l_add
    have ls0 : Cal P w K mg base 1 "_law_pv_lists" p_l_lists (spLs 0) := L_l_lists.cal fun f fd F => ok_ls0 F t8
    have ls1 : Cal P w K mg base 2 "_law_pv_lists" p_l_lists (spLs 1) := L_l_lists.cal fun f fd F => ok_lsS F t8 ls0
    have ls2 : Cal P w K mg base 3 "_law_pv_lists" p_l_lists (spLs 2) := L_l_lists.cal fun f fd F => ok_lsS F t8 ls1
    have ls3 : Cal P w K mg base 4 "_law_pv_lists" p_l_lists (spLs 3) := L_l_lists.cal fun f fd F => ok_lsS F t8 ls2
    have ls4 : Cal P w K mg base 5 "_law_pv_lists" p_l_lists (spLs 4) := L_l_lists.cal fun f fd F => ok_lsS F t8 ls3
    have l_mk : CalG P w K mg base 6 "_law_pv_marked" p_l_marked (spMkW 4) := L_l_marked.calG fun f fd F => ok_markedW F hND t8 ls4
    have l_rt : CalG P w K mg base 7 "_law_pv_right" p_l_right (spRtW 4) := L_l_right.calG fun f fd F => ok_rightW F hND t8 lt4 (by decide) l_mk
    have l_br : CalG P w K mg base 9 "_law_pv_bench_right" p_l_bench_right (spBR (He.ga K "Bench")) := L_l_bench_right.calG fun f fd F => ok_bench_right F t8 cb cs (He.meth_ok (Lk.fact c 107 (f := bMeth "Bench" "script") rfl)) (He.meth_ok (Lk.fact c 108 (f := bMeth "Bench" "__len__") rfl)) bl b_Be_levels bw b_Be_water be b_Be_ended bn b_Be_len bs b_Be_script st b_Sc_tanks ss b_Sc_steps l_hei l_tot l_rt
    have ec_TankError : EC K (He.ga K "TankError") (eI K) := err_ok (Lk.fact c 81 (f := bErr "TankError") rfl)
    have gl_TankError : mg "TankError" = some (.ref (He.ga K "TankError")) := (He.glo_ok X G (Lk.fact c 80 (f := bGlo "TankError") rfl))
    have ec_InvalidStep : EC K (He.ga K "InvalidStep") (eI K) := err_ok (Lk.fact c 83 (f := bErr "InvalidStep") rfl)
    have gl_InvalidStep : mg "InvalidStep" = some (.ref (He.ga K "InvalidStep")) := (He.glo_ok X G (Lk.fact c 82 (f := bGlo "InvalidStep") rfl))
    have ec_NothingToUndo : EC K (He.ga K "NothingToUndo") (eI K) := err_ok (Lk.fact c 87 (f := bErr "NothingToUndo") rfl)
    have gl_NothingToUndo : mg "NothingToUndo" = some (.ref (He.ga K "NothingToUndo")) := (He.glo_ok X G (Lk.fact c 86 (f := bGlo "NothingToUndo") rfl))
    have eg : EG K (eI K) := eg_ok (Lk.fact c 79 (f := bEG) rfl)
    have ti := ok_TE_init (P := P) (w := w) (mg := mg) (base := base) F_TE_init
    have br := ok_Be_callR (P := P) (w := w) (mg := mg) (base := base) F_Be_call z_len cb chkS cp2 ec_InvalidStep eg gl_InvalidStep ti b_TE_init
    have ur := ok_Be_undoR (P := P) (w := w) (mg := mg) (base := base) F_Be_undo cb ec_NothingToUndo eg gl_NothingToUndo ti b_TE_init
    have bu := ok_Be_undo (P := P) (w := w) (mg := mg) (base := base) F_Be_undo cb
    have bq := ok_Be_eq (P := P) (w := w) (mg := mg) (base := base) F_Be_eq cb z_isinstance hgB (fun e => ty_ok (Lk.fact c 79 (f := bEG) rfl) (Lk.fact c 110 (f := bTy "Bench") rfl) (He.cls_ok (Lk.fact c 98 (f := bCls "Bench") rfl)) e)
    have l_rf : Cal P w K mg base 6 "_law_pv_refusal" p_l_refusal (spRef (He.ga K "Bench")) := L_l_refusal.cal fun f fd F => ok_refusal F cb br b_Be_call ec_InvalidStep ec_TankError eg gl_TankError (sub_ok (Lk.fact c 85 (f := bSub "InvalidStep" "TankError" true) rfl)) z_isinstance z_ValueError (kitv_ok (Lk.fact c 84 (f := bKitV "InvalidStep") rfl))
    have l_nu : Cal P w K mg base 4 "_law_pv_no_undo" p_l_no_undo (spNoU (He.ga K "Bench")) := L_l_no_undo.cal fun f fd F => ok_no_undo F cb (He.meth_ok (Lk.fact c 106 (f := bMeth "Bench" "undo") rfl)) ur b_Be_undo ec_NothingToUndo gl_TankError gl_NothingToUndo (sub_ok (Lk.fact c 88 (f := bSub "NothingToUndo" "NothingToUndo" true) rfl))
    have l_dr : CalG P w K mg base 10 "_law_pv_deep_right" p_l_deep_right spDeep := L_l_deep_right.calG fun f fd F => ok_deep_right F t8 z_min hgB cb (He.meth_ok (Lk.fact c 106 (f := bMeth "Bench" "undo") rfl)) bi b_Be_init bc b_Be_call bl b_Be_levels bu b_Be_undo l_broads l_begun l_gone l_deed lc2 l_hei l_nu l_br
    have l_ck : CalG P w K mg base 11 "_law_pv_checked" p_l_checked spChecked := L_l_checked.calG fun f fd F => ok_checked F t8 hgB cb (He.meth_ok (Lk.fact c 106 (f := bMeth "Bench" "undo") rfl)) (He.meth_ok (Lk.fact c 108 (f := bMeth "Bench" "__len__") rfl)) (He.meth_ok (Lk.fact c 109 (f := bMeth "Bench" "__eq__") rfl)) bi b_Be_init bc b_Be_call be b_Be_ended bu b_Be_undo bn b_Be_len bq b_Be_eq l_coin l_any_shape l_any_wide l_broads l_bench l_does l_begun l_gone lc2 l_rf l_nu l_br l_dr
    exact ok_law Fw ⟨z_range, z_len, z_max, z_min⟩ l_sack l_ck
  obtain ⟨ow, oe, kw, dc, pn, am, cdv, cu, sl, rfl, lk, hcd⟩ := Fw.ex
  exact ⟨_, fun s v => .of_eq rfl, main⟩
end V2


open PySem PySem.W PySem.Calls PyProof.Rows in
set_option maxRecDepth 99000 in
set_option maxHeartbeats 0 in
theorem PySem.Challenge.cw_valvelevels_k48_steps_taken_back_holds : PySem.Challenge.rw_valvelevels_k48_steps_taken_back.Holds := by
  w_on
  o_law
  refine HandSHeadRun.head_imp (r := PySem.W.OpenLaw.row PySem.Challenge.rw_valvelevels_k48_steps_taken_back) (q := V2.vwK) (H := V2.lk.hook 900) (ob := fun s => V2.lk.off 900 (HandSHeadRun.getT s)) (M := 12000) (loose := V2.nms) (d := HandSHeadRun.topDef (PySem.W.OpenLaw.row PySem.Challenge.rw_valvelevels_k48_steps_taken_back).prog 100) (kwd := [])
    (fun s => V2.Lk.off_eq (HandSHeadRun.getT_eq s)) V2.runK (by kernel_rfl) (by kernel_rfl) (by kernel_rfl) (by rfl) (by first | assumption | decide +kernel) (by decide +kernel) ⟨rfl, rfl, rfl, rfl, rfl, by decide +kernel⟩ ?hw ?hc
  case hw => w_witness2
  case hc =>
    refine V2.walk_GE (l := PySem.Challenge.rw_valvelevels_k48_steps_taken_back) (n := 63) (k := 12) (x := "script") rfl (by decide) (by kernel_rfl) ⟨rfl, by decide, by decide⟩ ?F
    intro w mg fa h Y G hmg0
    obtain ⟨K, KX, c⟩ := Y
    have hmg : mg ("law" : PySem.Str) = some (.ref fa) := by
      have e : (HandSHeadRun.topDef (PySem.W.OpenLaw.row PySem.Challenge.rw_valvelevels_k48_steps_taken_back).prog 100).name = ("law" : PySem.Str) := by kernel_rfl
      rw [← e]
      exact hmg0
    obtain ⟨fd, hb, hF⟩ := V2.whole (P := (PySem.Challenge.rw_valvelevels_k48_steps_taken_back).prog) (w := w) KX G hmg c
    exact ⟨K, fd, V2.spLaw K, KX, hb, fun H a ns hl _ hS => ⟨a, ns, rfl, hS, hl, fun _ => rfl⟩, hF⟩


