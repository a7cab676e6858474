import PyProof.Rows.All
import Wide.All
import OpenK.AllK
import Wide.FinOn
import HandS.ForMost
import HandS.ForExc
import HandS.Wide
import HandS.Gcd
import HandS.IsInst
import HandS.Defaults
import HandS.Flow
import HandS.EndBits
import HandS.Property
import HandS.Walk
import HandS.Style
import PySem.Challenge.RW_valvelevels_k15_runs_at_told_widths
import HandS.Evl
import HandS.Steps
import PyProof.ReprRoads
import HandS.Head0
import HandS.Head1
import HandS.Head2
import HandS.Head3
import HandS.HeadHook1
import HandS.HeadHook2
import HandS.More
import HandS.Star
import KE.KExcIs
import HandS.TryOnly
import HandS.ExcInit
import HandS.ExcField
import HandS.ExcOwn
import HandS.ExcIs
import HandS.Iter
import HandS.Dict
import HandS.Deep
import HandS.MakeKwOnly
import HandS.Exc
import HandS.WordsExc
import HandS.OwnEq
import HandS.HotCalls
import HandS.Lambda
import PyProof.Rows.Digits
import PyProof.StrReplace2
set_option Elab.async false
set_option linter.all false
set_option maxRecDepth 100000
set_option maxHeartbeats 20000000
set_option exponentiation.threshold 100000
namespace V2
open PySem L2
/-! the text by its places -/
def topS (i : Nat) : Stmt := PySem.Challenge.pw_valvelevels_k15_runs_at_told_widths.main.body.getD i (.Pass ⟨0, 0, 0, 0⟩)
/-- a def in a class's body -/
def inClass (st : Stmt) (i : Nat) : Stmt := match st with
  | .ClassDef _ _ _ body _ _ _ _ _ _ _ => body.getD i (.Pass ⟨0, 0, 0, 0⟩)
  | _ => .Pass ⟨0, 0, 0, 0⟩

abbrev s_order_of_fractions : Stmt := topS 2
abbrev n_order_of_fractions : List Str := ["one", "other"]
abbrev p_order_of_fractions : List Str := ["one", "other"]
theorem sc_order_of_fractions : FnScope n_order_of_fractions p_order_of_fractions (defScope s_order_of_fractions) := ⟨rfl, rfl, rfl, by decide +kernel, rfl, by decide +kernel, by decide +kernel⟩
abbrev s_sign_of : Stmt := topS 3
abbrev n_sign_of : List Str := ["number"]
abbrev p_sign_of : List Str := ["number"]
theorem sc_sign_of : FnScope n_sign_of p_sign_of (defScope s_sign_of) := ⟨rfl, rfl, rfl, by decide +kernel, rfl, by decide +kernel, by decide +kernel⟩
abbrev s_cut : Stmt := topS 4
abbrev n_cut : List Str := ["numbers", "many"]
abbrev p_cut : List Str := ["numbers"]
theorem sc_cut : FnScope n_cut p_cut (defScope s_cut) := ⟨rfl, rfl, rfl, by decide +kernel, rfl, by decide +kernel, by decide +kernel⟩
abbrev s_negated : Stmt := topS 5
abbrev n_negated : List Str := ["one", "number"]
abbrev p_negated : List Str := ["one"]
theorem sc_negated : FnScope n_negated p_negated (defScope s_negated) := ⟨rfl, rfl, rfl, by decide +kernel, rfl, by decide +kernel, by decide +kernel⟩
abbrev s_added : Stmt := topS 6
abbrev n_added : List Str := ["one", "other", "many", "mine", "yours", "k"]
abbrev p_added : List Str := ["one", "other"]
theorem sc_added : FnScope n_added p_added (defScope s_added) := ⟨rfl, rfl, rfl, by decide +kernel, rfl, by decide +kernel, by decide +kernel⟩
abbrev s_multiplied : Stmt := topS 7
abbrev n_multiplied : List Str := ["one", "other", "numbers", "k", "number", "j", "factor"]
abbrev p_multiplied : List Str := ["one", "other"]
theorem sc_multiplied : FnScope n_multiplied p_multiplied (defScope s_multiplied) := ⟨rfl, rfl, rfl, by decide +kernel, rfl, by decide +kernel, by decide +kernel⟩
abbrev s_scaled_value : Stmt := topS 8
abbrev n_scaled_value : List Str := ["one", "spot", "above", "below", "total", "power", "k", "number"]
abbrev p_scaled_value : List Str := ["one", "spot"]
theorem sc_scaled_value : FnScope n_scaled_value p_scaled_value (defScope s_scaled_value) := ⟨rfl, rfl, rfl, by decide +kernel, rfl, by decide +kernel, by decide +kernel⟩
abbrev s_sign_at_fraction : Stmt := topS 9
abbrev n_sign_at_fraction : List Str := ["one", "spot"]
abbrev p_sign_at_fraction : List Str := ["one", "spot"]
theorem sc_sign_at_fraction : FnScope n_sign_at_fraction p_sign_at_fraction (defScope s_sign_at_fraction) := ⟨rfl, rfl, rfl, by decide +kernel, rfl, by decide +kernel, by decide +kernel⟩
abbrev s_content : Stmt := topS 10
abbrev n_content : List Str := ["one", "factor", "number"]
abbrev p_content : List Str := ["one"]
theorem sc_content : FnScope n_content p_content (defScope s_content) := ⟨rfl, rfl, rfl, by decide +kernel, rfl, by decide +kernel, by decide +kernel⟩
abbrev s_primitive : Stmt := topS 11
abbrev n_primitive : List Str := ["one", "factor", "number"]
abbrev p_primitive : List Str := ["one"]
theorem sc_primitive : FnScope n_primitive p_primitive (defScope s_primitive) := ⟨rfl, rfl, rfl, by decide +kernel, rfl, by decide +kernel, by decide +kernel⟩
abbrev s_upright : Stmt := topS 12
abbrev n_upright : List Str := ["one", "told"]
abbrev p_upright : List Str := ["one"]
theorem sc_upright : FnScope n_upright p_upright (defScope s_upright) := ⟨rfl, rfl, rfl, by decide +kernel, rfl, by decide +kernel, by decide +kernel⟩
abbrev s_remainder : Stmt := topS 13
abbrev n_remainder : List Str := ["one", "other", "left", "lead", "factor", "grow", "take", "behind", "taken", "number", "k"]
abbrev p_remainder : List Str := ["one", "other"]
theorem sc_remainder : FnScope n_remainder p_remainder (defScope s_remainder) := ⟨rfl, rfl, rfl, by decide +kernel, rfl, by decide +kernel, by decide +kernel⟩
abbrev s_quotient : Stmt := topS 14
abbrev n_quotient : List Str := ["one", "other", "left", "many", "found", "at", "k", "number"]
abbrev p_quotient : List Str := ["one", "other"]
theorem sc_quotient : FnScope n_quotient p_quotient (defScope s_quotient) := ⟨rfl, rfl, rfl, by decide +kernel, rfl, by decide +kernel, by decide +kernel⟩
abbrev s_common_factor : Stmt := topS 15
abbrev n_common_factor : List Str := ["one", "other", "last", "this"]
abbrev p_common_factor : List Str := ["one", "other"]
theorem sc_common_factor : FnScope n_common_factor p_common_factor (defScope s_common_factor) := ⟨rfl, rfl, rfl, by decide +kernel, rfl, by decide +kernel, by decide +kernel⟩
abbrev s_TE_init : Stmt := inClass (topS 17) 0
abbrev n_TE_init : List Str := ["self", "value"]
abbrev p_TE_init : List Str := ["self", "value"]
theorem sc_TE_init : FnScope n_TE_init p_TE_init (defScope s_TE_init) := ⟨rfl, rfl, rfl, by decide +kernel, rfl, by decide +kernel, by decide +kernel⟩
abbrev s_copied : Stmt := topS 25
abbrev n_copied : List Str := ["thing", "part"]
abbrev p_copied : List Str := ["thing"]
theorem sc_copied : FnScope n_copied p_copied (defScope s_copied) := ⟨rfl, rfl, rfl, by decide +kernel, rfl, by decide +kernel, by decide +kernel⟩
abbrev s_is_integer : Stmt := topS 26
abbrev n_is_integer : List Str := ["thing"]
abbrev p_is_integer : List Str := ["thing"]
theorem sc_is_integer : FnScope n_is_integer p_is_integer (defScope s_is_integer) := ⟨rfl, rfl, rfl, by decide +kernel, rfl, by decide +kernel, by decide +kernel⟩
abbrev s_is_fraction : Stmt := topS 27
abbrev n_is_fraction : List Str := ["thing", "above", "below"]
abbrev p_is_fraction : List Str := ["thing"]
theorem sc_is_fraction : FnScope n_is_fraction p_is_fraction (defScope s_is_fraction) := ⟨rfl, rfl, rfl, by decide +kernel, rfl, by decide +kernel, by decide +kernel⟩
abbrev s_check_width : Stmt := topS 28
abbrev n_check_width : List Str := ["width"]
abbrev p_check_width : List Str := ["width"]
theorem sc_check_width : FnScope n_check_width p_check_width (defScope s_check_width) := ⟨rfl, rfl, rfl, by decide +kernel, rfl, by decide +kernel, by decide +kernel⟩
abbrev s_reduced : Stmt := topS 30
abbrev n_reduced : List Str := ["top", "bottom", "factor", "above", "below", "number", "part"]
abbrev p_reduced : List Str := ["top", "bottom"]
theorem sc_reduced : FnScope n_reduced p_reduced (defScope s_reduced) := ⟨rfl, rfl, rfl, by decide +kernel, rfl, by decide +kernel, by decide +kernel⟩
abbrev s_told_widths : Stmt := topS 32
abbrev n_told_widths : List Str := ["tanks", "spot", "above", "below", "width", "_"]
abbrev p_told_widths : List Str := ["tanks", "spot"]
theorem sc_told_widths : FnScope n_told_widths p_told_widths (defScope s_told_widths) := ⟨rfl, rfl, rfl, by decide +kernel, rfl, by decide +kernel, by decide +kernel⟩
abbrev s_first_water : Stmt := topS 33
abbrev n_first_water : List Str := ["tanks", "_", "amount"]
abbrev p_first_water : List Str := ["tanks"]
theorem sc_first_water : FnScope n_first_water p_first_water (defScope s_first_water) := ⟨rfl, rfl, rfl, by decide +kernel, rfl, by decide +kernel, by decide +kernel⟩
abbrev s_sum_of : Stmt := topS 34
abbrev n_sum_of : List Str := ["told", "total", "one"]
abbrev p_sum_of : List Str := ["told"]
theorem sc_sum_of : FnScope n_sum_of p_sum_of (defScope s_sum_of) := ⟨rfl, rfl, rfl, by decide +kernel, rfl, by decide +kernel, by decide +kernel⟩
abbrev s_together : Stmt := topS 35
abbrev n_together : List Str := ["tanks", "amounts", "widths", "k"]
abbrev p_together : List Str := ["tanks", "amounts", "widths"]
theorem sc_together : FnScope n_together p_together (defScope s_together) := ⟨rfl, rfl, rfl, by decide +kernel, rfl, by decide +kernel, by decide +kernel⟩
abbrev s_after : Stmt := topS 36
abbrev n_after : List Str := ["step", "water", "widths", "word"]
abbrev p_after : List Str := ["step", "water", "widths"]
theorem sc_after : FnScope n_after p_after (defScope s_after) := ⟨rfl, rfl, rfl, by decide +kernel, rfl, by decide +kernel, by decide +kernel⟩
abbrev s_opened : Stmt := topS 37
abbrev n_opened : List Str := ["tanks", "water", "widths", "amounts", "whole", "total", "width", "found", "k", "one"]
abbrev p_opened : List Str := ["tanks", "water", "widths"]
theorem sc_opened : FnScope n_opened p_opened (defScope s_opened) := ⟨rfl, rfl, rfl, by decide +kernel, rfl, by decide +kernel, by decide +kernel⟩
abbrev s_poured : Stmt := topS 38
abbrev n_poured : List Str := ["tank", "amount", "water", "amounts", "whole", "poured_in", "k", "one"]
abbrev p_poured : List Str := ["tank", "amount", "water"]
theorem sc_poured : FnScope n_poured p_poured (defScope s_poured) := ⟨rfl, rfl, rfl, by decide +kernel, rfl, by decide +kernel, by decide +kernel⟩
abbrev s_taken : Stmt := topS 39
abbrev n_taken : List Str := ["tank", "other", "part", "water", "amounts", "whole", "above", "below", "found", "one"]
abbrev p_taken : List Str := ["tank", "other", "part", "water"]
theorem sc_taken : FnScope n_taken p_taken (defScope s_taken) := ⟨rfl, rfl, rfl, by decide +kernel, rfl, by decide +kernel, by decide +kernel⟩
abbrev s_lead : Stmt := topS 40
abbrev n_lead : List Str := ["amount", "width", "other", "other_width", "whole", "told"]
abbrev p_lead : List Str := ["amount", "width", "other", "other_width", "whole"]
theorem sc_lead : FnScope n_lead p_lead (defScope s_lead) := ⟨rfl, rfl, rfl, by decide +kernel, rfl, by decide +kernel, by decide +kernel⟩
abbrev s_ahead : Stmt := topS 41
abbrev n_ahead : List Str := ["step", "water", "widths", "amounts", "whole", "_", "one", "other"]
abbrev p_ahead : List Str := ["step", "water", "widths"]
theorem sc_ahead : FnScope n_ahead p_ahead (defScope s_ahead) := ⟨rfl, rfl, rfl, by decide +kernel, rfl, by decide +kernel, by decide +kernel⟩
abbrev s_levels : Stmt := topS 42
abbrev n_levels : List Str := ["water", "widths", "scale", "amounts", "whole", "k", "one"]
abbrev p_levels : List Str := ["water", "widths", "scale"]
theorem sc_levels : FnScope n_levels p_levels (defScope s_levels) := ⟨rfl, rfl, rfl, by decide +kernel, rfl, by decide +kernel, by decide +kernel⟩
abbrev s_number_of : Stmt := topS 43
abbrev n_number_of : List Str := ["form", "top", "bottom"]
abbrev p_number_of : List Str := ["form"]
theorem sc_number_of : FnScope n_number_of p_number_of (defScope s_number_of) := ⟨rfl, rfl, rfl, by decide +kernel, rfl, by decide +kernel, by decide +kernel⟩
abbrev s_is_ended : Stmt := topS 44
abbrev n_is_ended : List Str := ["step", "water", "widths"]
abbrev p_is_ended : List Str := ["step", "water", "widths"]
theorem sc_is_ended : FnScope n_is_ended p_is_ended (defScope s_is_ended) := ⟨rfl, rfl, rfl, by decide +kernel, rfl, by decide +kernel, by decide +kernel⟩
abbrev s_told_levels : Stmt := topS 45
abbrev n_told_levels : List Str := ["water", "widths", "spot", "form"]
abbrev p_told_levels : List Str := ["water", "widths", "spot"]
theorem sc_told_levels : FnScope n_told_levels p_told_levels (defScope s_told_levels) := ⟨rfl, rfl, rfl, by decide +kernel, rfl, by decide +kernel, by decide +kernel⟩
abbrev s_run_of : Stmt := topS 46
abbrev n_run_of : List Str := ["tanks", "steps", "spot", "widths", "water", "index", "step"]
abbrev p_run_of : List Str := ["tanks", "steps", "spot"]
theorem sc_run_of : FnScope n_run_of p_run_of (defScope s_run_of) := ⟨rfl, rfl, rfl, by decide +kernel, rfl, by decide +kernel, by decide +kernel⟩
abbrev s_run : Stmt := topS 48
abbrev n_run : List Str := ["plan", "width"]
abbrev p_run : List Str := ["plan", "width"]
theorem sc_run : FnScope n_run p_run (defScope s_run) := ⟨rfl, rfl, rfl, by decide +kernel, rfl, by decide +kernel, by decide +kernel⟩
abbrev s_is_amount : Stmt := topS 51
abbrev n_is_amount : List Str := ["thing"]
abbrev p_is_amount : List Str := ["thing"]
theorem sc_is_amount : FnScope n_is_amount p_is_amount (defScope s_is_amount) := ⟨rfl, rfl, rfl, by decide +kernel, rfl, by decide +kernel, by decide +kernel⟩
abbrev s_is_tank : Stmt := topS 52
abbrev n_is_tank : List Str := ["thing", "width", "amount"]
abbrev p_is_tank : List Str := ["thing"]
theorem sc_is_tank : FnScope n_is_tank p_is_tank (defScope s_is_tank) := ⟨rfl, rfl, rfl, by decide +kernel, rfl, by decide +kernel, by decide +kernel⟩
abbrev s_check_tanks : Stmt := topS 53
abbrev n_check_tanks : List Str := ["tanks", "tank"]
abbrev p_check_tanks : List Str := ["tanks"]
theorem sc_check_tanks : FnScope n_check_tanks p_check_tanks (defScope s_check_tanks) := ⟨rfl, rfl, rfl, by decide +kernel, rfl, by decide +kernel, by decide +kernel⟩
abbrev s_is_ascending : Stmt := topS 54
abbrev n_is_ascending : List Str := ["told", "number", "k"]
abbrev p_is_ascending : List Str := ["told"]
theorem sc_is_ascending : FnScope n_is_ascending p_is_ascending (defScope s_is_ascending) := ⟨rfl, rfl, rfl, by decide +kernel, rfl, by decide +kernel, by decide +kernel⟩
abbrev s_is_step : Stmt := topS 55
abbrev n_is_step : List Str := ["thing", "word"]
abbrev p_is_step : List Str := ["thing"]
theorem sc_is_step : FnScope n_is_step p_is_step (defScope s_is_step) := ⟨rfl, rfl, rfl, by decide +kernel, rfl, by decide +kernel, by decide +kernel⟩
abbrev s_tanks_of : Stmt := topS 56
abbrev n_tanks_of : List Str := ["step"]
abbrev p_tanks_of : List Str := ["step"]
theorem sc_tanks_of : FnScope n_tanks_of p_tanks_of (defScope s_tanks_of) := ⟨rfl, rfl, rfl, by decide +kernel, rfl, by decide +kernel, by decide +kernel⟩
abbrev s_check_numbers : Stmt := topS 57
abbrev n_check_numbers : List Str := ["numbers", "many", "number"]
abbrev p_check_numbers : List Str := ["numbers", "many"]
theorem sc_check_numbers : FnScope n_check_numbers p_check_numbers (defScope s_check_numbers) := ⟨rfl, rfl, rfl, by decide +kernel, rfl, by decide +kernel, by decide +kernel⟩
abbrev s_check_part : Stmt := topS 58
abbrev n_check_part : List Str := ["part"]
abbrev p_check_part : List Str := ["part"]
theorem sc_check_part : FnScope n_check_part p_check_part (defScope s_check_part) := ⟨rfl, rfl, rfl, by decide +kernel, rfl, by decide +kernel, by decide +kernel⟩
abbrev s_check_step : Stmt := topS 59
abbrev n_check_step : List Str := ["step", "many"]
abbrev p_check_step : List Str := ["step", "many"]
theorem sc_check_step : FnScope n_check_step p_check_step (defScope s_check_step) := ⟨rfl, rfl, rfl, by decide +kernel, rfl, by decide +kernel, by decide +kernel⟩
abbrev s_check_index : Stmt := topS 60
abbrev n_check_index : List Str := ["index", "many"]
abbrev p_check_index : List Str := ["index", "many"]
theorem sc_check_index : FnScope n_check_index p_check_index (defScope s_check_index) := ⟨rfl, rfl, rfl, by decide +kernel, rfl, by decide +kernel, by decide +kernel⟩
abbrev s_check_exchange : Stmt := topS 61
abbrev n_check_exchange : List Str := ["index", "many"]
abbrev p_check_exchange : List Str := ["index", "many"]
theorem sc_check_exchange : FnScope n_check_exchange p_check_exchange (defScope s_check_exchange) := ⟨rfl, rfl, rfl, by decide +kernel, rfl, by decide +kernel, by decide +kernel⟩
abbrev s_Sc_init : Stmt := inClass (topS 63) 0
abbrev n_Sc_init : List Str := ["self", "tanks", "steps", "step"]
abbrev p_Sc_init : List Str := ["self", "tanks", "steps"]
theorem sc_Sc_init : FnScope n_Sc_init p_Sc_init (defScope s_Sc_init) := ⟨rfl, rfl, rfl, by decide +kernel, rfl, by decide +kernel, by decide +kernel⟩
abbrev s_Sc_tanks : Stmt := inClass (topS 63) 1
abbrev n_Sc_tanks : List Str := ["self"]
abbrev p_Sc_tanks : List Str := ["self"]
theorem sc_Sc_tanks : FnScope n_Sc_tanks p_Sc_tanks (defScope s_Sc_tanks) := ⟨rfl, rfl, rfl, by decide +kernel, rfl, by decide +kernel, by decide +kernel⟩
abbrev s_Sc_steps : Stmt := inClass (topS 63) 2
abbrev n_Sc_steps : List Str := ["self"]
abbrev p_Sc_steps : List Str := ["self"]
theorem sc_Sc_steps : FnScope n_Sc_steps p_Sc_steps (defScope s_Sc_steps) := ⟨rfl, rfl, rfl, by decide +kernel, rfl, by decide +kernel, by decide +kernel⟩
abbrev s_Sc_unknown : Stmt := inClass (topS 63) 3
abbrev n_Sc_unknown : List Str := ["self", "width", "_"]
abbrev p_Sc_unknown : List Str := ["self"]
theorem sc_Sc_unknown : FnScope n_Sc_unknown p_Sc_unknown (defScope s_Sc_unknown) := ⟨rfl, rfl, rfl, by decide +kernel, rfl, by decide +kernel, by decide +kernel⟩
abbrev s_Sc_getitem : Stmt := inClass (topS 63) 4
abbrev n_Sc_getitem : List Str := ["self", "at"]
abbrev p_Sc_getitem : List Str := ["self", "at"]
theorem sc_Sc_getitem : FnScope n_Sc_getitem p_Sc_getitem (defScope s_Sc_getitem) := ⟨rfl, rfl, rfl, by decide +kernel, rfl, by decide +kernel, by decide +kernel⟩
abbrev s_Sc_iter : Stmt := inClass (topS 63) 5
abbrev n_Sc_iter : List Str := ["self"]
abbrev p_Sc_iter : List Str := ["self"]
theorem sc_Sc_iter : FnScope n_Sc_iter p_Sc_iter (defScope s_Sc_iter) := ⟨rfl, rfl, rfl, by decide +kernel, rfl, by decide +kernel, by decide +kernel⟩
abbrev s_Sc_without : Stmt := inClass (topS 63) 6
abbrev n_Sc_without : List Str := ["self", "index"]
abbrev p_Sc_without : List Str := ["self", "index"]
theorem sc_Sc_without : FnScope n_Sc_without p_Sc_without (defScope s_Sc_without) := ⟨rfl, rfl, rfl, by decide +kernel, rfl, by decide +kernel, by decide +kernel⟩
abbrev s_Sc_exchanged : Stmt := inClass (topS 63) 7
abbrev n_Sc_exchanged : List Str := ["self", "index", "first", "behind"]
abbrev p_Sc_exchanged : List Str := ["self", "index"]
theorem sc_Sc_exchanged : FnScope n_Sc_exchanged p_Sc_exchanged (defScope s_Sc_exchanged) := ⟨rfl, rfl, rfl, by decide +kernel, rfl, by decide +kernel, by decide +kernel⟩
abbrev s_Sc_len : Stmt := inClass (topS 63) 8
abbrev n_Sc_len : List Str := ["self"]
abbrev p_Sc_len : List Str := ["self"]
theorem sc_Sc_len : FnScope n_Sc_len p_Sc_len (defScope s_Sc_len) := ⟨rfl, rfl, rfl, by decide +kernel, rfl, by decide +kernel, by decide +kernel⟩
abbrev s_Sc_eq : Stmt := inClass (topS 63) 9
abbrev n_Sc_eq : List Str := ["self", "other"]
abbrev p_Sc_eq : List Str := ["self", "other"]
theorem sc_Sc_eq : FnScope n_Sc_eq p_Sc_eq (defScope s_Sc_eq) := ⟨rfl, rfl, rfl, by decide +kernel, rfl, by decide +kernel, by decide +kernel⟩
abbrev s_l_purse : Stmt := topS 65
abbrev n_l_purse : List Str := ["script", "place", "cell"]
abbrev p_l_purse : List Str := ["script", "place"]
theorem sc_l_purse : FnScope n_l_purse p_l_purse (defScope s_l_purse) := ⟨rfl, rfl, rfl, by decide +kernel, rfl, by decide +kernel, by decide +kernel⟩
abbrev s_l_coin : Stmt := topS 66
abbrev n_l_coin : List Str := ["purse", "many", "drawn", "stirred"]
abbrev p_l_coin : List Str := ["purse", "many"]
theorem sc_l_coin : FnScope n_l_coin p_l_coin (defScope s_l_coin) := ⟨rfl, rfl, rfl, by decide +kernel, rfl, by decide +kernel, by decide +kernel⟩
abbrev s_l_divisor : Stmt := topS 67
abbrev n_l_divisor : List Str := ["first", "second"]
abbrev p_l_divisor : List Str := ["first", "second"]
theorem sc_l_divisor : FnScope n_l_divisor p_l_divisor (defScope s_l_divisor) := ⟨rfl, rfl, rfl, by decide +kernel, rfl, by decide +kernel, by decide +kernel⟩
abbrev s_l_ratio : Stmt := topS 68
abbrev n_l_ratio : List Str := ["first", "second", "share"]
abbrev p_l_ratio : List Str := ["first", "second"]
theorem sc_l_ratio : FnScope n_l_ratio p_l_ratio (defScope s_l_ratio) := ⟨rfl, rfl, rfl, by decide +kernel, rfl, by decide +kernel, by decide +kernel⟩
abbrev s_l_trim : Stmt := topS 69
abbrev n_l_trim : List Str := ["nums"]
abbrev p_l_trim : List Str := ["nums"]
theorem sc_l_trim : FnScope n_l_trim p_l_trim (defScope s_l_trim) := ⟨rfl, rfl, rfl, by decide +kernel, rfl, by decide +kernel, by decide +kernel⟩
abbrev s_l_add : Stmt := topS 70
abbrev n_l_add : List Str := ["first", "second", "factor", "size", "left", "right", "k"]
abbrev p_l_add : List Str := ["first", "second", "factor"]
theorem sc_l_add : FnScope n_l_add p_l_add (defScope s_l_add) := ⟨rfl, rfl, rfl, by decide +kernel, rfl, by decide +kernel, by decide +kernel⟩
abbrev s_l_mul : Stmt := topS 71
abbrev n_l_mul : List Str := ["first", "second", "found", "k", "j"]
abbrev p_l_mul : List Str := ["first", "second"]
theorem sc_l_mul : FnScope n_l_mul p_l_mul (defScope s_l_mul) := ⟨rfl, rfl, rfl, by decide +kernel, rfl, by decide +kernel, by decide +kernel⟩
abbrev s_l_made : Stmt := topS 72
abbrev n_l_made : List Str := ["shape", "vats", "deeds", "made", "deed"]
abbrev p_l_made : List Str := ["shape"]
theorem sc_l_made : FnScope n_l_made p_l_made (defScope s_l_made) := ⟨rfl, rfl, rfl, by decide +kernel, rfl, by decide +kernel, by decide +kernel⟩
abbrev s_l_start : Stmt := topS 73
abbrev n_l_start : List Str := ["vats", "wides", "vat"]
abbrev p_l_start : List Str := ["vats"]
theorem sc_l_start : FnScope n_l_start p_l_start (defScope s_l_start) := ⟨rfl, rfl, rfl, by decide +kernel, rfl, by decide +kernel, by decide +kernel⟩
abbrev s_l_after : Stmt := topS 74
abbrev n_l_after : List Str := ["state", "deed", "tops", "foot", "wides", "wide", "total", "k", "out", "nums"]
abbrev p_l_after : List Str := ["state", "deed"]
theorem sc_l_after : FnScope n_l_after p_l_after (defScope s_l_after) := ⟨rfl, rfl, rfl, by decide +kernel, rfl, by decide +kernel, by decide +kernel⟩
abbrev s_l_apart : Stmt := topS 75
abbrev n_l_apart : List Str := ["state", "first", "second", "tops", "foot", "wides"]
abbrev p_l_apart : List Str := ["state", "first", "second"]
theorem sc_l_apart : FnScope n_l_apart p_l_apart (defScope s_l_apart) := ⟨rfl, rfl, rfl, by decide +kernel, rfl, by decide +kernel, by decide +kernel⟩
abbrev s_l_run : Stmt := topS 76
abbrev n_l_run : List Str := ["shape", "spot", "tops", "foot", "wides", "state", "ended", "k", "deed", "levels_v", "wide"]
abbrev p_l_run : List Str := ["shape", "spot"]
theorem sc_l_run : FnScope n_l_run p_l_run (defScope s_l_run) := ⟨rfl, rfl, rfl, by decide +kernel, rfl, by decide +kernel, by decide +kernel⟩
abbrev s_l_part : Stmt := topS 77
abbrev n_l_part : List Str := ["sack", "most", "foot"]
abbrev p_l_part : List Str := ["sack", "most"]
theorem sc_l_part : FnScope n_l_part p_l_part (defScope s_l_part) := ⟨rfl, rfl, rfl, by decide +kernel, rfl, by decide +kernel, by decide +kernel⟩
abbrev s_l_two : Stmt := topS 78
abbrev n_l_two : List Str := ["sack", "many", "first"]
abbrev p_l_two : List Str := ["sack", "many"]
theorem sc_l_two : FnScope n_l_two p_l_two (defScope s_l_two) := ⟨rfl, rfl, rfl, by decide +kernel, rfl, by decide +kernel, by decide +kernel⟩
abbrev s_l_vats : Stmt := topS 79
abbrev n_l_vats : List Str := ["sack", "many", "most", "rank", "found", "k", "amount", "size"]
abbrev p_l_vats : List Str := ["sack", "many", "most"]
theorem sc_l_vats : FnScope n_l_vats p_l_vats (defScope s_l_vats) := ⟨rfl, rfl, rfl, by decide +kernel, rfl, by decide +kernel, by decide +kernel⟩
abbrev s_l_deed : Stmt := topS 80
abbrev n_l_deed : List Str := ["sack", "many", "most", "word", "first", "second", "some", "k"]
abbrev p_l_deed : List Str := ["sack", "many", "most", "word"]
theorem sc_l_deed : FnScope n_l_deed p_l_deed (defScope s_l_deed) := ⟨rfl, rfl, rfl, by decide +kernel, rfl, by decide +kernel, by decide +kernel⟩
abbrev s_l_plan : Stmt := topS 81
abbrev n_l_plan : List Str := ["sack", "opens", "stops", "most", "left", "vats", "deeds", "many", "word"]
abbrev p_l_plan : List Str := ["sack", "opens", "stops"]
theorem sc_l_plan : FnScope n_l_plan p_l_plan (defScope s_l_plan) := ⟨rfl, rfl, rfl, by decide +kernel, rfl, by decide +kernel, by decide +kernel⟩
abbrev s_l_great : Stmt := topS 82
abbrev n_l_great : List Str := ["sack", "many", "deeds", "turn", "word"]
abbrev p_l_great : List Str := ["sack"]
theorem sc_l_great : FnScope n_l_great p_l_great (defScope s_l_great) := ⟨rfl, rfl, rfl, by decide +kernel, rfl, by decide +kernel, by decide +kernel⟩
abbrev s_l_width : Stmt := topS 83
abbrev n_l_width : List Str := ["sack", "foot"]
abbrev p_l_width : List Str := ["sack"]
theorem sc_l_width : FnScope n_l_width p_l_width (defScope s_l_width) := ⟨rfl, rfl, rfl, by decide +kernel, rfl, by decide +kernel, by decide +kernel⟩
abbrev s_l_road : Stmt := topS 84
abbrev n_l_road : List Str := ["sack", "shape", "vats", "deeds", "way", "k", "more"]
abbrev p_l_road : List Str := ["sack", "shape"]
theorem sc_l_road : FnScope n_l_road p_l_road (defScope s_l_road) := ⟨rfl, rfl, rfl, by decide +kernel, rfl, by decide +kernel, by decide +kernel⟩
abbrev s_l_roaded : Stmt := topS 85
abbrev n_l_roaded : List Str := ["elder", "word", "k"]
abbrev p_l_roaded : List Str := ["elder", "word", "k"]
theorem sc_l_roaded : FnScope n_l_roaded p_l_roaded (defScope s_l_roaded) := ⟨rfl, rfl, rfl, by decide +kernel, rfl, by decide +kernel, by decide +kernel⟩
abbrev s_l_wrong_width : Stmt := topS 86
abbrev n_l_wrong_width : List Str := ["sack", "first", "second", "wrong"]
abbrev p_l_wrong_width : List Str := ["sack"]
theorem sc_l_wrong_width : FnScope n_l_wrong_width p_l_wrong_width (defScope s_l_wrong_width) := ⟨rfl, rfl, rfl, by decide +kernel, rfl, by decide +kernel, by decide +kernel⟩
abbrev s_l_refused_right : Stmt := topS 87
abbrev n_l_refused_right : List Str := ["made", "sack", "wrong", "kept", "e"]
abbrev p_l_refused_right : List Str := ["made", "sack"]
theorem sc_l_refused_right : FnScope n_l_refused_right p_l_refused_right (defScope s_l_refused_right) := ⟨rfl, rfl, rfl, by decide +kernel, rfl, by decide +kernel, by decide +kernel⟩
abbrev s_l_right : Stmt := topS 88
abbrev n_l_right : List Str := ["sack", "shape", "first", "word", "k", "elder", "spots", "made", "kept", "spot", "found", "turn"]
abbrev p_l_right : List Str := ["sack"]
theorem sc_l_right : FnScope n_l_right p_l_right (defScope s_l_right) := ⟨rfl, rfl, rfl, by decide +kernel, rfl, by decide +kernel, by decide +kernel⟩
abbrev s_law : Stmt := topS 89
abbrev n_law : List Str := ["script", "spot", "sack"]
abbrev p_law : List Str := ["script"]
theorem sc_law : FnScope n_law p_law (defScope s_law) := ⟨rfl, rfl, rfl, by decide +kernel, rfl, by decide +kernel, by decide +kernel⟩
end V2


namespace V2
open PySem L2
open PySem.Spec PyProof.Rows
def CPowX (i j : Int) : Prop := 0 ≤ j ∧ (Builtin.Int.intBits i : Int) * j ≤ 2 ^ 27
theorem op_powX {X : Cx} : OpR X (binaryOp .Pow) (rI CPowX fun i j => .int (i ^ j.toNat)) :=
  opI fun _ _ _ _ _ _ _ hc q => pow_int hc.1 hc.2 q
theorem pow_ok {i : Int} {k n : Nat} (hi : i.natAbs < 2 ^ k) (h : k * n ≤ 134217728) : CPowX i (n : Int) := by
  (refine ⟨Int.natCast_nonneg _, ?_⟩)
  have h1 := intBits_le hi
  have h2 : Builtin.Int.intBits i * n ≤ k * n := Nat.mul_le_mul_right n h1
  have h3 : ((Builtin.Int.intBits i * n : Nat) : Int) ≤ 134217728 := by omega
  have e : (2 : Int) ^ 27 = 134217728 := (by decide)
  rw [e, ← Int.natCast_mul]
  exact h3
/-- all but the list at p is as it was (and there may be new things) -/
def But (p : Addr) (H H' : Hp) : Prop := ∀ b o, b ≠ p → H b = some o → H' b = some o
theorem But.refl (p : Addr) (H : Hp) : But p H H := fun _ _ _ h => h
theorem But.trans {p : Addr} {H H1 H2 : Hp} (a : But p H H1) (b : But p H1 H2) : But p H H2 := fun c o n h => b c o n (a c o n h)
theorem But.of_ex {p : Addr} {H H' : Hp} (e : Evl.Ex H H') : But p H H' := fun b o _ h => e b o h
theorem But.upd {p : Addr} {H : Hp} {o : HO} : But p H (upd H p o) := fun b u n h => by
  rw [upd_ne n]; exact h
/-- the law's sack at p: three ints, at most m draws so far -/
def Sk (H : Hp) (p : Addr) (m : Nat) : Prop := ∃ a b c : Int, H p = some (.lst [.int a, .int b, .int c]) ∧ 0 ≤ a ∧ 0 ≤ b ∧ b < 2 ^ 80 ∧ 0 ≤ c ∧ c ≤ m
theorem Sk.le {H : Hp} {p : Addr} {m n : Nat} (h : Sk H p m) (l : m ≤ n) : Sk H p n := by
  obtain ⟨a, b, c, h1, h2, h3, h4, h5, h6⟩ := h
  exact ⟨a, b, c, h1, h2, h3, h4, h5, by omega⟩
theorem Sk.ex {H H' : Hp} {p : Addr} {m : Nat} (h : Sk H p m) (e : Evl.Ex H H') : Sk H' p m := by
  obtain ⟨a, b, c, h1, h2⟩ := h
  exact ⟨a, b, c, e _ _ h1, h2⟩
/-- a draw: any number below many, the sack goes on -/
def spCoin : Sp := fun vs H Q _ => ∃ (p : Addr) (many : Int) (m : Nat), vs = [.ref p, .int many] ∧ Sk H p m ∧ m ≤ 100000 ∧ 0 < many ∧ many.natAbs < 2 ^ 200 ∧
  ∀ (r : Int) (H' : Hp), 0 ≤ r → r < many → But p H H' → Sk H' p (m + 1) → (∀ q, H q = none → H' q = none) → Q (.int r) H'
structure T0 (mg : Str → Option Value) : Prop where
  len : mg "len" = none
  max : mg "max" = none
  abs : mg "abs" = none
  int : mg "int" = none
theorem at0 {a b c : V} : atI [a, b, c] 0 = some a := by rfl
theorem at1 {a b c : V} : atI [a, b, c] 1 = some b := by rfl
theorem at2 {a b c : V} : atI [a, b, c] 2 = some c := by rfl
theorem ixN3 (j : Nat) (h : j < 3) : ixN 3 (j : Int) = some j := Evl.ixN_nat h
section
variable {base : Heap} {mg : Str → Option Value} {K : PySem.W.Frag} {w : World} {P : Program}
end
end V2



namespace V2
/-- how many zeros a list begins with -/
def zer : List Int → Nat
  | [] => 0
  | x :: r => if x = 0 then zer r + 1 else 0
theorem zer_le : ∀ l : List Int, zer l ≤ l.length
  | [] => Nat.le_refl _
  | x :: r => by
    unfold zer
    split
    · have := zer_le r; simp only [List.length_cons]; omega
    · exact Nat.zero_le _
theorem zer_in : ∀ (l : List Int) (j : Nat), j < zer l → l[j]? = some 0
  | [], j, h => absurd h (Nat.not_lt_zero _)
  | x :: r, j, h => by
    unfold zer at h
    split at h
    · rename_i e
      cases j with
      | zero => simp [e]
      | succ j => simpa using zer_in r j (by omega)
    · exact absurd h (Nat.not_lt_zero _)
theorem zer_at : ∀ (l : List Int), zer l < l.length → ∃ x, l[zer l]? = some x ∧ x ≠ 0
  | [], h => absurd h (Nat.not_lt_zero _)
  | x :: r, h => by
    unfold zer at h ⊢
    split
    · rename_i e
      rw [if_pos e, List.length_cons] at h
      obtain ⟨y, h1, h2⟩ := zer_at r (by omega)
      exact ⟨y, by simpa using h1, h2⟩
    · rename_i e
      exact ⟨x, rfl, e⟩
/-- how many zeros stand at the end -/
def tz (ns : List Int) : Nat := zer ns.reverse
theorem tz_le (ns : List Int) : tz ns ≤ ns.length := by
  have := zer_le ns.reverse
  rwa [List.length_reverse] at this
theorem tz_in (ns : List Int) (j : Nat) (h : j < tz ns) : ns[ns.length - 1 - j]? = some 0 := by
  have h1 := zer_in ns.reverse j h
  have h2 := tz_le ns
  rwa [List.getElem?_reverse (by omega)] at h1
theorem tz_at (ns : List Int) (h : tz ns < ns.length) : ∃ x, ns[ns.length - 1 - tz ns]? = some x ∧ x ≠ 0 := by
  have h1 := zer_at ns.reverse (by rwa [List.length_reverse])
  obtain ⟨x, h2, h3⟩ := h1
  refine ⟨x, ?_, h3⟩
  change ns.reverse[tz ns]? = some x at h2
  rwa [List.getElem?_reverse h] at h2
/-- without the zeros at the end -/
def trm (ns : List Int) : List Int := ns.take (ns.length - tz ns)
/-- no 0 at the end -/
def Pol (ns : List Int) : Prop := ∀ x, ns[ns.length - 1]? = some x → x ≠ 0
theorem tz_pol {ns : List Int} (h : Pol ns) : tz ns = 0 := by
  cases e : tz ns with
  | zero => rfl
  | succ k =>
    exact absurd rfl (h 0 (by have := tz_in ns 0 (by omega); simpa using this))
theorem trm_pol {ns : List Int} (h : Pol ns) : trm ns = ns := by
  unfold trm
  rw [tz_pol h, Nat.sub_zero, List.take_length]
theorem pol_trm (ns : List Int) : Pol (trm ns) := by
  intro x h
  unfold trm at h
  have h2 := tz_le ns
  rw [List.length_take, Nat.min_eq_left (Nat.sub_le _ _)] at h
  by_cases h3 : tz ns < ns.length
  · obtain ⟨y, h4, h5⟩ := tz_at ns h3
    rw [List.getElem?_take, if_pos (by omega), show ns.length - tz ns - 1 = ns.length - 1 - tz ns by omega, h4] at h
    cases h; exact h5
  · rw [List.getElem?_take, if_neg (by omega)] at h
    cases h
theorem trm_len (ns : List Int) : (trm ns).length ≤ ns.length := by
  unfold trm; rw [List.length_take]; omega
theorem trm_mem {ns : List Int} {x : Int} (h : x ∈ trm ns) : x ∈ ns := List.mem_of_mem_take h
def fr (u d : Int) : Int × Int := (u / (Int.gcd u d : Int), d / (Int.gcd u d : Int))
theorem gcd_pos {u d : Int} (h : 0 < d) : (0 : Int) < (Int.gcd u d : Int) := by
  have := Int.gcd_pos_of_ne_zero_right u (show d ≠ 0 by omega)
  omega
theorem fr_mul {u d : Int} (h : 0 < d) : u = (fr u d).1 * (Int.gcd u d : Int) ∧ d = (fr u d).2 * (Int.gcd u d : Int) :=
  ⟨(Int.ediv_mul_cancel (Int.gcd_dvd_left ..)).symm, (Int.ediv_mul_cancel (Int.gcd_dvd_right ..)).symm⟩
theorem fr_pos {u d : Int} (h : 0 < d) : 0 < (fr u d).2 := by
  have g := gcd_pos (u := u) h
  have e := (fr_mul (u := u) h).2
  rcases Int.lt_or_le 0 (fr u d).2 with h1 | h1
  · exact h1
  · exfalso
    have : (fr u d).2 * (Int.gcd u d : Int) ≤ 0 := Int.mul_nonpos_of_nonpos_of_nonneg h1 (by omega)
    omega
theorem fr_cop {u d : Int} (h : 0 < d) : Int.gcd (fr u d).1 (fr u d).2 = 1 := by
  have g := gcd_pos (u := u) h
  unfold fr
  exact Int.gcd_ediv_gcd_ediv_gcd (by omega)
/-- two fractions in lowest terms that are one number are one -/
theorem cop_eq {a b c d : Int} (hb : 0 < b) (hd : 0 < d) (h1 : Int.gcd a b = 1) (h2 : Int.gcd c d = 1) (e : a * d = c * b) : a = c ∧ b = d := by
  have hbd : b ∣ d := by
    have h3 : b ∣ a * d := ⟨c, by rw [e, Int.mul_comm]⟩
    have h4 := Int.dvd_gcd_mul_iff_dvd_mul.mpr h3
    rw [Int.gcd_comm, h1] at h4
    simpa using h4
  have hdb : d ∣ b := by
    have h3 : d ∣ c * b := ⟨a, by rw [← e, Int.mul_comm]⟩
    have h4 := Int.dvd_gcd_mul_iff_dvd_mul.mpr h3
    rw [Int.gcd_comm, h2] at h4
    simpa using h4
  have ebd : b = d := Int.dvd_antisymm (by omega) (by omega) hbd hdb
  subst ebd
  exact ⟨Int.eq_of_mul_eq_mul_right (by omega) e, rfl⟩
theorem fr_eq {a b c d : Int} (hb : 0 < b) (hd : 0 < d) (e : a * d = c * b) : fr a b = fr c d := by
  have g1 := gcd_pos (u := a) hb
  have g2 := gcd_pos (u := c) hd
  obtain ⟨a1, b1⟩ := fr_mul (u := a) hb
  obtain ⟨c1, d1⟩ := fr_mul (u := c) hd
  have k : (fr a b).1 * (fr c d).2 = (fr c d).1 * (fr a b).2 := by
    have z : ((fr a b).1 * (fr c d).2) * ((Int.gcd a b : Int) * (Int.gcd c d : Int)) = ((fr c d).1 * (fr a b).2) * ((Int.gcd a b : Int) * (Int.gcd c d : Int)) := by
      calc ((fr a b).1 * (fr c d).2) * ((Int.gcd a b : Int) * (Int.gcd c d : Int)) = ((fr a b).1 * (Int.gcd a b : Int)) * ((fr c d).2 * (Int.gcd c d : Int)) := by simp only [Int.mul_assoc, Int.mul_comm, Int.mul_left_comm]
        _ = a * d := by rw [← a1, ← d1]
        _ = c * b := e
        _ = ((fr c d).1 * (Int.gcd c d : Int)) * ((fr a b).2 * (Int.gcd a b : Int)) := by rw [← c1, ← b1]
        _ = _ := by simp only [Int.mul_assoc, Int.mul_comm, Int.mul_left_comm]
    exact Int.eq_of_mul_eq_mul_right (Int.ne_of_gt (Int.mul_pos g1 g2)) z
  obtain ⟨h1, h2⟩ := cop_eq (fr_pos hb) (fr_pos hd) (fr_cop hb) (fr_cop hd) k
  exact Prod.ext h1 h2
theorem fr_same {a b : Int} (hb : 0 < b) (h : Int.gcd a b = 1) : fr a b = (a, b) := by
  unfold fr
  rw [h]
  simp
theorem fr_abs1 {a b : Int} (hb : 0 < b) : (fr a b).1.natAbs ≤ a.natAbs := by
  obtain ⟨h1, _⟩ := fr_mul (u := a) hb
  have g := gcd_pos (u := a) hb
  generalize Int.gcd a b = n at h1 g
  have e : a.natAbs = (fr a b).1.natAbs * n := by
    have := congrArg Int.natAbs h1
    rw [Int.natAbs_mul, Int.natAbs_natCast] at this
    exact this
  rw [e]
  exact Nat.le_mul_of_pos_right _ (by omega)
theorem fr_abs2 {a b : Int} (hb : 0 < b) : (fr a b).2.natAbs ≤ b.natAbs := by
  obtain ⟨_, h1⟩ := fr_mul (u := a) hb
  have g := gcd_pos (u := a) hb
  generalize Int.gcd a b = n at h1 g
  have e : b.natAbs = (fr a b).2.natAbs * n := by
    have := congrArg Int.natAbs h1
    rw [Int.natAbs_mul, Int.natAbs_natCast] at this
    exact this
  rw [e]
  exact Nat.le_mul_of_pos_right _ (by omega)
end V2


namespace V2
open PySem L2
open PySem.Spec PyProof.Rows
def RetU (xs : List V) (H : Hp) (Q : VK) : Prop := ∀ p H2, H p = none → Evl.Ex H H2 → H2 p = some (.tup xs) → Q (.ref p) H2
def iV (ns : List Int) : List V := ns.map V.int
theorem iV_len (ns : List Int) : (iV ns).length = ns.length := List.length_map ..
theorem iV_at {ns : List Int} {j : Nat} {n : Int} (h : ns[j]? = some n) : (iV ns)[j]? = some (.int n) := by
  unfold iV; rw [List.getElem?_map, h]; rfl
theorem cut_to (xs : List V) {k : Nat} (h : k ≤ xs.length) : cutV xs none (some (k : Int)) = xs.take k := by
  unfold cutV HT.sIx
  have e1 : Int.toNat (k : Int) = k := Int.toNat_natCast k
  simp
  first
    | done
    | (split <;> simp_all <;> omega)
    | omega
/-- the script, the rank: a new sack -/
def spSack (K : PySem.W.Frag) : Sp := fun vs H Q _ => ∃ (a : Addr) (ns : List Int) (r : Nat), vs = [.ref a, .int (r : Int)] ∧ SqL K H a (iV ns) ∧ ns.length ≤ 63 ∧ r ≤ 63 ∧
  ∀ (q : Addr) (H' : Hp), H q = none → Evl.Ex H H' → Sk H' q 0 → Q (.ref q) H'
def spShared : Sp := fun vs H Q _ => ∃ x y : Int, vs = [.int x, .int y] ∧ x.natAbs < 2 ^ 9000 ∧ y.natAbs < 2 ^ 9000 ∧ Evl.RetV (.int (Int.gcd x y : Int)) H Q
def spRatio : Sp := fun vs H Q _ => ∃ x y : Int, vs = [.int x, .int y] ∧ x.natAbs < 2 ^ 9000 ∧ y.natAbs < 2 ^ 9000 ∧ 0 < y ∧ RetU [.int (fr x y).1, .int (fr x y).2] H Q
section
variable {base : Heap} {mg : Str → Option Value} {K : PySem.W.Frag} {w : World} {P : Program}
end
end V2


namespace V2
open PySem L2
open PySem.Spec PyProof.Rows
/-- a def that may be called by its name x -/
def Cal (P : Program) (w : World) (K : PySem.W.Frag) (mg : Str → Option Value) (base : Heap) (k : Nat) (x : Str) (ps : List Str) (sp : Sp) : Prop :=
  ∃ (f : Addr) (fd : FuncData), FnOk P w K mg base CX0 k f fd ps sp ∧ mg x = some (.ref f) ∧ PySem.W.keepIn K (.ref f) = true ∧ Binds K fd ps []
theorem pe_c {X : Cx} {k : Nat} {x : Str} {ps : List Str} {sp : Sp} {e : Expr} {es : List Expr} {t : TA} {p pos : Pos} (c : Cal X.prog X.w X.K X.mg X.base k x ps sp) (hr : Room k X.A) (ha : PA X (e :: es) t) (hg : Gl X x := by rfl)
    (he : starEach (e :: es) X.env = (false, eval e X.env) :: starEach es X.env := by rfl)
    (hpl : (backTo pos (starEach es X.env)).any (fun b => b.1) = false := by rfl) (hdb : (x == ("__debug__" : Str)) = false := by decide) :
    PE X (.Call (.Name x p) (e :: es) [] pos) (tCall sp [] E0 t) := by
  obtain ⟨f, fd, F, hm, hk, hb⟩ := c
  exact pe_call F hr hg hm hk hb .nil pass0 ha hdb he hpl
/-- a list of ints without the zeros at its end, new -/
def spTrim (K : PySem.W.Frag) : Sp := fun vs H Q _ => ∃ (a : Addr) (ns : List Int), vs = [.ref a] ∧ SqL K H a (iV ns) ∧ ns.length ≤ 1000 ∧ Evl.RetL (iV (trm ns)) H Q
section
variable {base : Heap} {mg : Str → Option Value} {K : PySem.W.Frag} {w : World} {P : Program}
end
end V2


namespace V2
def vec (N : Nat) (f : Nat → Int) : List Int := (List.range N).map f
theorem vec_len (N : Nat) (f : Nat → Int) : (vec N f).length = N := by unfold vec; simp
theorem vec_get {N : Nat} {f : Nat → Int} {i : Nat} (h : i < N) : (vec N f)[i]? = some (f i) := by
  unfold vec; simp [h]
theorem vec_ext {N : Nat} {f : Nat → Int} {l : List Int} (hl : l.length = N) (h : ∀ i, i < N → l[i]? = some (f i)) : l = vec N f := by
  apply List.ext_getElem?
  intro i
  by_cases hi : i < N
  · rw [h i hi, vec_get hi]
  · rw [List.getElem?_eq_none (by omega), List.getElem?_eq_none (by rw [vec_len]; omega)]
theorem vec_congr {N : Nat} {f g : Nat → Int} (h : ∀ i, i < N → f i = g i) : vec N f = vec N g :=
  vec_ext (vec_len N f) fun i hi => by rw [vec_get hi, h i hi]
theorem vec_set {N : Nat} {f g : Nat → Int} {p : Nat} {v : Int} (hv : g p = v) (h : ∀ i, i ≠ p → g i = f i) : (vec N f).set p v = vec N g := by
  refine vec_ext (by rw [List.length_set, vec_len]) fun i hi => ?_
  by_cases e : i = p
  · subst e
    rw [List.getElem?_set_self (by rw [vec_len]; exact hi), hv]
  · rw [List.getElem?_set_ne (fun z => e z.symm), vec_get hi, h i e]
theorem vec_zero (N : Nat) : vec N (fun _ => 0) = List.replicate N 0 := by
  symm
  refine vec_ext (by simp) fun i hi => by simp [hi]
theorem getD_at {l : List Int} {k : Nat} {x : Int} (h : l[k]? = some x) : l.getD k 0 = x := by
  rw [List.getD_eq_getElem?_getD, h]; rfl
theorem getD_out {l : List Int} {k : Nat} (h : l.length ≤ k) : l.getD k 0 = 0 := by
  rw [List.getD_eq_getElem?_getD, List.getElem?_eq_none h]; rfl
/-- the sum, zeros at the end and all -/
def padd (xs ys : List Int) : List Int := vec (max xs.length ys.length) fun k => xs.getD k 0 + ys.getD k 0
/-- the first k rows of a product, at place i -/
def cf (xs ys : List Int) : Nat → Nat → Int
  | 0, _ => 0
  | k + 1, i => cf xs ys k i + (if k ≤ i then xs.getD k 0 * ys.getD (i - k) 0 else 0)
/-- k rows, and j places of the next -/
def rw_ (xs ys : List Int) (k j i : Nat) : Int := cf xs ys k i + (if k ≤ i ∧ i < k + j then xs.getD k 0 * ys.getD (i - k) 0 else 0)
theorem rw_0 (xs ys : List Int) (k i : Nat) : rw_ xs ys k 0 i = cf xs ys k i := by
  unfold rw_; rw [if_neg (by omega), Int.add_zero]
theorem rw_end (xs ys : List Int) (k i : Nat) : rw_ xs ys k ys.length i = rw_ xs ys (k + 1) 0 i := by
  rw [rw_0]
  unfold rw_
  show _ = cf xs ys k i + (if k ≤ i then xs.getD k 0 * ys.getD (i - k) 0 else 0)
  by_cases h1 : k ≤ i
  · by_cases h2 : i < k + ys.length
    · rw [if_pos ⟨h1, h2⟩, if_pos h1]
    · rw [if_neg (by omega), if_pos h1, getD_out (l := ys) (k := i - k) (by omega), Int.mul_zero]
  · rw [if_neg (by omega), if_neg h1]
theorem rw_step {xs ys : List Int} {k j : Nat} : rw_ xs ys k (j + 1) (k + j) = rw_ xs ys k j (k + j) + xs.getD k 0 * ys.getD j 0 := by
  unfold rw_
  rw [if_pos (by omega), if_neg (by omega), Int.add_zero, show k + j - k = j by omega]
theorem rw_other {xs ys : List Int} {k j i : Nat} (h : i ≠ k + j) : rw_ xs ys k (j + 1) i = rw_ xs ys k j i := by
  unfold rw_
  by_cases h1 : k ≤ i ∧ i < k + j
  · rw [if_pos h1, if_pos (by omega)]
  · rw [if_neg h1, if_neg (by omega)]
/-- the product, at N places -/
def pmul (xs ys : List Int) : List Int := vec (xs.length + ys.length - 1) (cf xs ys xs.length)
theorem cf_nil_right (xs : List Int) : ∀ k i, cf xs [] k i = 0
  | 0, _ => rfl
  | k + 1, i => by
    show cf xs [] k i + _ = 0
    rw [cf_nil_right xs k i]
    simp
theorem tz_vec0 (N : Nat) : trm (vec N fun _ => 0) = [] := by
  have h : ∀ l : List Int, (∀ x ∈ l, x = 0) → zer l = l.length := by
    intro l
    induction l with
    | nil => intro _; rfl
    | cons x r ih =>
      intro h
      unfold zer
      rw [if_pos (h x List.mem_cons_self), ih fun y hy => h y (List.mem_cons_of_mem _ hy)]
      rfl
  unfold trm tz
  rw [h _ (fun x hx => by
    rw [List.mem_reverse, vec_zero] at hx
    exact List.eq_of_mem_replicate hx), List.length_reverse, Nat.sub_self, List.take_zero]
theorem pmul_nil (xs : List Int) : trm (pmul xs []) = [] := by
  unfold pmul
  rw [vec_congr (g := fun _ => 0) fun i _ => cf_nil_right xs _ i]
  exact tz_vec0 _
theorem nil_pmul (ys : List Int) : trm (pmul [] ys) = [] := tz_vec0 _
/-- beyond the last row nothing -/
theorem cf_high {xs ys : List Int} : ∀ (k i : Nat), k + ys.length ≤ i + 1 → k < xs.length → cf xs ys k i = 0
  | 0, _, _, _ => rfl
  | k + 1, i, h, hk => by
    show cf xs ys k i + _ = 0
    rw [cf_high k i (by omega) (by omega)]
    by_cases h1 : k ≤ i
    · rw [if_pos h1, getD_out (l := ys) (k := i - k) (by omega)]
      simp
    · rw [if_neg h1]; rfl
theorem pol_pmul {xs ys : List Int} (hx : Pol xs) (hy : Pol ys) (nx : xs ≠ []) (ny : ys ≠ []) : Pol (pmul xs ys) := by
  intro z h
  have lx : 0 < xs.length := List.length_pos_iff.mpr nx
  have ly : 0 < ys.length := List.length_pos_iff.mpr ny
  unfold pmul at h
  rw [vec_len, vec_get (by omega)] at h
  have h := Option.some.inj h
  obtain ⟨n, en⟩ : ∃ n, xs.length = n + 1 := ⟨xs.length - 1, by omega⟩
  rw [en] at h
  have h2 : cf xs ys n (n + 1 + ys.length - 1 - 1) + (if n ≤ n + 1 + ys.length - 1 - 1 then xs.getD n 0 * ys.getD (n + 1 + ys.length - 1 - 1 - n) 0 else 0) = z := h
  rw [cf_high n _ (by omega) (by omega), if_pos (by omega), show n + 1 + ys.length - 1 - 1 - n = ys.length - 1 by omega, Int.zero_add] at h2
  have ex : xs[n]? = some xs[n] := List.getElem?_eq_getElem (by omega)
  have ey : ys[ys.length - 1]? = some ys[ys.length - 1] := List.getElem?_eq_getElem (by omega)
  rw [getD_at ex, getD_at ey] at h2
  rw [← h2]
  exact Int.mul_ne_zero (hx _ (by simpa [show xs.length - 1 = n by omega] using ex)) (hy _ ey)
end V2


namespace V2
open PySem L2
open PySem.Spec PyProof.Rows
section
variable {base : Heap} {mg : Str → Option Value} {K : PySem.W.Frag} {w : World} {P : Program}
theorem if_t {c : Bool} {A B : Prop} (hc : c = true) (h : A) : if c = true then A else B := by
  rw [if_pos hc]; exact h
theorem if_f {c : Bool} {A B : Prop} (hc : c = false) (h : B) : if c = true then A else B := by
  rw [hc, if_neg Bool.false_ne_true]; exact h
theorem ok_cut {f : Addr} {fd : FuncData} (F : Fun K "cut" "cut" s_cut f fd) (mL : mg "len" = none) : FnOk P w K mg base CX0 1 f fd p_cut (spTrim K) := by
  refine F.ok sc_cut (fun vs H Q E h => ?_) (fun cdv A outer s H vs Q E hr h => ?_)
  · obtain ⟨a, ns, rfl, _⟩ := h
    rfl
  · obtain ⟨a, ns, rfl, hS, hl, k⟩ := h
    have nd := sc_cut.nd
    refine ⟨_, pss_cons (ps_set (i := 1) nd rfl (Or.inl rfl) (pe_callB call_len_seq (by rfl) mL PySem.boot_len (pa_cons (pv 0) pa_nil)))
      (pss_cons (ps_while PassesOwn.never (PW.pt (pw_and (pt_cmpR op_gt (pv 1) pe_int (nomark _)) (pw_and1 (pt_cmpR op_eq (pe_ix ix_list (pv 0) (pe_op op_sub (pv 1) pe_int) (fun _ _ => rfl)) pe_int (nomark _)))))
          (pss_one (ps_aug (i := 1) nd rfl (.inl rfl) pe_int ip_sub)))
      (pss_one (ps_ret (pe_slice sl_list (pv 0) po_none (po_some (pv 1)))))), ?_⟩
    have hz := tz_le ns
    refine ⟨_, rfl, a, _, rfl, .inl hS, ?_⟩
    refine ⟨fun m σ H' => H' = H ∧ ns.length - tz ns ≤ m ∧ m ≤ ns.length ∧ σ = [some (.ref a), some (.int (m : Int))], ⟨ns.length, rfl, by omega, Nat.le_refl _, by rw [← iV_len ns]; simp [L2.start]⟩, ?_⟩
    rintro m σ H' ⟨rfl, h1, h2, rfl⟩
    have fin : ns.length - tz ns = m → Q = Q := fun _ => rfl
    (refine ⟨_, rfl, _, _, rfl, rfl, _, rfl, ?_⟩)
    by_cases hm : 0 < m
    · refine if_t (decide_eq_true (by omega)) ?_
      obtain ⟨x, hx, q1, q2⟩ : ∃ x, ns[m - 1]? = some x ∧ (ns.length - tz ns < m → x = 0) ∧ (m = ns.length - tz ns → x ≠ 0) := by
        by_cases c : ns.length - tz ns < m
        · have := tz_in ns (ns.length - m) (by omega)
          rw [show ns.length - 1 - (ns.length - m) = m - 1 by omega] at this
          exact ⟨0, this, fun _ => rfl, fun z => by omega⟩
        · obtain ⟨x, h3, h4⟩ := tz_at ns (by omega)
          rw [show ns.length - 1 - tz ns = m - 1 by omega] at h3
          exact ⟨x, h3, fun z => absurd z c, fun _ => h4⟩
      have ei : ((m : Int) - 1) = ((m - 1 : Nat) : Int) := by omega
      refine ⟨_, rfl, _, rfl, _, _, rfl, rfl, a, _, _, .int x, rfl, rfl, hS, ?_, rfl, _, rfl, ?_⟩
      · show atI (iV ns) ((m : Int) - 1) = _
        rw [ei]
        exact atI_nat (iV_at hx)
      · by_cases e : x = 0
        · subst e
          refine if_t (decide_eq_true rfl) ?_
          have c : ns.length - tz ns < m := by
            rcases Nat.lt_or_ge (ns.length - tz ns) m with c | c
            · exact c
            · exact absurd rfl (q2 (by omega))
          refine ⟨fun σ H2 => H2 = H' ∧ σ = [some (.ref a), some (.int ((m - 1 : Nat) : Int))], fun σ H2 z => ⟨m - 1, by omega, z.1, by omega, by omega, z.2⟩, ?_⟩
          refine ⟨_, rfl, _, _, rfl, rfl, rfl, ?_⟩
          show [some (V.ref a), some (V.int ((m : Int) - 1))] = _
          rw [ei]
        · refine if_f (decide_eq_false fun z => e (by injection z)) ?_
          have c : m = ns.length - tz ns := by
            rcases Nat.lt_or_ge (ns.length - tz ns) m with c | c
            · exact absurd (q1 c) e
            · omega
          refine ⟨_, rfl, _, rfl, _, rfl, a, _, rfl, hS, fun p hp => k p _ hp (Evl.Ex.new hp) ?_⟩
          rw [upd_same, cut_to _ (by rw [iV_len]; omega), c]
          unfold trm iV
          rw [List.map_take]
    · refine if_f (decide_eq_false (by omega)) ?_
      have c : m = ns.length - tz ns := by omega
      refine ⟨_, rfl, _, rfl, _, rfl, a, _, rfl, hS, fun p hp => k p _ hp (Evl.Ex.new hp) ?_⟩
      rw [upd_same, cut_to _ (by rw [iV_len]; omega), c]
      unfold trm iV
      rw [List.map_take]
end
end V2


namespace V2
open PySem L2
open PySem.Spec PyProof.Rows
/-- a list of ints at a -/
def Li (H : Hp) (a : Addr) (ns : List Int) : Prop := H a = some (.lst (iV ns))
theorem Li.sq {K : PySem.W.Frag} {H : Hp} {a : Addr} {ns : List Int} (h : Li H a ns) : SqL K H a (iV ns) := SqL.of h
theorem iV_set (ns : List Int) (j : Nat) (v : Int) : (iV ns).set j (.int v) = iV (ns.set j v) := by
  unfold iV; rw [List.map_set]
theorem iV_get {ns : List Int} {i : Nat} {x : V} (h : (iV ns)[i]? = some x) : ∃ n, ns[i]? = some n ∧ x = .int n := by
  unfold iV at h
  rw [List.getElem?_map] at h
  cases e : ns[i]? with
  | none =>
    rw [e] at h
    cases h
  | some n => rw [e] at h; exact ⟨n, rfl, (Option.some.inj h).symm⟩
theorem rep_flat (k : Nat) (x : V) : (List.replicate k [x]).flatten = List.replicate k x := by simp
theorem iV_rep (k : Nat) : iV (List.replicate k 0) = List.replicate k (.int 0) := by unfold iV; simp
/-- a polynomial that may be handed over: at most 16 numbers below 2 ^ 64 -/
def Pn (ns : List Int) : Prop := Pol ns ∧ ns.length ≤ 16 ∧ ∀ x ∈ ns, -(2 ^ 64) < x ∧ x < 2 ^ 64
structure T2 (mg : Str → Option Value) : Prop where
  len : mg "len" = none
  max : mg "max" = none
  rng : mg "range" = none
  enu : mg "enumerate" = none
section
variable {base : Heap} {mg : Str → Option Value} {K : PySem.W.Frag} {w : World} {P : Program}
theorem tru_list {H : Hp} {a : Addr} {ns : List Int} (h : Li H a ns) : TruV K (.ref a) H (!(iV ns).isEmpty) := .inl ⟨_, SqL.of h, rfl⟩
end
end V2


namespace V2
open PySem L2
open PySem.Spec PyProof.Rows
theorem max_len (n m : Nat) : (if (m : Int) > (n : Int) then (m : Int) else (n : Int)) = ((max n m : Nat) : Int) := by
  split <;> omega
theorem gt_len (n m k : Nat) (h : k = max n m) : (if (m : Int) > (n : Int) then (m : Int) else (n : Int)) = (k : Int) := by
  rw [h]; exact max_len n m
/-- a list made longer by zeros -/
def pad (ns : List Int) (N : Nat) : List Int := ns ++ List.replicate (N - ns.length) 0
theorem pad_at {ns : List Int} {N i : Nat} (h : i < N) (hl : ns.length ≤ N) : (pad ns N)[i]? = some (ns.getD i 0) := by
  unfold pad
  by_cases h1 : i < ns.length
  · rw [List.getElem?_append_left h1, List.getD_eq_getElem?_getD, List.getElem?_eq_getElem h1]; rfl
  · rw [List.getElem?_append_right (by omega), getD_out (by omega), List.getElem?_replicate, if_pos (by omega)]
theorem iV_app (xs ys : List Int) : iV xs ++ iV ys = iV (xs ++ ys) := by unfold iV; rw [List.map_append]
theorem given_vec (n : Nat) (g : Nat → Int) : Evl.given n (fun _ => true) (fun i => .int (g i)) = iV (vec n g) := by
  unfold Evl.given iV vec
  rw [List.filter_eq_self.mpr (by simp), List.map_map]
  rfl
/-- xs + [0] * (n - len(xs)) -/
theorem el_pad {K : PySem.W.Frag} {σ : L2.St} {H : Hp} {i j : Nat} {a : Addr} {xs : List Int} {n : Nat} (hi : σ[i]? = some (some (.ref a))) (hj : σ[j]? = some (some (.int (n : Int)))) (ha : Li H a xs) (hl : xs.length ≤ n) (hn : n ≤ 100) :
    Evl.EvL (tOp rCat (tVar i) (tOp rRep (tLst (tCons (tC (.int 0)) tNil)) (tOp (rI0 fun i j => .int (i - j)) (tVar j) (tCB (Evl.rLenS K) (tCons (tVar i) tNil))))) σ H (iV (pad xs n)) := by
  intro H1 e1 Q k
  have ha1 : Li H1 a xs := e1 _ _ ha
  refine ⟨_, hi, (by show 1 ≤ sizeLine; decide), fun p hp => ?_⟩
  have e2 : Evl.Ex H1 (upd H1 p (.lst [.int 0])) := Evl.Ex.new hp
  refine ⟨_, hj, _, hi, a, _, rfl, .inl (SqL.of (e2 _ _ ha1)), _, _, rfl, rfl, p, _, _, rfl, rfl, upd_same, by rw [iV_len]; omega, by rw [iV_len]; omega, ?_, fun q hq => ?_⟩
  · rw [iV_len]
    show 1 * _ ≤ sizeLine
    exact Nat.le_trans (by omega) (show 100 ≤ sizeLine by decide)
  have e3 := e2.trans (Evl.Ex.new (o := .lst (List.replicate ((n : Int) - ((iV xs).length : Int)).toNat [V.int 0]).flatten) hq)
  refine ⟨a, q, _, _, rfl, rfl, e3 _ _ ha1, upd_same, ?_, fun r hr2 => ?_⟩
  · simp only [iV_len, rep_flat, List.length_replicate]
    exact Nat.le_trans (by omega) (show 100 ≤ sizeLine by decide)
  refine k r _ (Evl.fresh_back e3 hr2) (e3.trans (Evl.Ex.new hr2)) ?_
  rw [upd_same, rep_flat, iV_len, ← iV_rep, iV_app, show ((n : Int) - (xs.length : Int)).toNat = n - xs.length by omega]
  rfl
/-- [mine[k] + yours[k] for k in range(n)] -/
theorem el_sums {K : PySem.W.Frag} {σ : L2.St} {H : Hp} {im iy jn jk : Nat} {a b : Addr} {xs ys : List Int} {n : Nat} (hn : σ[jn]? = some (some (.int (n : Int)))) (ha : Li H a (pad xs n)) (hb : Li H b (pad ys n)) (hx : xs.length ≤ n) (hy : ys.length ≤ n) (h100 : n ≤ 100)
    (hw : ∀ x, wipe ((wipe σ [jk]).set jk (some x)) [jk] = wipe σ [jk]) (hm : ∀ x, ((wipe σ [jk]).set jk (some x))[im]? = some (some (.ref a))) (hyy : ∀ x, ((wipe σ [jk]).set jk (some x))[iy]? = some (some (.ref b))) (hk : ∀ x, ((wipe σ [jk]).set jk (some x))[jk]? = some (some x)) :
    Evl.EvL (tLc (iRng1 (tCons (tVar jn) tNil)) (gName jk) tYes (tOp (rI0 fun i j => .int (i + j)) (tOp (rIxL K) (tVar im) (tVar jk)) (tOp (rIxL K) (tVar iy) (tVar jk))) [jk]) σ H (iV (vec n fun k => xs.getD k 0 + ys.getD k 0)) := by
  have h := Evl.el_lcR1 (σ := σ) (H := H) (ta := tCons (tVar jn) tNil) (j := jk) (vs := [jk]) (t := tYes) (te := tOp (rI0 fun i j => .int (i + j)) (tOp (rIxL K) (tVar im) (tVar jk)) (tOp (rIxL K) (tVar iy) (tVar jk))) (n := (n : Int)) (fun _ => true) (fun k => .int (xs.getD k 0 + ys.getD k 0))
    (Evl.ea_cons (Evl.ev_var hn) Evl.ea_nil) ⟨by omega, by omega⟩ hw (fun i H1 _ _ => fun H2 e2 Q q => q H2 (Evl.Ex.refl _)) (fun i H1 e1 hi _ => ?_)
  · rw [Int.toNat_natCast, given_vec] at h
    exact h
  · have hi : i < n := by omega
    exact Evl.ev_op (Evl.ev_op (Evl.ev_var (hm _)) (Evl.ev_var (hk _)) (Evl.rv_ixL (SqL.of (e1 _ _ ha)) (atI_nat (iV_at (pad_at hi hx)))))
      (Evl.ev_op (Evl.ev_var (hyy _)) (Evl.ev_var (hk _)) (Evl.rv_ixL (SqL.of (e1 _ _ hb)) (atI_nat (iV_at (pad_at hi hy))))) Evl.rv_I0
section
variable {base : Heap} {mg : Str → Option Value} {K : PySem.W.Frag} {w : World} {P : Program}
end
end V2


namespace V2
def hT (p q : Int) : List Int → Int
  | [] => 0
  | a :: r => hT p q r * p + a * q ^ r.length
def hA (p q : Int) : List Int → Int
  | [] => 0
  | a :: r => a * q ^ (r.length + 1) + p * hA p q r
end V2


namespace V2
open PySem L2
open PySem.Spec PyProof.Rows
/-- a fraction's tuple at a -/
def Fr (H : Hp) (a : Addr) (p q : Int) : Prop := H a = some (.tup [.int p, .int q])
def Qn (p q : Int) : Prop := 0 < q ∧ Int.gcd p q = 1 ∧ p.natAbs < 2 ^ 50 ∧ q.natAbs < 2 ^ 50
section
variable {base : Heap} {mg : Str → Option Value} {K : PySem.W.Frag} {w : World} {P : Program}
end
end V2


namespace V2
open PySem L2
open PySem.Spec PyProof.Rows
theorem big {x : Int} {n m : Nat} (h : x.natAbs < 2 ^ n) (l : n ≤ m) : x.natAbs < 2 ^ m := Nat.lt_of_lt_of_le h (Nat.pow_le_pow_right (by decide) l)
section
variable {base : Heap} {mg : Str → Option Value} {K : PySem.W.Frag} {w : World} {P : Program}
end
end V2


namespace V2
open PySem L2
open PySem.Spec PyProof.Rows
structure T3 (mg : Str → Option Value) : Prop where
  isi : mg "isinstance" = none
  int : mg "int" = none
  bool : mg "bool" = none
  lst : mg "list" = none
  tup : mg "tuple" = none
  len : mg "len" = none
  all : mg "all" = none
  gcd : mg "gcd" = some (.builtin "math.gcd")
def spInt : Sp := fun vs H Q _ => ∃ n : Int, vs = [.int n] ∧ Evl.RetV (.bl true) H Q
def spIsFr : Sp := fun vs H Q _ => ∃ (a : Addr) (p q : Int), vs = [.ref a] ∧ Fr H a p q ∧ Qn p q ∧ Evl.RetV (.bl true) H Q
theorem atI_end {ns : List Int} (h0 : ns ≠ []) : ∃ x, ns[ns.length - 1]? = some x ∧ atI (iV ns) (-1) = some (.int x) := by
  have e := List.dropLast_concat_getLast h0
  refine ⟨ns.getLast h0, ?_, ?_⟩
  · rw [← List.getLast?_eq_getElem?, List.getLast?_eq_some_getLast h0]
  · have e2 : iV ns = iV ns.dropLast ++ [.int (ns.getLast h0)] := by
      conv => lhs; rw [← e]
      unfold iV
      rw [List.map_append]
      rfl
    rw [e2]
    exact atI_last _ _
theorem rep_snoc (n : Nat) (x : V) : List.replicate n x ++ [x] = List.replicate (n + 1) x := by
  rw [List.replicate_succ']
section
variable {base : Heap} {mg : Str → Option Value} {K : PySem.W.Frag} {w : World} {P : Program}
theorem ok_is_integer {f : Addr} {fd : FuncData} (F : Fun K "is_integer" "is_integer" s_is_integer f fd) (T : T3 mg) : FnOk P w K mg base CX0 1 f fd p_is_integer spInt := by
  refine F.ok sc_is_integer (fun vs H Q E h => ?_) (fun cdv A outer s H vs Q E hr h => ?_)
  · obtain ⟨n, rfl, _⟩ := h
    rfl
  · obtain ⟨n, rfl, k⟩ := h
    refine ⟨_, pss_one (ps_ret (pe_and (pe_callB call_isi (by rfl) T.isi (by decide +kernel) (pa_cons (pv 0) (pa_cons (pe_bltn (v := .ty "int") (by rfl) T.int (by decide +kernel) rfl) pa_nil)))
      (pe_one (pe_not (pe_callB call_isi (by rfl) T.isi (by decide +kernel) (pa_cons (pv 0) (pa_cons (pe_bltn (v := .ty "bool") (by rfl) T.bool (by decide +kernel) rfl) pa_nil))))))), ?_⟩
    refine ⟨_, rfl, _, _, _, _, true, rfl, .ty "int", .base (.int n), kit_ty (by decide +kernel), true, rfl, if_t rfl ?_⟩
    refine ⟨_, rfl, _, _, _, _, false, rfl, .ty "bool", .base (.int n), kit_ty (by decide +kernel), false, rfl, ?_⟩
    exact k _ (Evl.Ex.refl _)
theorem ok_is_fraction {f : Addr} {fd : FuncData} (F : Fun K "is_fraction" "is_fraction" s_is_fraction f fd) (T : T3 mg) (cI : Cal P w K mg base 1 "is_integer" p_is_integer spInt) : FnOk P w K mg base CX0 2 f fd p_is_fraction spIsFr := by
  refine F.ok sc_is_fraction (fun vs H Q E h => ?_) (fun cdv A outer s H vs Q E hr h => ?_)
  · obtain ⟨a, p, q, rfl, _⟩ := h
    rfl
  · obtain ⟨a, p, q, rfl, ha, ⟨q0, qc, pb, qb⟩, k⟩ := h
    have nd := sc_is_fraction.nd
    refine ⟨_, pss_cons (ps_if (PW.pt (pw_or (pt_not (pt_val (pe_callB call_isi (by rfl) T.isi (by decide +kernel) (pa_cons (pv 0) (pa_cons (pe_bltn (v := .ty "tuple") (by rfl) T.tup (by decide +kernel) rfl) pa_nil)))))
        (pw_or1 (pt_cmpR op_ne (pe_callB call_len_seq (by rfl) T.len PySem.boot_len (pa_cons (pv 0) pa_nil)) pe_int (nomark _))))) (pss_one (ps_ret pe_bl)) pss_nil)
      (pss_cons (ps_asg (pv 0) (pg_tup rfl (pgs_cons (pg_name (i := 1) nd rfl (Or.inl rfl)) (pgs_cons (pg_name (i := 2) nd rfl (Or.inl rfl)) pgs_nil))))
      (pss_one (ps_ret (pe_and (pe_c cI hr (pa_cons (pv 1) pa_nil)) (pe_and (pe_c cI hr (pa_cons (pv 2) pa_nil)) (pe_and (pe_cmpR op_ge (pv 2) pe_int (nomark _)) (pe_one (pe_cmpR op_eq (pe_callBfun cr_gcd (by rfl) T.gcd (pa_cons (pv 1) (pa_cons (pv 2) pa_nil))) pe_int (nomark _))))))))), ?_⟩
    refine ⟨_, rfl, _, _, _, _, true, rfl, .ty "tuple", .base (.tup ha), kit_ty (by decide +kernel), true, rfl, if_f rfl ?_⟩
    refine ⟨_, rfl, a, _, rfl, .inr (SqT.of ha), rfl, false, rfl, if_f rfl ?_⟩
    refine ⟨_, rfl, a, _, rfl, SqT.of ha, rfl, _, _, rfl, _, _, rfl, rfl, ?_⟩
    refine ⟨_, rfl, p, rfl, fun H1 e1 => ⟨_, rfl, if_t rfl ⟨_, rfl, q, rfl, fun H2 e2 => ⟨_, rfl, if_t rfl ⟨_, rfl, _, _, rfl, rfl, _, rfl, if_t (decide_eq_true (by omega)) ?_⟩⟩⟩⟩⟩
    refine ⟨_, rfl, _, rfl, p, q, rfl, rfl, ?_⟩
    have e : decide (V.int ((Nat.gcd p.natAbs q.natAbs : Nat) : Int) = V.int 1) = true := decide_eq_true (by
      have : Nat.gcd p.natAbs q.natAbs = 1 := qc
      rw [this]; rfl)
    show Q (.bl (decide (V.int ((Nat.gcd p.natAbs q.natAbs : Nat) : Int) = V.int 1))) H2
    rw [e]
    exact k _ (e1.trans e2)
end
end V2


namespace V2
open PySem L2
open PySem.Spec PyProof.Rows
/-- keywords alone -/
def CalK (P : Program) (w : World) (K : PySem.W.Frag) (mg : Str → Option Value) (base : Heap) (k : Nat) (x : Str) (ps ks : List Str) (gV : List V → List V) (sp : Sp) : Prop :=
  ∃ (f : Addr) (fd : FuncData) (g : List Value → List Value → List Value), FnOk P w K mg base CX0 k f fd ps sp ∧ mg x = some (.ref f) ∧ PySem.W.keepIn K (.ref f) = true ∧ KBn K fd ps 0 ks g (fun _ zs => gV zs)
theorem pe_ck {X : Cx} {k : Nat} {x : Str} {ps ks : List Str} {gV : List V → List V} {sp : Sp} {kws : List Keyword} {t : TA} {p pos : Pos} (c : CalK X.prog X.w X.K X.mg X.base k x ps ks gV sp) (hr : Room k X.A) (hkw : PK X kws t) (hg : Gl X x := by rfl)
    (hall : (backToKw pos (keywordEach kws X.env)).all (fun b => b.1.isSome) = true := by rfl)
    (hks : (backToKw pos (keywordEach kws X.env)).filterMap (fun b => b.1) = ks := by rfl) (hdb : (x == ("__debug__" : Str)) = false := by decide)
    (hpl : ((backTo pos (starEach [] X.env)).any (fun b => b.1) || (backToKw pos (keywordEach kws X.env)).any (fun b => b.1.isNone)) = false := by rfl) :
    PE X (.Call (.Name x p) [] kws pos) (fun σ H Q => t σ H fun zs H1 => zs.length = ks.length ∧ sp (gV zs) H1 Q E0) := by
  obtain ⟨f, fd, g, F, hm, hk, hb⟩ := c
  constructor
  intro pins s σ H Q I h
  apply wpAny_Call_Name_kw
  apply ld_glob I hg hm _ hdb
  apply PySem.W.callWith_KW0 (h₀ := X.base) I.ok.mod.kin hk hall _ hpl
  apply thn (hkw.run pos pins s σ H _ I h)
  rintro ws s2 ⟨zs, H2, I2, rz, l2, q2⟩
  rw [hks]
  exact ⟨I2.kIn, run_fnN (us := []) (vs := []) F hr hb pass0 I2 .nil rz rfl l2 q2⟩
section
variable {base : Heap} {mg : Str → Option Value} {K : PySem.W.Frag} {w : World} {P : Program}
end
end V2


namespace V2
open PySem L2
open PySem.Spec PyProof.Rows
structure FnG (P : Program) (w : World) (K : PySem.W.Frag) (mg : Str → Option Value) (base : Heap) (k : Nat) (f : Addr) (fd : FuncData) (ps : List Str) (sp : Sp) : Prop where
  len : ∀ vs H Qv Ee, sp vs H Qv Ee → vs.length = ps.length
  run : ∀ (A : Around) (outer : List Env) (s : Shared) (H : Hp) (args : Args) (us : List Value) (vs : List V) (Q : VK) (E : XK), A.guards = some [] → Room k A → Env0 P w K mg base A outer s H → BindsTo s fd args (ps.zip us) → Vals vs us → sp vs H Q E →
    codeAny (model P w) A (.call (.ref f) args) (CR CX0 outer P w H s Q E) s
/-- a def by its body, the way in told -/
theorem Fun.okG {P : Program} {w : World} {K : PySem.W.Frag} {mg : Str → Option Value} {base : Heap} {x qual : Str} {st : Stmt} {f : Addr} {fd : FuncData} {N ps : List Str} {k : Nat} {sp : Sp} (F : Fun K x qual st f fd) (S : FnScope N ps (defScope st))
    (len : ∀ vs H Qv Ee, sp vs H Qv Ee → vs.length = ps.length)
    (hbody : ∀ (cdv : Value) (A : Around) (outer : List Env) (s : Shared) (H : Hp) (vs : List V) (Q : VK) (E : XK), A.guards = some [] → Room k (A.deeper (envOfC qual (defScope st) s.heap.objs.size f cdv)) → sp vs H Q E →
      ∃ t, PSs (cxOf CX0 P w K mg base N qual (defScope st) f cdv A outer s H E).nox (defBody st) t ∧ t { nx := fun _ H' => Q .non H', rt := Q } (start N vs) H) :
    FnG P w K mg base (k + 1) f fd ps sp := by
  obtain ⟨ow, oe, kw, dc, pn, am, cdv, cu, sl, rfl, lk, hcd⟩ := F.ex
  constructor
  · exact len
  intro A outer s H args us vs Q E hg hr e0 hb r hsp
  have hl := len vs H Q E hsp
  have st1 : ∀ b o, base.get? b = some o → s.heap.get? b = some o := fun b o e => (e0.bs b o e).1
  have KX : K.In s.heap := e0.mod.kin.keeps st1
  have lim := e0.mod.nolimit.keeps st1
  have kinds : ∀ y ∈ ps.zip us, (defScope st).names.lookup y.1 = some .local ∨ ((defScope st).names.lookup y.1 = some .cell ∧ ((cellsFrom (s.heap.objs.size + 1) (defScope st).names []).lookup y.1).isSome = true) := by
    rintro ⟨n, v⟩ hy
    cases S.par n (List.of_mem_zip hy).1 with
    | inl q => exact .inl q
    | inr q => exact .inr ⟨q, PySem.W.cellsFrom_some _ _ _ (.inl q)⟩
  apply codeAny_call_function hr.depth (KX _ _ lk) rfl S.co S.gen rfl (PySem.W.codeRec_of KX hcd)
  apply hb
  apply wpAny_newFunctionEnv_cells S.kind kinds
  rintro env rfl s1 ic
  constructor
  · exact lim.keeps ic.toInCall.keep
  apply codeAny_func
  obtain ⟨t, ht, hq⟩ := hbody cdv A outer s H vs Q E hg (hr.deeper _) hsp
  have I := inv_start (CX := CX0) (E := E) (qual := qual) (f := f) (cd := cdv) S hr.hd e0 hl r ic
  apply wpAny_mono (ht.nox.run [] s1 (start N vs) H _ I hq)
  · intro fl s' hs
    cases fl with
    | ret u =>
      obtain ⟨v, σ', Hb, J, rr, q⟩ := hs
      exact ⟨v, Hb, J.os, J.bare, J.base, J.hok, rr, q⟩
    | next =>
      obtain ⟨σ', H', J, q⟩ := hs
      exact ⟨V.non, H', J.os, J.bare, J.base, J.hok, rfl, q⟩
    | brk => exact hs.elim fun _ z => z.elim fun _ z => z.2.elim
    | cont => exact hs.elim fun _ z => z.elim fun _ z => z.2.elim
  · exact fun e s' hs => hs
theorem FnOk.toG {P : Program} {w : World} {K : PySem.W.Frag} {mg : Str → Option Value} {base : Heap} {k : Nat} {f : Addr} {fd : FuncData} {ps : List Str} {sp : Sp} (F : FnOk P w K mg base CX0 k f fd ps sp) : FnG P w K mg base k f fd ps sp :=
  ⟨F.len, fun A outer s H args us vs Q E _ => F.run A outer s H args us vs Q E⟩
def CalG (P : Program) (w : World) (K : PySem.W.Frag) (mg : Str → Option Value) (base : Heap) (k : Nat) (x : Str) (ps : List Str) (sp : Sp) : Prop :=
  ∃ (f : Addr) (fd : FuncData), FnG P w K mg base k f fd ps sp ∧ mg x = some (.ref f) ∧ PySem.W.keepIn K (.ref f) = true ∧ Binds K fd ps []
theorem pe_cg {X : Cx} {k : Nat} {x : Str} {ps : List Str} {sp : Sp} {e : Expr} {es : List Expr} {t : TA} {p pos : Pos} (c : CalG X.prog X.w X.K X.mg X.base k x ps sp) (hgd : X.A.guards = some []) (hr : Room k X.A) (ha : PA X (e :: es) t) (hg : Gl X x := by rfl)
    (he : starEach (e :: es) X.env = (false, eval e X.env) :: starEach es X.env := by rfl)
    (hpl : (backTo pos (starEach es X.env)).any (fun b => b.1) = false := by rfl) (hdb : (x == ("__debug__" : Str)) = false := by decide) :
    PE X (.Call (.Name x p) (e :: es) [] pos) (tCall sp [] E0 t) := by
  obtain ⟨f, fd, F, hm, hk, hb⟩ := c
  constructor
  intro pins s σ H Q I h
  apply wpAny_Call_Name_kw
  apply ld_glob I hg hm _ hdb
  refine PySem.W.callWith_K (h₀ := X.base) I.ok.mod.kin hk ?_ he hpl
  apply thn (ha.run pos pins s σ H _ I h)
  rintro us s1 ⟨vs, H1, I1, r, q⟩
  refine ⟨I1.kIn, ?_⟩
  (show wpAny _ _ (call (.ref f) us) _ _ _)
  have q : sp (vs ++ []) H1 Q E0 := q
  rw [List.append_nil] at q
  have hl : us.length = ps.length := by rw [← Paired.length r]; exact F.len _ _ _ _ q
  have bb := hb s1 us I1.kIn (by rw [List.append_nil]; exact hl)
  rw [List.append_nil] at bb
  apply wpAny_call
  apply codeAny_mono (F.run X.A X.stack s1 H1 ⟨us, []⟩ us vs Q E0 hgd hr I1.env0 bb r q)
  intro r' s' hq
  cases r' with
  | error e => exact hq.elim
  | ok fl =>
    cases fl with
    | ret u => exact I1.after hq
    | next => exact hq.elim
    | brk => exact hq.elim
    | cont => exact hq.elim
end V2


namespace V2
open PySem L2
open PySem.Spec PyProof.Rows
/-- it says True and leaves what it found -/
def Fine (s₁ : Shared) : Result → Shared → Prop := fun r s2 =>
  r = .ok (.ret (.bool true)) ∧ OldK s₁.heap s2.heap ∧ s2.os = s₁.os ∧ AllBare s2.gens
section
variable {P : Program} {w : World} {K : PySem.W.Frag} {mg mb : Str → Option Value} {k : Nat} {fa a : Addr} {fd : FuncData} {x : Str} {sp : Sp} {s₁ : Shared} {vs : List Value} {ns : List Int}
/-- from an abstract heap that tracks the script at most -/
theorem core_G (KX : K.In s₁.heap) (hns : s₁.heap.Ns mainGlobals mg) (hb : s₁.heap.Ns builtinsNs mb) (hbb : ∀ x : Str, x ≠ "__name__" → mb x = bootBuiltins x) (hlim : s₁.heap.NoLimit) (hg : s₁.gens = #[])
    (ha : s₁.heap.get? a = some { cls := .type "list", data := .seq vs.toArray }) (hr : Room k callerA)
    (F : ∀ base : Heap, K.In base → base.Ns mainGlobals mg → FnG P w K mg base k fa fd [x] sp) (hbind : ∀ (s : Shared) (u : Value), BindsTo s fd ⟨[u], []⟩ [(x, u)])
    (H : Hp) (hO : Only H) (hq : sp [.ref a] H (fun v _ => v = .bl true) fun _ _ _ => False) (hok : HOk P w H s₁.heap) (hA : ∀ b u, H b = some u → b = a) (hK : ∀ u, H a = some u → K.lookup a = none) :
    codeAny (model P w) callerA (.call (.ref fa) ⟨[.ref a], []⟩) (Fine s₁) s₁ := by
  have dictNo : ∀ {b : Addr} {o : Obj} {es : Array DictEntry} {ep : Nat}, s₁.heap.get? b = some o → o.data = .dict es ep → H b = none := by
    intro b o es ep e d
    cases q : H b with
    | none => rfl
    | some u =>
      obtain rfl := hA b u q
      rw [ha] at e
      cases e
      cases d
  have hideNs : ∀ {b : Addr} {m : Str → Option Value}, s₁.heap.Ns b m → (hidT s₁.heap H).Ns b m := by
    rintro b m ⟨o, es, ep, e, d, r⟩
    exact ⟨o, es, ep, hidT_get e (dictNo e d), d, r⟩
  have hKb : K.In (hidT s₁.heap H) := by
    intro b o e
    apply hidT_get (KX b o e)
    cases q : H b with
    | none => rfl
    | some u =>
      obtain rfl := hA b u q
      rw [hK u q] at e
      cases e
  have hM : Mod K mg (hidT s₁.heap H) := by
    obtain ⟨mc, h1, h2⟩ := hlim
    exact ⟨hKb, hideNs hns, ⟨mb, hideNs hb, hbb⟩, ⟨mc, hideNs h1, h2⟩⟩
  have none_ : ∀ b ∈ frs [], H b = none := by
    intro b hb
    cases (show b ∈ ([] : List Addr) from hb)
  have e0 : Env0 P w K mg (hidT s₁.heap H) callerA [] s₁ H := ⟨rfl, hM, fun b o e => of_hidT e, Nat.le_of_eq (hidT_size _ _), trivial, none_, hok, .of_eq hg⟩
  apply codeAny_mono ((F _ hKb (hideNs hns)).run callerA [] s₁ H ⟨[.ref a], []⟩ [.ref a] [.ref a] _ _ rfl hr e0 (hbind s₁ (.ref a)) (.cons rfl .nil) hq)
  intro r s' h
  cases r with
  | error e => exact h.elim
  | ok fl =>
    cases fl with
    | next => exact h.elim
    | brk => exact h.elim
    | cont => exact h.elim
    | ret u =>
      obtain ⟨v, H', os, bare, un, hok', r', rfl⟩ := h
      have eu : u = Value.bool true := r'
      subst eu
      refine ⟨rfl, OldK.of_keep ?_, os, bare⟩
      intro b o e
      cases q : H b with
      | none => exact un.keep b o e q (by intro z; cases (show b ∈ ([] : List Addr) from z)) (by intro z; cases z)
      | some u =>
        (rcases hO b with z | ⟨ob, xs, z⟩)
        · rw [q] at z; cases z
        · have e1 := (hok b _ z).1
          have e2 := (hok' b _ (un.frzs b ob _ z)).1
          rw [e] at e1
          cases e1
          exact e2
theorem law_G (KX : K.In s₁.heap) (hns : s₁.heap.Ns mainGlobals mg) (hb : s₁.heap.Ns builtinsNs mb) (hbb : ∀ x : Str, x ≠ "__name__" → mb x = bootBuiltins x) (hlim : s₁.heap.NoLimit) (hg : s₁.gens = #[])
    (ha : s₁.heap.get? a = some { cls := .type "list", data := .seq vs.toArray })
    (hi : IntsAre vs ns) (hl : ns.length ≤ sizeLine) (hr : Room k callerA)
    (F : ∀ base : Heap, K.In base → base.Ns mainGlobals mg → FnG P w K mg base k fa fd [x] sp) (hbind : ∀ (s : Shared) (u : Value), BindsTo s fd ⟨[u], []⟩ [(x, u)])
    (hsp : ∀ H : Hp, Only H → SqL K H a (ns.map V.int) → sp [.ref a] H (fun v _ => v = .bl true) fun _ _ _ => False) :
    codeAny (model P w) callerA (.call (.ref fa) ⟨[.ref a], []⟩) (Fine s₁) s₁ := by
  have rv := vals_ints hi
  have lenV := hi.length
  cases hk : K.lookup a with
  | some o =>
    have e := KX a o hk
    rw [ha] at e
    cases e
    have hS : SqL K (fun _ => none) a (ns.map V.int) := .inr ⟨_, vs.toArray, _, hk, rfl, rfl, rfl, by rw [List.size_toArray, lenV]; exact hl, by simpa using rv⟩
    have hO : Only (fun _ => none) := fun _ => .inl rfl
    exact core_G KX hns hb hbb hlim hg ha hr F hbind _ hO (hsp _ hO hS) (fun b u z => by cases (show (none : Option HO) = some u from z)) (fun b u z => by cases (show (none : Option HO) = some u from z)) fun u z => by cases (show (none : Option HO) = some u from z)
  | none =>
    let H : Hp := fun b => if b = a then some (.frz { cls := .type "list", data := .seq vs.toArray } (.lst (ns.map V.int))) else none
    have at_a : H a = some (.frz { cls := .type "list", data := .seq vs.toArray } (.lst (ns.map V.int))) := if_pos rfl
    have off : ∀ b u, H b = some u → b = a := by
      intro b u z
      by_cases e : b = a
      · exact e
      · rw [show H b = none from if_neg e] at z; cases z
    have hO : Only H := by
      intro b
      by_cases e : b = a
      · exact .inr ⟨_, _, by rw [e]; exact at_a⟩
      · exact .inl (if_neg e)
    have hok : HOk P w H s₁.heap := by
      intro b u z
      obtain rfl := off b u z
      rw [at_a] at z
      cases z
      (exact ⟨ha, by rw [List.length_map]; exact hl, vs, _, rv, ha⟩)
    exact core_G KX hns hb hbb hlim hg ha hr F hbind H hO (hsp H hO (.inl (.inr ⟨_, at_a⟩))) hok off fun _ _ => hk
end
end V2


namespace V2
open PySem L2
open PySem.Spec PyProof.Rows
/-- a def, by where it stands -/
structure DfX where
  adr : PySem.W.Frag → Addr
  nm : Str
  ql : Str
  st : Stmt
abbrev RwX : Type := Option (Str × Str × Arguments × FuncBody × Scope × Addr × List (Str × Addr) × Value × Addr)
def DfX.seen (K : PySem.W.Frag) (d : DfX) : RwX := match K.lookup (d.adr K) with
  | some ⟨_, _, .func g, _⟩ => some (g.name, g.qualname, g.params, g.body, g.scope, g.globals, g.closure, g.defaults, g.builtins)
  | _ => none
def DfX.due (d : DfX) : RwX := some (d.nm, d.ql, defArgs d.st, .stmts (defBody d.st), defScope d.st, mainGlobals, [], .none, builtinsNs)
def DfX.good (K : PySem.W.Frag) (d : DfX) : Bool := PySem.W.keepIn K (.ref (d.adr K)) && (match K.lookup (d.adr K) with
  | some ⟨_, _, .func g, _⟩ => PySem.W.codeIn K g.code d.ql
  | _ => false)
theorem DfX.fun_ {K : PySem.W.Frag} {d : DfX} (e : d.seen K = d.due) (c : d.good K = true) : ∃ fd, Fun K d.nm d.ql d.st (d.adr K) fd := by
  obtain ⟨kp, c⟩ := He.ba c
  unfold DfX.seen at e
  cases q : K.lookup (d.adr K) with
  | none =>
    rw [q] at c
    cases c
  | some o =>
    obtain ⟨oc, od, dt, sl⟩ := o
    rw [q] at c e
    cases dt with
    | func g =>
      obtain ⟨g1, g2, g3, g4, g5, g6, g7, g8, g9, g10, g11, g12, g13, g14, g15⟩ := g
      have e : (some (g1, g2, g3, g4, g5, g6, g7, g8, g15) : RwX) = some (d.nm, d.ql, defArgs d.st, .stmts (defBody d.st), defScope d.st, mainGlobals, [], .none, builtinsNs) := e
      simp only [Option.some.injEq, Prod.mk.injEq] at e
      obtain ⟨rfl, rfl, rfl, rfl, rfl, rfl, rfl, rfl, rfl⟩ := e
      exact ⟨_, fun_mk q c kp⟩
    | _ => cases c
/-- the words of a dict -/
abbrev TbX : Type := Option (List (Option Str × Int) × Bool)
def wordOf : Value → Option Str
  | .str x _ => some x
  | _ => none
def tabX (K : PySem.W.Frag) (a : Addr) : TbX := match K.lookup a with
  | some ⟨.type c, none, .dict es _, sl⟩ => some (es.toList.map fun e => (wordOf e.key, e.hash), decide (c = "dict") && (sl.size == 0 && !(a == sysModules)))
  | _ => none
def tabDue (w : World) (xs : List Str) : TbX := some (xs.map fun x => (some x, PyData.keyHash w.params x), true)
theorem lit_of (P : Params) : ∀ (es : List DictEntry) (xs : List Str), (es.map fun e => (wordOf e.key, e.hash)) = (xs.map fun x => (some x, PyData.keyHash P x)) → PySem.W.KeysLit P es
  | [], _, _ => trivial
  | e :: es, [], h => by cases h
  | e :: es, x :: xs, h => by
    simp only [List.map_cons, List.cons.injEq, Prod.mk.injEq] at h
    obtain ⟨⟨h1, h2⟩, h3⟩ := h
    refine ⟨?_, lit_of P es xs h3⟩
    obtain ⟨hh, hk, hv⟩ := e
    cases hk with
    | str y t =>
      cases h1
      exact ⟨_, _, rfl, h2⟩
    | _ => cases h1
theorem tab_ok {K : PySem.W.Frag} {w : World} {a : Addr} {xs : List Str} (e : tabX K a = tabDue w xs) : ∃ es n, KDict K w a es n := by
  unfold tabX at e
  cases q : K.lookup a with
  | none =>
    rw [q] at e
    cases e
  | some o =>
    obtain ⟨oc, od, dt, sl⟩ := o
    rw [q] at e
    cases oc with
    | type c =>
      cases od with
      | none =>
        cases dt with
        | dict es n =>
          have e : (some (es.toList.map fun e => (wordOf e.key, e.hash), decide (c = "dict") && (sl.size == 0 && !(a == sysModules))) : TbX) = some (xs.map fun x => (some x, PyData.keyHash w.params x), true) := e
          simp only [Option.some.injEq, Prod.mk.injEq] at e
          obtain ⟨e1, e2⟩ := e
          obtain ⟨c1, c2⟩ := He.ba e2
          obtain ⟨c3, c4⟩ := He.ba c2
          have hc := of_decide_eq_true c1
          have hs : sl = #[] := Array.eq_empty_of_size_eq_zero (by simpa using c3)
          subst hc
          subst hs
          exact ⟨es, n, q, lit_of _ _ _ e1, by simpa using c4⟩
        | _ => cases e
      | some d => cases dt <;> cases e
    | _ => cases od <;> cases dt <;> cases e
/-- the getter of a property -/
def gt (K : PySem.W.Frag) (C p : Str) : Addr := match PySem.W.recIn K (He.ma K (He.ga K C) p) "property" with
  | some (.ref g :: _) => g
  | _ => 0
def bCls (C : Str) (K : PySem.W.Frag) : Bool := (He.Fa.cls C).ok K
def bMk (C : Str) (K : PySem.W.Frag) : Bool := (He.Fa.mkr C).ok K
def bMeth (C m : Str) (K : PySem.W.Frag) : Bool := (He.Fa.meth C m).ok K
def bNo (C f : Str) (K : PySem.W.Frag) : Bool := (He.Fa.noat C f).ok K
def bGlo (x : Str) (K : PySem.W.Frag) : Bool := (He.Fa.glo x).ok K
def bFree (x : Str) (K : PySem.W.Frag) : Bool := (He.Fa.free x).ok K
def bProp (C f : Str) (K : PySem.W.Frag) : Bool := He.eqO (PySem.W.findIn K (.ref (He.ga K C)) f) (some (some (.ref (He.ma K (He.ga K C) f)))) && (He.eqO (PySem.W.specialIn K (.ref (He.ma K (He.ga K C) f)) "__get__") (some (some (.builtin "property.__get__"))) && (decide (PySem.W.takesIn K (.ref (He.ma K (He.ga K C) f)) = some true) && (match PySem.W.recIn K (He.ma K (He.ga K C) f) "property" with
  | some (.ref _ :: _) => true
  | _ => false)))
def bBlt (x : Str) (b : String) (K : PySem.W.Frag) : Bool := He.eqO (PySem.W.nsIn K mainGlobals x) (some (some (.builtin b)))
/-- nobody has set the limit of digits -/
def bNoDig (K : PySem.W.Frag) : Bool := He.eqO (PySem.W.nsIn K cStatics "sys.int_max_str_digits") (some none)
/-- an entry of a dict of a global name: a text, an int -/
def bInt (a x : Str) (i : Int) (K : PySem.W.Frag) : Bool := match PySem.W.nsIn K (He.ga K a) x with
  | some (some (.int j _)) => decide (j = i)
  | _ => false
theorem prop_ok {K : PySem.W.Frag} {C f : Str} (c : bProp C f K = true) : PropOf K (He.ga K C) f (He.ma K (He.ga K C) f) (gt K C f) := by
  obtain ⟨c1, c⟩ := He.ba c
  obtain ⟨c2, c⟩ := He.ba c
  obtain ⟨c3, c4⟩ := He.ba c
  refine ⟨He.eqO_ok c1, He.eqO_ok c2, of_decide_eq_true c3, ?_⟩
  unfold gt
  cases q : PySem.W.recIn K (He.ma K (He.ga K C) f) "property" with
  | none =>
    rw [q] at c4
    cases c4
  | some l =>
    rw [q] at c4
    cases l with
    | nil => cases c4
    | cons v r =>
      cases v with
      | ref g => exact ⟨r, rfl⟩
      | _ => cases c4
theorem blt_ok {K : PySem.W.Frag} {h : Heap} {mg : Str → Option Value} (X : K.In h) (G : h.Ns mainGlobals mg) {x : Str} {b : String} (c : bBlt x b K = true) : mg x = some (.builtin b) := PySem.W.mg_of X G (He.eqO_ok c)
theorem dint_ok {K : PySem.W.Frag} {a x : Str} {i : Int} (c : bInt a x i K = true) : ∃ t, PySem.W.nsIn K (He.ga K a) x = some (some (.int i t)) := by
  unfold bInt at c
  cases q : PySem.W.nsIn K (He.ga K a) x with
  | none =>
    rw [q] at c
    cases c
  | some o =>
    rw [q] at c
    cases o with
    | none => cases c
    | some v =>
      cases v with
      | int j t =>
        have e := of_decide_eq_true c
        subst e
        exact ⟨t, rfl⟩
      | _ => cases c
abbrev AlX : Type := Bool × Bool × List RwX × List TbX
structure Lk where
  fb : List (PySem.W.Frag → Bool)
  ds : List DfX
  tb : List (Str × List Str)
def Lk.seen (L : Lk) (K : PySem.W.Frag) : AlX := (L.fb.all fun f => f K, L.ds.all fun d => d.good K, L.ds.map (·.seen K), L.tb.map fun t => tabX K (He.ga K t.1))
def Lk.due (L : Lk) (w : World) : AlX := (true, true, L.ds.map (·.due), L.tb.map fun t => tabDue w t.2)
/-- a list of objects, its addresses read once -/
def frK {α : Type} : PySem.W.Frag → (PySem.W.Frag → α) → α
  | [], k => k []
  | (a, o) :: r, k => HandSHeadRun.frNat a fun a => frK r fun r => k ((a, o) :: r)
theorem frK_eq {α : Type} : ∀ (K : PySem.W.Frag) (k : PySem.W.Frag → α), frK K k = k K
  | [], k => rfl
  | (a, o) :: r, k => by
    show HandSHeadRun.frNat a (fun a => frK r fun r => k ((a, o) :: r)) = _
    rw [HandSHeadRun.frNat_eq, frK_eq r]
/-- the first n objects -/
def Lk.off (L : Lk) (n : Nat) (g : Addr → Option Obj) : AlX := frK (He.frG g (List.range n)) fun K => L.seen K
def Lk.hook (L : Lk) (n : Nat) : PySem.W.Hook where
  α := AlX
  obs := fun s => L.off n s.heap.get?
  val := L.due
  says := fun w h => ∃ K : PySem.W.Frag, K.In h ∧ L.seen K = L.due w
  of := fun _ _ e => ⟨_, He.frG_in, (frK_eq _ _).symm.trans e⟩
  keeps := fun _ _ _ ⟨K, hK, c⟩ k => ⟨K, PySem.W.Frag.In.keeps hK k, c⟩
theorem Lk.off_eq {L : Lk} {n : Nat} {g : Addr → Option Obj} {s : Shared} (h : ∀ a, g a = s.heap.get? a) : L.off n g = (L.hook n).obs s := by
  have e : g = s.heap.get? := funext h
  rw [e] <;> rfl
section
variable {L : Lk} {K : PySem.W.Frag} {w : World}
theorem Lk.fact (c : L.seen K = L.due w) (i : Nat) {f : PySem.W.Frag → Bool} (h : L.fb[i]? = some f := by rfl) : f K = true := List.all_eq_true.mp (congrArg (fun z : AlX => z.1) c) f (List.mem_of_getElem? h)
theorem Lk.df (c : L.seen K = L.due w) (i : Nat) {d : DfX} (h : L.ds[i]? = some d := by rfl) : ∃ fd, Fun K d.nm d.ql d.st (d.adr K) fd := by
  have c2 : (L.ds.all fun d => d.good K) = true := congrArg (fun z : AlX => z.2.1) c
  have e : L.ds.map (·.seen K) = L.ds.map (·.due) := congrArg (fun z : AlX => z.2.2.1) c
  have e2 : (L.ds.map (·.seen K))[i]? = (L.ds.map (·.due))[i]? := by rw [e]
  rw [List.getElem?_map, List.getElem?_map, h] at e2
  exact DfX.fun_ (Option.some.inj e2) (List.all_eq_true.mp c2 d (List.mem_of_getElem? h))
theorem Lk.tab (c : L.seen K = L.due w) (i : Nat) {t : Str × List Str} (h : L.tb[i]? = some t := by rfl) : ∃ es n, KDict K w (He.ga K t.1) es n := by
  have e : (L.tb.map fun t => tabX K (He.ga K t.1)) = L.tb.map fun t => tabDue w t.2 := congrArg (fun z : AlX => z.2.2.2) c
  have e2 : (L.tb.map fun t => tabX K (He.ga K t.1))[i]? = (L.tb.map fun t => tabDue w t.2)[i]? := by rw [e]
  rw [List.getElem?_map, List.getElem?_map, h] at e2
  exact tab_ok (Option.some.inj e2)
end
/-- the run of a program with imports at its head -/
noncomputable abbrev whK (M : Nat) (r : PySem.W.OpenRow) (w : World) : Option (Shared × PySem.W.SharedT) := HandSHeadRun.wholeF (fun p => HandSHeadRun.stepQ (HandSHeadRun.denQ HandSHeadRun.tabQ) p w) HandSHeadRun.fenceQ M r.prog
noncomputable def lk0 (r : PySem.W.OpenRow) (q : Program) (loose : List Str) (x : Shared × PySem.W.SharedT) := (HandSHeadRun.looksF r.prog x.1.heap x.2.abs, HandSHeadRun.seenQ q loose (importedModules r.prog.main.body) (fun s => PySem.W.xlAt q [] s && PySem.W.recOk r.toRowW.records s) x.2.abs)
def lk1 (L : Lk) (n : Nat) (x : Shared × PySem.W.SharedT) : Bool × List TbX := frK (He.frG (HandSHeadRun.getT x.2) (List.range n)) fun K => (L.fb.all fun f => f K, L.tb.map fun t => tabX K (He.ga K t.1))
def lk2 (L : Lk) (n : Nat) (x : Shared × PySem.W.SharedT) : Bool := frK (He.frG (HandSHeadRun.getT x.2) (List.range n)) fun K => L.ds.all fun d => d.good K
def lk3 (L : Lk) (n : Nat) (x : Shared × PySem.W.SharedT) : List RwX := frK (He.frG (HandSHeadRun.getT x.2) (List.range n)) fun K => L.ds.map (·.seen K)
theorem Lk.run_parts {L : Lk} {n M : Nat} {r : PySem.W.OpenRow} {q : Program} {loose : List Str} {w : World} (h0 : (whK M r w).map (lk0 r q loose) = some (true, PySem.W.openGood q loose))
    (h1 : (whK M r w).map (lk1 L n) = some (true, L.tb.map fun t => tabDue w t.2)) (h2 : (whK M r w).map (lk2 L n) = some true) (h3 : (whK M r w).map (lk3 L n) = some (L.ds.map (·.due))) :
    HandSHeadRun.RunEqI r q (L.hook n) (fun s => L.off n (HandSHeadRun.getT s)) M loose w := by
  unfold HandSHeadRun.RunEqI
  show (whK M r w).map _ = _
  cases e : whK M r w with
  | none =>
    rw [e] at h0
    cases h0
  | some x =>
    rw [e] at h0 h1 h2 h3
    have h0 := Option.some.inj h0
    have h1 := Option.some.inj h1
    have h2 := Option.some.inj h2
    have h3 := Option.some.inj h3
    unfold lk0 at h0
    unfold lk1 at h1
    unfold lk2 at h2
    unfold lk3 at h3
    rw [frK_eq] at h1 h2 h3
    obtain ⟨a1, a2⟩ := Prod.mk.inj h0
    obtain ⟨b1, b2⟩ := Prod.mk.inj h1
    refine congrArg some ?_
    refine Prod.ext a1 (Prod.ext a2 ?_)
    show L.off n (HandSHeadRun.getT x.2) = L.due w
    unfold Lk.off
    rw [frK_eq]
    exact Prod.ext b1 (Prod.ext h2 (Prod.ext h3 b2))
theorem walk_GE {l : PySem.W.OpenLaw} {n k : Nat} {q : Program} {loose : List Str} {XP : (Str → Option Value) → Heap → Prop} {YP : World → Heap → Prop} {d : DefRec} {x : Str}
    (hn : l.most = some n) (hn2 : n ≤ sizeLine) (hdf : d.params.defaults = []) (hr : Room k callerA)
    (F : ∀ (w : World) (mg : Str → Option Value) (fa : Addr) (h : Heap), YP w h → h.Ns mainGlobals mg → mg d.name = some (.ref fa) →
      ∃ (K : PySem.W.Frag) (fd : FuncData) (sp : Sp), K.In h ∧ (∀ (s : Shared) (u : Value), BindsTo s fd ⟨[u], []⟩ [(x, u)]) ∧
        (∀ (H : Hp) (a : Addr) (ns : List Int), ns.length ≤ n → Only H → SqL K H a (ns.map V.int) → sp [.ref a] H (fun v _ => v = .bl true) fun _ _ _ => False) ∧
        ∀ base : Heap, K.In base → base.Ns mainGlobals mg → FnG l.prog w K mg base k fa fd [x] sp) :
    PySem.W.WalkO q loose XP YP l.row.toRowW d [] (fun f us => PySem.call f us) := by
  apply Att.attach_call hn hdf
  intro w s₀ s₁ mg mb fa o pm cd doc a vs ns G Y ho hd hcd hmg hobj hints hlen hg
  obtain ⟨K, fd, sp, KX, hb, hsp, hF⟩ := F w mg fa _ Y G.T.g hmg
  exact law_G KX G.T.g G.T.b G.T.builtins G.T.nolimit hg hobj hints (Nat.le_trans hlen hn2) hr hF hb fun H hO hS => hsp H a ns hlen hO hS
end V2


namespace V2
open PySem L2
open PySem.Spec PyProof.Rows
/-- what the written part says of an own class of errors, whose __init__ is fI's -/
structure EC (K : PySem.W.Frag) (C fI : Addr) : Prop where
  ox : OexC K C
  noV : PySem.W.findIn K (.ref C) "value" = some none
  iC : PySem.W.findIn K (.ref C) "__init__" = some (some (.ref fI))
  xf : XfC K C
  hcl : (PySem.W.clsIn K C).isSome = true
  ha : PySem.W.findIn K (.ref C) "__class__" = some (some (.builtin "object.__class__"))
  hm : PySem.W.mroIn K C (.type "object") = some true
/-- what is said for all of them -/
structure EG (K : PySem.W.Frag) (fI : Addr) : Prop where
  tI : PySem.W.typeIn K (.ref fI) = some (.type "function")
  hn : PySem.W.specialIn K (.builtin "object.__class__") "__get__" = some (some (.builtin "getset_descriptor.__get__"))
  ht : PySem.W.takesIn K (.builtin "object.__class__") = some true
/-- an error of the class at C, made with v, stands at e with its dict at d -/
structure Er (H : Hp) (e C d : Addr) (v : V) : Prop where
  at_ : H e = some (exo e C (some d))
  dict : H d = some (exd d [("value", v)])
theorem Er.ex {H H' : Hp} {e C d : Addr} {v : V} (h : Er H e C d v) (x : Evl.Ex H H') : Er H' e C d v := ⟨x _ _ h.at_, x _ _ h.dict⟩
def spInit (K : PySem.W.Frag) : Sp := fun vs H Q _ => ∃ (a C : Addr) (y : V), vs = [.ref a, y] ∧ OexC K C ∧ PySem.W.findIn K (.ref C) "value" = some none ∧ H a = some (exo a C none) ∧
  ∀ dx, H dx = none → dx ≠ a → Q .non (upd (upd H dx (exd dx [("value", y)])) a (exo a C (some dx)))
section
variable {base : Heap} {mg : Str → Option Value} {K : PySem.W.Frag} {w : World} {P : Program}
theorem ok_TE_init {f : Addr} {fd : FuncData} (F : Fun K "__init__" "TankError.__init__" s_TE_init f fd) : FnOk P w K mg base CX0 1 f fd p_TE_init (spInit K) := by
  refine F.ok sc_TE_init (fun vs H Q E h => ?_) (fun cdv A outer s H vs Q E hr h => ?_)
  · obtain ⟨a, C, y, rfl, _⟩ := h
    rfl
  · obtain ⟨a, C, y, rfl, T, hno, ha, k⟩ := h
    have nd := sc_TE_init.nd
    refine ⟨_, pss_one (ps_ost (pv 0) (pv 1)), ?_⟩
    exact ⟨_, rfl, _, rfl, a, C, rfl, T, hno, .inl ⟨ha, fun dx hd hn => k dx hd hn⟩⟩
end
section
variable {X : Cx} {x : Str} {C fI : Addr} {k : Nat} {fd : FuncData} {e : Expr} {ta : TA} {p pos : Pos}
end
end V2


namespace V2
open PySem L2
open PySem.Spec PyProof.Rows
abbrev eI (K : PySem.W.Frag) : Addr := He.ma K (He.ga K "TankError") "__init__"
def bObj (K : PySem.W.Frag) (C : Addr) : Bool := match K.lookup C with
  | some ⟨.type "type", _, .cls cd, sl⟩ => (match cd.mro, sl.toList with
    | .ref C' :: bm, [_, _, _, _, some (.builtin n), _] => C' == C && n == "ValueError.__new__" && !cd.hasDel && cd.hasDict && PySem.HandSPX.refsVE bm
    | _, _ => false)
  | _ => false
theorem obj_ok {K : PySem.W.Frag} {C : Addr} (q : bObj K C = true) : ∃ nm qn N bs bm sn sub ab col dd k0 k1 k2 k3 k5, K.lookup C = some (excClassObj nm qn C N bs bm true sn sub ab col dd k0 k1 k2 k3 k5 "ValueError.__new__") ∧ PySem.HandSPX.refsVE bm = true := by
  unfold bObj at q
  split at q
  · rename_i dd cd sl ho
    split at q
    · rename_i C' bm k0 k1 k2 k3 n k5 hm hs
      simp only [Bool.and_eq_true, beq_iff_eq, Bool.not_eq_true'] at q
      obtain ⟨⟨⟨⟨rfl, rfl⟩, hdel⟩, hdi⟩, hbm⟩ := q
      obtain ⟨nm, bs, mro, ns, qn, hd, sn, sub, ab, col, del⟩ := cd
      dsimp only at hm hdel hdi
      subst hm hdel hdi
      have hsl : sl = #[k0, k1, k2, k3, some (.builtin "ValueError.__new__"), k5] := by
        obtain ⟨l⟩ := sl
        simp only at hs
        rw [hs]
      subst hsl
      exact ⟨nm, qn, ns, bs, bm, sn, sub, ab, col, dd, k0, k1, k2, k3, k5, ho, hbm⟩
    · cases q
  · cases q
def bErr (x : Str) (K : PySem.W.Frag) : Bool := bObj K (He.ga K x) && (He.eqO (PySem.W.findIn K (.ref (He.ga K x)) "__setattr__") (some (some (.builtin "object.__setattr__"))) && (decide (PySem.W.typeIn K (.ref (He.ga K x)) = some (.type "type")) && (PySem.W.keepIn K (.ref (He.ga K x)) &&
  (He.eqO (PySem.W.findIn K (.ref (He.ga K x)) "value") (some none) && (He.eqO (PySem.W.findIn K (.ref (He.ga K x)) "__init__") (some (some (.ref (eI K)))) && (xfB K (He.ga K x) && ((PySem.W.clsIn K (He.ga K x)).isSome &&
  (He.eqO (PySem.W.findIn K (.ref (He.ga K x)) "__class__") (some (some (.builtin "object.__class__"))) && decide (PySem.W.mroIn K (He.ga K x) (.type "object") = some true)))))))))
theorem err_ok {K : PySem.W.Frag} {x : Str} (c : bErr x K = true) : EC K (He.ga K x) (eI K) := by
  obtain ⟨c1, c⟩ := He.ba c
  obtain ⟨c2, c⟩ := He.ba c
  obtain ⟨c3, c⟩ := He.ba c
  obtain ⟨c4, c⟩ := He.ba c
  obtain ⟨c5, c⟩ := He.ba c
  obtain ⟨c6, c⟩ := He.ba c
  obtain ⟨c7, c⟩ := He.ba c
  obtain ⟨c8, c⟩ := He.ba c
  obtain ⟨c9, c10⟩ := He.ba c
  have xf := xfB_ok c7
  exact ⟨⟨obj_ok c1, He.eqO_ok c2, xf.exC, of_decide_eq_true c3, c4⟩, He.eqO_ok c5, He.eqO_ok c6, xf, c8, He.eqO_ok c9, of_decide_eq_true c10⟩
def bEG (K : PySem.W.Frag) : Bool := decide (PySem.W.typeIn K (.ref (eI K)) = some (.type "function")) && (He.eqO (PySem.W.specialIn K (.builtin "object.__class__") "__get__") (some (some (.builtin "getset_descriptor.__get__"))) && decide (PySem.W.takesIn K (.builtin "object.__class__") = some true))
theorem eg_ok {K : PySem.W.Frag} (c : bEG K = true) : EG K (eI K) := by
  obtain ⟨c1, c⟩ := He.ba c
  obtain ⟨c2, c3⟩ := He.ba c
  exact ⟨of_decide_eq_true c1, He.eqO_ok c2, of_decide_eq_true c3⟩
def bSub (x y : Str) (b : Bool) (K : PySem.W.Frag) : Bool := decide (PySem.W.subIn K (.ref (He.ga K x)) (.ref (He.ga K y)) = some b)
theorem sub_ok {K : PySem.W.Frag} {x y : Str} {b : Bool} (c : bSub x y b K = true) : PySem.W.subIn K (.ref (He.ga K x)) (.ref (He.ga K y)) = some b := of_decide_eq_true c
def bKit (x y : Str) (b : Bool) (K : PySem.W.Frag) : Bool := decide (PySem.W.kitOne K (.ref (He.ga K x)) (.ref (He.ga K y)) = some b)
theorem kit_ok {K : PySem.W.Frag} {x y : Str} {b : Bool} (c : bKit x y b K = true) : PySem.W.kitOne K (.ref (He.ga K x)) (.ref (He.ga K y)) = some b := of_decide_eq_true c
def bKitV (x : Str) (K : PySem.W.Frag) : Bool := decide (PySem.W.kitOne K (.ref (He.ga K x)) (.type "ValueError") = some true)
theorem kitv_ok {K : PySem.W.Frag} {x : Str} (c : bKitV x K = true) : PySem.W.kitOne K (.ref (He.ga K x)) (.type "ValueError") = some true := of_decide_eq_true c
end V2


namespace V2
open PySem L2
open PySem.Spec PyProof.Rows
def nm0 : List Str := ["gcd", "order_of_fractions", "sign_of", "cut", "negated", "added", "multiplied", "scaled_value", "sign_at_fraction", "content", "primitive", "upright", "remainder", "quotient", "common_factor", "TankError", "InvalidTank", "InvalidStep", "UnknownTank", "UnknownStep"]
def nm1 : List Str := ["InvalidFraction", "InvalidRange", "copied", "is_integer", "is_fraction", "check_width", "reduced", "told_widths", "first_water", "sum_of", "together", "after", "opened", "poured", "taken", "lead", "ahead", "levels", "number_of", "is_ended"]
def nm2 : List Str := ["told_levels", "run_of", "run", "THINGS", "is_amount", "is_tank", "check_tanks", "is_ascending", "is_step", "tanks_of", "check_numbers", "check_part", "check_step", "check_index", "check_exchange", "Script", "_law_purse", "_law_coin", "_law_wl_divisor", "_law_wl_ratio"]
def nm3 : List Str := ["_law_wl_trim", "_law_wl_add", "_law_wl_mul", "_law_wl_made", "_law_wl_start", "_law_wl_after", "_law_wl_apart", "_law_wl_run", "_law_wl_part", "_law_wl_two", "_law_wl_vats", "_law_wl_deed", "_law_wl_plan", "_law_wl_great", "_law_wl_width", "_law_wl_road", "_law_wl_roaded", "_law_wl_wrong_width", "_law_refused_right", "_law_right"]
def nms : List Str := nm0 ++ nm1 ++ nm2 ++ nm3
def dfs0 : List DfX := [⟨(fun K => He.ga K "order_of_fractions"), "order_of_fractions", "order_of_fractions", s_order_of_fractions⟩, ⟨(fun K => He.ga K "sign_of"), "sign_of", "sign_of", s_sign_of⟩, ⟨(fun K => He.ga K "cut"), "cut", "cut", s_cut⟩, ⟨(fun K => He.ga K "negated"), "negated", "negated", s_negated⟩, ⟨(fun K => He.ga K "added"), "added", "added", s_added⟩, ⟨(fun K => He.ga K "multiplied"), "multiplied", "multiplied", s_multiplied⟩, ⟨(fun K => He.ga K "scaled_value"), "scaled_value", "scaled_value", s_scaled_value⟩, ⟨(fun K => He.ga K "sign_at_fraction"), "sign_at_fraction", "sign_at_fraction", s_sign_at_fraction⟩, ⟨(fun K => He.ga K "content"), "content", "content", s_content⟩, ⟨(fun K => He.ga K "primitive"), "primitive", "primitive", s_primitive⟩, ⟨(fun K => He.ga K "upright"), "upright", "upright", s_upright⟩, ⟨(fun K => He.ga K "remainder"), "remainder", "remainder", s_remainder⟩, ⟨(fun K => He.ga K "quotient"), "quotient", "quotient", s_quotient⟩, ⟨(fun K => He.ga K "common_factor"), "common_factor", "common_factor", s_common_factor⟩, ⟨(fun K => He.ga K "copied"), "copied", "copied", s_copied⟩, ⟨(fun K => He.ga K "is_integer"), "is_integer", "is_integer", s_is_integer⟩, ⟨(fun K => He.ga K "is_fraction"), "is_fraction", "is_fraction", s_is_fraction⟩, ⟨(fun K => He.ga K "check_width"), "check_width", "check_width", s_check_width⟩, ⟨(fun K => He.ga K "reduced"), "reduced", "reduced", s_reduced⟩, ⟨(fun K => He.ga K "told_widths"), "told_widths", "told_widths", s_told_widths⟩]
def dfs1 : List DfX := [⟨(fun K => He.ga K "first_water"), "first_water", "first_water", s_first_water⟩, ⟨(fun K => He.ga K "sum_of"), "sum_of", "sum_of", s_sum_of⟩, ⟨(fun K => He.ga K "together"), "together", "together", s_together⟩, ⟨(fun K => He.ga K "after"), "after", "after", s_after⟩, ⟨(fun K => He.ga K "opened"), "opened", "opened", s_opened⟩, ⟨(fun K => He.ga K "poured"), "poured", "poured", s_poured⟩, ⟨(fun K => He.ga K "taken"), "taken", "taken", s_taken⟩, ⟨(fun K => He.ga K "lead"), "lead", "lead", s_lead⟩, ⟨(fun K => He.ga K "ahead"), "ahead", "ahead", s_ahead⟩, ⟨(fun K => He.ga K "levels"), "levels", "levels", s_levels⟩, ⟨(fun K => He.ga K "number_of"), "number_of", "number_of", s_number_of⟩, ⟨(fun K => He.ga K "is_ended"), "is_ended", "is_ended", s_is_ended⟩, ⟨(fun K => He.ga K "told_levels"), "told_levels", "told_levels", s_told_levels⟩, ⟨(fun K => He.ga K "run_of"), "run_of", "run_of", s_run_of⟩, ⟨(fun K => He.ga K "run"), "run", "run", s_run⟩, ⟨(fun K => He.ga K "is_amount"), "is_amount", "is_amount", s_is_amount⟩, ⟨(fun K => He.ga K "is_tank"), "is_tank", "is_tank", s_is_tank⟩, ⟨(fun K => He.ga K "check_tanks"), "check_tanks", "check_tanks", s_check_tanks⟩, ⟨(fun K => He.ga K "is_ascending"), "is_ascending", "is_ascending", s_is_ascending⟩, ⟨(fun K => He.ga K "is_step"), "is_step", "is_step", s_is_step⟩]
def dfs2 : List DfX := [⟨(fun K => He.ga K "tanks_of"), "tanks_of", "tanks_of", s_tanks_of⟩, ⟨(fun K => He.ga K "check_numbers"), "check_numbers", "check_numbers", s_check_numbers⟩, ⟨(fun K => He.ga K "check_part"), "check_part", "check_part", s_check_part⟩, ⟨(fun K => He.ga K "check_step"), "check_step", "check_step", s_check_step⟩, ⟨(fun K => He.ga K "check_index"), "check_index", "check_index", s_check_index⟩, ⟨(fun K => He.ga K "check_exchange"), "check_exchange", "check_exchange", s_check_exchange⟩, ⟨(fun K => He.ga K "_law_purse"), "_law_purse", "_law_purse", s_l_purse⟩, ⟨(fun K => He.ga K "_law_coin"), "_law_coin", "_law_coin", s_l_coin⟩, ⟨(fun K => He.ga K "_law_wl_divisor"), "_law_wl_divisor", "_law_wl_divisor", s_l_divisor⟩, ⟨(fun K => He.ga K "_law_wl_ratio"), "_law_wl_ratio", "_law_wl_ratio", s_l_ratio⟩, ⟨(fun K => He.ga K "_law_wl_trim"), "_law_wl_trim", "_law_wl_trim", s_l_trim⟩, ⟨(fun K => He.ga K "_law_wl_add"), "_law_wl_add", "_law_wl_add", s_l_add⟩, ⟨(fun K => He.ga K "_law_wl_mul"), "_law_wl_mul", "_law_wl_mul", s_l_mul⟩, ⟨(fun K => He.ga K "_law_wl_made"), "_law_wl_made", "_law_wl_made", s_l_made⟩, ⟨(fun K => He.ga K "_law_wl_start"), "_law_wl_start", "_law_wl_start", s_l_start⟩, ⟨(fun K => He.ga K "_law_wl_after"), "_law_wl_after", "_law_wl_after", s_l_after⟩, ⟨(fun K => He.ga K "_law_wl_apart"), "_law_wl_apart", "_law_wl_apart", s_l_apart⟩, ⟨(fun K => He.ga K "_law_wl_run"), "_law_wl_run", "_law_wl_run", s_l_run⟩, ⟨(fun K => He.ga K "_law_wl_part"), "_law_wl_part", "_law_wl_part", s_l_part⟩, ⟨(fun K => He.ga K "_law_wl_two"), "_law_wl_two", "_law_wl_two", s_l_two⟩]
def dfs3 : List DfX := [⟨(fun K => He.ga K "_law_wl_vats"), "_law_wl_vats", "_law_wl_vats", s_l_vats⟩, ⟨(fun K => He.ga K "_law_wl_deed"), "_law_wl_deed", "_law_wl_deed", s_l_deed⟩, ⟨(fun K => He.ga K "_law_wl_plan"), "_law_wl_plan", "_law_wl_plan", s_l_plan⟩, ⟨(fun K => He.ga K "_law_wl_great"), "_law_wl_great", "_law_wl_great", s_l_great⟩, ⟨(fun K => He.ga K "_law_wl_width"), "_law_wl_width", "_law_wl_width", s_l_width⟩, ⟨(fun K => He.ga K "_law_wl_road"), "_law_wl_road", "_law_wl_road", s_l_road⟩, ⟨(fun K => He.ga K "_law_wl_roaded"), "_law_wl_roaded", "_law_wl_roaded", s_l_roaded⟩, ⟨(fun K => He.ga K "_law_wl_wrong_width"), "_law_wl_wrong_width", "_law_wl_wrong_width", s_l_wrong_width⟩, ⟨(fun K => He.ga K "_law_refused_right"), "_law_refused_right", "_law_refused_right", s_l_refused_right⟩, ⟨(fun K => He.ga K "_law_right"), "_law_right", "_law_right", s_l_right⟩, ⟨(fun K => He.ga K "law"), "law", "law", s_law⟩, ⟨(fun K => He.ma K (He.ga K "TankError") "__init__"), "__init__", "TankError.__init__", s_TE_init⟩, ⟨(fun K => He.ma K (He.ga K "Script") "__init__"), "__init__", "Script.__init__", s_Sc_init⟩, ⟨(fun K => gt K "Script" "tanks"), "tanks", "Script.tanks", s_Sc_tanks⟩, ⟨(fun K => gt K "Script" "steps"), "steps", "Script.steps", s_Sc_steps⟩, ⟨(fun K => He.ma K (He.ga K "Script") "without"), "without", "Script.without", s_Sc_without⟩, ⟨(fun K => He.ma K (He.ga K "Script") "exchanged"), "exchanged", "Script.exchanged", s_Sc_exchanged⟩]
def fbs0 : List (PySem.W.Frag → Bool) := [bGlo "order_of_fractions", bGlo "sign_of", bGlo "cut", bGlo "negated", bGlo "added", bGlo "multiplied", bGlo "scaled_value", bGlo "sign_at_fraction", bGlo "content", bGlo "primitive", bGlo "upright", bGlo "remainder", bGlo "quotient", bGlo "common_factor", bGlo "copied", bGlo "is_integer", bGlo "is_fraction", bGlo "check_width", bGlo "reduced", bGlo "told_widths"]
def fbs1 : List (PySem.W.Frag → Bool) := [bGlo "first_water", bGlo "sum_of", bGlo "together", bGlo "after", bGlo "opened", bGlo "poured", bGlo "taken", bGlo "lead", bGlo "ahead", bGlo "levels", bGlo "number_of", bGlo "is_ended", bGlo "told_levels", bGlo "run_of", bGlo "run", bGlo "is_amount", bGlo "is_tank", bGlo "check_tanks", bGlo "is_ascending", bGlo "is_step"]
def fbs2 : List (PySem.W.Frag → Bool) := [bGlo "tanks_of", bGlo "check_numbers", bGlo "check_part", bGlo "check_step", bGlo "check_index", bGlo "check_exchange", bGlo "_law_purse", bGlo "_law_coin", bGlo "_law_wl_divisor", bGlo "_law_wl_ratio", bGlo "_law_wl_trim", bGlo "_law_wl_add", bGlo "_law_wl_mul", bGlo "_law_wl_made", bGlo "_law_wl_start", bGlo "_law_wl_after", bGlo "_law_wl_apart", bGlo "_law_wl_run", bGlo "_law_wl_part", bGlo "_law_wl_two"]
def fbs3 : List (PySem.W.Frag → Bool) := [bGlo "_law_wl_vats", bGlo "_law_wl_deed", bGlo "_law_wl_plan", bGlo "_law_wl_great", bGlo "_law_wl_width", bGlo "_law_wl_road", bGlo "_law_wl_roaded", bGlo "_law_wl_wrong_width", bGlo "_law_refused_right", bGlo "_law_right", bGlo "law", bEG, bGlo "TankError", bGlo "InvalidFraction", bErr "InvalidFraction", bKitV "InvalidFraction", bSub "InvalidFraction" "InvalidFraction" true, bKit "InvalidFraction" "TankError" true, bKit "InvalidFraction" "InvalidRange" false, bGlo "InvalidRange"]
def fbs4 : List (PySem.W.Frag → Bool) := [bGlo "Script", bCls "Script", bMk "Script", bProp "Script" "tanks", bProp "Script" "steps", bMeth "Script" "without", bMeth "Script" "exchanged", bNo "Script" "_steps", bNo "Script" "_tanks", bGlo "THINGS", bInt "THINGS" "open" 2, bInt "THINGS" "pour" 3, bInt "THINGS" "scoop" 3, bInt "THINGS" "move" 4, bInt "THINGS" "unless" 3, bFree "ValueError", bFree "abs", bFree "all", bFree "bool", bFree "enumerate"]
def fbs5 : List (PySem.W.Frag → Bool) := [bFree "int", bFree "isinstance", bFree "len", bFree "list", bFree "max", bFree "min", bFree "range", bFree "repr", bFree "str", bFree "sum", bFree "tuple", bBlt "gcd" "math.gcd", bNoDig]
def lk : Lk := ⟨fbs0 ++ fbs1 ++ fbs2 ++ fbs3 ++ fbs4 ++ fbs5, dfs0 ++ dfs1 ++ dfs2 ++ dfs3, [("THINGS", ["open", "pour", "scoop", "move", "unless"])]⟩
abbrev rwK : PySem.W.OpenRow := PySem.W.OpenLaw.row PySem.Challenge.rw_valvelevels_k15_runs_at_told_widths
abbrev vwK : Program := PySem.W.view rwK.prog [0, 89]
theorem run0F (w : World) : (whK 12000 rwK (w.withFollow "special-get-raises" false)).map (lk0 rwK vwK nms) = some (true, PySem.W.openGood vwK nms) := by
  kernel_rfl
theorem run0T (w : World) : (whK 12000 rwK (w.withFollow "special-get-raises" true)).map (lk0 rwK vwK nms) = some (true, PySem.W.openGood vwK nms) := by
  kernel_rfl
theorem run1F (w : World) : (whK 12000 rwK (w.withFollow "special-get-raises" false)).map (lk1 lk 900) = some (true, lk.tb.map fun t => tabDue (w.withFollow "special-get-raises" false) t.2) := by
  kernel_rfl
theorem run1T (w : World) : (whK 12000 rwK (w.withFollow "special-get-raises" true)).map (lk1 lk 900) = some (true, lk.tb.map fun t => tabDue (w.withFollow "special-get-raises" true) t.2) := by
  kernel_rfl
theorem run2F (w : World) : (whK 12000 rwK (w.withFollow "special-get-raises" false)).map (lk2 lk 900) = some true := by
  kernel_rfl
theorem run2T (w : World) : (whK 12000 rwK (w.withFollow "special-get-raises" true)).map (lk2 lk 900) = some true := by
  kernel_rfl
theorem run3F (w : World) : (whK 12000 rwK (w.withFollow "special-get-raises" false)).map (lk3 lk 900) = some (lk.ds.map (·.due)) := by
  kernel_rfl
theorem run3T (w : World) : (whK 12000 rwK (w.withFollow "special-get-raises" true)).map (lk3 lk 900) = some (lk.ds.map (·.due)) := by
  kernel_rfl
theorem runK (w : World) : HandSHeadRun.RunEqI rwK vwK (lk.hook 900) (fun s => lk.off 900 (HandSHeadRun.getT s)) 12000 nms w :=
  PySem.W.byRow2 "special-get-raises" (P := fun w => HandSHeadRun.RunEqI rwK vwK (lk.hook 900) (fun s => lk.off 900 (HandSHeadRun.getT s)) 12000 nms w) (fun w => Lk.run_parts (run0F w) (run1F w) (run2F w) (run3F w)) (fun w => Lk.run_parts (run0T w) (run1T w) (run2T w) (run3T w)) w
end V2


namespace V2
def cont : List Int → Nat
  | [] => 0
  | x :: r => Nat.gcd x.natAbs (cont r)
def prim (ns : List Int) : List Int := ns.map fun x => x / (cont ns : Int)
theorem cont_dvd : ∀ {ns : List Int} {x : Int}, x ∈ ns → (cont ns : Int) ∣ x
  | y :: r, x, h => by
    rcases (List.mem_cons.mp h) with e | h
    · subst e
      exact Int.ofNat_dvd_left.mpr (Nat.gcd_dvd_left _ _)
    · exact Int.dvd_trans (Int.natCast_dvd_natCast.mpr (Nat.gcd_dvd_right _ _)) (cont_dvd h)
theorem cont_scale (a : Nat) : ∀ ns : List Int, cont (ns.map fun x => (a : Int) * x) = a * cont ns
  | [] => rfl
  | x :: r => by
    show Nat.gcd ((a : Int) * x).natAbs (cont (r.map fun x => (a : Int) * x)) = a * Nat.gcd x.natAbs (cont r)
    rw [cont_scale a r, Int.natAbs_mul, Int.natAbs_natCast, Nat.gcd_mul_left]
/-- the greatest common divisor, found from the left -/
theorem cont_fold : ∀ (ns : List Int) (g : Nat), ns.foldl (fun g x => Nat.gcd g x.natAbs) g = Nat.gcd g (cont ns)
  | [], g => by show g = Nat.gcd g 0; rw [Nat.gcd_zero_right]
  | x :: r, g => by
    show r.foldl (fun g x => Nat.gcd g x.natAbs) (Nat.gcd g x.natAbs) = Nat.gcd g (Nat.gcd x.natAbs (cont r))
    rw [cont_fold r, Nat.gcd_assoc]
theorem cont_zero : ∀ {ns : List Int}, cont ns = 0 → ∀ x ∈ ns, x = 0 := by
  intro ns h x hx
  have := cont_dvd hx
  rw [h] at this
  exact Int.zero_dvd.mp this
theorem prim_eq {xs ys : List Int} {a b : Nat} (ha : 0 < a) (hb : 0 < b) (h : (xs.map fun x => (a : Int) * x) = ys.map fun x => (b : Int) * x) : prim xs = prim ys := by
  have hc : a * cont xs = b * cont ys := by rw [← cont_scale, ← cont_scale, h]
  have hl : xs.length = ys.length := by
    have := (congrArg List.length h)
    rwa [List.length_map, List.length_map] at this
  refine List.ext_getElem (by unfold prim; rw [List.length_map, List.length_map, hl]) fun i h1 h2 => ?_
  unfold prim at h1 h2 ⊢
  rw [List.length_map] at h1 h2
  rw [List.getElem_map, List.getElem_map]
  have e : (a : Int) * xs[i] = (b : Int) * ys[i] := by
    have e1 : (xs.map fun x => (a : Int) * x)[i]'(by rw [List.length_map]; exact h1) = (ys.map fun x => (b : Int) * x)[i]'(by rw [List.length_map]; exact h2) := by
      simp only [h]
    rwa [List.getElem_map, List.getElem_map] at e1
  obtain ⟨p, hp⟩ := cont_dvd (List.getElem_mem h1)
  obtain ⟨q, hq⟩ := cont_dvd (List.getElem_mem h2)
  rcases Nat.eq_zero_or_pos (cont xs) with z | z
  · have z2 : cont ys = 0 := by
      rw [z, Nat.mul_zero] at hc
      rcases Nat.mul_eq_zero.mp hc.symm with c | c
      · omega
      · exact c
    rw [cont_zero z _ (List.getElem_mem h1), cont_zero z2 _ (List.getElem_mem h2), Int.zero_ediv, Int.zero_ediv]
  · have z2 : 0 < cont ys := by
      rcases Nat.eq_zero_or_pos (cont ys) with c | c
      · rw [c, Nat.mul_zero] at hc
        have := Nat.mul_pos ha z
        omega
      · exact c
    rw [hp, hq, Int.mul_ediv_cancel_left _ (by omega), Int.mul_ediv_cancel_left _ (by omega)]
    rw [hp, hq, ← Int.mul_assoc, ← Int.mul_assoc] at e
    have hcz : (a : Int) * (cont xs : Int) = (b : Int) * (cont ys : Int) := by
      rw [← Int.natCast_mul, ← Int.natCast_mul, hc]
    rw [hcz] at e
    exact Int.eq_of_mul_eq_mul_left (Int.ne_of_gt (Int.mul_pos (by omega) (by omega))) e
def cfF (f g : Nat → Int) : Nat → Nat → Int
  | 0, _ => 0
  | k + 1, i => cfF f g k i + (if k ≤ i then f k * g (i - k) else 0)
theorem cfF_lin (f g h : Nat → Int) (a b : Int) : ∀ k i, cfF f (fun j => a * g j + b * h j) k i = a * cfF f g k i + b * cfF f h k i
  | 0, _ => by show (0 : Int) = a * 0 + b * 0; rw [Int.mul_zero, Int.mul_zero, Int.add_zero]
  | k + 1, i => by
    show cfF f (fun j => a * g j + b * h j) k i + (if k ≤ i then f k * (a * g (i - k) + b * h (i - k)) else 0) = a * (cfF f g k i + (if k ≤ i then f k * g (i - k) else 0)) + b * (cfF f h k i + (if k ≤ i then f k * h (i - k) else 0))
    rw [cfF_lin f g h a b k i]
    split
    · simp only [Int.mul_add, Int.mul_left_comm (f k)]
      omega
    · simp only [Int.add_zero]
theorem cfF_zero (f g : Nat → Int) : ∀ k i, (∀ j, j < k → j ≤ i → f j * g (i - j) = 0) → cfF f g k i = 0
  | 0, _, _ => rfl
  | k + 1, i, h => by
    show cfF f g k i + (if k ≤ i then f k * g (i - k) else 0) = 0
    rw [cfF_zero f g k i fun j h1 h2 => h j (by omega) h2]
    split
    · rename_i c
      rw [h k (by omega) c]
      rfl
    · rfl
/-- one number alone, at place n -/
def dlt (n : Nat) : Nat → Int := fun i => if i = n then 1 else 0
theorem cfF_dlt (f : Nat → Int) (n : Nat) : ∀ k i, cfF f (dlt n) k i = if n ≤ i ∧ i - n < k then f (i - n) else 0
  | 0, i => by show (0 : Int) = _; rw [if_neg (by omega)]
  | k + 1, i => by
    show cfF f (dlt n) k i + (if k ≤ i then f k * dlt n (i - k) else 0) = _
    rw [cfF_dlt f n k i]
    unfold dlt
    by_cases h1 : n ≤ i ∧ i - n < k
    · rw [if_pos h1, if_pos (c := n ≤ i ∧ i - n < k + 1) (by omega)]
      by_cases h3 : k ≤ i
      · rw [if_pos h3, if_neg (by omega), Int.mul_zero, Int.add_zero]
      · rw [if_neg h3, Int.add_zero]
    · rw [if_neg h1, Int.zero_add]
      by_cases h2 : n ≤ i ∧ i - n = k
      · rw [if_pos (c := k ≤ i) (by omega), if_pos (c := i - k = n) (by omega), if_pos (c := n ≤ i ∧ i - n < k + 1) (by omega), Int.mul_one, h2.2]
      · rw [if_neg (c := n ≤ i ∧ i - n < k + 1) (by omega)]
        by_cases h3 : k ≤ i
        · rw [if_pos h3, if_neg (by omega), Int.mul_zero]
        · rw [if_neg h3]
/-- the top of a product -/
theorem cfF_top (f g : Nat → Int) (m n : Nat) (h : ∀ i, n < i → g i = 0) : cfF f g (m + 1) (n + m) = f m * g n := by
  show cfF f g m (n + m) + (if m ≤ n + m then f m * g (n + m - m) else 0) = _
  rw [cfF_zero f g m (n + m) fun j h1 h2 => by rw [h _ (by omega), Int.mul_zero], if_pos (by omega), Nat.add_sub_cancel, Int.zero_add]
theorem cfF_null {f g : Nat → Int} {m : Nat} (hf : f m ≠ 0) (hz : ∀ i, m ≤ i → cfF f g (m + 1) i = 0) : ∀ n, (∀ i, n ≤ i → g i = 0) → ∀ i, g i = 0
  | 0, h, i => h i (Nat.zero_le _)
  | n + 1, h, i => by
    refine cfF_null hf hz n (fun j hj => ?_) i
    rcases Nat.lt_or_ge n j with c | c
    · exact h j c
    · have e : j = n := by omega
      subst e
      have h1 := cfF_top f g m j fun i hi => h i hi
      rw [hz (j + m) (by omega)] at h1
      rcases Int.mul_eq_zero.mp h1.symm with z | z
      · exact absurd z hf
      · exact z
/-- L is what is left of P by B, up to a factor above 0 -/
def Rm (P B L : List Int) : Prop := Pol L ∧ L.length < B.length ∧ ∃ (g : Int) (q : Nat → Int) (N : Nat), 0 < g ∧ (∀ i, N ≤ i → q i = 0) ∧ ∀ i, g * P.getD i 0 = cfF (fun j => B.getD j 0) q B.length i + L.getD i 0
theorem getD_pol {L : List Int} (h : Pol L) {n : Nat} (hn : L.length = n + 1) : L.getD n 0 ≠ 0 := by
  have e : L[n]? = some L[n] := List.getElem?_eq_getElem (by omega)
  rw [getD_at e]
  refine h _ ?_
  have e2 : L.length - 1 = n := by omega
  rw [e2]
  exact e
theorem pol_len {L M : List Int} (hL : Pol L) (hM : Pol M) {a b : Int} (ha : 0 < a) (hb : 0 < b) (h : ∀ i, a * L.getD i 0 = b * M.getD i 0) : L.length ≤ M.length := by
  rcases Nat.lt_or_ge M.length L.length with c | c
  · exfalso
    obtain ⟨n, hn⟩ : ∃ n, L.length = n + 1 := ⟨L.length - 1, by omega⟩
    have h1 := h n
    rw [getD_out (l := M) (by omega), Int.mul_zero] at h1
    rcases Int.mul_eq_zero.mp h1 with z | z
    · omega
    · exact getD_pol hL hn z
  · exact c
theorem Rm.uniq {P B L M : List Int} (hB : Pol B) (h : Rm P B L) (k : Rm P B M) : prim L = prim M := by
  obtain ⟨l1, l2, g, q, N, g0, qz, qe⟩ := h
  obtain ⟨m1, m2, c, r, R, c0, rz, re⟩ := k
  obtain ⟨m, hm⟩ : ∃ m, B.length = m + 1 := ⟨B.length - 1, by omega⟩
  rw [hm] at qe re l2 m2
  have hw : ∀ i, cfF (fun j => B.getD j 0) (fun j => c * q j + (-g) * r j) (m + 1) i = g * M.getD i 0 - c * L.getD i 0 := by
    intro i
    rw [cfF_lin]
    have h1 := qe i
    have h2 := re i
    have h3 : c * (g * P.getD i 0) = g * (c * P.getD i 0) := Int.mul_left_comm _ _ _
    rw [h1, h2, Int.mul_add, Int.mul_add] at h3
    rw [Int.neg_mul]
    omega
  have hz : ∀ i, c * q i + (-g) * r i = 0 := by
    refine cfF_null (f := fun j => B.getD j 0) (g := fun j => c * q j + (-g) * r j) (m := m) (getD_pol hB hm) (fun i hi => ?_) (max N R) (fun i hi => ?_)
    · rw [hw i, getD_out (l := M) (by omega), getD_out (l := L) (by omega), Int.mul_zero, Int.mul_zero]
      rfl
    · show c * q i + (-g) * r i = 0
      rw [qz i (by omega), rz i (by omega), Int.mul_zero, Int.mul_zero]
      rfl
  have he : ∀ i, g * M.getD i 0 = c * L.getD i 0 := by
    intro i
    have := hw i
    rw [cfF_zero _ _ _ _ fun j _ _ => by rw [hz]; exact Int.mul_zero _] at this
    omega
  have hlen : L.length = M.length := Nat.le_antisymm (pol_len l1 m1 c0 g0 fun i => (he i).symm) (pol_len m1 l1 g0 c0 he)
  refine prim_eq (a := c.toNat) (b := g.toNat) (by omega) (by omega) ?_
  refine List.ext_getElem (by rw [List.length_map, List.length_map, hlen]) fun i h1 h2 => ?_
  rw [List.length_map] at h1 h2
  rw [List.getElem_map, List.getElem_map]
  have t := he i
  rw [getD_at (List.getElem?_eq_getElem h1), getD_at (List.getElem?_eq_getElem h2)] at t
  have ec : ((c.toNat : Nat) : Int) = c := Int.toNat_of_nonneg (by omega)
  have eg : ((g.toNat : Nat) : Int) = g := Int.toNat_of_nonneg (by omega)
  exact Eq.trans (congrArg (fun z => z * L[i]) ec) (Eq.trans t.symm (congrArg (fun z => z * M[i]) eg.symm))
theorem trm_getD (ns : List Int) (i : Nat) : (trm ns).getD i 0 = ns.getD i 0 := by
  unfold trm
  by_cases h : i < ns.length - tz ns
  · rw [List.getD_eq_getElem?_getD, List.getD_eq_getElem?_getD, List.getElem?_take, if_pos h]
  · rw [getD_out (by rw [List.length_take]; omega)]
    by_cases h2 : i < ns.length
    · have := tz_in ns (ns.length - 1 - i) (by omega)
      rw [show ns.length - 1 - (ns.length - 1 - i) = i by omega] at this
      rw [getD_at this]
    · rw [getD_out (by omega)]
end V2


namespace V2
def Rs (P B L : List Int) : Prop := ∃ (g : Int) (q : Nat → Int) (N : Nat), 0 < g ∧ (∀ i, N ≤ i → q i = 0) ∧ ∀ i, g * P.getD i 0 = cfF (fun j => B.getD j 0) q B.length i + L.getD i 0
theorem Rs.self (P B : List Int) : Rs P B P := ⟨1, fun _ => 0, 0, by decide, fun _ _ => rfl, fun i => by
  rw [cfF_zero _ _ _ _ fun _ _ _ => Int.mul_zero _, Int.one_mul, Int.zero_add]⟩
def tkn (B : List Int) (off : Nat) (t : Int) : List Int := List.replicate off 0 ++ B.map fun x => t * x
theorem tkn_getD (B : List Int) (off : Nat) (t : Int) (k : Nat) : (tkn B off t).getD k 0 = if off ≤ k then t * B.getD (k - off) 0 else 0 := by
  unfold tkn
  rw [(List.getD_eq_getElem?_getD)]
  by_cases h : off ≤ k
  · rw [if_pos h, List.getElem?_append_right (by rw [List.length_replicate]; exact h), List.length_replicate, List.getElem?_map, List.getD_eq_getElem?_getD]
    cases B[k - off]? with
    | none => show (0 : Int) = t * 0; rw [Int.mul_zero]
    | some x => rfl
  · rw [if_neg h, List.getElem?_append_left (by rw [List.length_replicate]; omega), List.getElem?_replicate, if_pos (by omega)]
    rfl
theorem tkn_len (B : List Int) (off : Nat) (t : Int) : (tkn B off t).length = off + B.length := by
  unfold tkn; rw [List.length_append, List.length_replicate, List.length_map]
/-- one step of the program -/
def stepL (B L : List Int) (g t : Int) : List Int := vec L.length fun k => g * L.getD k 0 - (tkn B (L.length - B.length) t).getD k 0
theorem vec_getD (N : Nat) (f : Nat → Int) (i : Nat) : (vec N f).getD i 0 = if i < N then f i else 0 := by
  by_cases h : i < N
  · rw [if_pos h, getD_at (vec_get h)]
  · rw [if_neg h, getD_out (by rw [vec_len]; omega)]
theorem trm_short {ns : List Int} {n : Nat} (hn : ns.length = n + 1) (h : ns.getD n 0 = 0) : (trm ns).length < ns.length := by
  rcases Nat.eq_zero_or_pos (tz ns) with z | z
  · exfalso
    obtain ⟨x, h1, h2⟩ := tz_at ns (by omega)
    rw [z, hn] at h1
    have h1 : ns[n]? = some x := h1
    rw [getD_at h1] at h
    exact h2 h
  · unfold trm
    rw [List.length_take]
    omega
theorem rs_step {P B L : List Int} (h0 : B ≠ []) (h : Rs P B L) (hl : B.length ≤ L.length) {g t : Int} (hg : 0 < g) (ht : g * L.getD (L.length - 1) 0 = t * B.getD (B.length - 1) 0) : Rs P B (trm (stepL B L g t)) ∧ (trm (stepL B L g t)).length < L.length := by
  have lb : 0 < B.length := List.length_pos_iff.mpr h0
  constructor
  · obtain ⟨c, q, N, c0, qz, qe⟩ := h
    refine ⟨g * c, fun j => g * q j + t * dlt (L.length - B.length) j, max N (L.length - B.length + 1), Int.mul_pos hg c0, fun i hi => ?_, fun i => ?_⟩
    · show g * q i + t * dlt (L.length - B.length) i = 0
      unfold dlt
      rw [qz i (by omega), if_neg (by omega), Int.mul_zero, Int.mul_zero]
      rfl
    · rw [Int.mul_assoc, qe i, cfF_lin, cfF_dlt, trm_getD, Int.mul_add]
      unfold stepL
      rw [vec_getD, tkn_getD]
      have hb : (if L.length - B.length ≤ i ∧ i - (L.length - B.length) < B.length then B.getD (i - (L.length - B.length)) 0 else 0) = if L.length - B.length ≤ i then B.getD (i - (L.length - B.length)) 0 else 0 := by
        by_cases h1 : L.length - B.length ≤ i
        · rw [if_pos h1]
          by_cases h2 : i - (L.length - B.length) < B.length
          · rw [if_pos ⟨h1, h2⟩]
          · rw [if_neg (by omega), getD_out (by omega)]
        · rw [if_neg h1, if_neg (by omega)]
      rw [hb]
      by_cases h3 : i < L.length
      · rw [if_pos h3]
        by_cases h1 : L.length - B.length ≤ i
        · rw [if_pos h1, if_pos h1]; omega
        · rw [if_neg h1, if_neg h1, Int.mul_zero]; omega
      · rw [if_neg h3, getD_out (l := L) (by omega), if_pos (by omega), getD_out (l := B) (by omega), Int.mul_zero, Int.mul_zero]
        omega
  · have := trm_short (ns := stepL B L g t) (n := L.length - 1) (by unfold stepL; rw [vec_len]; omega) (by
      unfold stepL
      rw [vec_getD, if_pos (by omega), tkn_getD, if_pos (by omega), ht, show L.length - 1 - (L.length - B.length) = B.length - 1 by omega]
      omega)
    unfold stepL at this ⊢
    rw [vec_len] at this
    exact this
/-- grow and take -/
theorem grow_take {t d : Int} (hd : d ≠ 0) : ∃ f : Int, ((Nat.gcd t.natAbs d.natAbs : Nat) : Int) = f ∧ 0 < f ∧ f.natAbs ≤ d.natAbs ∧ 0 < (if d < 0 then -d else d) / f ∧ ((if d < 0 then -d else d) / f).natAbs ≤ d.natAbs ∧ (t / f).natAbs ≤ t.natAbs ∧
    (if d < 0 then -d else d) / f * t = (if d < 0 then -(t / f) else t / f) * d := by
  refine ⟨_, rfl, ?_⟩
  have g0 : 0 < Nat.gcd t.natAbs d.natAbs := Nat.gcd_pos_of_pos_right _ (by omega)
  obtain ⟨p, hp⟩ : ((Nat.gcd t.natAbs d.natAbs : Nat) : Int) ∣ t := Int.ofNat_dvd_left.mpr (Nat.gcd_dvd_left _ _)
  obtain ⟨r, hr⟩ : ((Nat.gcd t.natAbs d.natAbs : Nat) : Int) ∣ d := Int.ofNat_dvd_left.mpr (Nat.gcd_dvd_right _ _)
  have gl : Nat.gcd t.natAbs d.natAbs ≤ d.natAbs := Nat.gcd_le_right _ (by omega)
  generalize Nat.gcd t.natAbs d.natAbs = f at *
  have f0 : (0 : Int) < (f : Int) := by omega
  have e1 : t / (f : Int) = p := by rw [hp, Int.mul_ediv_cancel_left _ (by omega)]
  have e2 : (if d < 0 then -d else d) / (f : Int) = if d < 0 then -r else r := by
    split
    · rw [hr, ← Int.mul_neg, Int.mul_ediv_cancel_left _ (by omega)]
    · rw [hr, Int.mul_ediv_cancel_left _ (by omega)]
  have ab : ∀ x : Int, x.natAbs ≤ ((f : Int) * x).natAbs := fun x => by
    rw [Int.natAbs_mul, Int.natAbs_natCast]
    exact Nat.le_mul_of_pos_left _ g0
  have r1 : d < 0 → r < 0 := fun c => by
    rcases Int.lt_or_le r 0 with z | z
    · exact z
    · have := Int.mul_nonneg (Int.le_of_lt f0) z
      omega
  have r2 : ¬ d < 0 → 0 < r := fun c => by
    rcases Int.lt_or_le 0 r with z | z
    · exact z
    · have := Int.mul_nonpos_of_nonneg_of_nonpos (Int.le_of_lt f0) z
      omega
  rw [e1, e2]
  refine ⟨f0, by omega, ?_, ?_, ?_, ?_⟩
  · split
    · have := r1 ‹_›; omega
    · exact r2 ‹_›
  · have := ab r
    rw [← hr] at this
    split <;> omega
  · have := ab p
    rw [← hp] at this
    exact this
  · split
    · conv => lhs; rw [hp]
      conv => rhs; rw [hr]
      rw [Int.neg_mul, Int.neg_mul, Int.mul_left_comm, Int.mul_left_comm p, Int.mul_comm r p]
    · conv => lhs; rw [hp]
      conv => rhs; rw [hr]
      rw [Int.mul_left_comm, Int.mul_left_comm p, Int.mul_comm r p]
end V2


namespace V2
open PySem L2
open PySem.Spec PyProof.Rows
theorem sk_some {H : Hp} {p : Addr} {m : Nat} (h : Sk H p m) : ∃ o, H p = some o := by
  obtain ⟨a, b, c, h1, _⟩ := h
  exact ⟨_, h1⟩
theorem sk_ne {H : Hp} {p q : Addr} {m : Nat} (h : Sk H p m) (hq : H q = none) : q ≠ p := by
  intro z
  obtain ⟨o, h2⟩ := sk_some h
  rw [← z, hq] at h2
  cases h2
/-- small polynomials as the law draws them -/
def Sp6 (ns : List Int) : Prop := Pol ns ∧ ns.length ≤ 8 ∧ ∀ x ∈ ns, -1000000 ≤ x ∧ x ≤ 1000000
theorem Sp6.pn {ns : List Int} (h : Sp6 ns) : Pn ns := by
  refine ⟨h.1, by have := h.2.1; omega, fun x hx => ?_⟩
  have e : (2 : Int) ^ 64 = 18446744073709551616 := by decide
  have := h.2.2 x hx
  rw [e]
  omega
theorem shaped_ints (ns : List Int) : SeqAt.shaped (.list (ns.map .int)) = true := by
  have h1 : ∀ l : List Int, PyData.canLayAll0 (l.map .int) = true := by
    intro l
    induction l with
    | nil => rfl
    | cons n r ih => simp [PyData.canLayAll0, PyData.canLay0, ih]
  have h2 : ∀ l : List Int, PyData.depthAll (l.map .int) ≤ 1 := by
    intro l
    induction l with
    | nil => simp [PyData.depthAll]
    | cons n r ih => simp [PyData.depthAll, PyData.depth]; omega
  unfold SeqAt.shaped
  have h3 := h2 ns
  simp [PyData.canLay0, PyData.depth, h1 ns]
  omega
section
variable {base : Heap} {mg : Str → Option Value} {K : PySem.W.Frag} {w : World} {P : Program}
end
end V2


namespace V2
open PySem L2
open PySem.Spec PyProof.Rows
def spCont (K : PySem.W.Frag) : Sp := fun vs H Q _ => ∃ (a : Addr) (ns : List Int), vs = [.ref a] ∧ Li H a ns ∧ Evl.RetV (.int (cont ns : Int)) H Q
def spPrim : Sp := fun vs H Q _ => ∃ (a : Addr) (ns : List Int), vs = [.ref a] ∧ Li H a ns ∧ ns.length ≤ 100 ∧ (∀ x ∈ ns, x.natAbs < 2 ^ 9000) ∧ Pol ns ∧ Evl.RetL (iV (prim ns)) H Q
theorem cont_pos {ns : List Int} (h : Pol ns) (h0 : ns ≠ []) : 0 < cont ns := by
  rcases Nat.eq_zero_or_pos (cont ns) with z | z
  · exfalso
    have l0 : 0 < ns.length := List.length_pos_iff.mpr h0
    obtain ⟨n, hn⟩ : ∃ n, ns.length = n + 1 := ⟨ns.length - 1, by omega⟩
    have hg := getD_pol h hn
    have e : ns[n]? = some ns[n] := List.getElem?_eq_getElem (by omega)
    rw [getD_at e] at hg
    exact hg (cont_zero z _ (List.getElem_mem (by omega)))
  · exact z
theorem cont_lt {ns : List Int} {B : Nat} (h : Pol ns) (hb : ∀ x ∈ ns, x.natAbs < 2 ^ B) : cont ns < 2 ^ B := by
  by_cases h0 : ns = []
  · subst h0
    exact Nat.pow_pos (by decide)
  · have l0 : 0 < ns.length := List.length_pos_iff.mpr h0
    obtain ⟨n, hn⟩ : ∃ n, ns.length = n + 1 := ⟨ns.length - 1, by omega⟩
    have hg := getD_pol h hn
    have e : ns[n]? = some ns[n] := List.getElem?_eq_getElem (by omega)
    rw [getD_at e] at hg
    have hm : ns[n] ∈ ns := List.getElem_mem (by omega)
    have := Int.natAbs_dvd_natAbs.mpr (cont_dvd hm)
    rw [Int.natAbs_natCast] at this
    exact Nat.lt_of_le_of_lt (Nat.le_of_dvd (by omega) this) (hb _ hm)
theorem prim_at {ns : List Int} {i : Nat} {n : Int} (h : ns[i]? = some n) : (prim ns)[i]? = some (n / (cont ns : Int)) := by
  unfold prim
  rw [List.getElem?_map, h]
  rfl
theorem prim_len (ns : List Int) : (prim ns).length = ns.length := by unfold prim; rw [List.length_map]
theorem take_next {ns : List Int} {i : Nat} {n : Int} (h : ns[i]? = some n) : iV (ns.take (i + 1)) = iV (ns.take i) ++ [.int n] := by
  rw [List.take_add_one, h]
  unfold iV
  rw [List.map_append]
  rfl
section
variable {base : Heap} {mg : Str → Option Value} {K : PySem.W.Frag} {w : World} {P : Program}
theorem ok_content {f : Addr} {fd : FuncData} (F : Fun K "content" "content" s_content f fd) (mG : mg "gcd" = some (.builtin "math.gcd")) : FnOk P w K mg base CX0 1 f fd p_content (spCont K) := by
  refine F.ok sc_content (fun vs H Q E h => ?_) (fun cdv A outer s H vs Q E hr h => ?_)
  · obtain ⟨a, ns, rfl, _⟩ := h
    rfl
  · obtain ⟨a, ns, rfl, hL, k⟩ := h
    have nd := sc_content.nd
    refine ⟨_, pss_cons (ps_set (i := 1) nd rfl (Or.inl rfl) pe_int)
      (pss_cons (ps_for PassesOwn.never rfl (pi_list (pv 0)) (pg_name (i := 2) nd rfl (Or.inl rfl))
        (pss_one (ps_set (i := 1) nd rfl (Or.inl rfl) (pe_callBfun cr_gcd (by rfl) mG (pa_cons (pv 1) (pa_cons (pv 2) pa_nil))))))
      (pss_one (ps_ret (pv 1))) ), ?_⟩
    refine ⟨_, rfl, a, rfl, ⟨_, SqL.of hL⟩, for_list (xs := iV ns) (fun i σ H' => H' = H ∧ ∃ v, σ = [some (.ref a), some (.int (((ns.take i).foldl (fun g x => Nat.gcd g x.natAbs) 0 : Nat) : Int)), v]) ⟨rfl, none, rfl⟩ (fun i σ H' _ q => by rw [q.1]; exact SqL.of hL) ?_ ?_⟩
    · rintro i x σ H' hi ⟨rfl, v, rfl⟩
      obtain ⟨n, hn, rfl⟩ := iV_get hi
      refine ⟨_, rfl, _, rfl, _, _, rfl, rfl, some (.int n), ?_⟩
      rw [List.take_add_one, hn, List.foldl_append]
      rfl
    · rintro σ H' ⟨rfl, v, rfl⟩
      rw [iV_len, List.take_length, cont_fold, Nat.gcd_zero_left]
      exact ⟨_, rfl, k _ (Evl.Ex.refl _)⟩
theorem ok_primitive {f : Addr} {fd : FuncData} (F : Fun K "primitive" "primitive" s_primitive f fd) (cC : Cal P w K mg base 1 "content" p_content (spCont K)) : FnOk P w K mg base CX0 2 f fd p_primitive spPrim := by
  refine F.ok sc_primitive (fun vs H Q E h => ?_) (fun cdv A outer s H vs Q E hr h => ?_)
  · obtain ⟨a, ns, rfl, _⟩ := h
    rfl
  · obtain ⟨a, ns, rfl, hL, hl, hb, hp, k⟩ := h
    have nd := sc_primitive.nd
    refine ⟨_, pss_cons (ps_set (i := 1) nd rfl (Or.inr rfl) (pe_c cC hr (pa_cons (pv 0) pa_nil)))
      (pss_one (ps_ret (pe_lc (own := [("number", 2)]) (g := gName 2) (tt := tYes) (te := tOp (rI CDivW fun i j => .int (i / j)) (tVar 2) (tVar 1)) rfl nd (pi_list (pv 0)) (blkOk_by (N := n_primitive) (sc := defScope s_primitive) (by decide +kernel)) (fun _ _ _ _ _ => pg_name (i := 2) nd rfl (Or.inl rfl)) (fun _ _ _ _ _ => pts_nil)
          (fun _ _ _ _ _ => pe_op op_fdivW (pv 2) (pv 1))))), ?_⟩
    refine ⟨_, rfl, a, ns, rfl, hL, fun H1 e1 => ?_⟩
    have hL1 : Li H1 a ns := e1 _ _ hL
    refine ⟨_, rfl, a, rfl, ⟨_, SqL.of hL1⟩, fun D hD => lc_list (xs := iV ns) (fun i H' => Evl.Ex H1 H' ∧ H' D = some (.lst (iV ((prim ns).take i)))) ⟨Evl.Ex.new hD, upd_same⟩ (fun i H' _ q => SqL.of (q.1 _ _ hL1)) ?_ ?_⟩
    · rintro i x H' hi ⟨e2, h2⟩
      obtain ⟨n, hn, rfl⟩ := iV_get hi
      have h0 : ns ≠ [] := fun z => by rw [z] at hn; cases hn
      have cp := cont_pos hp h0
      refine ⟨rfl, ?_⟩
      show tOp (rI CDivW fun i j => .int (i / j)) (tVar 2) (tVar 1) _ _ _
      refine ⟨_, rfl, _, rfl, _, _, rfl, rfl, wide_div (b := 9000) (by omega) (by rw [Int.natAbs_natCast]; exact cont_lt hp hb) (by decide) (by decide), _, h2, ?_, Evl.Ex.mut e2 hD, ?_⟩
      · rw [iV_len, List.length_take]
        exact Nat.lt_of_le_of_lt (show _ ≤ 100 by rw [prim_len]; omega) (by decide)
      · rw [upd_same, take_next (prim_at hn)]
    · rintro H' ⟨e2, h2⟩
      rw [iV_len, ← prim_len, List.take_length] at h2
      exact k D H' (Evl.fresh_back e1 hD) (e1.trans e2) h2
end
end V2


namespace V2
open PySem L2
open PySem.Spec PyProof.Rows
structure T7 (mg : Str → Option Value) : Prop where
  len : mg "len" = none
  abs : mg "abs" = none
  enu : mg "enumerate" = none
  gcd : mg "gcd" = some (.builtin "math.gcd")
theorem tkn_next {ys : List Int} {t n : Int} {i : Nat} (h : ys[i]? = some n) : iV ((ys.map fun x => t * x).take (i + 1)) = iV ((ys.map fun x => t * x).take i) ++ [.int (t * n)] :=
  take_next (by rw [List.getElem?_map, h]; rfl)
theorem vec_take {N : Nat} {f : Nat → Int} {i : Nat} (h : i < N) : iV ((vec N f).take (i + 1)) = iV ((vec N f).take i) ++ [.int (f i)] := take_next (vec_get h)
theorem Sp6.b20 {ns : List Int} (h : Sp6 ns) : ∀ x ∈ ns, x.natAbs < 2 ^ 20 := fun x hx => by
  have := h.2.2 x hx
  have e : (2 : Nat) ^ 20 = 1048576 := (by decide)
  rw [e]; omega
theorem more {ns : List Int} {A B : Nat} (h : ∀ x ∈ ns, x.natAbs < 2 ^ A) (hl : A ≤ B) : ∀ x ∈ ns, x.natAbs < 2 ^ B := fun x hx => big (h x hx) hl
section
variable {base : Heap} {mg : Str → Option Value} {K : PySem.W.Frag} {w : World} {P : Program}
end
end V2


namespace V2
def Bs (n : Nat) (ns : List Int) : Prop := ∀ x ∈ ns, x.natAbs < 2 ^ n
theorem Bs.le {n m : Nat} {ns : List Int} (h : Bs n ns) (l : n ≤ m) : Bs m ns := fun x hx => Nat.lt_of_lt_of_le (h x hx) (Nat.pow_le_pow_right (by decide) l)
theorem Bs.at_ {n : Nat} {ns : List Int} (h : Bs n ns) (i : Nat) : (ns.getD i 0).natAbs < 2 ^ n := by
  rw [List.getD_eq_getElem?_getD]
  cases e : ns[i]? with
  | none => exact Nat.pow_pos (by decide)
  | some x => exact h x (List.mem_of_getElem? e)
theorem bs_mul {i j : Int} {n m : Nat} (h1 : i.natAbs < 2 ^ n) (h2 : j.natAbs < 2 ^ m) : (i * j).natAbs < 2 ^ (n + m) := by
  rw [Int.natAbs_mul, Nat.pow_add]
  exact Nat.mul_lt_mul'' h1 h2
theorem vec_in {N : Nat} {f : Nat → Int} {x : Int} (h : x ∈ vec N f) : ∃ i, i < N ∧ x = f i := by
  unfold vec at h
  obtain ⟨i, hi, e⟩ := List.mem_map.mp h
  exact ⟨i, List.mem_range.mp hi, e.symm⟩
theorem bs_trm {n : Nat} {ns : List Int} (h : Bs n ns) : Bs n (trm ns) := fun x hx => h x (trm_mem hx)
theorem bs_step {B L : List Int} {g t : Int} {b c : Nat} (hL : Bs c L) (hg : g.natAbs < 2 ^ b) (ht : t.natAbs < 2 ^ c) (hB : Bs b B) : Bs (c + (b + 1)) (trm (stepL B L g t)) := by
  intro x hx
  obtain ⟨i, _, rfl⟩ := vec_in (trm_mem hx)
  have h2 := bs_mul hg (hL.at_ i)
  have h1 : ((tkn B (L.length - B.length) t).getD i 0).natAbs < 2 ^ (c + b) := by
    rw [tkn_getD]
    split
    · exact bs_mul ht (hB.at_ _)
    · exact Nat.pow_pos (by decide)
  have e : (2 : Nat) ^ (c + (b + 1)) = 2 ^ (c + b) + 2 ^ (c + b) := by
    rw [show c + (b + 1) = c + b + 1 from rfl, Nat.pow_succ]; omega
  rw [Nat.add_comm b c] at h2
  rw [e]
  omega
theorem last_at {ns : List Int} (h : ns ≠ []) : ∃ x, ns[ns.length - 1]? = some x ∧ x ∈ ns := by
  have l := List.length_pos_iff.mpr h
  exact ⟨ns[ns.length - 1]'(by omega), List.getElem?_eq_getElem (by omega), List.getElem_mem _⟩
theorem rem_loop {P B : List Int} {b : Nat} (hB : Pol B) (h0 : B ≠ []) (bb : Bs b B) : ∀ (n : Nat) (L : List Int) (c : Nat), L.length ≤ n → Pol L → Rs P B L → Bs c L → ∃ M, Rm P B M ∧ Bs (c + (L.length + 1 - B.length) * (b + 1)) M := by
  intro n
  have lb := List.length_pos_iff.mpr h0
  induction n with
  | zero =>
    intro L c hl hp hR hb
    exact ⟨L, ⟨hp, by omega, hR⟩, hb.le (by omega)⟩
  | succ n ih =>
    intro L c hl hp hR hb
    by_cases h : L.length < B.length
    · exact ⟨L, ⟨hp, h, hR⟩, hb.le (by omega)⟩
    · have L0 : L ≠ [] := fun z => by
        rw [z] at h
        exact h lb
      obtain ⟨tp, htp, htm⟩ := last_at L0
      obtain ⟨ld, hld, hlm⟩ := last_at h0
      have ld0 := hB ld hld
      obtain ⟨f, hf, f0, fb, g0, gb, tb, ge⟩ := grow_take (t := tp) (d := ld) ld0
      have ge' : (if ld < 0 then -ld else ld) / f * L.getD (L.length - 1) 0 = (if ld < 0 then -(tp / f) else tp / f) * B.getD (B.length - 1) 0 := by
        rw [getD_at htp, getD_at hld]
        exact ge
      obtain ⟨r1, r2⟩ := rs_step h0 hR (by omega) g0 ge'
      have hg : ((if ld < 0 then -ld else ld) / f).natAbs < 2 ^ b := Nat.lt_of_le_of_lt gb (bb ld hlm)
      have ht : (if ld < 0 then -(tp / f) else tp / f).natAbs < 2 ^ c := by
        have h1 := hb tp htm
        have h2 : (if ld < 0 then -(tp / f) else tp / f).natAbs = (tp / f).natAbs := by split <;> omega
        omega
      have hs := bs_step hb hg ht bb
      obtain ⟨M, hM, bM⟩ := ih _ (c + (b + 1)) (by omega) (pol_trm _) r1 hs
      refine ⟨M, hM, bM.le ?_⟩
      generalize (trm (stepL B L ((if ld < 0 then -ld else ld) / f) (if ld < 0 then -(tp / f) else tp / f))).length = k at r2
      have e1 : (k + 1 - B.length) + 1 ≤ L.length + 1 - B.length := by omega
      have e2 := Nat.mul_le_mul_right (b + 1) e1
      rw [Nat.succ_mul] at e2
      omega
theorem rem_ex {A B : List Int} {a b : Nat} (hA : Pol A) (hB : Pol B) (h0 : B ≠ []) (ba : Bs a A) (bb : Bs b B) : ∃ M, Rm A B M ∧ Bs (a + (A.length + 1 - B.length) * (b + 1)) M :=
  rem_loop hB h0 bb A.length A a (Nat.le_refl _) hA (Rs.self _ _) ba
open Classical in
/-- some rest, if there is one -/
noncomputable def remF (A B : List Int) : List Int := if h : ∃ L, Rm A B L then h.choose else []
theorem remF_rm {A B L : List Int} (h : Rm A B L) : Rm A B (remF A B) := by
  have hx : ∃ L, Rm A B L := ⟨L, h⟩
  unfold remF
  rw [dif_pos hx]
  exact hx.choose_spec
def negL (ns : List Int) : List Int := ns.map fun x => -x
/-- the next one of a row -/
noncomputable def nx (A B : List Int) : List Int := negL (prim (remF A B))
theorem nx_eq {A B L : List Int} (hB : Pol B) (h : Rm A B L) : nx A B = negL (prim L) := by
  unfold nx
  rw [(remF_rm h).uniq hB h]
theorem prim_length (ns : List Int) : (prim ns).length = ns.length := by unfold prim; rw [List.length_map]
theorem negL_length (ns : List Int) : (negL ns).length = ns.length := by unfold negL; rw [List.length_map]
theorem nx_len {A B : List Int} (h : B ≠ []) : (nx A B).length < B.length := by
  unfold nx
  rw [negL_length, prim_length]
  by_cases hx : ∃ L, Rm A B L
  · obtain ⟨L, hL⟩ := hx
    exact (remF_rm hL).2.1
  · unfold remF
    rw [dif_neg hx]
    exact List.length_pos_iff.mpr h
theorem bs_prim {L : List Int} {B : Nat} (h : Bs B L) : Bs B (prim L) := by
  intro y hy
  unfold prim at hy
  obtain ⟨x, hx, rfl⟩ := List.mem_map.mp hy
  obtain ⟨p, hp⟩ := cont_dvd hx
  rcases Nat.eq_zero_or_pos (cont L) with z | z
  · rw [z]
    show (x / 0).natAbs < 2 ^ B
    rw [Int.ediv_zero]
    exact Nat.pow_pos (by decide)
  · have e : x / (cont L : Int) = p := by
      conv => lhs; rw [hp]
      rw [Int.mul_ediv_cancel_left _ (by omega)]
    rw [e]
    have h1 := h x hx
    rw [hp, Int.natAbs_mul, Int.natAbs_natCast] at h1
    exact Nat.lt_of_le_of_lt (Nat.le_mul_of_pos_left _ z) h1
theorem bs_neg {L : List Int} {B : Nat} (h : Bs B L) : Bs B (negL L) := by
  intro y hy
  unfold negL at hy
  obtain ⟨x, hx, rfl⟩ := List.mem_map.mp hy
  rw [Int.natAbs_neg]
  exact h x hx
theorem pol_negL {L : List Int} (h : Pol L) : Pol (negL L) := by
  intro y hy
  unfold negL at hy
  rw [List.length_map, List.getElem?_map] at hy
  cases e : L[L.length - 1]? with
  | none => rw [e] at hy; cases hy
  | some x =>
    rw [e] at hy
    have := h x e
    have hy : -x = y := Option.some.inj hy
    omega
theorem pol_prim {L : List Int} (h : Pol L) : Pol (prim L) := by
  intro y hy
  unfold prim at hy
  rw [List.length_map, List.getElem?_map] at hy
  cases e : L[L.length - 1]? with
  | none => rw [e] at hy; cases hy
  | some x =>
    rw [e] at hy
    have hx := h x e
    have hy : x / (cont L : Int) = y := Option.some.inj hy
    have hm : x ∈ L := List.mem_of_getElem? e
    obtain ⟨p, hp⟩ := cont_dvd hm
    intro y0
    have c0 : (cont L : Int) ≠ 0 := fun z => by
      rw [z, Int.zero_mul] at hp
      exact hx hp
    have : x / (cont L : Int) = p := by
      conv => lhs; rw [hp]
      rw [Int.mul_ediv_cancel_left _ c0]
    rw [this, y0] at hy
    rw [hy, Int.mul_zero] at hp
    exact hx hp
theorem prim_one {x : Int} (h : x ≠ 0) : Bs 1 (prim [x]) := by
  intro y hy
  have e : prim [x] = [x / (x.natAbs : Int)] := by
    unfold prim cont cont
    rw [Nat.gcd_zero_right]
    rfl
  rw [e] at hy
  obtain rfl := List.mem_singleton.mp hy
  rcases Int.lt_or_gt_of_ne h with c | c
  · have e1 : (x.natAbs : Int) = -x := by omega
    rw [e1, Int.ediv_neg, Int.ediv_self h]
    decide
  · have e1 : (x.natAbs : Int) = x := by omega
    rw [e1, Int.ediv_self h]
    decide
def slopeL (p : List Int) : List Int := vec (p.length - 1) fun k => ((k + 1 : Nat) : Int) * p.getD (k + 1) 0
theorem slopeL_len (p : List Int) : (slopeL p).length = p.length - 1 := vec_len _ _
theorem slopeL_getD (p : List Int) (i : Nat) : (slopeL p).getD i 0 = ((i + 1 : Nat) : Int) * p.getD (i + 1) 0 := by
  unfold slopeL
  rw [vec_getD]
  split
  · rfl
  · rw [getD_out (l := p) (by omega), Int.mul_zero]
theorem pol_slope {p : List Int} (h : Pol p) : Pol (slopeL p) := by
  intro x hx
  rw [slopeL_len] at hx
  have hl : p.length - 1 - 1 < p.length - 1 := by
    have := (List.getElem?_eq_some_iff.mp hx).1
    rwa [slopeL_len] at this
  unfold slopeL at hx
  rw [vec_get hl] at hx
  have hx := Option.some.inj hx
  have e : p[p.length - 1]? = some (p[p.length - 1]'(by omega)) := List.getElem?_eq_getElem (by omega)
  rw [show p.length - 1 - 1 + 1 = p.length - 1 by omega, getD_at e] at hx
  rw [← hx]
  exact Int.mul_ne_zero (by omega) (h _ e)
/-- a polynomial that may be passed: at most eight numbers to 10 ** 6 -/
def P6 (p : List Int) : Prop := Pol p ∧ p.length ≤ 8 ∧ ∀ x ∈ p, -1000000 ≤ x ∧ x ≤ 1000000
theorem P6.at_ {p : List Int} (h : P6 p) (i : Nat) : -1000000 ≤ p.getD i 0 ∧ p.getD i 0 ≤ 1000000 := by
  rw [List.getD_eq_getElem?_getD]
  cases e : p[i]? with
  | none => exact ⟨by decide, by decide⟩
  | some x => exact h.2.2 x (List.mem_of_getElem? e)
theorem small_mul {k : Nat} {x : Int} (hk : k ≤ 7) (h : -1000000 ≤ x ∧ x ≤ 1000000) : (((k : Nat) : Int) * x).natAbs < 2 ^ 23 := by
  rw [Int.natAbs_mul, Int.natAbs_natCast]
  have : k * x.natAbs ≤ 7 * 1000000 := Nat.mul_le_mul hk (by omega)
  have e : (2 : Nat) ^ 23 = 8388608 := by decide
  omega
theorem P6.slope {p : List Int} (h : P6 p) : Bs 23 (slopeL p) := by
  intro x hx
  obtain ⟨i, hi, rfl⟩ := vec_in hx
  have := h.2.1
  exact small_mul (by omega) (h.at_ _)
theorem P6.b20 {p : List Int} (h : P6 p) : Bs 20 p := fun x hx => by
  have := h.2.2 x hx
  have e : (2 : Nat) ^ 20 = 1048576 := (by decide)
  rw [e]; omega
/-- a first step for the rest by the slope -/
def firstL (p : List Int) : List Int := vec (p.length - 1) fun k => (((p.length - 1 - k : Nat) : Int)) * p.getD k 0
theorem first_rs {p : List Int} (h2 : 2 ≤ p.length) : Rs p (slopeL p) (firstL p) := by
  refine ⟨((p.length - 1 : Nat) : Int), dlt 1, 2, by omega, fun i hi => by unfold dlt; rw [if_neg (by omega)], fun i => ?_⟩
  rw [cfF_dlt, slopeL_len]
  unfold firstL
  rw [vec_getD]
  by_cases h1 : 1 ≤ i ∧ i - 1 < p.length - 1
  · rw [if_pos h1, slopeL_getD, show i - 1 + 1 = i by omega]
    by_cases h3 : i < p.length - 1
    · rw [if_pos h3, ← Int.add_mul]
      congr 1
      omega
    · rw [if_neg h3, Int.add_zero]
      congr 2
      omega
  · rw [if_neg h1]
    by_cases h3 : i < p.length - 1
    · rw [if_pos h3, Int.zero_add]
      congr 2
      omega
    · rw [if_neg h3, getD_out (l := p) (by omega), Int.mul_zero]
      rfl
theorem rs_trm {P B L : List Int} (h : Rs P B L) : Rs P B (trm L) := by
  obtain ⟨g, q, N, h1, h2, h3⟩ := h
  exact ⟨g, q, N, h1, h2, fun i => by rw [trm_getD]; exact h3 i⟩
theorem rem_first {p : List Int} (h : P6 p) (h2 : 2 ≤ p.length) : ∃ M, Rm p (slopeL p) M ∧ Bs 47 M := by
  have s0 : slopeL p ≠ [] := fun z => by
    have := slopeL_len p
    rw [z, List.length_nil] at this
    omega
  have fb : Bs 23 (trm (firstL p)) := bs_trm (by
    intro x hx
    obtain ⟨i, hi, rfl⟩ := vec_in hx
    have := h.2.1
    exact small_mul (by omega) (h.at_ _))
  obtain ⟨M, hM, bM⟩ := rem_loop (pol_slope h.1) s0 h.slope _ _ 23 (Nat.le_refl _) (pol_trm _) (rs_trm (first_rs h2)) fb
  refine ⟨M, hM, bM.le ?_⟩
  have l1 := trm_len (firstL p)
  have l2 : (firstL p).length = p.length - 1 := vec_len _ _
  rw [slopeL_len]
  have : (trm (firstL p)).length + 1 - (p.length - 1) ≤ 1 := by omega
  have := Nat.mul_le_mul_right (23 + 1) this
  omega
noncomputable def rowF : Nat → List Int → List Int → List (List Int)
  | 0, _, _ => []
  | n + 1, A, B => if B = [] then [] else B :: rowF n B (nx A B)
theorem rowF_ext : ∀ (n m : Nat) (A B : List Int), B.length ≤ n → B.length ≤ m → rowF n A B = rowF m A B
  | 0, 0, _, _, _, _ => rfl
  | 0, m + 1, A, B, h, _ => by
    have : B = [] := List.eq_nil_of_length_eq_zero (by omega)
    subst this
    rfl
  | n + 1, 0, A, B, _, h => by
    have : B = [] := List.eq_nil_of_length_eq_zero (by omega)
    subst this
    rfl
  | n + 1, m + 1, A, B, h1, h2 => by
    unfold rowF
    by_cases e : B = []
    · rw [if_pos e, if_pos e]
    · rw [if_neg e, if_neg e]
      have := nx_len (A := A) e
      rw [rowF_ext n m B (nx A B) (by omega) (by omega)]
noncomputable def rowT (A B : List Int) : List (List Int) := rowF B.length A B
theorem rowT_nil (A : List Int) : rowT A [] = [] := rfl
theorem rowT_cons {A B : List Int} (h : B ≠ []) : rowT A B = B :: rowT B (nx A B) := by
  have l := List.length_pos_iff.mpr h
  unfold rowT
  obtain ⟨n, hn⟩ : ∃ n, B.length = n + 1 := ⟨B.length - 1, by omega⟩
  rw [hn]
  show (if B = [] then [] else B :: rowF n B (nx A B)) = _
  rw [if_neg h]
  have := nx_len (A := A) h
  rw [rowF_ext n _ B (nx A B) (by omega) (Nat.le_refl _)]
noncomputable def rowL (p : List Int) : List (List Int) := p :: rowT p (slopeL p)
/-- how many bits -/
def gam : Nat → Nat
  | 0 => 20
  | 1 => 23
  | 2 => 47
  | 3 => 119
  | 4 => 287
  | 5 => 695
  | 6 => 1679
  | _ => 4055
/-- two neighbours in a row -/
structure Nb (A B : List Int) : Prop where
  pa : Pol A
  pb : Pol B
  la : A.length ≤ 8
  lt : B.length < A.length
  ba : Bs (gam (8 - A.length)) A
  bb : Bs (gam (9 - A.length)) B
  b1 : B.length = 1 → Bs 23 B
  sm : Bs 1700 A
theorem gam_mono : ∀ i j : Nat, i ≤ j → gam i ≤ gam j := by
  have h1 : ∀ i, i < 9 → gam i ≤ 4055 := by decide
  have h2 : ∀ j, j < 8 → ∀ i, i ≤ j → gam i ≤ gam j := by decide
  intro i j h
  by_cases c : j < 8
  · exact h2 j c i h
  · have e : gam j = 4055 := by
      match j, c with
      | 0, c => exact absurd (by decide) c
      | 1, c => exact absurd (by decide) c
      | 2, c => exact absurd (by decide) c
      | 3, c => exact absurd (by decide) c
      | 4, c => exact absurd (by decide) c
      | 5, c => exact absurd (by decide) c
      | 6, c => exact absurd (by decide) c
      | n + 7, _ => rfl
    rw [e]
    by_cases c2 : i < 9
    · exact h1 i c2
    · have : gam i = 4055 := by
        match i, c2 with
        | n + 7, _ => rfl
        | 0, c => exact absurd (by decide) c
        | 1, c => exact absurd (by decide) c
        | 2, c => exact absurd (by decide) c
        | 3, c => exact absurd (by decide) c
        | 4, c => exact absurd (by decide) c
        | 5, c => exact absurd (by decide) c
        | 6, c => exact absurd (by decide) c
      omega
theorem gam_step : ∀ a, a < 8 → ∀ b, b < a → 2 ≤ b → gam (8 - a) + (a + 1 - b) * (gam (9 - a) + 1) ≤ gam (9 - b) := by decide
theorem Nb.smb {A B : List Int} (h : Nb A B) : Bs 1700 B := by
  by_cases c : B.length = 1
  · exact (h.b1 c).le (by decide)
  · by_cases c2 : B.length = 0
    · have : B = [] := List.eq_nil_of_length_eq_zero c2
      subst this
      intro x hx
      cases hx
    · refine h.bb.le ?_
      have := h.lt
      have := gam_mono (9 - A.length) 6 (by omega)
      have : gam 6 = 1679 := rfl
      omega
theorem pol_one {L : List Int} (h : Pol L) (hl : L.length = 1) : ∃ x, L = [x] ∧ x ≠ 0 := by
  match L, hl with
  | [x], _ => exact ⟨x, rfl, h x rfl⟩
theorem nx_small {A B M : List Int} {m : Nat} (hB : Pol B) (hM : Rm A B M) (bM : Bs m M) : Pol (nx A B) ∧ Bs m (nx A B) ∧ ((nx A B).length = 1 → Bs 23 (nx A B)) := by
  rw [nx_eq hB hM]
  refine ⟨pol_negL (pol_prim hM.1), bs_neg (bs_prim bM), fun h => ?_⟩
  rw [negL_length, prim_length] at h
  obtain ⟨x, rfl, hx⟩ := pol_one hM.1 h
  exact (bs_neg (prim_one hx)).le (by decide)
theorem nb_first {p : List Int} (h : P6 p) (h0 : p ≠ []) : Nb p (slopeL p) where
  pa := h.1
  pb := pol_slope h.1
  la := h.2.1
  lt := by
    have := List.length_pos_iff.mpr h0
    rw [slopeL_len]
    omega
  ba := h.b20.le (gam_mono 0 _ (Nat.zero_le _))
  bb := h.slope.le (gam_mono 1 _ (by have := h.2.1; omega))
  b1 := fun _ => h.slope
  sm := h.b20.le (by decide)
theorem nb_second {p : List Int} (h : P6 p) (s0 : slopeL p ≠ []) : Nb (slopeL p) (nx p (slopeL p)) := by
  have l := List.length_pos_iff.mpr s0
  have sl := slopeL_len p
  obtain ⟨M, hM, bM⟩ := rem_first h (by omega)
  obtain ⟨n1, n2, n3⟩ := nx_small (pol_slope h.1) hM bM
  have h8 := h.2.1
  exact {
    pa := pol_slope h.1
    pb := n1
    la := by omega
    lt := nx_len s0
    ba := h.slope.le (gam_mono 1 _ (by omega))
    bb := n2.le (gam_mono 2 _ (by omega))
    b1 := n3
    sm := h.slope.le (by decide) }
theorem nb_next {A B : List Int} (h : Nb A B) (h7 : A.length ≤ 7) (h0 : B ≠ []) : Nb B (nx A B) := by
  have l := List.length_pos_iff.mpr h0
  have hl := h.lt
  obtain ⟨M, hM, bM⟩ := rem_ex h.pa h.pb h0 h.ba h.bb
  obtain ⟨n1, n2, n3⟩ := nx_small h.pb hM bM
  refine { pa := h.pb, pb := n1, la := by omega, lt := nx_len h0, ba := h.bb.le (gam_mono _ _ (by omega)), bb := ?_, b1 := n3, sm := h.smb }
  by_cases c : B.length = 1
  · have := nx_len (A := A) h0
    have : nx A B = [] := List.eq_nil_of_length_eq_zero (by omega)
    rw [this]
    intro x hx
    cases hx
  · exact n2.le (gam_step A.length (by omega) B.length (by omega) (by omega))
/-- where a row of p stands -/
structure Wr (p : List Int) (pre : List (List Int)) (A B : List Int) : Prop where
  nb : Nb A B
  hd : (A = p ∧ B = slopeL p) ∨ A.length ≤ 7
  all : pre ++ A :: rowT A B = rowL p
theorem Wr.start {p : List Int} (h : P6 p) (h0 : p ≠ []) : Wr p [] p (slopeL p) := ⟨nb_first h h0, .inl ⟨rfl, rfl⟩, rfl⟩
theorem Wr.next {p : List Int} {pre : List (List Int)} {A B : List Int} (hp : P6 p) (h : Wr p pre A B) (h0 : B ≠ []) : Wr p (pre ++ [A]) B (nx A B) := by
  obtain ⟨h1, h2, h3⟩ := h
  refine ⟨?_, .inr (by have := h1.la; have := h1.lt; omega), ?_⟩
  · rcases h2 with ⟨rfl, rfl⟩ | h2
    · exact nb_second hp h0
    · exact nb_next h1 h2 h0
  · rw [← h3, rowT_cons h0, List.append_assoc]
    rfl
theorem Wr.done {p : List Int} {pre : List (List Int)} {A : List Int} (h : Wr p pre A []) : pre ++ [A] = rowL p := by
  rw [← h.all, rowT_nil]
theorem Wr.one {p : List Int} {pre : List (List Int)} {A B : List Int} (h : Wr p pre A B) (h1 : B.length = 1) : pre ++ [A] ++ [B] = rowL p := by
  have h0 : B ≠ [] := fun z => by rw [z] at h1; cases h1
  have : nx A B = [] := List.eq_nil_of_length_eq_zero (by have := nx_len (A := A) h0; omega)
  rw [← h.all, rowT_cons h0, this, rowT_nil, List.append_assoc]
  rfl
end V2


namespace V2
open PySem L2
open PySem.Spec PyProof.Rows
/-- the rest of greater polynomials -/
def spRemW : Sp := fun vs H Q _ => ∃ (a b : Addr) (xs ys : List Int) (bx by_ : Nat), vs = [.ref a, .ref b] ∧ Li H a xs ∧ Li H b ys ∧ Pol xs ∧ Pol ys ∧ xs.length ≤ 8 ∧ ys.length ≤ 8 ∧ Bs bx xs ∧ Bs by_ ys ∧ ys ≠ [] ∧ bx + (xs.length + 1 - ys.length) * (by_ + 1) ≤ 8900 ∧ by_ ≤ 4455 ∧ ∀ L, Rm xs ys L → Evl.RetL (iV (prim L)) H Q
/-- ahead of each turn of the loop -/
def Wh5 (H : Hp) (a b : Addr) (ld : Int) (xs ys : List Int) (bx by_ : Nat) (m : Nat) (σ : L2.St) (H' : Hp) : Prop := ∃ (l : Addr) (L : List Int) (v4 v5 v6 v7 v8 : Option V) (j : Nat), σ = [some (.ref a), some (.ref b), some (.ref l), some (.int ld), v4, v5, v6, v7, v8, none, none] ∧
  Evl.Ex H H' ∧ Li H' l L ∧ Pol L ∧ L.length = m ∧ m ≤ 8 ∧ j ≤ xs.length + 1 - ys.length ∧ j + m ≤ xs.length ∧ Bs (bx + j * (by_ + 1)) L ∧ Rs xs ys L
section
variable {base : Heap} {mg : Str → Option Value} {K : PySem.W.Frag} {w : World} {P : Program}
theorem ok_remainder {f : Addr} {fd : FuncData} (F : Fun K "remainder" "remainder" s_remainder f fd) (T : T7 mg) (cC : Cal P w K mg base 1 "cut" p_cut (spTrim K)) (cP : Cal P w K mg base 2 "primitive" p_primitive spPrim) : FnOk P w K mg base CX0 3 f fd p_remainder spRemW := by
  refine F.ok sc_remainder (fun vs H Q E h => ?_) (fun cdv A outer s H vs Q E hr h => ?_)
  · obtain ⟨a, b, xs, ys, bx, b2, rfl, _⟩ := h
    rfl
  · obtain ⟨a, b, xs, ys, bx, by_, rfl, ha, hb, px, py, lx8, ly8, hbx, hby, y0, hroom, hby9, k⟩ := h
    have nd := sc_remainder.nd
    have r1 : Room 1 _ := hr.mono (by decide)
    refine ⟨_, pss_cons (ps_set (i := 2) nd rfl (Or.inl rfl) (pv 0))
      (pss_cons (ps_set (i := 3) nd rfl (Or.inl rfl) (pe_ix ix_list (pv 1) (pe_un un_neg pe_int) (fun _ _ => rfl)))
      (pss_cons (ps_while PassesOwn.never (pt_cmpR op_ge (pe_callB call_len_seq (by rfl) T.len PySem.boot_len (pa_cons (pv 2) pa_nil)) (pe_callB call_len_seq (by rfl) T.len PySem.boot_len (pa_cons (pv 1) pa_nil)) (nomark _))
        (pss_cons (ps_set (i := 4) nd rfl (Or.inl rfl) (pe_callBfun cr_gcd (by rfl) T.gcd (pa_cons (pe_ix ix_list (pv 2) (pe_un un_neg pe_int) (fun _ _ => rfl)) (pa_cons (pv 3) pa_nil))))
        (pss_cons (ps_asg (pe_tup (pa_cons (pe_op op_fdivW (pe_callB call_abs (by rfl) T.abs (by decide +kernel) (pa_cons (pv 3) pa_nil)) (pv 4)) (pa_cons (pe_op op_fdivW (pe_ix ix_list (pv 2) (pe_un un_neg pe_int) (fun _ _ => rfl)) (pv 4)) pa_nil)))
            (pg_tup rfl (pgs_cons (pg_name (i := 5) nd rfl (Or.inr rfl)) (pgs_cons (pg_name (i := 6) nd rfl (Or.inr rfl)) pgs_nil))))
        (Evl.pss_cut (ps_if (pt_cmpR op_lt (pv 3) pe_int (nomark _)) (pss_one (ps_set (i := 6) nd rfl (Or.inr rfl) (pe_un un_neg (pv 6)))) pss_nil)
        (pss_cons (ps_set (i := 7) nd rfl (Or.inl rfl) (pe_op op_sub (pe_callB call_len_seq (by rfl) T.len PySem.boot_len (pa_cons (pv 2) pa_nil)) (pe_callB call_len_seq (by rfl) T.len PySem.boot_len (pa_cons (pv 1) pa_nil))))
        (pss_cons (ps_set (i := 8) nd rfl (Or.inr rfl) (pe_op op_cat (pe_op op_rep (pe_lst (pa_cons pe_int pa_nil)) (pv 7))
            (pe_lc (own := [("number", 9)]) (g := gName 9) (tt := tYes) (te := tOp (rI CMulW fun i j => .int (i * j)) (tVar 6) (tVar 9)) rfl nd (pi_list (pv 1)) (blkOk_by (N := n_remainder) (sc := defScope s_remainder) (by decide +kernel)) (fun _ _ _ _ _ => pg_name (i := 9) nd rfl (Or.inl rfl)) (fun _ _ _ _ _ => pts_nil)
              (fun _ _ _ _ _ => pe_op op_mulW (pv 6) (pv 9)))))
        (pss_one (ps_set (i := 2) nd rfl (Or.inl rfl) (pe_c cC r1 (pa_cons
            (pe_lc (own := [("k", 10), ("number", 9)]) (g := gTup K 2 (gCons (gName 10) (gCons (gName 9) gNil))) (tt := tYes) (te := tOp (rI0 fun i j => .int (i - j)) (tOp (rI CMulW fun i j => .int (i * j)) (tVar 5) (tVar 9)) (tOp (rIxL K) (tVar 8) (tVar 10))) rfl nd (pi_enum (by rfl) T.enu (pa_cons (pv 2) pa_nil)) (blkOk_by (N := n_remainder) (sc := defScope s_remainder) (by decide +kernel)) (fun _ _ _ _ _ => pg_tup rfl (pgs_cons (pg_name (i := 10) nd rfl (Or.inl rfl)) (pgs_cons (pg_name (i := 9) nd rfl (Or.inl rfl)) pgs_nil))) (fun _ _ _ _ _ => pts_nil)
              (fun _ _ _ _ _ => pe_op op_sub (pe_op op_mulW (pv 5) (pv 9)) (pe_ix ix_list (pv 8) (pv 10) (fun _ _ => rfl)))) pa_nil)))))))))) 
      (pss_one (ps_ret (pe_c cP (hr.mono (by decide)) (pa_cons (pv 2) pa_nil)))))), ?_⟩
    have one : 1 ≤ sizeLine := by show 1 ≤ sizeLine; decide
    have two : 2 ≤ sizeLine := by show 2 ≤ sizeLine; decide
    obtain ⟨ld, hld, hld2⟩ := atI_end y0
    have ld0 := py ld hld
    have lb : 0 < ys.length := List.length_pos_iff.mpr y0
    have ldb : ld.natAbs < 2 ^ by_ := hby ld (List.mem_of_getElem? hld)
    have by0 : 0 < by_ := by
      rcases Nat.eq_zero_or_pos by_ with z | z
      · rw [z] at ldb
        have : (2 : Nat) ^ 0 = 1 := rfl
        omega
      · exact z
    have room1 : ∀ j, j ≤ xs.length + 1 - ys.length → bx + j * (by_ + 1) ≤ 8900 := fun j hj => by
      have h1 := Nat.mul_le_mul_right (by_ + 1) hj
      omega
    refine ⟨_, rfl, _, rfl, _, rfl, b, _, _, _, rfl, rfl, hb.sq, hld2, ?_⟩
    refine ⟨Wh5 H a b ld xs ys bx by_, ⟨xs.length, a, xs, none, none, none, none, none, 0, rfl, Evl.Ex.refl _, ha, px, rfl, lx8, by omega, by omega, hbx.le (by omega), Rs.self _ _⟩, ?_⟩
    rintro m σ H1 ⟨l, L, v4, v5, v6, v7, v8, j0, rfl, e1, hL, hp, hm, hm8, hj1, hj2, hbd, hR⟩
    subst hm
    have rj := room1 j0 hj1
    refine ⟨_, rfl, l, _, rfl, .inl hL.sq, _, rfl, b, _, rfl, .inl (SqL.of (e1 _ _ hb)), _, _, rfl, rfl, _, rfl, ?_⟩
    by_cases c : ys.length ≤ L.length
    · refine if_t (decide_eq_true (by rw [iV_len, iV_len]; omega)) ?_
      have L0 : L ≠ [] := fun z => by
        rw [z, List.length_nil] at c
        omega
      obtain ⟨tp, htp, htp2⟩ := atI_end L0
      obtain ⟨f, hf, f0, fb, g0, gb, tb, ge⟩ := grow_take (t := tp) (d := ld) ld0
      subst hf
      refine ⟨fun σ H' => ∃ m', m' < L.length ∧ Wh5 H a b ld xs ys bx by_ m' σ H', fun σ H' z => z, ?_⟩
      refine ⟨_, rfl, _, rfl, l, _, _, _, rfl, rfl, hL.sq, htp2, _, rfl, tp, ld, rfl, ?_⟩
      generalize hfe : ((Nat.gcd tp.natAbs ld.natAbs : Nat) : Int) = f at *
      refine ⟨_, rfl, ld, rfl, _, rfl, _, _, rfl, rfl, wide_div (b := by_) f0 (by omega) by0 (by omega), ?_⟩
      refine ⟨_, rfl, _, rfl, l, _, _, _, rfl, rfl, hL.sq, htp2, _, rfl, _, _, rfl, rfl, wide_div (b := by_) f0 (by omega) by0 (by omega), two, fun t ht => ?_⟩
      refine ⟨t, _, rfl, SqT.of upd_same, rfl, _, _, rfl, _, _, rfl, rfl, ?_⟩
      have et := Evl.Ex.new (o := .tup [.int ((if ld < 0 then -ld else ld) / f), .int (tp / f)]) ht
      obtain ⟨g, hg⟩ : ∃ g, (if ld < 0 then -ld else ld) / f = g := ⟨_, rfl⟩
      rw [hg] at g0 gb ge
      generalize htk : (if ld < 0 then -(tp / f) else tp / f) = tk at ge
      refine ⟨fun σ H' => ∃ v7 v8, σ = [some (.ref a), some (.ref b), some (.ref l), some (.int ld), some (.int f), some (.int g), some (.int tk), v7, v8, none, none] ∧ Evl.Ex H1 H', ?_, ?_⟩
      · refine ⟨_, rfl, _, _, rfl, rfl, _, rfl, ?_⟩
        refine ite2 (fun z => ?_) (fun z => ?_)
        · have z1 : ld < 0 := of_decide_eq_true z
          rw [if_pos z1] at htk
          refine ⟨_, rfl, _, rfl, v7, v8, ?_, et⟩
          rw [← htk, ← hg]
          rfl
        · have z1 : ¬ ld < 0 := fun y => z (decide_eq_true y)
          rw [if_neg z1] at htk
          refine ⟨v7, v8, ?_, et⟩
          rw [← htk, ← hg]
          rfl
      have tkb : tk.natAbs < 2 ^ (bx + j0 * (by_ + 1)) := by
        have h1 := hbd tp (List.mem_of_getElem? htp)
        have h2 : tk.natAbs = (tp / f).natAbs := by rw [← htk]; split <;> omega
        omega
      clear et ht
      rintro σ H2 ⟨w7, w8, rfl, e2⟩
      have hL2 : Li H2 l L := e2 _ _ hL
      have hb2 : Li H2 b ys := (e1.trans e2) _ _ hb
      refine ⟨_, rfl, l, _, rfl, .inl hL2.sq, _, rfl, b, _, rfl, .inl hb2.sq, _, _, rfl, rfl, ?_⟩
      refine ⟨one, fun p1 hp1 => ⟨_, rfl, p1, _, _, rfl, rfl, upd_same, by rw [iV_len, iV_len]; omega, by rw [iV_len, iV_len]; omega, ?_, fun p2 hp2 => ?_⟩⟩
      · rw [iV_len, iV_len]
        show 1 * _ ≤ sizeLine
        exact Nat.le_trans (show 1 * ((L.length : Int) - (ys.length : Int)).toNat ≤ 100 by omega) (by decide)
      rw [iV_len, iV_len, rep_flat, ← iV_rep, show ((L.length : Int) - (ys.length : Int)).toNat = L.length - ys.length by omega]
      have e3 : Evl.Ex H2 (upd H2 p1 (.lst [.int 0])) := Evl.Ex.new hp1
      have e4 := e3.trans (Evl.Ex.new (o := .lst (iV (List.replicate (L.length - ys.length) 0))) hp2)
      generalize hH3 : upd (upd H2 p1 (.lst [.int 0])) p2 (.lst (iV (List.replicate (L.length - ys.length) 0))) = H3 at *
      have hp23 : H3 p2 = some (.lst (iV (List.replicate (L.length - ys.length) 0))) := by rw [← hH3]; exact upd_same
      refine ⟨_, rfl, b, rfl, ⟨_, SqL.of (e4 _ _ hb2)⟩, fun D hD => lc_list (xs := iV ys) (fun i H' => Evl.Ex H3 H' ∧ H' D = some (.lst (iV ((ys.map fun x => tk * x).take i)))) ⟨Evl.Ex.new hD, upd_same⟩ (fun i H' _ q => SqL.of (q.1 _ _ (e4 _ _ hb2))) ?_ ?_⟩
      · rintro i x H' hi ⟨e5, h5⟩
        obtain ⟨n, hn, rfl⟩ := iV_get hi
        refine ⟨rfl, ?_⟩
        show tOp (rI CMulW fun i j => .int (i * j)) (tVar 6) (tVar 9) _ _ _
        refine ⟨_, rfl, _, rfl, _, _, rfl, rfl, wide_mul (a := bx + j0 * (by_ + 1) + 1) (big tkb (by omega)) (hby n (List.mem_of_getElem? hn)) (by omega) by0 (by omega), _, h5, ?_, Evl.Ex.mut e5 hD, ?_⟩
        · rw [iV_len, List.length_take, List.length_map]
          exact Nat.lt_of_le_of_lt (show min i ys.length ≤ 8 by omega) (by decide)
        · rw [upd_same, tkn_next hn]
      rintro H4 ⟨e5, h5⟩
      rw [iV_len, List.take_of_length_le (by rw [List.length_map]; exact Nat.le_refl _)] at h5
      refine ⟨p2, D, _, _, rfl, rfl, e5 _ _ hp23, h5, ?_, fun p3 hp3 => ?_⟩
      · rw [iV_len, iV_len, List.length_replicate, List.length_map]
        exact Nat.le_trans (show L.length - ys.length + ys.length ≤ 100 by omega) (by decide)
      rw [iV_app]
      have htkn : List.replicate (L.length - ys.length) 0 ++ ys.map (fun x => tk * x) = tkn ys (L.length - ys.length) tk := rfl
      rw [htkn]
      have e6 : Evl.Ex H4 (upd H4 p3 (.lst (iV (tkn ys (L.length - ys.length) tk)))) := Evl.Ex.new hp3
      have hp34 : Li (upd H4 p3 (.lst (iV (tkn ys (L.length - ys.length) tk)))) p3 (tkn ys (L.length - ys.length) tk) := upd_same
      generalize upd H4 p3 (.lst (iV (tkn ys (L.length - ys.length) tk))) = H5 at e6 hp34
      have e25 : Evl.Ex H2 H5 := (e4.trans e5).trans e6
      have hL5 : Li H5 l L := e25 _ _ hL2
      have gb20 : g.natAbs < 2 ^ by_ := by omega
      have hc := rs_step y0 hR c g0 (t := tk) (by rw [getD_at htp, getD_at hld]; exact ge)
      have hbd2 := bs_step (B := ys) hbd gb20 tkb hby
      have ej : bx + j0 * (by_ + 1) + (by_ + 1) = bx + (j0 + 1) * (by_ + 1) := by rw [Nat.succ_mul]; omega
      rw [ej] at hbd2
      refine ⟨_, rfl, l, _, rfl, hL5.sq, fun D2 hD2 => lc_it walk_enum (fun i H' => Evl.Ex H5 H' ∧ H' D2 = some (.lst (iV ((stepL ys L g tk).take i)))) ⟨Evl.Ex.new hD2, upd_same⟩ (fun i H' _ q => SqL.of (q.1 _ _ hL5)) ?_ ?_⟩
      · rintro i x H' H6 hi ⟨e7, h7⟩ ⟨t3, z, y, rfl, ht3, rfl, hz, hyy⟩
        obtain rfl := (Option.some.inj hz).symm
        obtain ⟨n, hn, rfl⟩ := iV_get hyy
        rw [iV_len] at hi
        have e8 := e7.trans (Evl.Ex.new (o := .tup [.int (i : Nat), .int n]) ht3)
        refine ⟨t3, _, rfl, SqT.of upd_same, rfl, _, _, rfl, _, _, rfl, rfl, rfl, ?_⟩
        show tOp (rI0 fun i j => .int (i - j)) (tOp (rI CMulW fun i j => .int (i * j)) (tVar 5) (tVar 9)) (tOp (rIxL K) (tVar 8) (tVar 10)) _ _ _
        have tl : i < (tkn ys (L.length - ys.length) tk).length := by rw [tkn_len]; omega
        refine ⟨_, rfl, _, rfl, _, _, rfl, rfl, wide_mul (b := bx + j0 * (by_ + 1) + 1) gb20 (big (hbd n (List.mem_of_getElem? hn)) (by omega)) by0 (by omega) (by omega), _, rfl, _, rfl, p3, _, _, _, rfl, rfl, SqL.of (e8 _ _ hp34), atI_nat (iV_at (List.getElem?_eq_getElem tl)), _, _, rfl, rfl, ?_⟩
        have h8 : (upd H' t3 (.tup [.int (i : Nat), .int n])) D2 = some (.lst (iV ((stepL ys L g tk).take i))) := by
          rw [upd_ne (ne_of_none h7 ht3)]
          exact h7
        refine ⟨_, h8, ?_, Evl.Ex.mut e8 hD2, ?_⟩
        · rw [iV_len, List.length_take]
          exact Nat.lt_of_le_of_lt (show min i (stepL ys L g tk).length ≤ 8 by omega) (by decide)
        · rw [upd_same]
          unfold stepL
          rw [vec_take hi, getD_at hn, getD_at (List.getElem?_eq_getElem tl)]
      · rintro H' ⟨e7, h7⟩
        rw [iV_len, show (stepL ys L g tk).take L.length = stepL ys L g tk from List.take_of_length_le (by unfold stepL; rw [vec_len]; exact Nat.le_refl _)] at h7
        refine ⟨D2, _, rfl, SqL.of h7, by unfold stepL; rw [vec_len]; omega, fun q H7 hq e9 h9 => ?_⟩
        have el : (trm (stepL ys L g tk)).length ≤ 8 := by omega
        exact ⟨_, hc.2, q, trm (stepL ys L g tk), _, _, _, _, _, j0 + 1, rfl, (((e1.trans e2).trans e25).trans e7).trans e9, h9, pol_trm _, rfl, el, by omega, by omega, hbd2, hc.1⟩
    · refine if_f (decide_eq_false (by rw [iV_len, iV_len]; omega)) ?_
      refine ⟨_, rfl, l, L, rfl, hL, by omega, hbd.le (by omega), hp, fun q H2 hq e2 h2 => ?_⟩
      exact k L ⟨hp, by omega, hR⟩ q H2 (Evl.fresh_back e1 hq) (e1.trans e2) h2
end
end V2


namespace V2
open PySem L2
open PySem.Spec PyProof.Rows
def tRowsInW (K : PySem.W.Frag) : TS := tAsg (tOp (rI0 fun i j => .int (i + j)) (tOp (rIxL K) (tVar 2) (tOp (rI0 fun i j => .int (i + j)) (tVar 3) (tVar 5))) (tOp (rI CMulW fun i j => .int (i * j)) (tVar 4) (tVar 6))) (gSub (tVar 2) (tOp (rI0 fun i j => .int (i + j)) (tVar 3) (tVar 5)) rSetL)
def tRowsW (K : PySem.W.Frag) : TS := tFor (iEnum K (tCons (tVar 0) tNil)) (gTup K 2 (gCons (gName 3) (gCons (gName 4) gNil))) (tFor (iEnum K (tCons (tVar 1) tNil)) (gTup K 2 (gCons (gName 5) (gCons (gName 6) gNil))) (tRowsInW K))
theorem rowsW_read {K : PySem.W.Frag} {D : Ends} {H : Hp} {a b l : Addr} {xs ys : List Int} {N : Nat} {u3 u4 u5 u6 : Option V} (ha : Li H a xs) (hb : Li H b ys) (hl : Li H l (vec N fun _ => 0)) (na : a ≠ l) (nb : b ≠ l) (hN : xs.length + ys.length ≤ N + 1)
    (hx : ∀ x ∈ xs, ∀ y ∈ ys, CMulW x y) (k : ∀ (H' : Hp) v3 v4 v5 v6, But l H H' → Li H' l (vec N (cf xs ys xs.length)) → D.nx [some (.ref a), some (.ref b), some (.ref l), v3, v4, v5, v6] H') :
    tRowsW K D [some (.ref a), some (.ref b), some (.ref l), u3, u4, u5, u6] H := by
  refine ⟨_, rfl, a, _, rfl, ha.sq, for_it walk_enum (fun i σ H' => ∃ v3 v4 v5 v6, σ = [some (.ref a), some (.ref b), some (.ref l), v3, v4, v5, v6] ∧ But l H H' ∧ Li H' l (vec N (rw_ xs ys i 0)))
    ⟨_, _, _, _, rfl, But.refl _ _, ?_⟩ (fun i σ H' _ ⟨_, _, _, _, _, q, _⟩ => SqL.of (q _ _ na ha)) ?_ ?_⟩
  · rw [vec_congr (g := fun _ => 0) fun i _ => by rw [rw_0]; rfl]
    exact hl
  · rintro i x σ H' H2 hi ⟨v3, v4, v5, v6, rfl, q, hL⟩ ⟨T, z, y, rfl, hT, rfl, hz, hy⟩
    obtain rfl := (Option.some.inj hz).symm
    obtain ⟨n, hn, rfl⟩ := iV_get hy
    rw [iV_len] at hi
    have nTl : T ≠ l := (ne_of_none hL hT).symm
    have q2 : But l H (upd H' T (.tup [.int (i : Nat), .int n])) := fun c o nc e => by
      rw [upd_ne (ne_of_none (q c o nc e) hT)]; exact q c o nc e
    refine ⟨T, _, rfl, SqT.of upd_same, rfl, _, _, rfl, _, _, rfl, rfl, ?_⟩
    have hL2 : Li (upd H' T (.tup [.int (i : Nat), .int n])) l (vec N (rw_ xs ys i 0)) := Eq.trans (upd_ne nTl.symm) hL
    refine ⟨_, rfl, b, _, rfl, SqL.of (q2 _ _ nb hb), for_it walk_enum (fun j σ H3 => ∃ v5 v6, σ = [some (.ref a), some (.ref b), some (.ref l), some (.int (i : Nat)), some (.int n), v5, v6] ∧ But l H H3 ∧ Li H3 l (vec N (rw_ xs ys i j)))
      ⟨_, _, rfl, q2, hL2⟩ (fun i σ H' _ ⟨_, _, _, q, _⟩ => SqL.of (q _ _ nb hb)) ?_ ?_⟩
    · rintro j x σ H3 H4 hj ⟨v5, v6, rfl, q3, hL3⟩ ⟨T2, z, y, rfl, hT2, rfl, hz, hy⟩
      obtain rfl := (Option.some.inj hz).symm
      obtain ⟨m, hm, rfl⟩ := iV_get hy
      rw [iV_len] at hj
      have nTl2 : T2 ≠ l := (ne_of_none hL3 hT2).symm
      refine ⟨T2, _, rfl, SqT.of upd_same, rfl, _, _, rfl, _, _, rfl, rfl, ?_⟩
      have hL4 : Li (upd H3 T2 (.tup [.int (j : Nat), .int m])) l (vec N (rw_ xs ys i j)) := Eq.trans (upd_ne nTl2.symm) hL3
      have hp : i + j < N := by omega
      have ep : ((i : Nat) : Int) + ((j : Nat) : Int) = ((i + j : Nat) : Int) := by omega
      refine ⟨_, rfl, _, rfl, _, rfl, _, _, rfl, rfl, l, _, _, .int (rw_ xs ys i j (i + j)), rfl, rfl, SqL.of hL4, ?_, _, rfl, _, rfl, n, m, rfl, rfl, hx n (List.mem_of_getElem? hn) m (List.mem_of_getElem? hm), _, _, rfl, rfl, ?_⟩
      · show atI _ (((i : Nat) : Int) + ((j : Nat) : Int)) = _
        rw [ep]
        exact atI_nat (iV_at (vec_get hp))
      refine ⟨_, rfl, _, rfl, _, rfl, _, _, rfl, rfl, l, _, _, i + j, rfl, rfl, hL4, ?_, ?_⟩
      · show ixN _ (((i : Nat) : Int) + ((j : Nat) : Int)) = _
        rw [ep]
        exact Evl.ixN_nat (by rw [iV_len, vec_len]; exact hp)
      refine ⟨_, _, rfl, fun c o nc e => ?_, ?_⟩
      · rw [upd_ne nc, upd_ne (ne_of_none (q3 c o nc e) hT2)]
        exact q3 c o nc e
      · unfold Li
        rw [upd_same]
        show some (HO.lst ((iV (vec N (rw_ xs ys i j))).set (i + j) (.int (rw_ xs ys i j (i + j) + n * m)))) = _
        rw [iV_set, vec_set (g := rw_ xs ys i (j + 1)) (by rw [rw_step, getD_at hn, getD_at hm]) fun p hp => rw_other hp]
    · rintro σ H3 ⟨v5, v6, rfl, q3, hL3⟩
      refine ⟨_, _, _, _, rfl, q3, ?_⟩
      rw [iV_len, vec_congr (g := rw_ xs ys (i + 1) 0) fun p _ => rw_end xs ys i p] at hL3
      exact hL3
  · rintro σ H' ⟨v3, v4, v5, v6, rfl, q, hL⟩
    rw [iV_len, vec_congr (g := cf xs ys xs.length) fun i _ => rw_0 _ _ _ _] at hL
    exact k H' v3 v4 v5 v6 q hL
/-- at most 16 numbers, of any size -/
def Pw (ns : List Int) : Prop := Pol ns ∧ ns.length ≤ 16
def spTwoW (C : Int → Int → Prop) (m : List Int → List Int → List Int) : Sp := fun vs H Q _ => ∃ (a b : Addr) (xs ys : List Int), vs = [.ref a, .ref b] ∧ Li H a xs ∧ Li H b ys ∧ Pw xs ∧ Pw ys ∧ (∀ x ∈ xs, ∀ y ∈ ys, C x y) ∧ Evl.RetL (iV (m xs ys)) H Q
/-- the constant n -/
def cp (n : Int) : List Int := if n = 0 then [] else [n]
theorem cp_0 : cp 0 = [] := rfl
theorem cp_n {n : Int} (h : n ≠ 0) : cp n = [n] := if_neg h
theorem cp_pw (n : Int) : Pw (cp n) := by
  unfold cp
  split
  · exact ⟨fun x h => (by cases h), Nat.zero_le _⟩
  · rename_i h
    refine ⟨fun x e => ?_, by show 1 ≤ 16; decide⟩
    cases e
    exact h
theorem cp_mem {n x : Int} (h : x ∈ cp n) : x = n := by
  unfold cp at h
  split at h
  · cases h
  · exact List.mem_singleton.mp h
theorem trm_1 (n : Int) : trm [n] = cp n := by
  by_cases h : n = 0
  · subst h
    decide
  · rw [cp_n h]
    exact trm_pol fun x e => by
      cases e
      exact h
theorem cp_add (x y : Int) : trm (padd (cp x) (cp y)) = cp (x + y) := by
  by_cases hx : x = 0
  · by_cases hy : y = 0
    · subst hx hy
      decide
    · have e : padd (cp x) (cp y) = [x + y] := by
        rw [hx, cp_0, cp_n hy]
        simp [padd, vec]
      rw [e, trm_1]
  · by_cases hy : y = 0
    · have e : padd (cp x) (cp y) = [x + y] := by
        rw [hy, cp_0, cp_n hx]
        simp [padd, vec]
      rw [e, trm_1]
    · have e : padd (cp x) (cp y) = [x + y] := by
        rw [cp_n hx, cp_n hy]
        simp [padd, vec]
      rw [e, trm_1]
theorem cp_mul (x y : Int) : trm (pmul (cp x) (cp y)) = cp (x * y) := by
  by_cases hx : x = 0
  · subst hx
    rw [Int.zero_mul, cp_0]
    exact nil_pmul _
  · by_cases hy : y = 0
    · subst hy
      rw [Int.mul_zero, cp_0]
      exact pmul_nil _
    · have e : pmul (cp x) (cp y) = [x * y] := by
        rw [cp_n hx, cp_n hy]
        simp [pmul, vec, cf]
      rw [e, trm_1]
section
variable {base : Heap} {mg : Str → Option Value} {K : PySem.W.Frag} {w : World} {P : Program}
theorem ok_multipliedW {f : Addr} {fd : FuncData} (F : Fun K "multiplied" "multiplied" s_multiplied f fd) (T : T2 mg) : FnOk P w K mg base CX0 1 f fd p_multiplied (spTwoW (fun x y => CMulW x y) fun xs ys => trm (pmul xs ys)) := by
  refine F.ok sc_multiplied (fun vs H Q E h => ?_) (fun cdv A outer s H vs Q E hr h => ?_)
  · obtain ⟨a, b, xs, ys, rfl, _⟩ := h
    rfl
  · obtain ⟨a, b, xs, ys, rfl, ha, hb, hx, hy, hxy, k⟩ := h
    have k : Evl.RetL (iV (trm (pmul xs ys))) H Q := k
    have nd := sc_multiplied.nd
    refine ⟨_, pss_cons (ps_if (PW.pt (pw_or (pt_not (pt_truth (pv 0) (by intro _; rfl))) (pw_or1 (pt_not (pt_truth (pv 1) (by intro _; rfl)))))) (pss_one (ps_ret (pe_lst pa_nil))) pss_nil)
      (pss_cons (ps_set (i := 2) nd rfl (Or.inl rfl) (pe_op op_rep (pe_lst (pa_cons pe_int pa_nil)) (pe_op op_sub (pe_op op_add (pe_callB call_len_seq (by rfl) T.len PySem.boot_len (pa_cons (pv 0) pa_nil)) (pe_callB call_len_seq (by rfl) T.len PySem.boot_len (pa_cons (pv 1) pa_nil))) pe_int)))
      (pss_cons (ps_for PassesOwn.never rfl (pi_enum (by rfl) T.enu (pa_cons (pv 0) pa_nil)) (pg_tup rfl (pgs_cons (pg_name (i := 3) nd rfl (Or.inl rfl)) (pgs_cons (pg_name (i := 4) nd rfl (Or.inl rfl)) pgs_nil)))
        (pss_one (ps_for PassesOwn.never rfl (pi_enum (by rfl) T.enu (pa_cons (pv 1) pa_nil)) (pg_tup rfl (pgs_cons (pg_name (i := 5) nd rfl (Or.inl rfl)) (pgs_cons (pg_name (i := 6) nd rfl (Or.inl rfl)) pgs_nil)))
          (pss_one (ps_asg (pe_op op_add (pe_ix ix_list (pv 2) (pe_op op_add (pv 3) (pv 5)) (fun _ _ => rfl)) (pe_op op_mulW (pv 4) (pv 6))) (pg_sub (pv 2) (pe_op op_add (pv 3) (pv 5)) set_list))))))
      (pss_one (ps_ret (pv 2))))), ?_⟩
    have none_ : xs = [] ∨ ys = [] → trm (pmul xs ys) = [] := by
      rintro (e | e)
      · rw [e]; exact nil_pmul ys
      · rw [e]; exact pmul_nil xs
    refine ⟨_, rfl, _, tru_list ha, ?_⟩
    by_cases ex : xs = []
    · refine if_t (by rw [ex]; rfl) ?_
      refine ite2 (fun _ => ?_) (fun z => absurd rfl z)
      refine ⟨Nat.zero_le _, fun p hp => k p _ hp (Evl.Ex.new hp) ?_⟩
      rw [upd_same, none_ (.inl ex)]; rfl
    refine if_f (by cases xs with | nil => exact absurd rfl ex | cons _ _ => rfl) ⟨_, rfl, _, tru_list hb, ?_⟩
    by_cases ey : ys = []
    · refine if_t (by rw [ey]; rfl) ?_
      refine ⟨Nat.zero_le _, fun p hp => k p _ hp (Evl.Ex.new hp) ?_⟩
      rw [upd_same, none_ (.inr ey)]; rfl
    refine if_f (by cases ys with | nil => exact absurd rfl ey | cons _ _ => rfl) ?_
    have lx : 0 < xs.length := List.length_pos_iff.mpr ex
    have ly : 0 < ys.length := List.length_pos_iff.mpr ey
    obtain ⟨px, hx2⟩ := hx
    obtain ⟨py, hy2⟩ := hy
    refine ⟨(by show 1 ≤ sizeLine; decide), fun p hp => ?_⟩
    have ha1 : Li (upd H p (.lst [.int 0])) a xs := Eq.trans (upd_ne (ne_of_none ha hp)) ha
    have hb1 : Li (upd H p (.lst [.int 0])) b ys := Eq.trans (upd_ne (ne_of_none hb hp)) hb
    refine ⟨_, rfl, a, _, rfl, .inl ha1.sq, _, rfl, b, _, rfl, .inl hb1.sq, _, _, rfl, rfl, _, _, rfl, rfl, p, _, _, rfl, rfl, upd_same, by rw [iV_len, iV_len]; omega, by rw [iV_len, iV_len]; omega, ?_, fun l hl => ?_⟩
    · rw [iV_len, iV_len]
      show 1 * _ ≤ sizeLine
      refine Nat.le_trans ?_ (show 100 ≤ sizeLine by decide)
      omega
    have eN : (((iV xs).length : Int) + ((iV ys).length : Int) - 1).toNat = xs.length + ys.length - 1 := by rw [iV_len, iV_len]; omega
    refine rowsW_read (K := K) (N := xs.length + ys.length - 1) (Eq.trans (upd_ne (ne_of_none ha1 hl)) ha1) (Eq.trans (upd_ne (ne_of_none hb1 hl)) hb1) ?_ (ne_of_none ha1 hl) (ne_of_none hb1 hl) (by omega) hxy fun H' v3 v4 v5 v6 q hL => ?_
    · unfold Li
      rw [upd_same]
      show some (HO.lst (List.replicate (((iV xs).length : Int) + ((iV ys).length : Int) - 1).toNat [V.int 0]).flatten) = _
      rw [eN, rep_flat, vec_zero, iV_rep]
    · refine ⟨_, rfl, k l H' (Evl.fresh_back (Evl.Ex.new hp) hl) (fun c o e => ?_) ?_⟩
      · have e1 : upd H p (.lst [.int 0]) c = some o := Eq.trans (upd_ne (ne_of_none e hp)) e
        exact q c o (ne_of_none e1 hl) (Eq.trans (upd_ne (ne_of_none e1 hl)) e1)
      · rw [trm_pol (pol_pmul px py ex ey)]
        exact hL
theorem ok_addedW {f : Addr} {fd : FuncData} (F : Fun K "added" "added" s_added f fd) (T : T2 mg) (cT : Cal P w K mg base 1 "cut" p_cut (spTrim K)) : FnOk P w K mg base CX0 2 f fd p_added (spTwoW (fun _ _ => True) fun xs ys => trm (padd xs ys)) := by
  refine F.ok sc_added (fun vs H Q E h => ?_) (fun cdv A outer s H vs Q E hr h => ?_)
  · obtain ⟨a, b, xs, ys, rfl, _⟩ := h
    rfl
  · obtain ⟨a, b, xs, ys, rfl, ha, hb, hx, hy, _, k⟩ := h
    have k : Evl.RetL (iV (trm (padd xs ys))) H Q := k
    have nd := sc_added.nd
    refine ⟨_, pss_cons (ps_set (i := 2) nd rfl (Or.inl rfl) (pe_callB (call_max2 rfl) (by rfl) T.max (by decide +kernel) (pa_cons (pe_callB call_len_seq (by rfl) T.len PySem.boot_len (pa_cons (pv 0) pa_nil)) (pa_cons (pe_callB call_len_seq (by rfl) T.len PySem.boot_len (pa_cons (pv 1) pa_nil)) pa_nil))))
      (pss_cons (ps_asg (pe_tup (pa_cons (pe_op op_cat (pv 0) (pe_op op_rep (pe_lst (pa_cons pe_int pa_nil)) (pe_op op_sub (pv 2) (pe_callB call_len_seq (by rfl) T.len PySem.boot_len (pa_cons (pv 0) pa_nil)))))
          (pa_cons (pe_op op_cat (pv 1) (pe_op op_rep (pe_lst (pa_cons pe_int pa_nil)) (pe_op op_sub (pv 2) (pe_callB call_len_seq (by rfl) T.len PySem.boot_len (pa_cons (pv 1) pa_nil))))) pa_nil))) (pg_tup rfl (pgs_cons (pg_name (i := 3) nd rfl (Or.inr rfl)) (pgs_cons (pg_name (i := 4) nd rfl (Or.inr rfl)) pgs_nil))))
      (pss_one (ps_ret (pe_c cT hr (pa_cons (pe_lc (own := [("k", 5)]) (g := gName 5) (tt := tYes) (te := tOp (rI0 fun i j => .int (i + j)) (tOp (rIxL K) (tVar 3) (tVar 5)) (tOp (rIxL K) (tVar 4) (tVar 5))) rfl nd (pi_range1 (by rfl) T.rng (pa_cons (pv 2) pa_nil)) (blkOk_by (N := n_added) (sc := defScope s_added) (by decide +kernel)) (fun _ _ _ _ _ => pg_name (i := 5) nd rfl (Or.inl rfl)) (fun _ _ _ _ _ => pts_nil)
        (fun _ _ _ _ _ => pe_op op_add (pe_ix ix_list (pv 3) (pv 5) (fun _ _ => rfl)) (pe_ix ix_list (pv 4) (pv 5) (fun _ _ => rfl)))) pa_nil))))), ?_⟩
    obtain ⟨px, hx2⟩ := hx
    obtain ⟨py, hy2⟩ := hy
    generalize hn : max xs.length ys.length = n
    have em : (if ((iV ys).length : Int) > ((iV xs).length : Int) then ((iV ys).length : Int) else ((iV xs).length : Int)) = (n : Int) := by
      rw [iV_len, iV_len]; exact gt_len _ _ _ hn.symm
    refine ⟨_, rfl, a, _, rfl, .inl ha.sq, _, rfl, b, _, rfl, .inl hb.sq, _, _, rfl, ?_⟩
    rw [em]
    refine el_pad (K := K) (n := n) (xs := xs) (a := a) rfl rfl ha (by omega) (by omega) H (Evl.Ex.refl _) _ fun p H1 hp e1 h1 => ?_
    refine el_pad (K := K) (n := n) (xs := ys) (a := b) rfl rfl (e1 _ _ hb) (by omega) (by omega) H1 (Evl.Ex.refl _) _ fun q H2 hq e2 h2 => ?_
    refine ⟨(by show 2 ≤ sizeLine; decide), fun t ht => ?_⟩
    have e3 : Evl.Ex H2 (upd H2 t (.tup [.ref p, .ref q])) := Evl.Ex.new ht
    refine ⟨t, _, rfl, SqT.of upd_same, rfl, _, _, rfl, _, _, rfl, rfl, ?_⟩
    have hG := el_sums (K := K) (σ := [some (.ref a), some (.ref b), some (.int (n : Int)), some (.ref p), some (.ref q), none]) (jn := 2) (jk := 5) (im := 3) (iy := 4) (n := n) (xs := xs) (ys := ys) (a := p) (b := q) rfl (e3 _ _ (e2 _ _ h1)) (e3 _ _ h2) (by omega) (by omega) (by omega) (by intro _; rfl) (by intro _; rfl) (by intro _; rfl) (by intro _; rfl) _ (Evl.Ex.refl _) (fun x H1 => spTrim K [x] H1 Q E0) (fun r H4 hr4 e4 h4 => by
      refine ⟨r, _, rfl, SqL.of h4, by rw [vec_len]; omega, fun z H5 hz e5 h5 => ?_⟩
      have e05 := ((e1.trans e2).trans e3).trans e4
      refine k z H5 (Evl.fresh_back e05 hz) (e05.trans e5) ?_
      rw [h5, ← hn]
      rfl)
    exact hG
end
end V2


namespace V2
open PySem L2
open PySem.Spec PyProof.Rows
theorem pe_never {X : Cx} {e : Expr} : PE X e (fun _ _ _ => False) := ⟨fun _ _ _ _ _ _ h => h.elim⟩
theorem cont_1 (b : Int) : cont [b] = b.natAbs := by
  simp [cont]
theorem prim_1 {b : Int} (h : 0 < b) : prim [b] = [1] := by
  unfold prim
  rw [cont_1]
  have e : ((b.natAbs : Nat) : Int) = b := by omega
  rw [List.map_cons, List.map_nil, e, Int.ediv_self (by omega)]
def B26 (n : Int) : Prop := n.natAbs < 2 ^ 4400
/-- the way up of a constant above 0 -/
def spUp1 : Sp := fun vs H Q _ => ∃ (a : Addr) (b : Int), vs = [.ref a] ∧ Li H a [b] ∧ 0 < b ∧ B26 b ∧ Evl.RetL (iV [1]) H Q
def spCf1 : Sp := fun vs H Q _ => ∃ (a b : Addr) (t m : Int), vs = [.ref a, .ref b] ∧ Li H a [t] ∧ Li H b [m] ∧ t ≠ 0 ∧ 0 < m ∧ B26 t ∧ B26 m ∧ Evl.RetL (iV [1]) H Q
def spQ1 : Sp := fun vs H Q _ => ∃ (a b : Addr) (t : Int), vs = [.ref a, .ref b] ∧ Li H a [t] ∧ Li H b [1] ∧ B26 t ∧ Evl.RetL (iV [t]) H Q
section
variable {base : Heap} {mg : Str → Option Value} {K : PySem.W.Frag} {w : World} {P : Program}
theorem ok_upright1 {f : Addr} {fd : FuncData} (F : Fun K "upright" "upright" s_upright f fd) (cP : Cal P w K mg base 2 "primitive" p_primitive spPrim) : FnOk P w K mg base CX0 3 f fd p_upright spUp1 := by
  refine F.ok sc_upright (fun vs H Q E h => ?_) (fun cdv A outer s H vs Q E hr h => ?_)
  · obtain ⟨a, b, rfl, _⟩ := h
    rfl
  · obtain ⟨a, b, rfl, ha, hb, hB, k⟩ := h
    have nd := sc_upright.nd
    refine ⟨_, pss_cons (ps_set (i := 1) nd rfl (Or.inl rfl) (pe_c cP hr (pa_cons (pv 0) pa_nil)))
      (pss_one (ps_ret (pe_ifExp (PW.pt (pw_and (pt_truth (pv 1) (by intro _; rfl)) (pw_and1 (pt_cmpR op_lt (pe_ix ix_list (pv 1) (pe_un un_neg pe_int) (fun _ _ => rfl)) pe_int (nomark _))))) pe_never (pv 1)))), ?_⟩
    refine ⟨_, rfl, a, [b], rfl, ha, by show 1 ≤ 100; decide, ?_, ?_, fun l H1 hl e1 h1 => ?_⟩
    · intro x hx
      obtain rfl := List.mem_singleton.mp hx
      exact Nat.lt_of_lt_of_le hB (Nat.pow_le_pow_right (by decide) (by decide))
    · intro x e
      cases e
      omega
    · rw [prim_1 hb] at h1
      refine ⟨_, rfl, _, tru_list (ns := [1]) h1, if_t rfl ?_⟩
      refine ⟨_, rfl, _, rfl, l, _, _, _, rfl, rfl, SqL.of h1, rfl, _, _, rfl, rfl, _, rfl, if_f (by decide) ?_⟩
      exact ⟨_, rfl, k l H1 hl e1 h1⟩
theorem ok_common1 {f : Addr} {fd : FuncData} (F : Fun K "common_factor" "common_factor" s_common_factor f fd) (cR : Cal P w K mg base 3 "remainder" p_remainder spRemW) (cU : Cal P w K mg base 3 "upright" p_upright spUp1) : FnOk P w K mg base CX0 4 f fd p_common_factor spCf1 := by
  refine F.ok sc_common_factor (fun vs H Q E h => ?_) (fun cdv A outer s H vs Q E hr h => ?_)
  · obtain ⟨a, b, t, m, rfl, _⟩ := h
    rfl
  · obtain ⟨a, b, t, m, rfl, ha, hb, ht, hm, hT, hM, k⟩ := h
    have nd := sc_common_factor.nd
    refine ⟨_, pss_cons (ps_par (i := 2) (j := 3) rfl nd rfl rfl (by decide) rfl rfl (pa_cons (pv 0) (pa_cons (pv 1) pa_nil)) (by rfl))
      (pss_cons (ps_while PassesOwn.never (pt_truth (pv 3) (by intro _; rfl)) (pss_one (ps_par (i := 2) (j := 3) rfl nd rfl rfl (by decide) rfl rfl (pa_cons (pv 3) (pa_cons (pe_c cR hr (pa_cons (pv 2) (pa_cons (pv 3) pa_nil))) pa_nil)) (by rfl))))
      (pss_one (ps_ret (pe_c cU hr (pa_cons (pv 2) pa_nil))))), ?_⟩
    refine ⟨_, rfl, _, rfl, _, _, rfl, ?_⟩
    refine ⟨fun n σ H' => Evl.Ex H H' ∧ ((n = 1 ∧ σ = [some (.ref a), some (.ref b), some (.ref a), some (.ref b)]) ∨ ∃ r, n = 0 ∧ Li H' r [] ∧ σ = [some (.ref a), some (.ref b), some (.ref b), some (.ref r)]), ⟨1, Evl.Ex.refl _, .inl ⟨rfl, rfl⟩⟩, ?_⟩
    rintro n σ H1 ⟨e1, ⟨rfl, rfl⟩ | ⟨r, rfl, hr0, rfl⟩⟩
    · refine ⟨_, rfl, _, tru_list (e1 _ _ hb), if_t rfl ?_⟩
      refine ⟨fun σ H' => ∃ r, Li H' r [] ∧ Evl.Ex H H' ∧ σ = [some (.ref a), some (.ref b), some (.ref b), some (.ref r)], fun σ H' ⟨r, h1, h2, h3⟩ => ⟨0, by decide, h2, .inr ⟨r, rfl, h1, h3⟩⟩, ?_⟩
      have bs : ∀ {x : Int}, B26 x → Bs 4400 [x] := fun h z hz => by
        obtain rfl := List.mem_singleton.mp hz
        exact h
      have p1 : ∀ {x : Int}, x ≠ 0 → Pol [x] := fun h z e => by
        cases e
        exact h
      refine ⟨_, rfl, _, rfl, _, rfl, a, b, [t], [m], 4400, 4400, rfl, e1 _ _ ha, e1 _ _ hb, p1 ht, p1 (by omega), by show 1 ≤ 8; decide, by show 1 ≤ 8; decide, bs hT, bs hM, by simp, by show 4400 + (1 + 1 - 1) * (4400 + 1) ≤ 8900; decide, by decide, fun L hL r H2 hr2 e2 h2 => ?_⟩
      have hL0 : L = [] := List.length_eq_zero_iff.mp (Nat.lt_one_iff.mp hL.2.1)
      subst hL0
      exact ⟨_, _, rfl, r, h2, e1.trans e2, rfl⟩
    · refine ⟨_, rfl, _, tru_list hr0, if_f rfl ?_⟩
      exact ⟨_, rfl, b, m, rfl, e1 _ _ hb, hm, hM, fun l H2 hl e2 h2 => k l H2 (Evl.fresh_back e1 hl) (e1.trans e2) h2⟩
theorem ok_quotient1 {f : Addr} {fd : FuncData} (F : Fun K "quotient" "quotient" s_quotient f fd) (T : T2 mg) (mL : mg "list" = none) : FnOk P w K mg base CX0 1 f fd p_quotient spQ1 := by
  refine F.ok sc_quotient (fun vs H Q E h => ?_) (fun cdv A outer s H vs Q E hr h => ?_)
  · obtain ⟨a, b, t, rfl, _⟩ := h
    rfl
  · obtain ⟨a, b, t, rfl, ha, hb, hT, k⟩ := h
    have nd := sc_quotient.nd
    refine ⟨_, pss_cons (ps_set (i := 2) nd rfl (Or.inl rfl) (pe_callTy call_list_of (by rfl) mL (by decide +kernel) (pa_cons (pv 0) pa_nil)))
      (pss_cons (ps_set (i := 3) nd rfl (Or.inl rfl) (pe_op op_add (pe_op op_sub (pe_callB call_len_seq (by rfl) T.len PySem.boot_len (pa_cons (pv 0) pa_nil)) (pe_callB call_len_seq (by rfl) T.len PySem.boot_len (pa_cons (pv 1) pa_nil))) pe_int))
      (pss_cons (ps_set (i := 4) nd rfl (Or.inl rfl) (pe_op op_rep (pe_lst (pa_cons pe_int pa_nil)) (pv 3)))
      (pss_cons (ps_for PassesOwn.never rfl (pi_range3 (by rfl) T.rng (pa_cons (pe_op op_sub (pv 3) pe_int) (pa_cons (pe_un un_neg pe_int) (pa_cons (pe_un un_neg pe_int) pa_nil)))) (pg_name (i := 5) nd rfl (Or.inl rfl))
        (pss_cons (ps_asg (pe_op op_fdivW (pe_ix ix_list (pv 2) (pe_op op_sub (pe_op op_add (pv 5) (pe_callB call_len_seq (by rfl) T.len PySem.boot_len (pa_cons (pv 1) pa_nil))) pe_int) (fun _ _ => rfl)) (pe_ix ix_list (pv 1) (pe_un un_neg pe_int) (fun _ _ => rfl))) (pg_sub (pv 4) (pv 5) set_list))
        (pss_one (ps_for PassesOwn.never rfl (pi_enum (by rfl) T.enu (pa_cons (pv 1) pa_nil)) (pg_tup rfl (pgs_cons (pg_name (i := 6) nd rfl (Or.inl rfl)) (pgs_cons (pg_name (i := 7) nd rfl (Or.inl rfl)) pgs_nil)))
          (pss_one (ps_asg (pe_op op_sub (pe_ix ix_list (pv 2) (pe_op op_add (pv 5) (pv 6)) (fun _ _ => rfl)) (pe_op op_mulW (pe_ix ix_list (pv 4) (pv 5) (fun _ _ => rfl)) (pv 7))) (pg_sub (pv 2) (pe_op op_add (pv 5) (pv 6)) set_list)))))))
      (pss_one (ps_ret (pv 4)))))), ?_⟩
    have one : 1 ≤ sizeLine := by show 1 ≤ sizeLine; decide
    refine ⟨_, rfl, a, _, rfl, .inl ha.sq, fun l hl => ?_⟩
    have e1 := Evl.Ex.new (o := .lst (iV [t])) hl
    have u1 : Li (upd H l (.lst (iV [t]))) l [t] := upd_same
    generalize upd H l (.lst (iV [t])) = H1 at e1 u1
    refine ⟨_, rfl, a, _, rfl, .inl (SqL.of (e1 _ _ ha)), _, rfl, b, _, rfl, .inl (SqL.of (e1 _ _ hb)), _, _, rfl, rfl, _, _, rfl, rfl, ?_⟩
    have em : ((iV [t]).length : Int) - ((iV [1]).length : Int) + 1 = 1 := rfl
    dsimp only
    rw [em]
    refine ⟨one, fun p hp => ⟨_, rfl, p, _, _, rfl, rfl, upd_same, by decide, by decide, by decide, fun q hq => ?_⟩⟩
    have e2 := (Evl.Ex.new (o := .lst [.int 0]) hp).trans (Evl.Ex.new (o := .lst [.int 0]) hq)
    have hq1 : H1 q = none := Evl.fresh_back (Evl.Ex.new hp) hq
    have u2 : Li (upd (upd H1 p (.lst [.int 0])) q (.lst [.int 0])) q [0] := upd_same
    have nlq : l ≠ q := ne_of_none u1 hq1
    replace u1 := e2 _ _ u1
    have e3 := e1.trans e2
    have e12 : Evl.Ex H (upd H1 p (.lst [.int 0])) := e1.trans (Evl.Ex.new hp)
    have fq : H q = none := Evl.fresh_back e12 hq
    generalize hG : upd (upd H1 p (.lst [.int 0])) q (.lst [.int 0]) = H2 at e3 u1 u2
    have hG' : upd (upd H1 p (.lst [.int 0])) q (.lst (List.replicate (1 : Int).toNat [V.int 0]).flatten) = H2 := hG
    rw [hG']
    refine ⟨_, rfl, _, _, rfl, rfl, _, rfl, _, rfl, 0, -1, -1, 1, rfl, ⟨by decide, by decide, by decide, by decide⟩, for_rangeC (n := 1) (fun i σ H' => ∃ v5 v6 v7, σ = [some (.ref a), some (.ref b), some (.ref l), some (.int 1), some (.ref q), v5, v6, v7] ∧ (∀ c o, c ≠ l → c ≠ q → H2 c = some o → H' c = some o) ∧ Li H' l [if i = 0 then t else 0] ∧ Li H' q [if i = 0 then 0 else t]) ⟨_, _, _, rfl, fun _ _ _ _ h => h, u1, u2⟩ ?_ ?_⟩
    · rintro i σ H3 hi ⟨v5, v6, v7, rfl, k3, u3, q3⟩
      obtain rfl : i = 0 := by omega
      have bl : b ≠ l := ne_of_none (show H b = some _ from hb) hl
      have bq : b ≠ q := ne_of_none (show H b = some _ from hb) fq
      have hb3 : Li H3 b [1] := k3 _ _ bl bq (e3 _ _ hb)
      refine ⟨_, rfl, _, rfl, _, rfl, b, _, rfl, .inl (SqL.of hb3), _, _, rfl, rfl, _, _, rfl, rfl, l, _, _, _, rfl, rfl, SqL.of u3, rfl, _, rfl, _, rfl, b, _, _, _, rfl, rfl, SqL.of hb3, rfl, _, _, rfl, rfl, wide_div (b := 1) (by decide) (by decide) (by decide) (by decide), ?_⟩
      refine ⟨_, rfl, _, rfl, q, _, _, 0, rfl, rfl, q3, by rfl, ?_⟩
      have hb4 : Li (upd H3 q (.lst ((iV [if 0 = 0 then 0 else t]).set 0 (.int ((if 0 = 0 then t else 0) / 1))))) b [1] := Eq.trans (upd_ne bq) hb3
      have l4 : Li (upd H3 q (.lst ((iV [if 0 = 0 then 0 else t]).set 0 (.int ((if 0 = 0 then t else 0) / 1))))) l [t] := Eq.trans (upd_ne nlq) u3
      have q4 : Li (upd H3 q (.lst ((iV [if 0 = 0 then 0 else t]).set 0 (.int ((if 0 = 0 then t else 0) / 1))))) q [t] := by
        unfold Li
        rw [upd_same]
        show some (HO.lst [V.int (t / 1)]) = some (HO.lst [V.int t])
        rw [Int.ediv_one]
      have k4 : ∀ c o, c ≠ l → c ≠ q → H2 c = some o → upd H3 q (.lst ((iV [if 0 = 0 then 0 else t]).set 0 (.int ((if 0 = 0 then t else 0) / 1)))) c = some o := fun c o cl cq h => by
        rw [upd_ne cq]
        exact k3 c o cl cq h
      generalize upd H3 q (.lst ((iV [if 0 = 0 then 0 else t]).set 0 (.int ((if 0 = 0 then t else 0) / 1)))) = H4 at hb4 l4 q4 k4
      refine ⟨_, rfl, b, _, rfl, SqL.of hb4, for_it walk_enum (fun j σ H5 => ∃ v6 v7, σ = [some (.ref a), some (.ref b), some (.ref l), some (.int 1), some (.ref q), some (.int (0 + ((0 : Nat) : Int) * -1)), v6, v7] ∧ (∀ c o, c ≠ l → c ≠ q → H2 c = some o → H5 c = some o) ∧ Li H5 l [if j = 0 then t else 0] ∧ Li H5 q [t])
        ⟨_, _, rfl, k4, l4, q4⟩ (fun j σ H5 _ ⟨_, _, _, kk, _⟩ => SqL.of (kk _ _ bl bq (e3 _ _ hb))) ?_ ?_⟩
      · rintro j x σ H5 H6 hj ⟨v6, v7, rfl, k5, l5, q5⟩ ⟨T2, z, y, rfl, hT2, rfl, hz, hy⟩
        obtain rfl : j = 0 := by
          have : j < 1 := hj
          omega
        obtain rfl := (Option.some.inj hz).symm
        obtain rfl : y = .int 1 := (Option.some.inj hy).symm
        have nT2l : T2 ≠ l := (ne_of_none l5 hT2).symm
        have nT2q : T2 ≠ q := (ne_of_none q5 hT2).symm
        refine ⟨T2, _, rfl, SqT.of upd_same, rfl, _, _, rfl, _, _, rfl, rfl, ?_⟩
        have l6 : Li (upd H5 T2 (.tup [.int ((0 : Nat) : Int), .int 1])) l [t] := Eq.trans (upd_ne nT2l.symm) l5
        have q6 : Li (upd H5 T2 (.tup [.int ((0 : Nat) : Int), .int 1])) q [t] := Eq.trans (upd_ne nT2q.symm) q5
        refine ⟨_, rfl, _, rfl, _, rfl, _, _, rfl, rfl, l, _, _, _, rfl, rfl, SqL.of l6, rfl, _, rfl, _, rfl, q, _, _, _, rfl, rfl, SqL.of q6, rfl, _, rfl, _, _, rfl, rfl, ?_, _, _, rfl, rfl, ?_⟩
        · exact wide_mul (a := 4400) (b := 1) hT (by decide) (by decide) (by decide) (by decide)
        refine ⟨_, rfl, _, rfl, _, rfl, _, _, rfl, rfl, l, _, _, 0, rfl, rfl, l6, by rfl, ?_⟩
        refine ⟨_, _, rfl, fun c o cl cq h => ?_, ?_, ?_⟩
        · rw [upd_ne cl, upd_ne (ne_of_none (k5 c o cl cq h) hT2)]
          exact k5 c o cl cq h
        · unfold Li
          rw [upd_same]
          show some (HO.lst [V.int (t - t * 1)]) = some (HO.lst [V.int 0])
          rw [Int.mul_one, Int.sub_self]
        · exact Eq.trans (upd_ne nlq.symm) q6
      · rintro σ H5 ⟨v6, v7, rfl, k5, l5, q5⟩
        exact ⟨_, _, _, rfl, k5, l5, q5⟩
    · rintro σ H3 ⟨v5, v6, v7, rfl, k3, u3, q3⟩
      refine ⟨_, rfl, k q H3 fq (fun c o h => k3 c o (ne_of_none h hl) (ne_of_none h fq) (e3 _ _ h)) q3⟩
/-- top by bottom, constants: the tuple of two lists -/
def spRed1 : Sp := fun vs H Q _ => ∃ (a b : Addr) (t m : Int), vs = [.ref a, .ref b] ∧ Li H a (cp t) ∧ Li H b [m] ∧ 0 < m ∧ B26 t ∧ B26 m ∧
  ∀ (q x y : Addr) (H' : Hp), H x = none → H y = none → Evl.Ex H H' → H' q = some (.tup [.ref x, .ref y]) → Li H' x (cp (fr t m).1) → Li H' y [(fr t m).2] → Q (.ref q) H'
theorem B26.g {t m : Int} (hm : 0 < m) (h : B26 m) : 0 < ((Int.gcd t m : Nat) : Int) ∧ B26 ((Int.gcd t m : Nat) : Int) := by
  have h0 : 0 < Int.gcd t m := Int.gcd_pos_of_ne_zero_right _ (by omega)
  refine ⟨by omega, ?_⟩
  unfold B26
  rw [Int.natAbs_natCast]
  refine Nat.lt_of_le_of_lt (Nat.le_of_dvd (by omega) ?_) h
  exact Int.natAbs_dvd_natAbs.mpr (Int.gcd_dvd_right _ _) |> (by simpa using ·)
theorem ok_reduced1 {f : Addr} {fd : FuncData} (F : Fun K "reduced" "reduced" s_reduced f fd) (mG : mg "gcd" = some (.builtin "math.gcd")) (cF : Cal P w K mg base 4 "common_factor" p_common_factor spCf1) (cQ : Cal P w K mg base 1 "quotient" p_quotient spQ1) (cC : Cal P w K mg base 1 "content" p_content (spCont K)) : FnOk P w K mg base CX0 5 f fd p_reduced spRed1 := by
  refine F.ok sc_reduced (fun vs H Q E h => ?_) (fun cdv A outer s H vs Q E hr h => ?_)
  · obtain ⟨a, b, t, m, rfl, _⟩ := h
    rfl
  · obtain ⟨a, b, t, m, rfl, ha, hb, hm, hT, hM, k⟩ := h
    have nd := sc_reduced.nd
    have r1 : Room 1 _ := hr.mono (by decide)
    have two : 2 ≤ sizeLine := by show 2 ≤ sizeLine; decide
    refine ⟨_, pss_cons (ps_if (pt_not (pt_truth (pv 0) (by intro _; rfl))) (pss_one (ps_ret (pe_tup (pa_cons (pe_lst pa_nil) (pa_cons (pe_lst (pa_cons pe_int pa_nil)) pa_nil))))) pss_nil)
      (pss_cons (ps_set (i := 2) nd rfl (Or.inl rfl) (pe_c cF hr (pa_cons (pv 0) (pa_cons (pv 1) pa_nil))))
      (pss_cons (ps_par (i := 3) (j := 4) rfl nd rfl rfl (by decide) rfl rfl (pa_cons (pe_c cQ r1 (pa_cons (pv 0) (pa_cons (pv 2) pa_nil))) (pa_cons (pe_c cQ r1 (pa_cons (pv 1) (pa_cons (pv 2) pa_nil))) pa_nil)) (by rfl))
      (pss_cons (ps_set (i := 5) nd rfl (Or.inr rfl) (pe_callBfun cr_gcd (by rfl) mG (pa_cons (pe_c cC r1 (pa_cons (pv 3) pa_nil)) (pa_cons (pe_c cC r1 (pa_cons (pv 4) pa_nil)) pa_nil))))
      (pss_one (ps_ret (pe_tup (pa_cons (pe_lc (own := [("part", 6)]) (g := gName 6) (tt := tYes) (te := tOp (rI CDivW fun i j => .int (i / j)) (tVar 6) (tVar 5)) rfl nd (pi_list (pv 3)) (blkOk_by (N := n_reduced) (sc := defScope s_reduced) (by decide +kernel)) (fun _ _ _ _ _ => pg_name (i := 6) nd rfl (Or.inl rfl)) (fun _ _ _ _ _ => pts_nil) (fun _ _ _ _ _ => pe_op op_fdivW (pv 6) (pv 5)))
        (pa_cons (pe_lc (own := [("part", 6)]) (g := gName 6) (tt := tYes) (te := tOp (rI CDivW fun i j => .int (i / j)) (tVar 6) (tVar 5)) rfl nd (pi_list (pv 4)) (blkOk_by (N := n_reduced) (sc := defScope s_reduced) (by decide +kernel)) (fun _ _ _ _ _ => pg_name (i := 6) nd rfl (Or.inl rfl)) (fun _ _ _ _ _ => pts_nil) (fun _ _ _ _ _ => pe_op op_fdivW (pv 6) (pv 5))) pa_nil)))))))), ?_⟩
    refine ⟨_, rfl, _, tru_list ha, ?_⟩
    by_cases h0 : t = 0
    · subst h0
      refine if_t rfl ⟨Nat.zero_le _, fun x hx => ⟨by show 1 ≤ sizeLine; decide, fun y hy => ⟨two, fun q hq => ?_⟩⟩⟩
      have e1 := Evl.Ex.new (o := .lst []) hx
      have e2 := Evl.Ex.new (o := .lst [.int 1]) hy
      have e3 := Evl.Ex.new (o := .tup [.ref x, .ref y]) hq
      have f0 : fr 0 m = (0, 1) := by
        have := fr_eq (a := 0) (b := m) (c := 0) (d := 1) hm (by decide) (by omega)
        rw [this]
        exact fr_same (by decide) (by decide)
      refine k q x y _ hx (Evl.fresh_back e1 hy) ((e1.trans e2).trans e3) upd_same ?_ ?_
      · rw [f0]
        exact e3 _ _ (e2 _ _ upd_same)
      · rw [f0]
        exact e3 _ _ upd_same
    · rw [cp_n h0] at ha
      obtain ⟨g0, gB⟩ := B26.g (t := t) hm hM
      refine if_f (by rw [cp_n h0]; rfl) ?_
      refine ⟨_, rfl, _, rfl, a, b, t, m, rfl, ha, hb, h0, hm, hT, hM, fun F1 H1 hF1 e1 h1 => ?_⟩
      refine ⟨_, rfl, _, rfl, a, F1, t, rfl, e1 _ _ ha, h1, hT, fun x H2 hx e2 h2 => ?_⟩
      refine ⟨_, rfl, _, rfl, b, F1, m, rfl, e2 _ _ (e1 _ _ hb), e2 _ _ h1, hM, fun y H3 hy e3 h3 => ⟨_, _, rfl, ?_⟩⟩
      refine ⟨_, rfl, x, [t], rfl, e3 _ _ h2, fun H4 e4 => ?_⟩
      refine ⟨_, rfl, y, [m], rfl, e4 _ _ h3, fun H5 e5 => ⟨_, _, rfl, ?_⟩⟩
      rw [cont_1, cont_1]
      have eg : ((Nat.gcd ((t.natAbs : Nat) : Int).natAbs ((m.natAbs : Nat) : Int).natAbs : Nat) : Int) = ((Int.gcd t m : Nat) : Int) := by
        rw [Int.natAbs_natCast, Int.natAbs_natCast]
        rfl
      dsimp only
      rw [eg]
      generalize hge : ((Int.gcd t m : Nat) : Int) = g at g0 gB
      have x5 : Li H5 x [t] := e5 _ _ (e4 _ _ (e3 _ _ h2))
      have y5 : Li H5 y [m] := e5 _ _ (e4 _ _ h3)
      have e05 := ((((e1.trans e2).trans e3).trans e4).trans e5)
      refine ⟨_, rfl, x, rfl, ⟨_, SqL.of x5⟩, fun D hD => lc_list (xs := iV [t]) (fun i H' => Evl.Ex H5 H' ∧ H' D = some (.lst (iV (if i = 0 then [] else [t / g])))) ⟨Evl.Ex.new hD, upd_same⟩ (fun i H' _ q => SqL.of (q.1 _ _ x5)) ?_ ?_⟩
      · rintro i v H6 hi ⟨e6, h6⟩
        have i0 : i = 0 := by
          have : i < 1 := (List.getElem?_eq_some_iff.mp hi).1
          omega
        subst i0
        obtain rfl : v = .int t := (Option.some.inj hi).symm
        refine ⟨rfl, ?_⟩
        show tOp (rI CDivW fun i j => .int (i / j)) (tVar 6) (tVar 5) _ _ _
        exact ⟨_, rfl, _, rfl, _, _, rfl, rfl, wide_div (b := 4400) g0 gB (by decide) (by decide), _, h6, by show 0 < sizeLine; decide, Evl.Ex.mut e6 hD, upd_same⟩
      · rintro H6 ⟨e6, h6⟩
        have y6 : Li H6 y [m] := e6 _ _ y5
        refine ⟨_, rfl, y, rfl, ⟨_, SqL.of y6⟩, fun D2 hD2 => lc_list (xs := iV [m]) (fun i H' => Evl.Ex H6 H' ∧ H' D2 = some (.lst (iV (if i = 0 then [] else [m / g])))) ⟨Evl.Ex.new hD2, upd_same⟩ (fun i H' _ q => SqL.of (q.1 _ _ y6)) ?_ ?_⟩
        · rintro i v H7 hi ⟨e7, h7⟩
          have i0 : i = 0 := by
            have : i < 1 := (List.getElem?_eq_some_iff.mp hi).1
            omega
          subst i0
          obtain rfl : v = .int m := (Option.some.inj hi).symm
          refine ⟨rfl, ?_⟩
          show tOp (rI CDivW fun i j => .int (i / j)) (tVar 6) (tVar 5) _ _ _
          exact ⟨_, rfl, _, rfl, _, _, rfl, rfl, wide_div (b := 4400) g0 gB (by decide) (by decide), _, h7, by show 0 < sizeLine; decide, Evl.Ex.mut e7 hD2, upd_same⟩
        · rintro H7 ⟨e7, h7⟩
          refine ⟨two, fun q hq => ?_⟩
          have e8 := Evl.Ex.new (o := .tup [.ref D, .ref D2]) hq
          have ft : fr t m = (t / g, m / g) := by
            unfold fr
            rw [hge]
          have tg : t / g ≠ 0 := by
            have h1 := (fr_mul (u := t) hm).1
            rw [ft] at h1
            intro z
            rw [show (t / g, m / g).1 = t / g from rfl, z, Int.zero_mul] at h1
            exact h0 h1
          refine k q D D2 _ (Evl.fresh_back e05 hD) (Evl.fresh_back (e05.trans e6) hD2) (((e05.trans e6).trans e7).trans e8) upd_same ?_ ?_
          · rw [ft, cp_n tg]
            exact e8 _ _ (e7 _ _ h6)
          · rw [ft]
            exact e8 _ _ h7
end
end V2


namespace PySem
mutual
inductive ReadsS (h : Heap) : Value → PyData → Prop
  | none : ReadsS h .none .none
  | bool (b : Bool) : ReadsS h (.bool b) (.bool b)
  | int (i : Int) (t : Tok) : ReadsS h (.int i t) (.int i)
  | str (x : Str) (t : Tok) : ReadsS h (.str x t) (.str x)
  | list {a : Addr} {o : Obj} {vs : Array Value} {n : Nat} {xs : List PyData} : h.get? a = some o → o.cls = .type "list" → o.data = .seq vs n → ReadsAllS h vs.toList xs → ReadsS h (.ref a) (.list xs)
  | tuple {a : Addr} {o : Obj} {vs : Array Value} {n : Nat} {xs : List PyData} : h.get? a = some o → o.cls = .type "tuple" → o.data = .seq vs n → ReadsAllS h vs.toList xs → ReadsS h (.ref a) (.tuple xs)
  | dict {a : Addr} {o : Obj} {es : Array DictEntry} {n : Nat} {kvs : List (PyData × PyData)} : h.get? a = some o → o.cls = .type "dict" → o.data = .dict es n → (a == sysModules) = false → ReadsAllS h (es.toList.map (·.key)) (kvs.map (·.1)) →
      ReadsAllS h (es.toList.map (·.val)) (kvs.map (·.2)) → ReadsS h (.ref a) (.dict kvs)
inductive ReadsAllS (h : Heap) : List Value → List PyData → Prop
  | nil : ReadsAllS h [] []
  | cons {v : Value} {vs : List Value} {d : PyData} {ds : List PyData} : ReadsS h v d → ReadsAllS h vs ds → ReadsAllS h (v :: vs) (d :: ds)
end
section
variable {h : Heap}
mutual
theorem ReadsS.reads : ∀ {v : Value} {d : PyData}, ReadsS h v d → ∃ as, Reads h v d as
  | _, _, .none => ⟨_, .none⟩
  | _, _, .bool b => ⟨_, .bool b⟩
  | _, _, .int i t => ⟨_, .int i t⟩
  | _, _, .str x t => ⟨_, .str x t⟩
  | _, _, .list h1 h2 h3 h4 => let ⟨_, r⟩ := ReadsAllS.reads h4; ⟨_, .list h1 h2 h3 r⟩
  | _, _, .tuple h1 h2 h3 h4 => let ⟨_, r⟩ := ReadsAllS.reads h4; ⟨_, .tuple h1 h2 h3 r⟩
  | _, _, .dict h1 h2 h3 _ h4 h5 => let ⟨_, r⟩ := ReadsAllS.reads h4; let ⟨_, q⟩ := ReadsAllS.reads h5; ⟨_, .dict h1 h2 h3 r q⟩
theorem ReadsAllS.reads : ∀ {vs : List Value} {ds : List PyData}, ReadsAllS h vs ds → ∃ as, ReadsAll h vs ds as
  | _, _, .nil => ⟨_, .nil⟩
  | _, _, .cons r q => let ⟨_, a⟩ := ReadsS.reads r; let ⟨_, b⟩ := ReadsAllS.reads q; ⟨_, .cons a b⟩
end
end
section
variable {prog : Program} {w : World} {h₀ : Heap}
end
end PySem
namespace V2
open PySem L2
open PySem.Spec PyProof.Rows
mutual
/-- v is the data d, where the abstract heap is H -/
inductive Dq (H : Hp) : V → PyData → Prop
  | non : Dq H .non .none
  | bl (b : Bool) : Dq H (.bl b) (.bool b)
  | int (i : Int) : Dq H (.int i) (.int i)
  | str (x : Str) : Dq H (.str x) (.str x)
  | lst {a : Addr} {xs : List V} {ds : List PyData} : H a = some (.lst xs) → DqAll H xs ds → Dq H (.ref a) (.list ds)
  | tup {a : Addr} {xs : List V} {ds : List PyData} : H a = some (.tup xs) → DqAll H xs ds → Dq H (.ref a) (.tuple ds)
  | dct {a : Addr} {x : Str} {w : V} {d : PyData} : H a = some (.dK [(.inr x, w)]) → Dq H w d → Dq H (.ref a) (.dict [(.str x, d)])
inductive DqAll (H : Hp) : List V → List PyData → Prop
  | nil : DqAll H [] []
  | cons {v : V} {vs : List V} {d : PyData} {ds : List PyData} : Dq H v d → DqAll H vs ds → DqAll H (v :: vs) (d :: ds)
end
mutual
theorem Dq.go {H H' : Hp} : ∀ {d : PyData} {v : V}, Dq H v d → Evl.Ex H H' → Dq H' v d
  | _, _, .non, _ => .non
  | _, _, .bl b, _ => .bl b
  | _, _, .int i, _ => .int i
  | _, _, .str x, _ => .str x
  | _, _, .lst h r, e => .lst (e _ _ h) (DqAll.go r e)
  | _, _, .tup h r, e => .tup (e _ _ h) (DqAll.go r e)
  | _, _, .dct h r, e => .dct (e _ _ h) (Dq.go r e)
theorem DqAll.go {H H' : Hp} : ∀ {ds : List PyData} {vs : List V}, DqAll H vs ds → Evl.Ex H H' → DqAll H' vs ds
  | _, _, .nil, _ => .nil
  | _, _, .cons a b, e => .cons (Dq.go a e) (DqAll.go b e)
end
section
variable {X : Cx} {pins : List (Addr × Obj)} {σ : L2.St} {H : Hp} {s : Shared}
mutual
theorem Dq.reads (I : Inv X pins σ H s) : ∀ {d : PyData} {v : V}, Dq H v d → ∀ {u : Value}, RelV v u → ReadsS s.heap u d
  | _, _, .non, _, r => by
    cases r
    exact .none
  | _, _, .bl b, _, r => by
    cases r
    exact .bool b
  | _, _, .int i, _, r => by
    obtain ⟨t, rfl⟩ := r
    exact .int i t
  | _, _, .str x, _, r => by
    obtain ⟨t, rfl⟩ := r
    exact .str x t
  | _, _, .lst h q, _, r => by
    cases r
    obtain ⟨_, its, n, rv, ho⟩ := I.hok _ _ h
    exact .list ho rfl rfl (by simpa using DqAll.reads I q rv)
  | _, _, .tup h q, _, r => by
    cases r
    obtain ⟨_, its, rv, o, ho, hc, n, hd⟩ := I.hok _ _ h
    exact .tuple ho hc hd (by simpa using DqAll.reads I q rv)
  | _, _, .dct h q, _, r => by
    cases r
    obtain ⟨_, hsys, vs, kv, o, es, ep, ho, ⟨hc, _, _⟩, hd, _, hp, _⟩ := dk_of I.hok h
    obtain ⟨p1, p2, rfl, e1, e2⟩ : ∃ p1 p2, vs = [(p1, p2)] ∧ Sum.inr _ = p1 ∧ RelV _ p2 := by
      cases kv with
      | cons r1 r2 =>
        cases r2
        exact ⟨_, _, rfl, r1.1, r1.2⟩
    · subst e1
      refine .dict ho hc hd hsys ?_ ?_
      · generalize es.toList = l at hp
        cases hp with
        | cons a1 a2 a3 =>
          cases a3
          have z1 := a1
          rw [mixKind_is] at z1
          rcases keyIs_shape z1 with ⟨_, _, z, _⟩ | ⟨x', t, z, ht⟩
          · cases z
          cases z
          rw [List.map_cons, List.map_nil, ht]
          exact .cons (.str _ _) .nil
      · generalize es.toList = l at hp
        cases hp with
        | cons a1 a2 a3 =>
          cases a3
          rw [List.map_cons, List.map_nil, a2]
          exact .cons (Dq.reads I q e2) .nil
theorem DqAll.reads (I : Inv X pins σ H s) : ∀ {ds : List PyData} {vs : List V}, DqAll H vs ds → ∀ {us : List Value}, Vals vs us → ReadsAllS s.heap us ds
  | _, _, .nil, _, r => by
    cases r
    exact .nil
  | _, _, .cons a b, _, r => by
    cases r with
    | cons r1 r2 => exact .cons (Dq.reads I a r1) (DqAll.reads I b r2)
end
end
end V2


namespace V2
open PySem L2
open PySem.Spec PyProof.Rows
/-- what is new -/
def Nw (H H' : Hp) : Hp := fun b => if (H b).isSome = true then none else H' b
theorem Nw.ex {H H' : Hp} : Evl.Ex (Nw H H') H' := fun b o h => by
  unfold Nw at h
  split at h
  · cases h
  · exact h
theorem nw_at {H H' : Hp} {b : Addr} {o : HO} (n : H b = none) (h : H' b = some o) : Nw H H' b = some o := by
  unfold Nw
  rw [n]
  exact h
theorem nw_none {H H' : Hp} {b : Addr} {o : HO} (h : Nw H H' b = some o) : H b = none := by
  unfold Nw at h
  split at h
  · cases h
  · rename_i z
    cases e : H b with
    | none => rfl
    | some x =>
      rw [e] at z
      exact absurd rfl z
/-- data of lists and tuples, n deep at most -/
inductive Cp : Nat → PyData → Prop
  | non {n : Nat} : Cp n .none
  | bl {n : Nat} (b : Bool) : Cp n (.bool b)
  | int {n : Nat} (i : Int) : Cp n (.int i)
  | str {n : Nat} (x : Str) : Cp n (.str x)
  | lst {n : Nat} {ds : List PyData} : ds.length ≤ 100 → (∀ d ∈ ds, Cp n d) → Cp (n + 1) (.list ds)
  | tup {n : Nat} {ds : List PyData} : ds.length ≤ 100 → (∀ d ∈ ds, Cp n d) → Cp (n + 1) (.tuple ds)
theorem DqAll.len {H : Hp} : ∀ {ds : List PyData} {vs : List V}, DqAll H vs ds → vs.length = ds.length
  | _, _, .nil => rfl
  | _, _, .cons _ b => congrArg Nat.succ b.len
theorem DqAll.get {H : Hp} : ∀ {ds : List PyData} {vs : List V} {i : Nat} {v : V}, DqAll H vs ds → vs[i]? = some v → ∃ d, ds[i]? = some d ∧ Dq H v d
  | _, _, _, _, .nil, h => by cases h
  | _, _, 0, _, .cons a _, h => by
    cases h
    exact ⟨_, rfl, a⟩
  | _, _, i + 1, _, .cons _ b, h => b.get (i := i) h
theorem DqAll.snoc {H : Hp} : ∀ {ds : List PyData} {vs : List V} {v : V} {d : PyData}, DqAll H vs ds → Dq H v d → DqAll H (vs ++ [v]) (ds ++ [d])
  | _, _, _, _, .nil, h => .cons h .nil
  | _, _, _, _, .cons a b, h => .cons a (b.snoc h)
theorem ds_take {ds : List PyData} {i : Nat} {d : PyData} (h : ds[i]? = some d) : ds.take (i + 1) = ds.take i ++ [d] := by
  rw [List.take_add_one, h]
  rfl
def spCp (n : Nat) : Sp := fun vs H Q _ => ∃ (v : V) (d : PyData), vs = [v] ∧ Dq H v d ∧ Cp n d ∧ ∀ v' H', Evl.Ex H H' → Dq (Nw H H') v' d → Q v' H'
structure T5 (mg : Str → Option Value) : Prop where
  isi : mg "isinstance" = none
  lst : mg "list" = none
  tup : mg "tuple" = none
section
variable {base : Heap} {mg : Str → Option Value} {K : PySem.W.Frag} {w : World} {P : Program}
theorem ok_copied0 {f : Addr} {fd : FuncData} (F : Fun K "copied" "copied" s_copied f fd) (T : T5 mg) : FnOk P w K mg base CX0 1 f fd p_copied (spCp 0) := by
  refine F.ok sc_copied (fun vs H Q E h => ?_) (fun cdv A outer s H vs Q E hr h => ?_)
  · obtain ⟨v, d, rfl, _⟩ := h
    rfl
  · obtain ⟨v, d, rfl, hd, hc, k⟩ := h
    refine ⟨_, pss_cons (ps_if (pt_val (pe_callB call_isi (by rfl) T.isi (by decide +kernel) (pa_cons (pv 0) (pa_cons (pe_bltn (v := .ty "list") (by rfl) T.lst (by decide +kernel) rfl) pa_nil)))) (pss_one ps_never) pss_nil)
      (pss_cons (ps_if (pt_val (pe_callB call_isi (by rfl) T.isi (by decide +kernel) (pa_cons (pv 0) (pa_cons (pe_bltn (v := .ty "tuple") (by rfl) T.tup (by decide +kernel) rfl) pa_nil)))) (pss_one ps_never) pss_nil)
      (pss_one (ps_ret (pv 0)))), ?_⟩
    cases hc with
    | non =>
      cases hd
      exact ⟨_, rfl, _, _, _, _, false, rfl, .ty "list", .base .non, kit_ty (by decide +kernel), false, rfl, if_f rfl ⟨_, rfl, _, _, _, _, false, rfl, .ty "tuple", .base .non, kit_ty (by decide +kernel), false, rfl, if_f rfl ⟨_, rfl, k _ _ (Evl.Ex.refl _) .non⟩⟩⟩
    | bl b =>
      cases hd
      exact ⟨_, rfl, _, _, _, _, false, rfl, .ty "list", .base (.bl b), kit_ty (by decide +kernel), false, rfl, if_f rfl ⟨_, rfl, _, _, _, _, false, rfl, .ty "tuple", .base (.bl b), kit_ty (by decide +kernel), false, rfl, if_f rfl ⟨_, rfl, k _ _ (Evl.Ex.refl _) (.bl b)⟩⟩⟩
    | int i =>
      cases hd
      exact ⟨_, rfl, _, _, _, _, false, rfl, .ty "list", .base (.int i), kit_ty (by decide +kernel), false, rfl, if_f rfl ⟨_, rfl, _, _, _, _, false, rfl, .ty "tuple", .base (.int i), kit_ty (by decide +kernel), false, rfl, if_f rfl ⟨_, rfl, k _ _ (Evl.Ex.refl _) (.int i)⟩⟩⟩
    | str x =>
      cases hd
      exact ⟨_, rfl, _, _, _, _, false, rfl, .ty "list", .base (.str x), kit_ty (by decide +kernel), false, rfl, if_f rfl ⟨_, rfl, _, _, _, _, false, rfl, .ty "tuple", .base (.str x), kit_ty (by decide +kernel), false, rfl, if_f rfl ⟨_, rfl, k _ _ (Evl.Ex.refl _) (.str x)⟩⟩⟩
/-- the turns of the comprehension -/
theorem cp_turns {H H1 H2 H3 : Hp} {D : Addr} {v' : V} {acc : List V} {ds : List PyData} {d : PyData} (hD : H1 D = none) (e0 : Evl.Ex H H1) (e1 : Evl.Ex H1 H2) (hD2 : H2 D = some (.lst acc)) (ha : DqAll (Nw H (fun b => if b = D then none else H2 b)) acc ds) (e2 : Evl.Ex H2 H3) (hd : Dq (Nw H2 H3) v' d) :
    DqAll (Nw H (fun b => if b = D then none else upd H3 D (.lst (acc ++ [v'])) b)) (acc ++ [v']) (ds ++ [d]) := by
  have hHD : H D = none := Evl.fresh_back e0 hD
  refine DqAll.snoc (ha.go fun b o h => ?_) (hd.go fun b o h => ?_)
  · have n := nw_none h
    have z := Nw.ex _ _ h
    by_cases hb : b = D
    · rw [if_pos hb] at z
      cases z
    · rw [if_neg hb] at z
      refine nw_at n ?_
      show (if b = D then none else upd H3 D (.lst (acc ++ [v'])) b) = some o
      rw [if_neg hb, upd_ne hb]
      exact e2 _ _ z
  · have n := nw_none h
    have z := Nw.ex _ _ h
    have hb : b ≠ D := fun q => by
      rw [q, hD2] at n
      cases n
    refine nw_at (Evl.fresh_back (e0.trans e1) n) ?_
    show (if b = D then none else upd H3 D (.lst (acc ++ [v'])) b) = some o
    rw [if_neg hb, upd_ne hb]
    exact z
theorem ok_copiedS {n k : Nat} {f : Addr} {fd : FuncData} (F : Fun K "copied" "copied" s_copied f fd) (T : T5 mg) (c0 : Cal P w K mg base k "copied" p_copied (spCp n)) : FnOk P w K mg base CX0 (k + 1) f fd p_copied (spCp (n + 1)) := by
  refine F.ok sc_copied (fun vs H Q E h => ?_) (fun cdv A outer s H vs Q E hr h => ?_)
  · obtain ⟨v, d, rfl, _⟩ := h
    rfl
  · obtain ⟨v, d, rfl, hd, hc, kk⟩ := h
    have nd := sc_copied.nd
    cases hc with
    | non =>
      cases hd
      refine ⟨_, pss_cons (ps_if (pt_val (pe_callB call_isi (by rfl) T.isi (by decide +kernel) (pa_cons (pv 0) (pa_cons (pe_bltn (v := .ty "list") (by rfl) T.lst (by decide +kernel) rfl) pa_nil)))) (pss_one ps_never) pss_nil)
        (pss_cons (ps_if (pt_val (pe_callB call_isi (by rfl) T.isi (by decide +kernel) (pa_cons (pv 0) (pa_cons (pe_bltn (v := .ty "tuple") (by rfl) T.tup (by decide +kernel) rfl) pa_nil)))) (pss_one ps_never) pss_nil)
        (pss_one (ps_ret (pv 0)))), ?_⟩
      exact ⟨_, rfl, _, _, _, _, false, rfl, .ty "list", .base .non, kit_ty (by decide +kernel), false, rfl, if_f rfl ⟨_, rfl, _, _, _, _, false, rfl, .ty "tuple", .base .non, kit_ty (by decide +kernel), false, rfl, if_f rfl ⟨_, rfl, kk _ _ (Evl.Ex.refl _) .non⟩⟩⟩
    | bl b =>
      cases hd
      refine ⟨_, pss_cons (ps_if (pt_val (pe_callB call_isi (by rfl) T.isi (by decide +kernel) (pa_cons (pv 0) (pa_cons (pe_bltn (v := .ty "list") (by rfl) T.lst (by decide +kernel) rfl) pa_nil)))) (pss_one ps_never) pss_nil)
        (pss_cons (ps_if (pt_val (pe_callB call_isi (by rfl) T.isi (by decide +kernel) (pa_cons (pv 0) (pa_cons (pe_bltn (v := .ty "tuple") (by rfl) T.tup (by decide +kernel) rfl) pa_nil)))) (pss_one ps_never) pss_nil)
        (pss_one (ps_ret (pv 0)))), ?_⟩
      exact ⟨_, rfl, _, _, _, _, false, rfl, .ty "list", .base (.bl b), kit_ty (by decide +kernel), false, rfl, if_f rfl ⟨_, rfl, _, _, _, _, false, rfl, .ty "tuple", .base (.bl b), kit_ty (by decide +kernel), false, rfl, if_f rfl ⟨_, rfl, kk _ _ (Evl.Ex.refl _) (.bl b)⟩⟩⟩
    | int i =>
      cases hd
      refine ⟨_, pss_cons (ps_if (pt_val (pe_callB call_isi (by rfl) T.isi (by decide +kernel) (pa_cons (pv 0) (pa_cons (pe_bltn (v := .ty "list") (by rfl) T.lst (by decide +kernel) rfl) pa_nil)))) (pss_one ps_never) pss_nil)
        (pss_cons (ps_if (pt_val (pe_callB call_isi (by rfl) T.isi (by decide +kernel) (pa_cons (pv 0) (pa_cons (pe_bltn (v := .ty "tuple") (by rfl) T.tup (by decide +kernel) rfl) pa_nil)))) (pss_one ps_never) pss_nil)
        (pss_one (ps_ret (pv 0)))), ?_⟩
      exact ⟨_, rfl, _, _, _, _, false, rfl, .ty "list", .base (.int i), kit_ty (by decide +kernel), false, rfl, if_f rfl ⟨_, rfl, _, _, _, _, false, rfl, .ty "tuple", .base (.int i), kit_ty (by decide +kernel), false, rfl, if_f rfl ⟨_, rfl, kk _ _ (Evl.Ex.refl _) (.int i)⟩⟩⟩
    | str x =>
      cases hd
      refine ⟨_, pss_cons (ps_if (pt_val (pe_callB call_isi (by rfl) T.isi (by decide +kernel) (pa_cons (pv 0) (pa_cons (pe_bltn (v := .ty "list") (by rfl) T.lst (by decide +kernel) rfl) pa_nil)))) (pss_one ps_never) pss_nil)
        (pss_cons (ps_if (pt_val (pe_callB call_isi (by rfl) T.isi (by decide +kernel) (pa_cons (pv 0) (pa_cons (pe_bltn (v := .ty "tuple") (by rfl) T.tup (by decide +kernel) rfl) pa_nil)))) (pss_one ps_never) pss_nil)
        (pss_one (ps_ret (pv 0)))), ?_⟩
      exact ⟨_, rfl, _, _, _, _, false, rfl, .ty "list", .base (.str x), kit_ty (by decide +kernel), false, rfl, if_f rfl ⟨_, rfl, _, _, _, _, false, rfl, .ty "tuple", .base (.str x), kit_ty (by decide +kernel), false, rfl, if_f rfl ⟨_, rfl, kk _ _ (Evl.Ex.refl _) (.str x)⟩⟩⟩
    | @lst _ ds hl hcs =>
      cases hd with
      | @lst a xs _ ha hds =>
      refine ⟨_, pss_cons (ps_if (pt_val (pe_callB call_isi (by rfl) T.isi (by decide +kernel) (pa_cons (pv 0) (pa_cons (pe_bltn (v := .ty "list") (by rfl) T.lst (by decide +kernel) rfl) pa_nil))))
          (pss_one (ps_ret (pe_lc (own := [("part", 1)]) (g := gName 1) (tt := tYes) (te := tCall (spCp n) [] E0 (tCons (tVar 1) tNil)) rfl nd (pi_list (pv 0)) (blkOk_by (N := n_copied) (sc := defScope s_copied) (by decide +kernel)) (fun _ _ _ _ _ => pg_name (i := 1) nd rfl (Or.inl rfl)) (fun _ _ _ _ _ => pts_nil)
            (fun _ _ _ _ _ => pe_c c0 hr (pa_cons (pv 1) pa_nil))))) pss_nil)
        (pss_cons ps_never (pss_one ps_never)), ?_⟩
      refine ⟨_, rfl, _, _, _, _, true, rfl, .ty "list", .base (.lst ha), kit_ty (by decide +kernel), true, rfl, if_t rfl ?_⟩
      have hlen := hds.len
      refine ⟨_, rfl, a, rfl, ⟨_, SqL.of ha⟩, fun D hD => lc_list (xs := xs) (fun i H' => Evl.Ex H H' ∧ ∃ acc, H' D = some (.lst acc) ∧ DqAll (Nw H (fun b => if b = D then none else H' b)) acc (ds.take i)) ⟨Evl.Ex.new hD, [], upd_same, .nil⟩ (fun i H' _ q => SqL.of (q.1 _ _ ha)) ?_ ?_⟩
      · rintro i x H2 hi ⟨e2, acc, hD2, hacc⟩
        obtain ⟨d, hdi, hdx⟩ := hds.get hi
        refine ⟨rfl, ?_⟩
        show tCall (spCp n) [] E0 (tCons (tVar 1) tNil) _ _ _
        refine ⟨_, rfl, x, d, rfl, hdx.go e2, hcs d (List.mem_of_getElem? hdi), fun v' H3 e3 hv' => ⟨acc, e3 _ _ hD2, ?_, Evl.Ex.mut (e2.trans e3) hD, _, upd_same, ?_⟩⟩
        · have h1 := hacc.len
          rw [List.length_take] at h1
          exact Nat.lt_of_le_of_lt (show acc.length ≤ 100 by omega) (by decide)
        · rw [ds_take hdi]
          exact cp_turns hD (Evl.Ex.refl _) e2 hD2 hacc e3 hv'
      · rintro H2 ⟨e2, acc, hD2, hacc⟩
        rw [hlen, List.take_length] at hacc
        refine kk _ _ e2 (.lst (nw_at hD hD2) (hacc.go fun b o h => nw_at (nw_none h) ?_))
        have z := Nw.ex _ _ h
        by_cases hb : b = D
        · rw [if_pos hb] at z
          cases z
        · rw [if_neg hb] at z
          exact z
    | @tup _ ds hl hcs =>
      cases hd with
      | @tup a xs _ ha hds =>
      refine ⟨_, pss_cons (ps_if (pt_val (pe_callB call_isi (by rfl) T.isi (by decide +kernel) (pa_cons (pv 0) (pa_cons (pe_bltn (v := .ty "list") (by rfl) T.lst (by decide +kernel) rfl) pa_nil)))) (pss_one ps_never) pss_nil)
        (pss_cons (ps_if (pt_val (pe_callB call_isi (by rfl) T.isi (by decide +kernel) (pa_cons (pv 0) (pa_cons (pe_bltn (v := .ty "tuple") (by rfl) T.tup (by decide +kernel) rfl) pa_nil))))
          (pss_one (ps_ret (pe_callTy call_tuple_of (by rfl) T.tup (by decide +kernel) (pa_cons (pe_lc (own := [("part", 1)]) (g := gName 1) (tt := tYes) (te := tCall (spCp n) [] E0 (tCons (tVar 1) tNil)) rfl nd (pi_tup (pv 0)) (blkOk_by (N := n_copied) (sc := defScope s_copied) (by decide +kernel)) (fun _ _ _ _ _ => pg_name (i := 1) nd rfl (Or.inl rfl)) (fun _ _ _ _ _ => pts_nil)
            (fun _ _ _ _ _ => pe_c c0 hr (pa_cons (pv 1) pa_nil))) pa_nil)))) pss_nil)
        (pss_one ps_never)), ?_⟩
      refine ⟨_, rfl, _, _, _, _, false, rfl, .ty "list", .base (.tup ha), kit_ty (by decide +kernel), false, rfl, if_f rfl ?_⟩
      refine ⟨_, rfl, _, _, _, _, true, rfl, .ty "tuple", .base (.tup ha), kit_ty (by decide +kernel), true, rfl, if_t rfl ?_⟩
      have hlen := hds.len
      refine ⟨_, rfl, a, rfl, ⟨_, SqT.of ha⟩, fun D hD => lc_tup (xs := xs) (fun i H' => Evl.Ex H H' ∧ ∃ acc, H' D = some (.lst acc) ∧ DqAll (Nw H (fun b => if b = D then none else H' b)) acc (ds.take i)) ⟨Evl.Ex.new hD, [], upd_same, .nil⟩ (fun i H' _ q => SqT.of (q.1 _ _ ha)) ?_ ?_⟩
      · rintro i x H2 hi ⟨e2, acc, hD2, hacc⟩
        obtain ⟨d, hdi, hdx⟩ := hds.get hi
        refine ⟨rfl, ?_⟩
        show tCall (spCp n) [] E0 (tCons (tVar 1) tNil) _ _ _
        refine ⟨_, rfl, x, d, rfl, hdx.go e2, hcs d (List.mem_of_getElem? hdi), fun v' H3 e3 hv' => ⟨acc, e3 _ _ hD2, ?_, Evl.Ex.mut (e2.trans e3) hD, _, upd_same, ?_⟩⟩
        · have h1 := hacc.len
          rw [List.length_take] at h1
          exact Nat.lt_of_le_of_lt (show acc.length ≤ 100 by omega) (by decide)
        · rw [ds_take hdi]
          exact cp_turns hD (Evl.Ex.refl _) e2 hD2 hacc e3 hv'
      · rintro H2 ⟨e2, acc, hD2, hacc⟩
        rw [hlen, List.take_length] at hacc
        refine ⟨D, _, rfl, .inl ⟨SqL.of hD2, fun l hl2 => ?_⟩⟩
        have e3 := Evl.Ex.new (o := .tup acc) hl2
        refine kk _ _ (e2.trans e3) (.tup (nw_at (Evl.fresh_back e2 hl2) upd_same) (hacc.go fun b o h => nw_at (nw_none h) (e3 _ _ ?_)))
        have z := Nw.ex _ _ h
        by_cases hb : b = D
        · rw [if_pos hb] at z
          cases z
        · rw [if_neg hb] at z
          exact z
end
end V2


namespace V2
open PySem L2
open PySem.Spec PyProof.Rows
abbrev Tk := Option Int × Int
def wV : Option Int → V
  | none => .non
  | some z => .int z
def wD : Option Int → PyData
  | none => .none
  | some z => .int z
def tkD (t : Tk) : PyData := .tuple [wD t.1, .int t.2]
def okT (ts : List Tk) : Prop := ts.length ≤ 20 ∧ (∀ t ∈ ts, (∀ z, t.1 = some z → 1 ≤ z) ∧ 0 ≤ t.2) ∧ ts.countP (fun t => t.1.isNone) = 1
def TksAt (H : Hp) (l : Addr) (ts : List Tk) : Prop := ∃ as : List Addr, H l = some (.lst (as.map V.ref)) ∧ as.length = ts.length ∧ ∀ (i : Nat) (a : Addr) (t : Tk), as[i]? = some a → ts[i]? = some t → H a = some (.tup [wV t.1, .int t.2])
theorem TksAt.ex {H H' : Hp} {l : Addr} {ts : List Tk} (h : TksAt H l ts) (e : Evl.Ex H H') : TksAt H' l ts := by
  obtain ⟨as, h1, h2, h3⟩ := h
  exact ⟨as, e _ _ h1, h2, fun i a t x y => e _ _ (h3 i a t x y)⟩
theorem dq_w {H : Hp} {v : V} {w : Option Int} (h : Dq H v (wD w)) : v = wV w := by
  cases w with
  | none => cases h; rfl
  | some z => cases h; rfl
theorem dq_tk {H : Hp} {v : V} {t : Tk} (h : Dq H v (tkD t)) : ∃ a, v = .ref a ∧ H a = some (.tup [wV t.1, .int t.2]) := by
  cases h with
  | tup h1 h2 =>
    cases h2 with
    | cons a b =>
      cases b with
      | cons b c =>
        cases c
        cases b
        rw [dq_w a] at h1
        exact ⟨_, rfl, h1⟩
theorem dq_tks {H : Hp} : ∀ {ts : List Tk} {vs : List V}, DqAll H vs (ts.map tkD) → ∃ as : List Addr, vs = as.map V.ref ∧ as.length = ts.length ∧ ∀ (i : Nat) (a : Addr) (t : Tk), as[i]? = some a → ts[i]? = some t → H a = some (.tup [wV t.1, .int t.2])
  | [], _, .nil => ⟨[], rfl, rfl, fun i a t h => (by cases h)⟩
  | t :: ts, _, .cons a b => by
    obtain ⟨x, rfl, hx⟩ := dq_tk a
    obtain ⟨as, rfl, h2, h3⟩ := dq_tks b
    refine ⟨x :: as, rfl, congrArg Nat.succ h2, fun i a t' h1 h2 => ?_⟩
    cases i with
    | zero =>
      cases h1
      cases h2
      exact hx
    | succ i => exact h3 i a t' h1 h2
theorem Dq.tks {H : Hp} {v : V} {ts : List Tk} (h : Dq H v (.list (ts.map tkD))) : ∃ l, v = .ref l ∧ TksAt H l ts := by
  cases h with
  | lst h1 h2 =>
    obtain ⟨as, rfl, h3, h4⟩ := dq_tks h2
    exact ⟨_, rfl, as, h1, h3, h4⟩
theorem cp_tks {ts : List Tk} (h : ts.length ≤ 100) : Cp 2 (.list (ts.map tkD)) := by
  refine .lst (by rw [List.length_map]; exact h) fun d hd => ?_
  obtain ⟨t, _, rfl⟩ := List.mem_map.mp hd
  refine .tup (by show 2 ≤ 100; decide) fun x hx => ?_
  simp only [List.mem_cons, List.not_mem_nil, or_false] at hx
  rcases hx with rfl | rfl
  · cases t.1 with
    | none => exact .non
    | some z => exact .int z
  · exact .int _
def spAmt : Sp := fun vs H Q _ => ∃ n : Int, vs = [.int n] ∧ 0 ≤ n ∧ Evl.RetV (.bl true) H Q
def spTank : Sp := fun vs H Q _ => ∃ (a : Addr) (t : Tk), vs = [.ref a] ∧ H a = some (.tup [wV t.1, .int t.2]) ∧ (∀ z, t.1 = some z → 1 ≤ z) ∧ 0 ≤ t.2 ∧ Evl.RetV (.bl true) H Q
def spChkT : Sp := fun vs H Q _ => ∃ (l : Addr) (ts : List Tk), vs = [.ref l] ∧ TksAt H l ts ∧ okT ts ∧ Evl.RetV .non H Q
section
variable {base : Heap} {mg : Str → Option Value} {K : PySem.W.Frag} {w : World} {P : Program}
theorem ok_is_amount {f : Addr} {fd : FuncData} (F : Fun K "is_amount" "is_amount" s_is_amount f fd) (cI : Cal P w K mg base 1 "is_integer" p_is_integer spInt) : FnOk P w K mg base CX0 2 f fd p_is_amount spAmt := by
  refine F.ok sc_is_amount (fun vs H Q E h => ?_) (fun cdv A outer s H vs Q E hr h => ?_)
  · obtain ⟨n, rfl, _⟩ := h
    rfl
  · obtain ⟨n, rfl, h0, k⟩ := h
    refine ⟨_, pss_one (ps_ret (pe_and (pe_c cI hr (pa_cons (pv 0) pa_nil)) (pe_one (pe_cmpR op_ge (pv 0) pe_int (nomark _))))), ?_⟩
    refine ⟨_, rfl, n, rfl, fun H1 e1 => ⟨_, rfl, if_t rfl ?_⟩⟩
    refine ⟨_, rfl, _, _, rfl, rfl, ?_⟩
    have e : decide (n ≥ 0) = true := decide_eq_true h0
    show Q (.bl (decide (n ≥ 0))) H1
    rw [e]
    exact k _ e1
theorem ok_is_tank {f : Addr} {fd : FuncData} (F : Fun K "is_tank" "is_tank" s_is_tank f fd) (T : T3 mg) (cI : Cal P w K mg base 1 "is_integer" p_is_integer spInt) (cA : Cal P w K mg base 2 "is_amount" p_is_amount spAmt) : FnOk P w K mg base CX0 3 f fd p_is_tank spTank := by
  refine F.ok sc_is_tank (fun vs H Q E h => ?_) (fun cdv A outer s H vs Q E hr h => ?_)
  · obtain ⟨a, t, rfl, _⟩ := h
    rfl
  · obtain ⟨a, t, rfl, ha, hw, h0, k⟩ := h
    have nd := sc_is_tank.nd
    have r1 : Room 1 _ := hr.mono (by decide)
    refine ⟨_, pss_cons (ps_if (PW.pt (pw_or (pt_not (pt_val (pe_callB call_isi (by rfl) T.isi (by decide +kernel) (pa_cons (pv 0) (pa_cons (pe_bltn (v := .ty "tuple") (by rfl) T.tup (by decide +kernel) rfl) pa_nil)))))
        (pw_or1 (pt_cmpR op_ne (pe_callB call_len_seq (by rfl) T.len PySem.boot_len (pa_cons (pv 0) pa_nil)) pe_int (nomark _))))) (pss_one (ps_ret pe_bl)) pss_nil)
      (pss_cons (ps_asg (pv 0) (pg_tup rfl (pgs_cons (pg_name (i := 1) nd rfl (Or.inl rfl)) (pgs_cons (pg_name (i := 2) nd rfl (Or.inl rfl)) pgs_nil))))
      (pss_one (ps_ret (pe_and (pe_or (pe_cmp (pc_isN (pv 1))) (pe_one (pe_and (pe_c cI r1 (pa_cons (pv 1) pa_nil)) (pe_one (pe_cmpR op_ge (pv 1) pe_int (nomark _)))))) (pe_one (pe_c cA hr (pa_cons (pv 2) pa_nil))))))), ?_⟩
    refine ⟨_, rfl, _, _, _, _, true, rfl, .ty "tuple", .base (.tup ha), kit_ty (by decide +kernel), true, rfl, if_f rfl ?_⟩
    refine ⟨_, rfl, a, _, rfl, .inr (SqT.of ha), rfl, false, rfl, if_f rfl ?_⟩
    refine ⟨_, rfl, a, _, rfl, SqT.of ha, rfl, _, _, rfl, _, _, rfl, rfl, ?_⟩
    obtain ⟨tw, ta⟩ := t
    cases tw with
    | none => exact ⟨_, rfl, _, rfl, _, rfl, if_t rfl ⟨_, rfl, ta, rfl, h0, k⟩⟩
    | some z =>
      have hz := hw z rfl
      refine ⟨_, rfl, _, rfl, if_f rfl ⟨_, rfl, z, rfl, fun H1 e1 => ⟨_, rfl, if_t rfl ?_⟩⟩⟩
      refine ⟨_, rfl, _, _, rfl, rfl, _, rfl, if_t (decide_eq_true (by omega)) ?_⟩
      exact ⟨_, rfl, ta, rfl, h0, fun H' e' => k H' (e1.trans e')⟩
theorem cntN {ts : List Tk} {i : Nat} {t : Tk} (h : ts[i]? = some t) : (ts.take (i + 1)).countP (fun t => t.1.isNone) = (ts.take i).countP (fun t => t.1.isNone) + (if t.1 = none then 1 else 0) := by
  rw [List.take_add_one, h, List.countP_append]
  obtain ⟨w, a⟩ := t
  cases w <;> simp
theorem ok_check_tanks {f : Addr} {fd : FuncData} (F : Fun K "check_tanks" "check_tanks" s_check_tanks f fd) (mL : mg "len" = none) (cT : Cal P w K mg base 3 "is_tank" p_is_tank spTank) : FnOk P w K mg base CX0 4 f fd p_check_tanks spChkT := by
  refine F.ok sc_check_tanks (fun vs H Q E h => ?_) (fun cdv A outer s H vs Q E hr h => ?_)
  · obtain ⟨l, ts, rfl, _⟩ := h
    rfl
  · obtain ⟨l, ts, rfl, hT, ⟨h20, hts, hone⟩, k⟩ := h
    obtain ⟨as, hl, hlen, hat⟩ := hT
    have nd := sc_check_tanks.nd
    refine ⟨_, pss_cons (ps_for PassesOwn.never rfl (pi_list (pv 0)) (pg_name (i := 1) nd rfl (Or.inl rfl)) (pss_one (ps_if (pt_not (pt_val (pe_c cT hr (pa_cons (pv 1) pa_nil)))) (pss_one ps_never) pss_nil)))
      (pss_one (ps_if (pt_cmpR op_ne (pe_callB call_len_seq (by rfl) mL PySem.boot_len (pa_cons (pe_lc (own := [("tank", 1)]) (g := gName 1) (tt := tB (tIsN (tOp (rIxT K) (tVar 1) (tC (.int 0))))) (te := tVar 1) rfl nd (pi_list (pv 0)) (blkOk_by (N := n_check_tanks) (sc := defScope s_check_tanks) (by decide +kernel)) (fun _ _ _ _ _ => pg_name (i := 1) nd rfl (Or.inl rfl))
          (fun _ _ _ _ _ => pts_one (pt_cmp (pc_isN (pe_ix ix_tup (pv 1) pe_int (fun _ _ => rfl))))) (fun _ _ _ _ _ => pv 1)) pa_nil)) pe_int (nomark _)) (pss_one ps_never) pss_nil)), ?_⟩
    have get : ∀ {i : Nat} {x : V}, (as.map V.ref)[i]? = some x → ∃ a t, x = .ref a ∧ as[i]? = some a ∧ ts[i]? = some t ∧ H a = some (.tup [wV t.1, .int t.2]) := fun {i x} hx => by
      rw [List.getElem?_map] at hx
      cases e : as[i]? with
      | none =>
        rw [e] at hx
        cases hx
      | some a =>
        rw [e] at hx
        have hi : i < ts.length := by
          have := (List.getElem?_eq_some_iff.mp e).1
          omega
        exact ⟨a, ts[i], (Option.some.inj hx).symm, rfl, List.getElem?_eq_getElem hi, hat i a _ e (List.getElem?_eq_getElem hi)⟩
    refine ⟨_, rfl, l, rfl, ⟨_, SqL.of hl⟩, for_list (xs := as.map V.ref) (fun i σ H' => Evl.Ex H H' ∧ ∃ v, σ = [some (.ref l), v]) ⟨Evl.Ex.refl _, none, rfl⟩ (fun i σ H' _ q => SqL.of (q.1 _ _ hl)) ?_ ?_⟩
    · rintro i x σ H1 hi ⟨e1, v, rfl⟩
      obtain ⟨a, t, rfl, _, ht, ha⟩ := get hi
      obtain ⟨t1, t2⟩ := hts t (List.mem_of_getElem? ht)
      exact ⟨_, rfl, a, t, rfl, e1 _ _ ha, t1, t2, fun H2 e2 => ⟨true, rfl, if_f rfl ⟨e1.trans e2, _, rfl⟩⟩⟩
    · rintro σ H1 ⟨e1, v, rfl⟩
      refine ⟨_, rfl, l, rfl, ⟨_, SqL.of (e1 _ _ hl)⟩, fun D hD => lc_list (xs := as.map V.ref) (fun i H' => Evl.Ex H1 H' ∧ ∃ acc, H' D = some (.lst acc) ∧ acc.length = (ts.take i).countP (fun t => t.1.isNone)) ⟨Evl.Ex.new hD, [], upd_same, rfl⟩ (fun i H' _ q => SqL.of (q.1 _ _ (e1 _ _ hl))) ?_ ?_⟩
      · rintro i x H2 hi ⟨e2, acc, h2, hc⟩
        obtain ⟨a, t, rfl, _, ht, ha⟩ := get hi
        have hcn := cntN ht
        refine ⟨rfl, ?_⟩
        show tB (tIsN (tOp (rIxT K) (tVar 1) (tC (.int 0)))) _ _ _
        refine ⟨_, rfl, a, _, _, _, rfl, rfl, SqT.of (e2 _ _ (e1 _ _ ha)), rfl, _, rfl, ?_⟩
        obtain ⟨tw, ta⟩ := t
        cases tw with
        | none =>
          refine if_t rfl ?_
          show tVar 1 _ _ _
          refine ⟨_, rfl, acc, h2, ?_, Evl.Ex.mut e2 hD, _, upd_same, ?_⟩
          · have := List.countP_le_length (p := fun t : Tk => t.1.isNone) (l := ts.take i)
            rw [List.length_take] at this
            exact Nat.lt_of_le_of_lt (show acc.length ≤ 20 by omega) (by decide)
          · rw [List.length_append, hcn, hc]
            rfl
        | some z =>
          refine if_f rfl ⟨e2, acc, h2, ?_⟩
          rw [hcn, hc]
          rfl
      · rintro H2 ⟨e2, acc, h2, hc⟩
        rw [List.length_map, hlen, List.take_length, hone] at hc
        refine ⟨D, _, rfl, .inl (SqL.of h2), ?_⟩
        rw [hc]
        exact ⟨rfl, _, rfl, if_f rfl (k _ (e1.trans e2))⟩
end
end V2


namespace V2
open PySem L2
open PySem.Spec PyProof.Rows
inductive Deed
  | op (ks : List Int)
  | po (k a : Int)
  | sc (k p q : Int)
  | mv (k m p q : Int)
  | un (k m : Int)
def dD : Deed → PyData
  | .op ks => .tuple [.str "open", .list (ks.map .int)]
  | .po k a => .tuple [.str "pour", .int k, .int a]
  | .sc k p q => .tuple [.str "scoop", .int k, .tuple [.int p, .int q]]
  | .mv k m p q => .tuple [.str "move", .int k, .int m, .tuple [.int p, .int q]]
  | .un k m => .tuple [.str "unless", .int k, .int m]
def DAt (H : Hp) (a : Addr) : Deed → Prop
  | .op ks => ∃ l, H a = some (.tup [.str "open", .ref l]) ∧ Li H l ks
  | .po k x => H a = some (.tup [.str "pour", .int k, .int x])
  | .sc k p q => ∃ f, H a = some (.tup [.str "scoop", .int k, .ref f]) ∧ Fr H f p q
  | .mv k m p q => ∃ f, H a = some (.tup [.str "move", .int k, .int m, .ref f]) ∧ Fr H f p q
  | .un k m => H a = some (.tup [.str "unless", .int k, .int m])
theorem DAt.ex {H H' : Hp} {a : Addr} {d : Deed} (h : DAt H a d) (e : Evl.Ex H H') : DAt H' a d := by
  cases d with
  | op ks =>
    obtain ⟨l, h1, h2⟩ := h
    exact ⟨l, e _ _ h1, e _ _ h2⟩
  | po k x => exact e _ _ h
  | sc k p q =>
    obtain ⟨f, h1, h2⟩ := h
    exact ⟨f, e _ _ h1, e _ _ h2⟩
  | mv k m p q =>
    obtain ⟨f, h1, h2⟩ := h
    exact ⟨f, e _ _ h1, e _ _ h2⟩
  | un k m => exact e _ _ h
def Pt (p q : Int) : Prop := 0 ≤ p ∧ p ≤ q ∧ Qn p q
/-- a step that is right, for n tanks -/
def okD (n : Int) : Deed → Prop
  | .op ks => 2 ≤ ks.length ∧ ks.length ≤ 20 ∧ (∀ (i : Nat) (x y : Int), ks[i]? = some x → ks[i + 1]? = some y → x < y) ∧ ∀ k ∈ ks, 0 ≤ k ∧ k < n
  | .po k a => (0 ≤ k ∧ k < n) ∧ 0 ≤ a
  | .sc k p q => (0 ≤ k ∧ k < n) ∧ Pt p q
  | .mv k m p q => (0 ≤ k ∧ k < n) ∧ (0 ≤ m ∧ m < n) ∧ k ≠ m ∧ Pt p q
  | .un k m => (0 ≤ k ∧ k < n) ∧ (0 ≤ m ∧ m < n) ∧ k ≠ m
structure Th (K : PySem.W.Frag) (w : World) (mg : Str → Option Value) (aT : Addr) (es : Array DictEntry) (n : Nat) (t1 t2 t3 t4 t5 : Tok) : Prop where
  g : mg "THINGS" = some (.ref aT)
  D : KDict K w aT es n
  n1 : PySem.W.nsIn K aT "open" = some (some (.int 2 t1))
  n2 : PySem.W.nsIn K aT "pour" = some (some (.int 3 t2))
  n3 : PySem.W.nsIn K aT "scoop" = some (some (.int 3 t3))
  n4 : PySem.W.nsIn K aT "move" = some (some (.int 4 t4))
  n5 : PySem.W.nsIn K aT "unless" = some (some (.int 3 t5))
def spAsc : Sp := fun vs H Q _ => ∃ (l : Addr) (ks : List Int), vs = [.ref l] ∧ Li H l ks ∧ 2 ≤ ks.length ∧ ks.length ≤ 20 ∧ (∀ (i : Nat) (x y : Int), ks[i]? = some x → ks[i + 1]? = some y → x < y) ∧ Evl.RetV (.bl true) H Q
def spStep : Sp := fun vs H Q _ => ∃ (a : Addr) (d : Deed) (n : Int), vs = [.ref a] ∧ DAt H a d ∧ okD n d ∧ Evl.RetV (.bl true) H Q
section
variable {base : Heap} {mg : Str → Option Value} {K : PySem.W.Frag} {w : World} {P : Program} {aT : Addr} {es : Array DictEntry} {nT : Nat} {t1 t2 t3 t4 t5 : Tok}
theorem ok_is_ascending {f : Addr} {fd : FuncData} (F : Fun K "is_ascending" "is_ascending" s_is_ascending f fd) (T : T3 mg) (mR : mg "range" = none) (cI : Cal P w K mg base 1 "is_integer" p_is_integer spInt) : FnOk P w K mg base CX0 2 f fd p_is_ascending spAsc := by
  refine F.ok sc_is_ascending (fun vs H Q E h => ?_) (fun cdv A outer s H vs Q E hr h => ?_)
  · obtain ⟨l, ks, rfl, _⟩ := h
    rfl
  · obtain ⟨l, ks, rfl, hl, h2, h20, hasc, k⟩ := h
    have nd := sc_is_ascending.nd
    refine ⟨_, pss_cons (ps_if (PW.pt (pw_or (pt_not (pt_val (pe_callB call_isi (by rfl) T.isi (by decide +kernel) (pa_cons (pv 0) (pa_cons (pe_bltn (v := .ty "list") (by rfl) T.lst (by decide +kernel) rfl) pa_nil)))))
        (pw_or (pt_cmpR op_lt (pe_callB call_len_seq (by rfl) T.len PySem.boot_len (pa_cons (pv 0) pa_nil)) pe_int (nomark _))
        (pw_or1 (pt_not (pt_val (pe_callB (cr_all rfl) (by rfl) T.all (by decide +kernel) (pa_cons (pe_lc (own := [("number", 1)]) (g := gName 1) (tt := tYes) (te := tCall spInt [] E0 (tCons (tVar 1) tNil)) rfl nd (pi_list (pv 0)) (blkOk_by (N := n_is_ascending) (sc := defScope s_is_ascending) (by decide +kernel)) (fun _ _ _ _ _ => pg_name (i := 1) nd rfl (Or.inl rfl)) (fun _ _ _ _ _ => pts_nil)
          (fun _ _ _ _ _ => pe_c cI hr (pa_cons (pv 1) pa_nil))) pa_nil)))))))) (pss_one (ps_ret pe_bl)) pss_nil)
      (pss_one (ps_ret (pe_callB (cr_all rfl) (by rfl) T.all (by decide +kernel) (pa_cons (pe_lc (own := [("k", 2)]) (g := gName 2) (tt := tYes) (te := tOp (rI0 fun i j => .bl (decide (i < j))) (tOp (rIxL K) (tVar 0) (tVar 2)) (tOp (rIxL K) (tVar 0) (tOp (rI0 fun i j => .int (i + j)) (tVar 2) (tC (.int 1))))) rfl nd (pi_range1 (by rfl) mR (pa_cons (pe_op op_sub (pe_callB call_len_seq (by rfl) T.len PySem.boot_len (pa_cons (pv 0) pa_nil)) pe_int) pa_nil)) (blkOk_by (N := n_is_ascending) (sc := defScope s_is_ascending) (by decide +kernel)) (fun _ _ _ _ _ => pg_name (i := 2) nd rfl (Or.inl rfl)) (fun _ _ _ _ _ => pts_nil)
          (fun _ _ _ _ _ => pe_cmpR op_lt (pe_ix ix_list (pv 0) (pv 2) (fun _ _ => rfl)) (pe_ix ix_list (pv 0) (pe_op op_add (pv 2) pe_int) (fun _ _ => rfl)) (nomark _))) pa_nil)))), ?_⟩
    refine ⟨_, rfl, _, _, _, _, true, rfl, .ty "list", .base (.lst hl), kit_ty (by decide +kernel), true, rfl, if_f rfl ?_⟩
    refine ⟨_, rfl, l, _, rfl, .inl hl.sq, _, _, rfl, rfl, _, rfl, if_f (decide_eq_false (by rw [iV_len]; omega)) ?_⟩
    refine ⟨_, rfl, l, rfl, ⟨_, hl.sq⟩, fun D hD => lc_list (xs := iV ks) (fun i H' => Evl.Ex H H' ∧ H' D = some (.lst (List.replicate i (.bl true)))) ⟨Evl.Ex.new hD, upd_same⟩ (fun i H' _ q => SqL.of (q.1 _ _ hl)) ?_ ?_⟩
    · rintro i x H' hi ⟨e1, h1⟩
      obtain ⟨n, hn, rfl⟩ := iV_get hi
      have hlt : i < ks.length := (List.getElem?_eq_some_iff.mp hn).1
      refine ⟨rfl, ?_⟩
      show tCall spInt [] E0 (tCons (tVar 1) tNil) _ _ _
      refine ⟨_, rfl, n, rfl, fun H2 e2 => ⟨_, e2 _ _ h1, ?_, ?_, ?_⟩⟩
      · rw [List.length_replicate]; exact Nat.lt_of_lt_of_le (show i < 100 by omega) (by decide)
      · exact Evl.Ex.mut (e1.trans e2) hD
      · rw [upd_same, rep_snoc]
    · rintro H1 ⟨e1, h1⟩
      rw [iV_len] at h1
      refine ⟨D, List.replicate ks.length true, rfl, SqL.of (by rw [h1, List.map_replicate]), true, by simp, if_f rfl ?_⟩
      have hl1 : Li H1 l ks := e1 _ _ hl
      refine ⟨_, rfl, l, _, rfl, .inl hl1.sq, _, _, rfl, rfl, _, rfl, ?_, ?_, fun D2 hD2 => ?_⟩
      · rw [iV_len]; omega
      · rw [iV_len]; omega
      have en : (((iV ks).length : Int) - 1).toNat = ks.length - 1 := by rw [iV_len]; omega
      refine lc_range (n := (((iV ks).length : Int) - 1).toNat) (fun i H' => Evl.Ex H1 H' ∧ H' D2 = some (.lst (List.replicate i (.bl true)))) ⟨Evl.Ex.new hD2, upd_same⟩ ?_ ?_
      · rintro i H2 hi ⟨e2, h2'⟩
        rw [en] at hi
        obtain ⟨xa, g1⟩ : ∃ x, ks[i]? = some x := ⟨_, List.getElem?_eq_getElem (by omega)⟩
        obtain ⟨xb, g2⟩ : ∃ x, ks[i + 1]? = some x := ⟨_, List.getElem?_eq_getElem (by omega)⟩
        refine ⟨rfl, ?_⟩
        show tOp (rI0 fun i j => .bl (decide (i < j))) (tOp (rIxL K) (tVar 0) (tVar 2)) (tOp (rIxL K) (tVar 0) (tOp (rI0 fun i j => .int (i + j)) (tVar 2) (tC (.int 1)))) _ _ _
        refine ⟨_, rfl, _, rfl, l, _, _, _, rfl, rfl, SqL.of (e2 _ _ hl1), by rw [Int.zero_add]; exact atI_nat (iV_at g1), ?_⟩
        refine ⟨_, rfl, _, rfl, _, _, rfl, rfl, l, _, _, .int xb, rfl, rfl, SqL.of (e2 _ _ hl1), ?_, _, _, rfl, rfl, _, h2', ?_, Evl.Ex.mut e2 hD2, ?_⟩
        · show atI _ (0 + (i : Int) + 1) = _
          rw [show (0 + (i : Int) + 1) = ((i + 1 : Nat) : Int) by omega]
          exact atI_nat (iV_at g2)
        · rw [List.length_replicate]; exact Nat.lt_of_lt_of_le (show i < 100 by omega) (by decide)
        · rw [upd_same]
          show some (HO.lst (List.replicate i (V.bl true) ++ [V.bl (decide (xa < xb))])) = _
          rw [decide_eq_true (hasc i _ _ g1 g2), rep_snoc]
      · rintro H2 ⟨e2, h2'⟩
        rw [en] at h2'
        refine ⟨D2, List.replicate (ks.length - 1) true, rfl, SqL.of (by rw [h2', List.map_replicate]), ?_⟩
        have e : (List.replicate (ks.length - 1) true).all id = true := by simp
        rw [e]
        exact k _ (e1.trans e2)
theorem ok_is_step {f : Addr} {fd : FuncData} (F : Fun K "is_step" "is_step" s_is_step f fd) (T : T3 mg) (mS : mg "str" = none) (th : Th K w mg aT es nT t1 t2 t3 t4 t5) (cA : Cal P w K mg base 2 "is_ascending" p_is_ascending spAsc) (cM : Cal P w K mg base 2 "is_amount" p_is_amount spAmt) : FnOk P w K mg base CX0 3 f fd p_is_step spStep := by
  refine F.ok sc_is_step (fun vs H Q E h => ?_) (fun cdv A outer s H vs Q E hr h => ?_)
  · obtain ⟨a, d, n, rfl, _⟩ := h
    rfl
  · obtain ⟨a, d, n, rfl, hd, hok, k⟩ := h
    have nd := sc_is_step.nd
    refine ⟨_, pss_cons (ps_if (PW.pt (pw_or (pt_not (pt_val (pe_callB call_isi (by rfl) T.isi (by decide +kernel) (pa_cons (pv 0) (pa_cons (pe_bltn (v := .ty "tuple") (by rfl) T.tup (by decide +kernel) rfl) pa_nil)))))
        (pw_or (pt_not (pt_truth (pv 0) (by intro _; rfl)))
        (pw_or (pt_not (pt_val (pe_callB call_isi (by rfl) T.isi (by decide +kernel) (pa_cons (pe_ix ix_tup (pv 0) pe_int (fun _ _ => rfl)) (pa_cons (pe_bltn (v := .ty "str") (by rfl) mS (by decide +kernel) rfl) pa_nil)))))
        (pw_or1 (pt_cmpR (op_notIn_kd th.D) (pe_ix ix_tup (pv 0) pe_int (fun _ _ => rfl)) (pe_glob (v := .ref aT) (by rfl) th.g rfl) (by rfl))))))) (pss_one (ps_ret pe_bl)) pss_nil)
      (pss_cons (ps_set (i := 1) nd rfl (Or.inl rfl) (pe_ix ix_tup (pv 0) pe_int (fun _ _ => rfl)))
      (pss_cons (ps_if (pt_cmpR op_ne (pe_callB call_len_seq (by rfl) T.len PySem.boot_len (pa_cons (pv 0) pa_nil)) (pe_ix ix_kdict (pe_glob (v := .ref aT) (by rfl) th.g rfl) (pv 1) (fun _ _ => rfl)) (nomark _)) (pss_one (ps_ret pe_bl)) pss_nil)
      (pss_cons (ps_if (pt_cmpR op_eq (pv 1) pe_str (nomark _)) (pss_one (ps_ret (pe_c cA hr (pa_cons (pe_ix ix_tup (pv 0) pe_int (fun _ _ => rfl)) pa_nil)))) pss_nil)
      (pss_cons (ps_if (pt_cmpR op_eq (pv 1) pe_str (nomark _)) (pss_one (ps_ret (pe_c cM hr (pa_cons (pe_ix ix_tup (pv 0) pe_int (fun _ _ => rfl)) pa_nil)))) pss_nil)
      (pss_one (ps_ret (pe_or (pe_cmpR op_eq (pv 1) pe_str (nomark _)) (pe_one (pe_cmpR op_ne (pe_ix ix_tup (pv 0) pe_int (fun _ _ => rfl)) (pe_ix ix_tup (pv 0) pe_int (fun _ _ => rfl)) (nomark _)))))))))), ?_⟩
    cases d with
    | op ks =>
      obtain ⟨l, ha, hl⟩ := hd
      obtain ⟨h2, h20, hasc, _⟩ := hok
      refine ⟨_, rfl, _, _, _, _, true, rfl, .ty "tuple", .base (.tup ha), kit_ty (by decide +kernel), true, rfl, if_f rfl ?_⟩
      refine ⟨_, rfl, _, .inr (.inl ⟨_, SqT.of ha, rfl⟩), if_f rfl ?_⟩
      refine ⟨_, rfl, a, _, _, _, rfl, rfl, SqT.of ha, rfl, _, _, _, _, true, rfl, .ty "str", .base (.str _), kit_ty (by decide +kernel), true, rfl, if_f rfl ?_⟩
      refine ⟨_, rfl, a, _, _, _, rfl, rfl, SqT.of ha, rfl, _, _, rfl, rfl, th.n1, _, rfl, if_f rfl ?_⟩
      refine ⟨_, rfl, a, _, _, _, rfl, rfl, SqT.of ha, rfl, ?_⟩
      refine ⟨_, rfl, a, _, rfl, .inr (SqT.of ha), _, rfl, aT, _, .int 2, rfl, rfl, ⟨_, _, _, th.D.at_, th.D.lit, th.n1, ⟨_, rfl⟩⟩, rfl, _, rfl, if_f rfl ?_⟩
      refine ⟨_, rfl, rfl, _, rfl, if_t (by decide) ?_⟩
      exact ⟨_, rfl, a, _, _, _, rfl, rfl, SqT.of ha, rfl, l, ks, rfl, hl, h2, h20, hasc, k⟩
    | po j x =>
      have ha : H a = some (.tup [.str "pour", .int j, .int x]) := hd
      refine ⟨_, rfl, _, _, _, _, true, rfl, .ty "tuple", .base (.tup ha), kit_ty (by decide +kernel), true, rfl, if_f rfl ?_⟩
      refine ⟨_, rfl, _, .inr (.inl ⟨_, SqT.of ha, rfl⟩), if_f rfl ?_⟩
      refine ⟨_, rfl, a, _, _, _, rfl, rfl, SqT.of ha, rfl, _, _, _, _, true, rfl, .ty "str", .base (.str _), kit_ty (by decide +kernel), true, rfl, if_f rfl ?_⟩
      refine ⟨_, rfl, a, _, _, _, rfl, rfl, SqT.of ha, rfl, _, _, rfl, rfl, th.n2, _, rfl, if_f rfl ?_⟩
      refine ⟨_, rfl, a, _, _, _, rfl, rfl, SqT.of ha, rfl, ?_⟩
      refine ⟨_, rfl, a, _, rfl, .inr (SqT.of ha), _, rfl, aT, _, .int 3, rfl, rfl, ⟨_, _, _, th.D.at_, th.D.lit, th.n2, ⟨_, rfl⟩⟩, rfl, _, rfl, if_f rfl ?_⟩
      refine ⟨_, rfl, rfl, _, rfl, if_f (by decide) ?_⟩
      refine ⟨_, rfl, rfl, _, rfl, if_t (by decide) ?_⟩
      exact ⟨_, rfl, a, _, _, _, rfl, rfl, SqT.of ha, rfl, x, rfl, hok.2, k⟩
    | sc j p q =>
      obtain ⟨g, ha, hg⟩ := hd
      refine ⟨_, rfl, _, _, _, _, true, rfl, .ty "tuple", .base (.tup ha), kit_ty (by decide +kernel), true, rfl, if_f rfl ?_⟩
      refine ⟨_, rfl, _, .inr (.inl ⟨_, SqT.of ha, rfl⟩), if_f rfl ?_⟩
      refine ⟨_, rfl, a, _, _, _, rfl, rfl, SqT.of ha, rfl, _, _, _, _, true, rfl, .ty "str", .base (.str _), kit_ty (by decide +kernel), true, rfl, if_f rfl ?_⟩
      refine ⟨_, rfl, a, _, _, _, rfl, rfl, SqT.of ha, rfl, _, _, rfl, rfl, th.n3, _, rfl, if_f rfl ?_⟩
      refine ⟨_, rfl, a, _, _, _, rfl, rfl, SqT.of ha, rfl, ?_⟩
      refine ⟨_, rfl, a, _, rfl, .inr (SqT.of ha), _, rfl, aT, _, .int 3, rfl, rfl, ⟨_, _, _, th.D.at_, th.D.lit, th.n3, ⟨_, rfl⟩⟩, rfl, _, rfl, if_f rfl ?_⟩
      refine ⟨_, rfl, rfl, _, rfl, if_f (by decide) ?_⟩
      refine ⟨_, rfl, rfl, _, rfl, if_f (by decide) ?_⟩
      refine ⟨_, rfl, rfl, _, rfl, if_t (by decide) (k _ (Evl.Ex.refl _))⟩
    | mv j m p q =>
      obtain ⟨g, ha, hg⟩ := hd
      refine ⟨_, rfl, _, _, _, _, true, rfl, .ty "tuple", .base (.tup ha), kit_ty (by decide +kernel), true, rfl, if_f rfl ?_⟩
      refine ⟨_, rfl, _, .inr (.inl ⟨_, SqT.of ha, rfl⟩), if_f rfl ?_⟩
      refine ⟨_, rfl, a, _, _, _, rfl, rfl, SqT.of ha, rfl, _, _, _, _, true, rfl, .ty "str", .base (.str _), kit_ty (by decide +kernel), true, rfl, if_f rfl ?_⟩
      refine ⟨_, rfl, a, _, _, _, rfl, rfl, SqT.of ha, rfl, _, _, rfl, rfl, th.n4, _, rfl, if_f rfl ?_⟩
      refine ⟨_, rfl, a, _, _, _, rfl, rfl, SqT.of ha, rfl, ?_⟩
      refine ⟨_, rfl, a, _, rfl, .inr (SqT.of ha), _, rfl, aT, _, .int 4, rfl, rfl, ⟨_, _, _, th.D.at_, th.D.lit, th.n4, ⟨_, rfl⟩⟩, rfl, _, rfl, if_f rfl ?_⟩
      refine ⟨_, rfl, rfl, _, rfl, if_f (by decide) ?_⟩
      refine ⟨_, rfl, rfl, _, rfl, if_f (by decide) ?_⟩
      refine ⟨_, rfl, rfl, _, rfl, if_f (by decide) ?_⟩
      refine ⟨_, rfl, a, _, _, _, rfl, rfl, SqT.of ha, rfl, _, rfl, a, _, _, _, rfl, rfl, SqT.of ha, rfl, rfl, ?_⟩
      have e : (!decide (V.int j = V.int m)) = true := by
        rw [decide_eq_false fun z => hok.2.2.1 (by injection z)]
        rfl
      rw [e]
      exact k _ (Evl.Ex.refl _)
    | un j m =>
      have ha : H a = some (.tup [.str "unless", .int j, .int m]) := hd
      refine ⟨_, rfl, _, _, _, _, true, rfl, .ty "tuple", .base (.tup ha), kit_ty (by decide +kernel), true, rfl, if_f rfl ?_⟩
      refine ⟨_, rfl, _, .inr (.inl ⟨_, SqT.of ha, rfl⟩), if_f rfl ?_⟩
      refine ⟨_, rfl, a, _, _, _, rfl, rfl, SqT.of ha, rfl, _, _, _, _, true, rfl, .ty "str", .base (.str _), kit_ty (by decide +kernel), true, rfl, if_f rfl ?_⟩
      refine ⟨_, rfl, a, _, _, _, rfl, rfl, SqT.of ha, rfl, _, _, rfl, rfl, th.n5, _, rfl, if_f rfl ?_⟩
      refine ⟨_, rfl, a, _, _, _, rfl, rfl, SqT.of ha, rfl, ?_⟩
      refine ⟨_, rfl, a, _, rfl, .inr (SqT.of ha), _, rfl, aT, _, .int 3, rfl, rfl, ⟨_, _, _, th.D.at_, th.D.lit, th.n5, ⟨_, rfl⟩⟩, rfl, _, rfl, if_f rfl ?_⟩
      refine ⟨_, rfl, rfl, _, rfl, if_f (by decide) ?_⟩
      refine ⟨_, rfl, rfl, _, rfl, if_f (by decide) ?_⟩
      refine ⟨_, rfl, rfl, _, rfl, if_f (by decide) ?_⟩
      refine ⟨_, rfl, a, _, _, _, rfl, rfl, SqT.of ha, rfl, _, rfl, a, _, _, _, rfl, rfl, SqT.of ha, rfl, rfl, ?_⟩
      have e : (!decide (V.int j = V.int m)) = true := by
        rw [decide_eq_false fun z => hok.2.2 (by injection z)]
        rfl
      rw [e]
      exact k _ (Evl.Ex.refl _)
end
end V2


namespace V2
open PySem L2
open PySem.Spec PyProof.Rows
def sgn (x : Int) : Int := if x = 0 then 0 else if x > 0 then 1 else -1
theorem sgn_le {x : Int} (h : x ≤ 0) : sgn x ≤ 0 := by
  unfold sgn
  split
  · omega
  · split <;> omega
def spSgn : Sp := fun vs H Q _ => ∃ x : Int, vs = [.int x] ∧ Evl.RetV (.int (sgn x)) H Q
def spOrd : Sp := fun vs H Q _ => ∃ (a b : Addr) (p q x y : Int), vs = [.ref a, .ref b] ∧ Fr H a p q ∧ Fr H b x y ∧ p.natAbs < 2 ^ 50 ∧ q.natAbs < 2 ^ 50 ∧ x.natAbs < 2 ^ 50 ∧ y.natAbs < 2 ^ 50 ∧ Evl.RetV (.int (sgn (p * y - x * q))) H Q
def spTof (n : Int) : Sp := fun vs H Q _ => ∃ (a : Addr) (d : Deed), vs = [.ref a] ∧ DAt H a d ∧ okD n d ∧ ∀ (l : Addr) (ks : List Int) (H' : Hp), Evl.Ex H H' → Li H' l ks → ks.length ≤ 20 → (∀ k ∈ ks, 0 ≤ k ∧ k < n) → Q (.ref l) H'
def spNums : Sp := fun vs H Q _ => ∃ (l : Addr) (ks : List Int) (n : Int), vs = [.ref l, .int n] ∧ Li H l ks ∧ ks.length ≤ 20 ∧ (∀ k ∈ ks, 0 ≤ k ∧ k < n) ∧ Evl.RetV .non H Q
def spPart : Sp := fun vs H Q _ => ∃ (a : Addr) (p q : Int), vs = [.ref a] ∧ Fr H a p q ∧ Pt p q ∧ Evl.RetV .non H Q
def spChkS : Sp := fun vs H Q _ => ∃ (a : Addr) (d : Deed) (n : Int), vs = [.ref a, .int n] ∧ DAt H a d ∧ okD n d ∧ Evl.RetV .non H Q
section
variable {base : Heap} {mg : Str → Option Value} {K : PySem.W.Frag} {w : World} {P : Program} {aT : Addr} {es : Array DictEntry} {nT : Nat} {t1 t2 t3 t4 t5 : Tok}
theorem ok_sign_of {f : Addr} {fd : FuncData} (F : Fun K "sign_of" "sign_of" s_sign_of f fd) : FnOk P w K mg base CX0 1 f fd p_sign_of spSgn := by
  refine F.ok sc_sign_of (fun vs H Q E h => ?_) (fun cdv A outer s H vs Q E hr h => ?_)
  · obtain ⟨x, rfl, _⟩ := h
    rfl
  · obtain ⟨x, rfl, k⟩ := h
    refine ⟨_, pss_cons (ps_if (pt_cmpR op_eq (pv 0) pe_int (nomark _)) (pss_one (ps_ret pe_int)) pss_nil) (pss_one (ps_ret (pe_ifExp (pt_cmpR op_gt (pv 0) pe_int (nomark _)) pe_int (pe_un un_neg pe_int)))), ?_⟩
    refine ⟨_, rfl, rfl, _, rfl, ?_⟩
    unfold sgn at k
    by_cases h0 : x = 0
    · refine if_t (decide_eq_true (by rw [h0])) ?_
      rw [if_pos h0] at k
      exact k _ (Evl.Ex.refl _)
    · refine if_f (decide_eq_false (fun z => h0 (by injection z))) ?_
      rw [if_neg h0] at k
      by_cases h1 : x > 0
      · rw [if_pos h1] at k
        exact ⟨_, rfl, _, _, rfl, rfl, _, rfl, if_t (decide_eq_true h1) (k _ (Evl.Ex.refl _))⟩
      · rw [if_neg h1] at k
        exact ⟨_, rfl, _, _, rfl, rfl, _, rfl, if_f (decide_eq_false h1) ⟨_, rfl, k _ (Evl.Ex.refl _)⟩⟩
theorem ok_order {f : Addr} {fd : FuncData} (F : Fun K "order_of_fractions" "order_of_fractions" s_order_of_fractions f fd) (cS : Cal P w K mg base 1 "sign_of" p_sign_of spSgn) : FnOk P w K mg base CX0 2 f fd p_order_of_fractions spOrd := by
  refine F.ok sc_order_of_fractions (fun vs H Q E h => ?_) (fun cdv A outer s H vs Q E hr h => ?_)
  · obtain ⟨a, b, p, q, x, y, rfl, _⟩ := h
    rfl
  · obtain ⟨a, b, p, q, x, y, rfl, ha, hb, h1, h2, h3, h4, k⟩ := h
    refine ⟨_, pss_one (ps_ret (pe_c cS hr (pa_cons (pe_op op_sub (pe_op op_mulW (pe_ix ix_tup (pv 0) pe_int (fun _ _ => rfl)) (pe_ix ix_tup (pv 1) pe_int (fun _ _ => rfl))) (pe_op op_mulW (pe_ix ix_tup (pv 1) pe_int (fun _ _ => rfl)) (pe_ix ix_tup (pv 0) pe_int (fun _ _ => rfl)))) pa_nil))), ?_⟩
    refine ⟨_, rfl, a, _, _, _, rfl, rfl, SqT.of ha, rfl, _, rfl, b, _, _, _, rfl, rfl, SqT.of hb, rfl, p, y, rfl, rfl, wide_mul (a := 50) (b := 50) h1 h4 (by decide) (by decide) (by decide), ?_⟩
    refine ⟨_, rfl, b, _, _, _, rfl, rfl, SqT.of hb, rfl, _, rfl, a, _, _, _, rfl, rfl, SqT.of ha, rfl, x, q, rfl, rfl, wide_mul (a := 50) (b := 50) h3 h2 (by decide) (by decide) (by decide), _, _, rfl, rfl, ?_⟩
    exact ⟨_, rfl, k⟩
theorem ok_tanks_of {n : Int} {f : Addr} {fd : FuncData} (F : Fun K "tanks_of" "tanks_of" s_tanks_of f fd) : FnOk P w K mg base CX0 1 f fd p_tanks_of (spTof n) := by
  refine F.ok sc_tanks_of (fun vs H Q E h => ?_) (fun cdv A outer s H vs Q E hr h => ?_)
  · obtain ⟨a, d, rfl, _⟩ := h
    rfl
  · obtain ⟨a, d, rfl, hd, hok, k⟩ := h
    have one : 1 ≤ sizeLine := by show 1 ≤ sizeLine; decide
    have two : 2 ≤ sizeLine := by show 2 ≤ sizeLine; decide
    refine ⟨_, pss_cons (ps_if (pt_cmpR op_eq (pe_ix ix_tup (pv 0) pe_int (fun _ _ => rfl)) pe_str (nomark _)) (pss_one (ps_ret (pe_ix ix_tup (pv 0) pe_int (fun _ _ => rfl)))) pss_nil)
      (pss_one (ps_ret (pe_ifExp (pt_cmpR op_in_seq (pe_ix ix_tup (pv 0) pe_int (fun _ _ => rfl)) (pe_tup (pa_cons pe_str (pa_cons pe_str pa_nil))) (by rfl))
        (pe_lst (pa_cons (pe_ix ix_tup (pv 0) pe_int (fun _ _ => rfl)) (pa_cons (pe_ix ix_tup (pv 0) pe_int (fun _ _ => rfl)) pa_nil))) (pe_lst (pa_cons (pe_ix ix_tup (pv 0) pe_int (fun _ _ => rfl)) pa_nil))))), ?_⟩
    cases d with
    | op ks =>
      obtain ⟨l, ha, hl⟩ := hd
      refine ⟨_, rfl, a, _, _, _, rfl, rfl, SqT.of ha, rfl, rfl, _, rfl, if_t (by decide) ?_⟩
      exact ⟨_, rfl, a, _, _, _, rfl, rfl, SqT.of ha, rfl, k l ks H (Evl.Ex.refl _) hl hok.2.1 hok.2.2.2⟩
    | po j x =>
      have ha : H a = some (.tup [.str "pour", .int j, .int x]) := hd
      refine ⟨_, rfl, a, _, _, _, rfl, rfl, SqT.of ha, rfl, rfl, _, rfl, if_f (by decide) ?_⟩
      refine ⟨_, rfl, a, _, _, _, rfl, rfl, SqT.of ha, rfl, two, fun t ht => ?_⟩
      have e1 := Evl.Ex.new (o := .tup [.str "move", .str "unless"]) ht
      refine ⟨t, _, rfl, .inr (SqT.of upd_same), rfl, rfl, _, rfl, if_f (by decide) ?_⟩
      refine ⟨_, rfl, a, _, _, _, rfl, rfl, SqT.of (e1 _ _ ha), rfl, one, fun l hl => k l [j] _ (e1.trans (Evl.Ex.new hl)) upd_same (by show 1 ≤ 20; decide) fun z hz => ?_⟩
      obtain rfl := List.mem_singleton.mp hz
      exact hok.1
    | sc j p q =>
      obtain ⟨g, ha, hg⟩ := hd
      refine ⟨_, rfl, a, _, _, _, rfl, rfl, SqT.of ha, rfl, rfl, _, rfl, if_f (by decide) ?_⟩
      refine ⟨_, rfl, a, _, _, _, rfl, rfl, SqT.of ha, rfl, two, fun t ht => ?_⟩
      have e1 := Evl.Ex.new (o := .tup [.str "move", .str "unless"]) ht
      refine ⟨t, _, rfl, .inr (SqT.of upd_same), rfl, rfl, _, rfl, if_f (by decide) ?_⟩
      refine ⟨_, rfl, a, _, _, _, rfl, rfl, SqT.of (e1 _ _ ha), rfl, one, fun l hl => k l [j] _ (e1.trans (Evl.Ex.new hl)) upd_same (by show 1 ≤ 20; decide) fun z hz => ?_⟩
      obtain rfl := List.mem_singleton.mp hz
      exact hok.1
    | mv j m p q =>
      obtain ⟨g, ha, hg⟩ := hd
      refine ⟨_, rfl, a, _, _, _, rfl, rfl, SqT.of ha, rfl, rfl, _, rfl, if_f (by decide) ?_⟩
      refine ⟨_, rfl, a, _, _, _, rfl, rfl, SqT.of ha, rfl, two, fun t ht => ?_⟩
      have e1 := Evl.Ex.new (o := .tup [.str "move", .str "unless"]) ht
      refine ⟨t, _, rfl, .inr (SqT.of upd_same), rfl, rfl, _, rfl, if_t (by decide) ?_⟩
      refine ⟨_, rfl, a, _, _, _, rfl, rfl, SqT.of (e1 _ _ ha), rfl, _, rfl, a, _, _, _, rfl, rfl, SqT.of (e1 _ _ ha), rfl, two, fun l hl => k l [j, m] _ (e1.trans (Evl.Ex.new hl)) upd_same (by show 2 ≤ 20; decide) fun z hz => ?_⟩
      simp only [List.mem_cons, List.not_mem_nil, or_false] at hz
      rcases hz with rfl | rfl
      · exact hok.1
      · exact hok.2.1
    | un j m =>
      have ha : H a = some (.tup [.str "unless", .int j, .int m]) := hd
      refine ⟨_, rfl, a, _, _, _, rfl, rfl, SqT.of ha, rfl, rfl, _, rfl, if_f (by decide) ?_⟩
      refine ⟨_, rfl, a, _, _, _, rfl, rfl, SqT.of ha, rfl, two, fun t ht => ?_⟩
      have e1 := Evl.Ex.new (o := .tup [.str "move", .str "unless"]) ht
      refine ⟨t, _, rfl, .inr (SqT.of upd_same), rfl, rfl, _, rfl, if_t (by decide) ?_⟩
      refine ⟨_, rfl, a, _, _, _, rfl, rfl, SqT.of (e1 _ _ ha), rfl, _, rfl, a, _, _, _, rfl, rfl, SqT.of (e1 _ _ ha), rfl, two, fun l hl => k l [j, m] _ (e1.trans (Evl.Ex.new hl)) upd_same (by show 2 ≤ 20; decide) fun z hz => ?_⟩
      simp only [List.mem_cons, List.not_mem_nil, or_false] at hz
      rcases hz with rfl | rfl
      · exact hok.1
      · exact hok.2.1
theorem ok_check_numbers {f : Addr} {fd : FuncData} (F : Fun K "check_numbers" "check_numbers" s_check_numbers f fd) (cA : Cal P w K mg base 2 "is_amount" p_is_amount spAmt) : FnOk P w K mg base CX0 3 f fd p_check_numbers spNums := by
  refine F.ok sc_check_numbers (fun vs H Q E h => ?_) (fun cdv A outer s H vs Q E hr h => ?_)
  · obtain ⟨l, ks, n, rfl, _⟩ := h
    rfl
  · obtain ⟨l, ks, n, rfl, hl, h20, hks, k⟩ := h
    have nd := sc_check_numbers.nd
    refine ⟨_, pss_one (ps_for PassesOwn.never rfl (pi_list (pv 0)) (pg_name (i := 2) nd rfl (Or.inl rfl)) (pss_one (ps_if (PW.pt (pw_or (pt_not (pt_val (pe_c cA hr (pa_cons (pv 2) pa_nil)))) (pw_or1 (pt_cmpR op_ge (pv 2) (pv 1) (nomark _))))) (pss_one ps_never) pss_nil))), ?_⟩
    refine ⟨_, rfl, l, rfl, ⟨_, hl.sq⟩, for_list (xs := iV ks) (fun i σ H' => Evl.Ex H H' ∧ ∃ v, σ = [some (.ref l), some (.int n), v]) ⟨Evl.Ex.refl _, none, rfl⟩ (fun i σ H' _ q => SqL.of (q.1 _ _ hl)) ?_ ?_⟩
    · rintro i x σ H1 hi ⟨e1, v, rfl⟩
      obtain ⟨z, hz, rfl⟩ := iV_get hi
      obtain ⟨z0, z1⟩ := hks z (List.mem_of_getElem? hz)
      refine ⟨_, rfl, z, rfl, z0, fun H2 e2 => ⟨true, rfl, if_f rfl ?_⟩⟩
      exact ⟨_, rfl, _, rfl, _, _, rfl, rfl, _, rfl, if_f (decide_eq_false (by omega)) ⟨e1.trans e2, _, rfl⟩⟩
    · rintro σ H1 ⟨e1, v, rfl⟩
      exact k _ e1
theorem ok_check_part {f : Addr} {fd : FuncData} (F : Fun K "check_part" "check_part" s_check_part f fd) (cF : Cal P w K mg base 2 "is_fraction" p_is_fraction spIsFr) (cO : Cal P w K mg base 2 "order_of_fractions" p_order_of_fractions spOrd) : FnOk P w K mg base CX0 3 f fd p_check_part spPart := by
  refine F.ok sc_check_part (fun vs H Q E h => ?_) (fun cdv A outer s H vs Q E hr h => ?_)
  · obtain ⟨a, p, q, rfl, _⟩ := h
    rfl
  · obtain ⟨a, p, q, rfl, ha, ⟨p0, pq, hQ⟩, k⟩ := h
    have two : 2 ≤ sizeLine := by show 2 ≤ sizeLine; decide
    refine ⟨_, pss_one (ps_if (PW.pt (pw_or (pt_not (pt_val (pe_c cF hr (pa_cons (pv 0) pa_nil)))) (pw_or (pt_cmpR op_lt (pe_ix ix_tup (pv 0) pe_int (fun _ _ => rfl)) pe_int (nomark _))
      (pw_or1 (pt_cmpR op_gt (pe_c cO hr (pa_cons (pv 0) (pa_cons (pe_tup (pa_cons pe_int (pa_cons pe_int pa_nil))) pa_nil))) pe_int (nomark _)))))) (pss_one ps_never) pss_nil), ?_⟩
    refine ⟨_, rfl, a, p, q, rfl, ha, hQ, fun H1 e1 => ⟨true, rfl, if_f rfl ?_⟩⟩
    refine ⟨_, rfl, a, _, _, _, rfl, rfl, SqT.of (e1 _ _ ha), rfl, _, _, rfl, rfl, _, rfl, if_f (decide_eq_false (by omega)) ?_⟩
    refine ⟨_, rfl, two, fun t ht => ?_⟩
    have e2 := Evl.Ex.new (o := .tup [.int 1, .int 1]) ht
    refine ⟨a, t, p, q, 1, 1, rfl, e2 _ _ (e1 _ _ ha), upd_same, hQ.2.2.1, hQ.2.2.2, by decide, by decide, fun H2 e3 => ⟨_, _, rfl, rfl, _, rfl, if_f (decide_eq_false ?_) (k _ ((e1.trans e2).trans e3))⟩⟩
    have := sgn_le (x := p * 1 - 1 * q) (by omega)
    omega
theorem ok_check_step {f : Addr} {fd : FuncData} (F : Fun K "check_step" "check_step" s_check_step f fd) (cS : Cal P w K mg base 3 "is_step" p_is_step spStep) (cT : ∀ n, Cal P w K mg base 1 "tanks_of" p_tanks_of (spTof n)) (cN : Cal P w K mg base 3 "check_numbers" p_check_numbers spNums) (cP : Cal P w K mg base 3 "check_part" p_check_part spPart) : FnOk P w K mg base CX0 4 f fd p_check_step spChkS := by
  refine F.ok sc_check_step (fun vs H Q E h => ?_) (fun cdv A outer s H vs Q E hr h => ?_)
  · obtain ⟨a, d, n, rfl, _⟩ := h
    rfl
  · obtain ⟨a, d, n, rfl, hd, hok, k⟩ := h
    have two : 2 ≤ sizeLine := by show 2 ≤ sizeLine; decide
    have r1 : Room 1 _ := hr.mono (by decide)
    refine ⟨_, pss_cons (ps_if (pt_not (pt_val (pe_c cS hr (pa_cons (pv 0) pa_nil)))) (pss_one ps_never) pss_nil)
      (pss_cons (ps_expr (pe_c cN hr (pa_cons (pe_c (cT n) r1 (pa_cons (pv 0) pa_nil)) (pa_cons (pv 1) pa_nil))))
      (pss_one (ps_if (pt_cmpR op_in_seq (pe_ix ix_tup (pv 0) pe_int (fun _ _ => rfl)) (pe_tup (pa_cons pe_str (pa_cons pe_str pa_nil))) (by rfl)) (pss_one (ps_expr (pe_c cP hr (pa_cons (pe_ix ix_tup (pv 0) (pe_un un_neg pe_int) (fun _ _ => rfl)) pa_nil)))) pss_nil))), ?_⟩
    refine ⟨_, rfl, a, d, n, rfl, hd, hok, fun H1 e1 => ⟨true, rfl, if_f rfl ?_⟩⟩
    refine ⟨_, rfl, a, d, rfl, hd.ex e1, hok, fun l ks H2 e2 hl h20 hks => ⟨_, rfl, l, ks, n, rfl, hl, h20, hks, fun H3 e3 => ?_⟩⟩
    have e13 := (e1.trans e2).trans e3
    cases d with
    | op ks =>
      obtain ⟨l, ha, hl⟩ := hd
      refine ⟨_, rfl, a, _, _, _, rfl, rfl, SqT.of (e13 _ _ ha), rfl, two, fun t ht => ⟨t, _, rfl, .inr (SqT.of upd_same), rfl, rfl, _, rfl, if_f (by decide) (k _ (e13.trans (Evl.Ex.new ht)))⟩⟩
    | po j x =>
      have ha : H a = some (.tup [.str "pour", .int j, .int x]) := hd
      refine ⟨_, rfl, a, _, _, _, rfl, rfl, SqT.of (e13 _ _ ha), rfl, two, fun t ht => ⟨t, _, rfl, .inr (SqT.of upd_same), rfl, rfl, _, rfl, if_f (by decide) (k _ (e13.trans (Evl.Ex.new ht)))⟩⟩
    | sc j p q =>
      obtain ⟨g, ha, hg⟩ := hd
      refine ⟨_, rfl, a, _, _, _, rfl, rfl, SqT.of (e13 _ _ ha), rfl, two, fun t ht => ⟨t, _, rfl, .inr (SqT.of upd_same), rfl, rfl, _, rfl, if_t (by decide) ?_⟩⟩
      have e4 := e13.trans (Evl.Ex.new (o := .tup [.str "scoop", .str "move"]) ht)
      exact ⟨_, rfl, _, rfl, a, _, _, _, rfl, rfl, SqT.of (e4 _ _ ha), rfl, g, p, q, rfl, e4 _ _ hg, hok.2, fun H5 e5 => k _ (e4.trans e5)⟩
    | mv j m p q =>
      obtain ⟨g, ha, hg⟩ := hd
      refine ⟨_, rfl, a, _, _, _, rfl, rfl, SqT.of (e13 _ _ ha), rfl, two, fun t ht => ⟨t, _, rfl, .inr (SqT.of upd_same), rfl, rfl, _, rfl, if_t (by decide) ?_⟩⟩
      have e4 := e13.trans (Evl.Ex.new (o := .tup [.str "scoop", .str "move"]) ht)
      exact ⟨_, rfl, _, rfl, a, _, _, _, rfl, rfl, SqT.of (e4 _ _ ha), rfl, g, p, q, rfl, e4 _ _ hg, hok.2.2.2, fun H5 e5 => k _ (e4.trans e5)⟩
    | un j m =>
      have ha : H a = some (.tup [.str "unless", .int j, .int m]) := hd
      refine ⟨_, rfl, a, _, _, _, rfl, rfl, SqT.of (e13 _ _ ha), rfl, two, fun t ht => ⟨t, _, rfl, .inr (SqT.of upd_same), rfl, rfl, _, rfl, if_f (by decide) (k _ (e13.trans (Evl.Ex.new ht)))⟩⟩
end
end V2


namespace V2
open PySem L2
open PySem.Spec PyProof.Rows
def DObj : HO → Prop
  | .lst _ => True
  | .tup _ => True
  | .dK _ => True
  | _ => False
mutual
theorem Dq.keep {H H' : Hp} (e : ∀ b o, DObj o → H b = some o → H' b = some o) : ∀ {d : PyData} {v : V}, Dq H v d → Dq H' v d
  | _, _, .non => .non
  | _, _, .bl b => .bl b
  | _, _, .int i => .int i
  | _, _, .str x => .str x
  | _, _, .lst h r => .lst (e _ _ trivial h) (DqAll.keep e r)
  | _, _, .tup h r => .tup (e _ _ trivial h) (DqAll.keep e r)
  | _, _, .dct h r => .dct (e _ _ trivial h) (Dq.keep e r)
theorem DqAll.keep {H H' : Hp} (e : ∀ b o, DObj o → H b = some o → H' b = some o) : ∀ {ds : List PyData} {vs : List V}, DqAll H vs ds → DqAll H' vs ds
  | _, _, .nil => .nil
  | _, _, .cons a b => .cons (Dq.keep e a) (DqAll.keep e b)
end
theorem keep_ins {H H' : Hp} {x C dx : Addr} {fs : List (Str × V)} (hx : H x = some (.ins C dx fs)) (b : But x H H') : ∀ c o, DObj o → H c = some o → H' c = some o := fun c o d h => b c o (fun z => by
  rw [z, hx] at h
  cases h
  exact d) h
theorem cp_ints {n : Nat} {ks : List Int} (h : ks.length ≤ 100) : Cp (n + 1) (.list (ks.map .int)) := .lst (by rw [List.length_map]; exact h) fun d hd => by
  obtain ⟨t, _, rfl⟩ := List.mem_map.mp hd
  exact .int t
theorem cp_dD {d : Deed} {n : Int} (h : okD n d) : Cp 2 (dD d) := by
  cases d with
  | op ks =>
    refine .tup (by show 2 ≤ 100; decide) fun x hx => ?_
    simp only [List.mem_cons, List.not_mem_nil, or_false] at hx
    rcases hx with rfl | rfl
    · exact .str _
    · exact cp_ints (Nat.le_trans h.2.1 (by decide))
  | po k a =>
    refine .tup (by show 3 ≤ 100; decide) fun x hx => ?_
    simp only [List.mem_cons, List.not_mem_nil, or_false] at hx
    rcases hx with rfl | rfl | rfl
    · exact .str _
    · exact .int _
    · exact .int _
  | sc k p q =>
    refine .tup (by show 3 ≤ 100; decide) fun x hx => ?_
    simp only [List.mem_cons, List.not_mem_nil, or_false] at hx
    rcases hx with rfl | rfl | rfl
    · exact .str _
    · exact .int _
    · exact .tup (by show 2 ≤ 100; decide) fun y hy => by
        simp only [List.mem_cons, List.not_mem_nil, or_false] at hy
        rcases hy with rfl | rfl
        · exact .int _
        · exact .int _
  | mv k m p q =>
    refine .tup (by show 4 ≤ 100; decide) fun x hx => ?_
    simp only [List.mem_cons, List.not_mem_nil, or_false] at hx
    rcases hx with rfl | rfl | rfl | rfl
    · exact .str _
    · exact .int _
    · exact .int _
    · exact .tup (by show 2 ≤ 100; decide) fun y hy => by
        simp only [List.mem_cons, List.not_mem_nil, or_false] at hy
        rcases hy with rfl | rfl
        · exact .int _
        · exact .int _
  | un k m =>
    refine .tup (by show 3 ≤ 100; decide) fun x hx => ?_
    simp only [List.mem_cons, List.not_mem_nil, or_false] at hx
    rcases hx with rfl | rfl | rfl
    · exact .str _
    · exact .int _
    · exact .int _
theorem cp_deeds {ds : List Deed} {n : Int} (h : ∀ d ∈ ds, okD n d) (hl : ds.length ≤ 100) : Cp 3 (.list (ds.map dD)) := .lst (by rw [List.length_map]; exact hl) fun d hd => by
  obtain ⟨t, ht, rfl⟩ := List.mem_map.mp hd
  exact cp_dD (h t ht)
theorem dq_ints {H : Hp} : ∀ {ks : List Int} {vs : List V}, DqAll H vs (ks.map .int) → vs = iV ks
  | [], _, .nil => rfl
  | k :: ks, _, .cons a b => by
    cases a
    rw [dq_ints b]
    rfl
theorem dq_deed {H : Hp} {v : V} {d : Deed} (h : Dq H v (dD d)) : ∃ a, v = .ref a ∧ DAt H a d := by
  cases d with
  | op ks =>
    cases h with
    | tup h1 h2 =>
      cases h2 with
      | cons a b =>
        cases a
        cases b with
        | cons b c =>
          cases c
          cases b with
          | lst h3 h4 =>
            rw [dq_ints h4] at h3
            exact ⟨_, rfl, _, h1, h3⟩
  | po k x =>
    cases h with
    | tup h1 h2 =>
      cases h2 with
      | cons a b =>
        cases a
        cases b with
        | cons b c =>
          cases b
          cases c with
          | cons c e =>
            cases c
            cases e
            exact ⟨_, rfl, h1⟩
  | sc k p q =>
    cases h with
    | tup h1 h2 =>
      cases h2 with
      | cons a b =>
        cases a
        cases b with
        | cons b c =>
          cases b
          cases c with
          | cons c e =>
            cases e
            cases c with
            | tup h3 h4 =>
              rw [dq_ints (ks := [p, q]) h4] at h3
              exact ⟨_, rfl, _, h1, h3⟩
  | mv k m p q =>
    cases h with
    | tup h1 h2 =>
      cases h2 with
      | cons a b =>
        cases a
        cases b with
        | cons b c =>
          cases b
          cases c with
          | cons c e =>
            cases c
            cases e with
            | cons e g =>
              cases g
              cases e with
              | tup h3 h4 =>
                rw [dq_ints (ks := [p, q]) h4] at h3
                exact ⟨_, rfl, _, h1, h3⟩
  | un k m =>
    cases h with
    | tup h1 h2 =>
      cases h2 with
      | cons a b =>
        cases a
        cases b with
        | cons b c =>
          cases b
          cases c with
          | cons c e =>
            cases c
            cases e
            exact ⟨_, rfl, h1⟩
/-- the steps that stand in a list -/
def DsAt (H : Hp) (l : Addr) (ds : List Deed) : Prop := ∃ as : List Addr, H l = some (.lst (as.map V.ref)) ∧ as.length = ds.length ∧ ∀ (i : Nat) (a : Addr) (d : Deed), as[i]? = some a → ds[i]? = some d → DAt H a d
theorem DsAt.ex {H H' : Hp} {l : Addr} {ds : List Deed} (h : DsAt H l ds) (e : Evl.Ex H H') : DsAt H' l ds := by
  obtain ⟨as, h1, h2, h3⟩ := h
  exact ⟨as, e _ _ h1, h2, fun i a t x y => (h3 i a t x y).ex e⟩
theorem dq_deeds {H : Hp} : ∀ {ds : List Deed} {vs : List V}, DqAll H vs (ds.map dD) → ∃ as : List Addr, vs = as.map V.ref ∧ as.length = ds.length ∧ ∀ (i : Nat) (a : Addr) (d : Deed), as[i]? = some a → ds[i]? = some d → DAt H a d
  | [], _, .nil => ⟨[], rfl, rfl, fun i a t h => (by cases h)⟩
  | t :: ts, _, .cons a b => by
    obtain ⟨x, rfl, hx⟩ := dq_deed a
    obtain ⟨as, rfl, h2, h3⟩ := dq_deeds b
    refine ⟨x :: as, rfl, congrArg Nat.succ h2, fun i a t' h1 h2 => ?_⟩
    cases i with
    | zero =>
      cases h1
      cases h2
      exact hx
    | succ i => exact h3 i a t' h1 h2
theorem Dq.deeds {H : Hp} {v : V} {ds : List Deed} (h : Dq H v (.list (ds.map dD))) : ∃ l, v = .ref l ∧ DsAt H l ds := by
  cases h with
  | lst h1 h2 =>
    obtain ⟨as, rfl, h3, h4⟩ := dq_deeds h2
    exact ⟨_, rfl, as, h1, h3, h4⟩
structure ScC (K : PySem.W.Frag) (C fI fT fS pT pS : Addr) : Prop where
  cls : Cls K C
  na1 : NoAttr K C "_tanks"
  na2 : NoAttr K C "_steps"
  mkI : Mk K C fI
  prT : PropOf K C "tanks" pT fT
  prS : PropOf K C "steps" pS fS
/-- a script's shape that is right -/
def okS (ts : List Tk) (ds : List Deed) : Prop := okT ts ∧ ds.length ≤ 60 ∧ ∀ d ∈ ds, okD ts.length d
def scF (v u : V) : List (Str × V) := [("_tanks", v), ("_steps", u)]
def spScI (C : Addr) : Sp := fun vs H Q _ => ∃ (x dx : Addr) (v u : V) (ts : List Tk) (ds : List Deed), vs = [.ref x, v, u] ∧ H x = some (.ins C dx []) ∧ Dq H v (.list (ts.map tkD)) ∧ Dq H u (.list (ds.map dD)) ∧ okS ts ds ∧
  ∀ (v' u' : V) (fs : List (Str × V)) (H' : Hp), But x H H' → H' x = some (.ins C dx fs) → fs.lookup ("_tanks" : Str) = some v' → fs.lookup ("_steps" : Str) = some u' → Dq (Nw H H') v' (.list (ts.map tkD)) → Dq (Nw H H') u' (.list (ds.map dD)) → fs = scF v' u' → Q .non H'
def spGet (C : Addr) (n : Nat) (f : Str) : Sp := fun vs H Q _ => ∃ (x dx : Addr) (fs : List (Str × V)) (v : V) (d : PyData), vs = [.ref x] ∧ H x = some (.ins C dx fs) ∧ fs.lookup f = some v ∧ Dq H v d ∧ Cp n d ∧ ∀ v' H', Evl.Ex H H' → Dq (Nw H H') v' d → Q v' H'
section
variable {base : Heap} {mg : Str → Option Value} {K : PySem.W.Frag} {w : World} {P : Program} {C fI fT fS pT pS : Addr}
theorem ok_Sc_tanks {f : Addr} {fd : FuncData} (F : Fun K "tanks" "Script.tanks" s_Sc_tanks f fd) (c : ScC K C fI fT fS pT pS) (c2 : Cal P w K mg base 3 "copied" p_copied (spCp 2)) : FnOk P w K mg base CX0 4 f fd p_Sc_tanks (spGet C 2 "_tanks") := by
  refine F.ok sc_Sc_tanks (fun vs H Q E h => ?_) (fun cdv A outer s H vs Q E hr h => ?_)
  · obtain ⟨x, dx, fs, v, d, rfl, _⟩ := h
    rfl
  · obtain ⟨x, dx, fs, v, d, rfl, hx, hf, hd, hc, k⟩ := h
    refine ⟨_, pss_one (ps_ret (pe_c c2 hr (pa_cons (pe_fld (pv 0) rfl) pa_nil))), ?_⟩
    exact ⟨_, rfl, x, C, dx, fs, v, rfl, hx, c.cls, c.na1, hf, v, d, rfl, hd, hc, k⟩
theorem ok_Sc_steps {f : Addr} {fd : FuncData} (F : Fun K "steps" "Script.steps" s_Sc_steps f fd) (c : ScC K C fI fT fS pT pS) (c3 : Cal P w K mg base 4 "copied" p_copied (spCp 3)) : FnOk P w K mg base CX0 5 f fd p_Sc_steps (spGet C 3 "_steps") := by
  refine F.ok sc_Sc_steps (fun vs H Q E h => ?_) (fun cdv A outer s H vs Q E hr h => ?_)
  · obtain ⟨x, dx, fs, v, d, rfl, _⟩ := h
    rfl
  · obtain ⟨x, dx, fs, v, d, rfl, hx, hf, hd, hc, k⟩ := h
    refine ⟨_, pss_one (ps_ret (pe_c c3 hr (pa_cons (pe_fld (pv 0) rfl) pa_nil))), ?_⟩
    exact ⟨_, rfl, x, C, dx, fs, v, rfl, hx, c.cls, c.na2, hf, v, d, rfl, hd, hc, k⟩
theorem ok_Sc_init {f : Addr} {fd : FuncData} (F : Fun K "__init__" "Script.__init__" s_Sc_init f fd) (mL : mg "len" = none) (c : ScC K C fI fT fS pT pS) (c2 : Cal P w K mg base 3 "copied" p_copied (spCp 2)) (c3 : Cal P w K mg base 4 "copied" p_copied (spCp 3)) (cT : Cal P w K mg base 4 "check_tanks" p_check_tanks spChkT) (cS : Cal P w K mg base 4 "check_step" p_check_step spChkS) : FnOk P w K mg base CX0 5 f fd p_Sc_init (spScI C) := by
  refine F.ok sc_Sc_init (fun vs H Q E h => ?_) (fun cdv A outer s H vs Q E hr h => ?_)
  · obtain ⟨x, dx, v, u, ts, ds, rfl, _⟩ := h
    rfl
  · obtain ⟨x, dx, v, u, ts, ds, rfl, hx, hv, hu, ⟨hT, h60, hD⟩, k⟩ := h
    have nd := sc_Sc_init.nd
    have r3 : Room 3 _ := hr.mono (by decide)
    obtain ⟨lt, rfl, hlt⟩ := hv.tks
    obtain ⟨ls, rfl, hls⟩ := hu.deeds
    refine ⟨_, pss_cons (ps_expr (pe_c cT hr (pa_cons (pv 1) pa_nil)))
      (pss_cons (ps_for PassesOwn.never rfl (pi_list (pv 2)) (pg_name (i := 3) nd rfl (Or.inl rfl)) (pss_one (ps_expr (pe_c cS hr (pa_cons (pv 3) (pa_cons (pe_callB call_len_seq (by rfl) mL PySem.boot_len (pa_cons (pv 1) pa_nil)) pa_nil))))))
      (pss_cons (ps_fld (pv 0) (pe_c c2 r3 (pa_cons (pv 1) pa_nil)) (by rfl))
      (pss_one (ps_fld (pv 0) (pe_c c3 hr (pa_cons (pv 2) pa_nil)) (by rfl))))), ?_⟩
    obtain ⟨as, hl, hlen, hat⟩ := id hls
    obtain ⟨bs, hlb, hlenb, hatb⟩ := id hlt
    refine ⟨_, rfl, lt, ts, rfl, hlt, hT, fun H1 e1 => ?_⟩
    refine ⟨_, rfl, ls, rfl, ⟨_, SqL.of (e1 _ _ hl)⟩, for_list (xs := as.map V.ref) (fun i σ H' => Evl.Ex H H' ∧ ∃ v, σ = [some (.ref x), some (.ref lt), some (.ref ls), v]) ⟨e1, none, rfl⟩ (fun i σ H' _ q => SqL.of (q.1 _ _ hl)) ?_ ?_⟩
    · rintro i y σ H2 hi ⟨e2, v, rfl⟩
      rw [List.getElem?_map] at hi
      obtain ⟨a, ha, rfl⟩ : ∃ a, as[i]? = some a ∧ y = .ref a := by
        cases e : as[i]? with
        | none =>
          rw [e] at hi
          cases hi
        | some a =>
          rw [e] at hi
          exact ⟨a, rfl, (Option.some.inj hi).symm⟩
      have hi2 : i < ds.length := by
        have := (List.getElem?_eq_some_iff.mp ha).1
        omega
      have hd : ds[i]? = some ds[i] := List.getElem?_eq_getElem hi2
      refine ⟨_, rfl, _, rfl, lt, _, rfl, .inl (SqL.of (e2 _ _ hlb)), a, ds[i], _, rfl, (hat i a _ ha hd).ex e2, ?_, fun H3 e3 => ⟨e2.trans e3, _, rfl⟩⟩
      have z := hD ds[i] (List.getElem_mem hi2)
      rw [List.length_map, hlenb]
      exact z
    · rintro σ H2 ⟨e2, v, rfl⟩
      refine ⟨_, rfl, _, _, rfl, hv.go e2, cp_tks (Nat.le_trans hT.1 (by decide)), fun v' H3 e3 hv' => ?_⟩
      have hx3 : H3 x = some (.ins C dx []) := e3 _ _ (e2 _ _ hx)
      refine ⟨_, rfl, x, C, dx, [], rfl, hx3, c.cls, c.na1, by decide, ?_⟩
      have b3 : But x H3 (upd H3 x (.ins C dx (putF "_tanks" v' []))) := But.upd
      have x4 : upd H3 x (.ins C dx (putF "_tanks" v' [])) x = some (.ins C dx (putF "_tanks" v' [])) := upd_same
      have hv4 : Dq (upd H3 x (.ins C dx (putF "_tanks" v' []))) v' (.list (ts.map tkD)) := (hv'.go Nw.ex).keep (keep_ins hx3 b3)
      have hu4 := ((hu.go e2).go e3).keep (keep_ins hx3 b3)
      have b4 : But x H (upd H3 x (.ins C dx (putF "_tanks" v' []))) := (But.of_ex (e2.trans e3)).trans b3
      generalize upd H3 x (.ins C dx (putF "_tanks" v' [])) = H4 at b3 x4 hv4 hu4 b4
      refine ⟨_, rfl, _, _, rfl, hu4, cp_deeds hD (Nat.le_trans h60 (by decide)), fun u' H5 e5 hu' => ?_⟩
      refine ⟨_, rfl, x, C, dx, _, rfl, e5 _ _ x4, c.cls, c.na2, by show 1 < 1000; decide, ?_⟩
      have b6 : But x H5 (upd H5 x (.ins C dx (putF "_steps" u' (putF "_tanks" v' [])))) := But.upd
      refine k v' u' _ _ ((b4.trans (But.of_ex e5)).trans b6) upd_same (by rfl) (by rfl) (hv'.go fun b o z => ?_) (hu'.go fun b o z => ?_) rfl
      · have n := nw_none z
        have nx : b ≠ x := fun q => by
          rw [q, e2 _ _ hx] at n
          cases n
        exact nw_at (Evl.fresh_back e2 n) (b6 _ _ nx (e5 _ _ (b3 _ _ nx (Nw.ex _ _ z))))
      · have n := nw_none z
        have nx : b ≠ x := fun q => by
          rw [q, x4] at n
          cases n
        refine nw_at ?_ (b6 _ _ nx (Nw.ex _ _ z))
        cases q : H b with
        | none => rfl
        | some o' =>
          rw [b4 _ _ nx q] at n
          cases n
end
end V2


namespace V2
open PySem L2
open PySem.Spec PyProof.Rows
def CsAt (H : Hp) (l : Addr) (ns : List Int) : Prop := ∃ as : List Addr, H l = some (.lst (as.map V.ref)) ∧ as.length = ns.length ∧ ∀ (i : Nat) (a : Addr) (n : Int), as[i]? = some a → ns[i]? = some n → Li H a (cp n)
theorem CsAt.ex {H H' : Hp} {l : Addr} {ns : List Int} (h : CsAt H l ns) (e : Evl.Ex H H') : CsAt H' l ns := by
  obtain ⟨as, h1, h2, h3⟩ := h
  exact ⟨as, e _ _ h1, h2, fun i a t x y => e _ _ (h3 i a t x y)⟩
theorem CsAt.get {H : Hp} {l : Addr} {ns : List Int} (h : CsAt H l ns) {i : Nat} {n : Int} (hn : ns[i]? = some n) : ∃ (xs : List V) (a : Addr), H l = some (.lst xs) ∧ xs[i]? = some (.ref a) ∧ Li H a (cp n) := by
  obtain ⟨as, h1, h2, h3⟩ := h
  have hi : i < as.length := by
    have := (List.getElem?_eq_some_iff.mp hn).1
    omega
  have ha : as[i]? = some as[i] := List.getElem?_eq_getElem hi
  exact ⟨_, as[i], h1, by rw [List.getElem?_map, ha]; rfl, h3 i _ n ha hn⟩
/-- while the list at D is being made: i of them are there -/
def CsN (H : Hp) (D : Addr) (ns : List Int) (i : Nat) : Prop := ∃ as : List Addr, H D = some (.lst (as.map V.ref)) ∧ as.length = i ∧ ∀ (j : Nat) (a : Addr) (n : Int), as[j]? = some a → ns[j]? = some n → a ≠ D ∧ Li H a (cp n)
theorem CsN.start {H : Hp} {D : Addr} {ns : List Int} (h : H D = some (.lst [])) : CsN H D ns 0 := ⟨[], h, rfl, fun j a n h => by cases h⟩
theorem get_app {α : Type} {as : List α} {r a : α} {j : Nat} (h : (as ++ [r])[j]? = some a) : (as[j]? = some a ∧ j < as.length) ∨ (j = as.length ∧ a = r) := by
  by_cases hj : j < as.length
  · rw [List.getElem?_append_left hj] at h
    exact .inl ⟨h, hj⟩
  · rw [List.getElem?_append_right (by omega)] at h
    have h1 : j - as.length < 1 := (List.getElem?_eq_some_iff.mp h).1
    have h2 : j = as.length := by omega
    subst h2
    rw [Nat.sub_self] at h
    exact .inr ⟨rfl, (Option.some.inj h).symm⟩
/-- one more: r, which is no part of the list -/
theorem CsN.more {H2 H3 : Hp} {D r : Addr} {ns : List Int} {i : Nat} {n : Int} (h : CsN H2 D ns i) (e : Evl.Ex H2 H3) (hr : r ≠ D) (h3 : Li H3 r (cp n)) (hn : ns[i]? = some n) (hi : i ≤ 100) :
    ∃ acc, H3 D = some (.lst acc) ∧ acc.length < sizeLine ∧ CsN (upd H3 D (.lst (acc ++ [.ref r]))) D ns (i + 1) := by
  obtain ⟨as, h1, h2, h4⟩ := h
  refine ⟨_, e _ _ h1, ?_, as ++ [r], ?_, ?_, fun j a m ha hm => ?_⟩
  · rw [List.length_map, h2]
    exact Nat.lt_of_le_of_lt hi (by decide)
  · rw [upd_same, List.map_append]
    rfl
  · rw [List.length_append, h2]
    rfl
  · rcases get_app ha with ⟨h5, _⟩ | ⟨h5, rfl⟩
    · obtain ⟨n1, n2⟩ := h4 j a m h5 hm
      exact ⟨n1, Eq.trans (upd_ne n1) (e _ _ n2)⟩
    · rw [h5, h2, hn] at hm
      cases hm
      exact ⟨hr, Eq.trans (upd_ne hr) h3⟩
theorem CsN.done {H : Hp} {D : Addr} {ns : List Int} (h : CsN H D ns ns.length) : CsAt H D ns := by
  obtain ⟨as, h1, h2, h3⟩ := h
  exact ⟨as, h1, h2, fun i a n x y => (h3 i a n x y).2⟩
/-- the widths, times what is below in the told one -/
def wid (u b : Int) (t : Tk) : Int := match t.1 with
  | none => u
  | some z => z * b
def spTold : Sp := fun vs H Q _ => ∃ (l f : Addr) (ts : List Tk) (u b : Int), vs = [.ref l, .ref f] ∧ TksAt H l ts ∧ okT ts ∧ (∀ t ∈ ts, ∀ z, t.1 = some z → z ≤ 1000) ∧ Fr H f u b ∧ 0 < u ∧ 0 < b ∧ u.natAbs < 2 ^ 50 ∧ b.natAbs < 2 ^ 50 ∧ ∀ D H', H D = none → Evl.Ex H H' → CsAt H' D (ts.map (wid u b)) → Q (.ref D) H'
def spFirst : Sp := fun vs H Q _ => ∃ (l : Addr) (ts : List Tk), vs = [.ref l] ∧ TksAt H l ts ∧ ts.length ≤ 20 ∧ ∀ t x y H', Evl.Ex H H' → H' t = some (.tup [.ref x, .ref y]) → CsAt H' x (ts.map (·.2)) → Li H' y [1] → Q (.ref t) H'
def spSum : Sp := fun vs H Q _ => ∃ (l : Addr) (ns : List Int), vs = [.ref l] ∧ CsAt H l ns ∧ Evl.RetL (iV (cp ns.sum)) H Q
theorem tks_get {H : Hp} {l : Addr} {ts : List Tk} (h : TksAt H l ts) : ∃ xs, H l = some (.lst xs) ∧ xs.length = ts.length ∧ ∀ (i : Nat) (x : V), xs[i]? = some x → ∃ a t, x = .ref a ∧ ts[i]? = some t ∧ H a = some (.tup [wV t.1, .int t.2]) := by
  obtain ⟨as, h1, h2, h3⟩ := h
  refine ⟨_, h1, by rw [List.length_map]; exact h2, fun i x hx => ?_⟩
  rw [List.getElem?_map] at hx
  cases e : as[i]? with
  | none =>
    rw [e] at hx
    cases hx
  | some a =>
    rw [e] at hx
    have hi : i < ts.length := by
      have := (List.getElem?_eq_some_iff.mp e).1
      omega
    exact ⟨a, ts[i], (Option.some.inj hx).symm, List.getElem?_eq_getElem hi, h3 i a _ e (List.getElem?_eq_getElem hi)⟩
section
variable {base : Heap} {mg : Str → Option Value} {K : PySem.W.Frag} {w : World} {P : Program}
theorem ok_told_widths {f : Addr} {fd : FuncData} (F : Fun K "told_widths" "told_widths" s_told_widths f fd) : FnOk P w K mg base CX0 1 f fd p_told_widths spTold := by
  refine F.ok sc_told_widths (fun vs H Q E h => ?_) (fun cdv A outer s H vs Q E hr h => ?_)
  · obtain ⟨l, g, ts, u, b, rfl, _⟩ := h
    rfl
  · obtain ⟨l, g, ts, u, b, rfl, hT, ⟨h20, hts, _⟩, h1000, hg, hu, hb, hub, hbb, k⟩ := h
    have nd := sc_told_widths.nd
    have one : 1 ≤ sizeLine := by show 1 ≤ sizeLine; decide
    refine ⟨_, pss_cons (ps_asg (pv 1) (pg_tup rfl (pgs_cons (pg_name (i := 2) nd rfl (Or.inr rfl)) (pgs_cons (pg_name (i := 3) nd rfl (Or.inr rfl)) pgs_nil))))
      (pss_one (ps_ret (pe_lc (own := [("width", 4), ("_", 5)]) (g := gTup K 2 (gCons (gName 4) (gCons (gName 5) gNil))) (tt := tYes) (te := tIf (tB (tIsN (tVar 4))) (tLst (tCons (tVar 2) tNil)) (tLst (tCons (tOp (rI CMulW fun i j => .int (i * j)) (tVar 4) (tVar 3)) tNil))) rfl nd (pi_list (pv 0)) (blkOk_by (N := n_told_widths) (sc := defScope s_told_widths) (by decide +kernel)) (fun _ _ _ _ _ => pg_tup rfl (pgs_cons (pg_name (i := 4) nd rfl (Or.inl rfl)) (pgs_cons (pg_name (i := 5) nd rfl (Or.inl rfl)) pgs_nil))) (fun _ _ _ _ _ => pts_nil)
        (fun _ _ _ _ _ => pe_ifExp (pt_cmp (pc_isN (pv 4))) (pe_lst (pa_cons (pv 2) pa_nil)) (pe_lst (pa_cons (pe_op op_mulW (pv 4) (pv 3)) pa_nil)))))), ?_⟩
    obtain ⟨xs, hl, hlen, hx⟩ := tks_get hT
    refine ⟨_, rfl, g, _, rfl, SqT.of hg, rfl, _, _, rfl, _, _, rfl, rfl, ?_⟩
    refine ⟨_, rfl, l, rfl, ⟨_, SqL.of hl⟩, fun D hD => lc_list (xs := xs) (fun i H' => Evl.Ex H H' ∧ CsN H' D (ts.map (wid u b)) i) ⟨Evl.Ex.new hD, CsN.start upd_same⟩ (fun i H' _ q => SqL.of (q.1 _ _ hl)) ?_ ?_⟩
    · rintro i x H2 hi ⟨e2, hN⟩
      obtain ⟨a, t, rfl, ht, ha⟩ := hx i x hi
      have ht2 : (ts.map (wid u b))[i]? = some (wid u b t) := by rw [List.getElem?_map, ht]; rfl
      have hi20 : i ≤ 100 := by
        have := (List.getElem?_eq_some_iff.mp ht).1
        omega
      have hmem := List.mem_of_getElem? ht
      refine ⟨a, _, rfl, SqT.of (e2 _ _ ha), rfl, _, _, rfl, _, _, rfl, rfl, rfl, ?_⟩
      show tIf (tB (tIsN (tVar 4))) (tLst (tCons (tVar 2) tNil)) (tLst (tCons (tOp (rI CMulW fun i j => .int (i * j)) (tVar 4) (tVar 3)) tNil)) _ _ _
      obtain ⟨tw, ta⟩ := t
      have fin : ∀ r n, H2 r = none → n = wid u b (tw, ta) → n ≠ 0 → ∃ acc, upd H2 r (.lst [.int n]) D = some (.lst acc) ∧ acc.length < sizeLine ∧ Evl.Ex H (upd (upd H2 r (.lst [.int n])) D (.lst (acc ++ [.ref r]))) ∧ CsN (upd (upd H2 r (.lst [.int n])) D (.lst (acc ++ [.ref r]))) D (ts.map (wid u b)) (i + 1) := fun r n hr hn h0 => by
        have e3 := Evl.Ex.new (o := .lst [.int n]) hr
        obtain ⟨as0, hD0, _⟩ := id hN
        have l3 : Li (upd H2 r (.lst [.int n])) r (cp n) := by
          rw [cp_n h0]
          exact upd_same
        obtain ⟨acc, a1, a2, a3⟩ := hN.more e3 (ne_of_none hD0 hr).symm l3 (hn ▸ ht2) hi20
        exact ⟨acc, a1, a2, Evl.Ex.mut (e2.trans e3) hD, a3⟩
      cases tw with
      | none =>
        refine ⟨_, rfl, _, rfl, if_t rfl ⟨_, rfl, one, fun r hr => fin r u hr rfl (by omega)⟩⟩
      | some z =>
        have z1 := (hts _ hmem).1 z rfl
        have z2 := h1000 _ hmem z rfl
        have hzb : z * b ≠ 0 := Int.ne_of_gt (Int.mul_pos (by omega) hb)
        refine ⟨_, rfl, _, rfl, if_f rfl ⟨_, rfl, _, rfl, z, b, rfl, rfl, wide_mul (a := 10) (b := 50) (Nat.lt_of_le_of_lt (show z.natAbs ≤ 1000 by omega) (by decide)) hbb (by decide) (by decide) (by decide), one, fun r hr => fin r (z * b) hr rfl hzb⟩⟩
    · rintro H2 ⟨e2, hN⟩
      rw [hlen, show ts.length = (ts.map (wid u b)).length by rw [List.length_map]] at hN
      exact k D H2 hD e2 hN.done
theorem ok_first_water {f : Addr} {fd : FuncData} (F : Fun K "first_water" "first_water" s_first_water f fd) (cC : Cal P w K mg base 1 "cut" p_cut (spTrim K)) : FnOk P w K mg base CX0 2 f fd p_first_water spFirst := by
  refine F.ok sc_first_water (fun vs H Q E h => ?_) (fun cdv A outer s H vs Q E hr h => ?_)
  · obtain ⟨l, ts, rfl, _⟩ := h
    rfl
  · obtain ⟨l, ts, rfl, hT, h20, k⟩ := h
    have nd := sc_first_water.nd
    have one : 1 ≤ sizeLine := by show 1 ≤ sizeLine; decide
    have two : 2 ≤ sizeLine := by show 2 ≤ sizeLine; decide
    refine ⟨_, pss_one (ps_ret (pe_tup (pa_cons (pe_lc (own := [("_", 1), ("amount", 2)]) (g := gTup K 2 (gCons (gName 1) (gCons (gName 2) gNil))) (tt := tYes) (te := tCall (spTrim K) [] E0 (tCons (tLst (tCons (tVar 2) tNil)) tNil)) rfl nd (pi_list (pv 0)) (blkOk_by (N := n_first_water) (sc := defScope s_first_water) (by decide +kernel)) (fun _ _ _ _ _ => pg_tup rfl (pgs_cons (pg_name (i := 1) nd rfl (Or.inl rfl)) (pgs_cons (pg_name (i := 2) nd rfl (Or.inl rfl)) pgs_nil))) (fun _ _ _ _ _ => pts_nil)
        (fun _ _ _ _ _ => pe_c cC hr (pa_cons (pe_lst (pa_cons (pv 2) pa_nil)) pa_nil))) (pa_cons (pe_lst (pa_cons pe_int pa_nil)) pa_nil)))), ?_⟩
    obtain ⟨xs, hl, hlen, hx⟩ := tks_get hT
    refine ⟨_, rfl, l, rfl, ⟨_, SqL.of hl⟩, fun D hD => lc_list (xs := xs) (fun i H' => Evl.Ex H H' ∧ CsN H' D (ts.map (·.2)) i) ⟨Evl.Ex.new hD, CsN.start upd_same⟩ (fun i H' _ q => SqL.of (q.1 _ _ hl)) ?_ ?_⟩
    · rintro i x H2 hi ⟨e2, hN⟩
      obtain ⟨a, t, rfl, ht, ha⟩ := hx i x hi
      have ht2 : (ts.map (·.2))[i]? = some t.2 := by rw [List.getElem?_map, ht]; rfl
      have hi20 : i ≤ 100 := by
        have := (List.getElem?_eq_some_iff.mp ht).1
        omega
      refine ⟨a, _, rfl, SqT.of (e2 _ _ ha), rfl, _, _, rfl, _, _, rfl, rfl, rfl, ?_⟩
      show tCall (spTrim K) [] E0 (tCons (tLst (tCons (tVar 2) tNil)) tNil) _ _ _
      refine ⟨_, rfl, one, fun r hr2 => ⟨r, [t.2], rfl, SqL.of upd_same, by show 1 ≤ 1000; decide, fun q H3 hq e3 h3 => ?_⟩⟩
      have e4 := (Evl.Ex.new (o := .lst [.int t.2]) hr2).trans e3
      obtain ⟨as0, hD0, _⟩ := id hN
      have qD : q ≠ D := (ne_of_none (Evl.Ex.new hr2 _ _ hD0) hq).symm
      rw [trm_1] at h3
      obtain ⟨acc, a1, a2, a3⟩ := hN.more e4 qD h3 ht2 hi20
      exact ⟨acc, a1, a2, Evl.Ex.mut (e2.trans e4) hD, a3⟩
    · rintro H2 ⟨e2, hN⟩
      rw [hlen, show ts.length = (ts.map (·.2)).length by rw [List.length_map]] at hN
      have hC := hN.done
      refine ⟨one, fun y hy => ⟨two, fun t ht => ?_⟩⟩
      have e3 := Evl.Ex.new (o := .lst [.int 1]) hy
      have e4 := Evl.Ex.new (o := .tup [.ref D, .ref y]) ht
      exact k t D y _ ((e2.trans e3).trans e4) upd_same ((hC.ex e3).ex e4) (e4 _ _ upd_same)
theorem sum_take {ns : List Int} {i : Nat} {n : Int} (h : ns[i]? = some n) : (ns.take (i + 1)).sum = (ns.take i).sum + n := by
  rw [List.take_add_one, h, List.sum_append]
  simp
theorem ok_sum_of {f : Addr} {fd : FuncData} (F : Fun K "sum_of" "sum_of" s_sum_of f fd) (cA : Cal P w K mg base 2 "added" p_added (spTwoW (fun _ _ => True) fun xs ys => trm (padd xs ys))) : FnOk P w K mg base CX0 3 f fd p_sum_of spSum := by
  refine F.ok sc_sum_of (fun vs H Q E h => ?_) (fun cdv A outer s H vs Q E hr h => ?_)
  · obtain ⟨l, ns, rfl, _⟩ := h
    rfl
  · obtain ⟨l, ns, rfl, hC, k⟩ := h
    have nd := sc_sum_of.nd
    refine ⟨_, pss_cons (ps_set (i := 1) nd rfl (Or.inl rfl) (pe_lst pa_nil))
      (pss_cons (ps_for PassesOwn.never rfl (pi_list (pv 0)) (pg_name (i := 2) nd rfl (Or.inl rfl)) (pss_one (ps_set (i := 1) nd rfl (Or.inl rfl) (pe_c cA hr (pa_cons (pv 1) (pa_cons (pv 2) pa_nil))))))
      (pss_one (ps_ret (pv 1)))), ?_⟩
    obtain ⟨as, hl, hlen, hat⟩ := id hC
    refine ⟨Nat.zero_le _, fun t0 ht0 => ?_⟩
    refine ⟨_, rfl, l, rfl, ⟨_, SqL.of (Evl.Ex.new ht0 _ _ hl)⟩, for_list (xs := as.map V.ref) (fun i σ H' => Evl.Ex H H' ∧ ∃ t v, σ = [some (.ref l), some (.ref t), v] ∧ H t = none ∧ Li H' t (cp (ns.take i).sum)) ⟨Evl.Ex.new ht0, t0, none, rfl, ht0, upd_same⟩ (fun i σ H' _ q => SqL.of (q.1 _ _ hl)) ?_ ?_⟩
    · rintro i x σ H2 hi ⟨e2, t, v, rfl, ht, hLi⟩
      rw [List.getElem?_map] at hi
      obtain ⟨a, ha, rfl⟩ : ∃ a, as[i]? = some a ∧ x = .ref a := by
        cases e : as[i]? with
        | none =>
          rw [e] at hi
          cases hi
        | some a =>
          rw [e] at hi
          exact ⟨a, rfl, (Option.some.inj hi).symm⟩
      have hi2 : i < ns.length := by
        have := (List.getElem?_eq_some_iff.mp ha).1
        omega
      have hn : ns[i]? = some ns[i] := List.getElem?_eq_getElem hi2
      refine ⟨_, rfl, _, rfl, t, a, _, _, rfl, hLi, e2 _ _ (hat i a _ ha hn), cp_pw _, cp_pw _, fun _ _ _ _ => trivial, fun r H3 hr2 e3 h3 => ⟨e2.trans e3, r, _, rfl, Evl.fresh_back e2 hr2, ?_⟩⟩
      have h3 : H3 r = some (.lst (iV (trm (padd (cp (ns.take i).sum) (cp ns[i]))))) := h3
      rw [cp_add, ← sum_take hn] at h3
      exact h3
    · rintro σ H2 ⟨e2, t, v, rfl, ht, hLi⟩
      rw [List.length_map, hlen, List.take_length] at hLi
      exact ⟨_, rfl, k t H2 ht e2 hLi⟩
end
end V2


namespace V2
open PySem L2
open PySem.Spec PyProof.Rows
def pick (ns : List Int) (ks : List Int) : List Int := ks.map fun k => ns.getD k.toNat 0
/-- numbers of less than n bits -/
def Bn (n : Nat) (x : Int) : Prop := x.natAbs < 2 ^ n
theorem Bn.le {n m : Nat} {x : Int} (h : Bn n x) (l : n ≤ m) : Bn m x := Nat.lt_of_lt_of_le h (Nat.pow_le_pow_right (by decide) l)
theorem Bn.mul {n m : Nat} {x y : Int} (h : Bn n x) (k : Bn m y) : Bn (n + m) (x * y) := wide_lt h k
theorem Bn.add {n : Nat} {x y : Int} (h : Bn n x) (k : Bn n y) : Bn (n + 1) (x + y) := by
  unfold Bn at *
  rw [Nat.pow_succ]
  omega
/-- water: the amounts A by W -/
structure Wat (H : Hp) (t : Addr) (A : List Int) (W : Int) : Prop where
  at_ : ∃ la lw, H t = some (.tup [.ref la, .ref lw]) ∧ CsAt H la A ∧ Li H lw [W]
  pos : 0 < W
theorem Wat.ex {H H' : Hp} {t : Addr} {A : List Int} {W : Int} (h : Wat H t A W) (e : Evl.Ex H H') : Wat H' t A W := by
  obtain ⟨⟨la, lw, h1, h2, h3⟩, p⟩ := h
  exact ⟨⟨la, lw, e _ _ h1, h2.ex e, e _ _ h3⟩, p⟩
def okK (n : Nat) (ks : List Int) : Prop := ks.length ≤ 20 ∧ ∀ k ∈ ks, 0 ≤ k ∧ k < n
def spTog : Sp := fun vs H Q _ => ∃ (lk la lw : Addr) (ks A ws : List Int), vs = [.ref lk, .ref la, .ref lw] ∧ Li H lk ks ∧ CsAt H la A ∧ CsAt H lw ws ∧ okK A.length ks ∧ ws.length = A.length ∧
  ∀ q x y H', Evl.Ex H H' → H' q = some (.tup [.ref x, .ref y]) → Li H' x (cp (pick A ks).sum) → Li H' y (cp (pick ws ks).sum) → Q (.ref q) H'
theorem pick_get {ns ks : List Int} {i : Nat} {k : Int} (h : ks[i]? = some k) : (pick ns ks)[i]? = some (ns.getD k.toNat 0) := by
  unfold pick
  rw [List.getElem?_map, h]
  rfl
theorem getD_some {ns : List Int} {j : Nat} (h : j < ns.length) : ns[j]? = some (ns.getD j 0) := by
  rw [List.getD_eq_getElem?_getD, List.getElem?_eq_getElem h]
  rfl
/-- a list of some of the constants of another one -/
theorem picked {H H' : Hp} {D la : Addr} {A ks : List Int} {as : List Addr} {i : Nat} {k : Int} (hA : ∀ (i : Nat) (a : Addr) (n : Int), as[i]? = some a → A[i]? = some n → Li H a (cp n)) (hla : as.length = A.length) (hk : ks[i]? = some k) (hok : okK A.length ks) :
    ∃ a, as[k.toNat]? = some a ∧ atI (as.map V.ref) k = some (.ref a) ∧ Li H a (cp (A.getD k.toNat 0)) := by
  obtain ⟨k0, k1⟩ := hok.2 k (List.mem_of_getElem? hk)
  obtain ⟨j, rfl⟩ : ∃ j : Nat, k = j := ⟨k.toNat, by omega⟩
  rw [Int.toNat_natCast]
  have hlt : j < A.length := by omega
  obtain ⟨a, ha⟩ : ∃ a, as[j]? = some a := ⟨_, List.getElem?_eq_getElem (by omega)⟩
  exact ⟨a, ha, atI_nat (by rw [List.getElem?_map, ha]; rfl), hA _ _ _ ha (getD_some hlt)⟩
section
variable {base : Heap} {mg : Str → Option Value} {K : PySem.W.Frag} {w : World} {P : Program}
theorem ok_together {f : Addr} {fd : FuncData} (F : Fun K "together" "together" s_together f fd) (cS : Cal P w K mg base 3 "sum_of" p_sum_of spSum) : FnOk P w K mg base CX0 4 f fd p_together spTog := by
  refine F.ok sc_together (fun vs H Q E h => ?_) (fun cdv A outer s H vs Q E hr h => ?_)
  · obtain ⟨lk, la, lw, ks, A, ws, rfl, _⟩ := h
    rfl
  · obtain ⟨lk, la, lw, ks, A, ws, rfl, hk, hA, hw, hok, hl, k⟩ := h
    have nd := sc_together.nd
    have two : 2 ≤ sizeLine := by show 2 ≤ sizeLine; decide
    refine ⟨_, pss_one (ps_ret (pe_tup (pa_cons (pe_c cS hr (pa_cons (pe_lc (own := [("k", 3)]) (g := gName 3) (tt := tYes) (te := tOp (rIxL K) (tVar 1) (tVar 3)) rfl nd (pi_list (pv 0)) (blkOk_by (N := n_together) (sc := defScope s_together) (by decide +kernel)) (fun _ _ _ _ _ => pg_name (i := 3) nd rfl (Or.inl rfl)) (fun _ _ _ _ _ => pts_nil) (fun _ _ _ _ _ => pe_ix ix_list (pv 1) (pv 3) (fun _ _ => rfl))) pa_nil))
      (pa_cons (pe_c cS hr (pa_cons (pe_lc (own := [("k", 3)]) (g := gName 3) (tt := tYes) (te := tOp (rIxL K) (tVar 2) (tVar 3)) rfl nd (pi_list (pv 0)) (blkOk_by (N := n_together) (sc := defScope s_together) (by decide +kernel)) (fun _ _ _ _ _ => pg_name (i := 3) nd rfl (Or.inl rfl)) (fun _ _ _ _ _ => pts_nil) (fun _ _ _ _ _ => pe_ix ix_list (pv 2) (pv 3) (fun _ _ => rfl))) pa_nil)) pa_nil)))), ?_⟩
    obtain ⟨as, ha, hla, haa⟩ := id hA
    obtain ⟨bs, hb, hlb, hbb⟩ := id hw
    have hokw : okK ws.length ks := by rw [hl]; exact hok
    refine ⟨_, rfl, lk, rfl, ⟨_, hk.sq⟩, fun D hD => lc_list (xs := iV ks) (fun i H' => Evl.Ex H H' ∧ CsN H' D (pick A ks) i) ⟨Evl.Ex.new hD, CsN.start upd_same⟩ (fun i H' _ q => SqL.of (q.1 _ _ hk)) ?_ ?_⟩
    · rintro i x H2 hi ⟨e2, hN⟩
      obtain ⟨z, hz, rfl⟩ := iV_get hi
      obtain ⟨a, h1, h2, h3⟩ := picked (H' := H) (D := D) (la := la) haa hla hz hok
      have hi20 : i ≤ 100 := by
        have := (List.getElem?_eq_some_iff.mp hz).1
        have := hok.1
        omega
      refine ⟨rfl, ?_⟩
      show tOp (rIxL K) (tVar 1) (tVar 3) _ _ _
      obtain ⟨acc, a1, a2, a3⟩ := hN.more (Evl.Ex.refl _) (ne_of_none (show H a = some _ from h3) hD) (e2 _ _ h3) (pick_get hz) hi20
      exact ⟨_, rfl, _, rfl, la, _, _, _, rfl, rfl, SqL.of (e2 _ _ ha), h2, acc, a1, a2, Evl.Ex.mut e2 hD, a3⟩
    · rintro H2 ⟨e2, hN⟩
      rw [iV_len, show ks.length = (pick A ks).length by unfold pick; rw [List.length_map]] at hN
      refine ⟨D, _, rfl, hN.done, fun x H3 hx e3 h3 => ?_⟩
      have e03 := e2.trans e3
      refine ⟨_, rfl, lk, rfl, ⟨_, SqL.of (e03 _ _ hk)⟩, fun D2 hD2 => lc_list (xs := iV ks) (fun i H' => Evl.Ex H3 H' ∧ CsN H' D2 (pick ws ks) i) ⟨Evl.Ex.new hD2, CsN.start upd_same⟩ (fun i H' _ q => SqL.of (q.1 _ _ (e03 _ _ hk))) ?_ ?_⟩
      · rintro i v H4 hi ⟨e4, hN4⟩
        obtain ⟨z, hz, rfl⟩ := iV_get hi
        obtain ⟨a, h1, h2, h4⟩ := picked (H' := H) (D := D) (la := la) hbb hlb hz hokw
        have hi20 : i ≤ 100 := by
          have := (List.getElem?_eq_some_iff.mp hz).1
          have := hok.1
          omega
        refine ⟨rfl, ?_⟩
        show tOp (rIxL K) (tVar 2) (tVar 3) _ _ _
        have h5 : Li H3 a (cp (ws.getD z.toNat 0)) := e03 _ _ h4
        obtain ⟨acc, a1, a2, a3⟩ := hN4.more (Evl.Ex.refl _) (ne_of_none (show H3 a = some _ from h5) hD2) (e4 _ _ h5) (pick_get hz) hi20
        exact ⟨_, rfl, _, rfl, lw, _, _, _, rfl, rfl, SqL.of (e4 _ _ (e03 _ _ hb)), h2, acc, a1, a2, Evl.Ex.mut e4 hD2, a3⟩
      · rintro H4 ⟨e4, hN4⟩
        rw [iV_len, show ks.length = (pick ws ks).length by unfold pick; rw [List.length_map]] at hN4
        refine ⟨D2, _, rfl, hN4.done, fun y H5 hy e5 h5 => ⟨two, fun q hq => ?_⟩⟩
        have e6 := Evl.Ex.new (o := .tup [.ref x, .ref y]) hq
        exact k q x y _ (((e03.trans e4).trans e5).trans e6) upd_same (e6 _ _ (e5 _ _ (e4 _ _ h3))) (e6 _ _ h5)
end
end V2


namespace V2
open PySem L2
open PySem.Spec PyProof.Rows
/-- products and sums of constants -/
def spMc : Sp := fun vs H Q _ => ∃ (a b : Addr) (x y : Int), vs = [.ref a, .ref b] ∧ Li H a (cp x) ∧ Li H b (cp y) ∧ Bn 4400 x ∧ Bn 4400 y ∧ Evl.RetL (iV (cp (x * y))) H Q
def spAc : Sp := fun vs H Q _ => ∃ (a b : Addr) (x y : Int), vs = [.ref a, .ref b] ∧ Li H a (cp x) ∧ Li H b (cp y) ∧ Evl.RetL (iV (cp (x + y))) H Q
theorem mc_of : ∀ vs H Q E, spMc vs H Q E → spTwoW (fun x y => CMulW x y) (fun xs ys => trm (pmul xs ys)) vs H Q E := by
  rintro vs H Q E ⟨a, b, x, y, rfl, ha, hb, hx, hy, k⟩
  refine ⟨a, b, _, _, rfl, ha, hb, cp_pw _, cp_pw _, fun u hu v hv => ?_, ?_⟩
  · rw [cp_mem hu, cp_mem hv]
    exact wide_mul (a := 4400) (b := 4400) hx hy (by decide) (by decide) (by decide)
  · show Evl.RetL (iV (trm (pmul (cp x) (cp y)))) H Q
    rw [cp_mul]
    exact k
theorem ac_of : ∀ vs H Q E, spAc vs H Q E → spTwoW (fun _ _ => True) (fun xs ys => trm (padd xs ys)) vs H Q E := by
  rintro vs H Q E ⟨a, b, x, y, rfl, ha, hb, k⟩
  refine ⟨a, b, _, _, rfl, ha, hb, cp_pw _, cp_pw _, fun _ _ _ _ => trivial, ?_⟩
  show Evl.RetL (iV (trm (padd (cp x) (cp y)))) H Q
  rw [cp_add]
  exact k
/-- the amounts behind a valve -/
def openA (A ws ks : List Int) : List Int := (List.range A.length).map fun (k : Nat) => if (k : Int) ∈ ks then (pick A ks).sum * ws.getD k 0 else A.getD k 0 * (pick ws ks).sum
theorem map_range_get {n i : Nat} {f : Nat → Int} (h : i < n) : ((List.range n).map f)[i]? = some (f i) := by
  rw [List.getElem?_map, List.getElem?_range h]
  rfl
theorem inV_ints (k : Int) (ks : List Int) : inV (.int k) (iV ks) = decide (k ∈ ks) := by
  induction ks with
  | nil => rfl
  | cons x r ih =>
    have e : inV (.int k) (iV (x :: r)) = (eqV (.int x) (.int k) || inV (.int k) (iV r)) := rfl
    rw [e, ih]
    have e2 : eqV (.int x) (.int k) = decide (x = k) := by
      by_cases h : x = k
      · subst h
        simp [eqV]
      · simp [eqV, h]
    rw [e2]
    by_cases h : x = k
    · simp [h]
    · have h' : ¬ k = x := fun z => h z.symm
      simp [h, h']
theorem flat_ints (ks : List Int) : (iV ks).all flatV = true := by
  unfold iV
  rw [List.all_map]
  exact List.all_eq_true.mpr fun x _ => rfl
def spOpen : Sp := fun vs H Q _ => ∃ (lk t lw : Addr) (ks A ws : List Int) (W : Int), vs = [.ref lk, .ref t, .ref lw] ∧ Li H lk ks ∧ Wat H t A W ∧ CsAt H lw ws ∧ okK A.length ks ∧ ws.length = A.length ∧ A.length ≤ 20 ∧
  (∀ x ∈ A, Bn 4400 x) ∧ Bn 4400 W ∧ (∀ x ∈ ws, Bn 4400 x) ∧ Bn 4400 (pick A ks).sum ∧ Bn 4400 (pick ws ks).sum ∧ 0 < (pick ws ks).sum ∧ ∀ t' H', Evl.Ex H H' → Wat H' t' (openA A ws ks) (W * (pick ws ks).sum) → Q (.ref t') H'
theorem cs_items {H : Hp} {l : Addr} {ns : List Int} (h : CsAt H l ns) : ∃ xs, H l = some (.lst xs) ∧ xs.length = ns.length ∧ ∀ (i : Nat) (x : V), xs[i]? = some x → ∃ a, x = .ref a ∧ i < ns.length ∧ Li H a (cp (ns.getD i 0)) := by
  obtain ⟨as, h1, h2, h3⟩ := h
  refine ⟨_, h1, by rw [List.length_map]; exact h2, fun i x hx => ?_⟩
  rw [List.getElem?_map] at hx
  cases e : as[i]? with
  | none =>
    rw [e] at hx
    cases hx
  | some a =>
    rw [e] at hx
    have hi : i < ns.length := by
      have := (List.getElem?_eq_some_iff.mp e).1
      omega
    exact ⟨a, (Option.some.inj hx).symm, hi, h3 i a _ e (getD_some hi)⟩
theorem getD_mem' {ns : List Int} {i : Nat} (h : i < ns.length) : ns.getD i 0 ∈ ns := List.mem_of_getElem? (getD_some h)
section
variable {base : Heap} {mg : Str → Option Value} {K : PySem.W.Frag} {w : World} {P : Program}
theorem ok_opened {f : Addr} {fd : FuncData} (F : Fun K "opened" "opened" s_opened f fd) (T : T2 mg) (cT : Cal P w K mg base 4 "together" p_together spTog) (cM : Cal P w K mg base 1 "multiplied" p_multiplied spMc) : FnOk P w K mg base CX0 5 f fd p_opened spOpen := by
  refine F.ok sc_opened (fun vs H Q E h => ?_) (fun cdv A outer s H vs Q E hr h => ?_)
  · obtain ⟨lk, t, lw, ks, A, ws, W, rfl, _⟩ := h
    rfl
  · obtain ⟨lk, t, lw, ks, Am, ws, W, rfl, hk, ⟨⟨la, lo, ht, hA, hW⟩, W0⟩, hw, hok, hl, h20, bA, bW, bw, bT, bS, S0, k⟩ := h
    have nd := sc_opened.nd
    have r1 : Room 1 _ := hr.mono (by decide)
    have two : 2 ≤ sizeLine := by show 2 ≤ sizeLine; decide
    refine ⟨_, pss_cons (ps_asg (pv 1) (pg_tup rfl (pgs_cons (pg_name (i := 3) nd rfl (Or.inl rfl)) (pgs_cons (pg_name (i := 4) nd rfl (Or.inl rfl)) pgs_nil))))
      (pss_cons (ps_asg (pe_c cT hr (pa_cons (pv 0) (pa_cons (pv 3) (pa_cons (pv 2) pa_nil)))) (pg_tup rfl (pgs_cons (pg_name (i := 5) nd rfl (Or.inr rfl)) (pgs_cons (pg_name (i := 6) nd rfl (Or.inr rfl)) pgs_nil))))
      (pss_cons (ps_setLc (i := 7) (own := [("k", 8), ("one", 9)]) (g := gTup K 2 (gCons (gName 8) (gCons (gName 9) gNil))) (tt := tYes) (te := tIf (tTest (tOp (rIn K false) (tVar 8) (tVar 0))) (tCall spMc [] E0 (tCons (tVar 5) (tCons (tOp (rIxL K) (tVar 2) (tVar 8)) tNil))) (tCall spMc [] E0 (tCons (tVar 9) (tCons (tVar 6) tNil)))) rfl nd rfl rfl (sw_true rfl rfl rfl (by decide +kernel)) (pi_enum (by rfl) T.enu (pa_cons (pv 3) pa_nil)) (blkOk_by (N := n_opened) (sc := defScope s_opened) (by decide +kernel))
          (fun _ _ _ _ _ => pg_tup rfl (pgs_cons (pg_name (i := 8) nd rfl (Or.inl rfl)) (pgs_cons (pg_name (i := 9) nd rfl (Or.inl rfl)) pgs_nil))) (fun _ _ _ _ _ => pts_nil)
          (fun _ _ _ _ _ => pe_ifExp (pt_cmpR op_in_seq (pv 8) (pv 0) (by rfl)) (pe_c cM r1 (pa_cons (pv 5) (pa_cons (pe_ix ix_list (pv 2) (pv 8) (fun _ _ => rfl)) pa_nil))) (pe_c cM r1 (pa_cons (pv 9) (pa_cons (pv 6) pa_nil)))))
      (pss_one (ps_ret (pe_tup (pa_cons (pv 7) (pa_cons (pe_c cM r1 (pa_cons (pv 4) (pa_cons (pv 6) pa_nil))) pa_nil))))))), ?_⟩
    refine ⟨_, rfl, t, _, rfl, SqT.of ht, rfl, _, _, rfl, _, _, rfl, rfl, ?_⟩
    refine ⟨_, rfl, _, rfl, _, rfl, lk, la, lw, ks, Am, ws, rfl, hk, hA, hw, hok, hl, fun q x y H1 e1 hq hx hy => ?_⟩
    refine ⟨q, _, rfl, SqT.of hq, rfl, _, _, rfl, _, _, rfl, rfl, ?_⟩
    obtain ⟨xs, hxs, hxl, hxi⟩ := cs_items (hA.ex e1)
    obtain ⟨ys, hys, hyl, hyi⟩ := cs_items (hw.ex e1)
    refine ⟨_, rfl, la, _, rfl, SqL.of hxs, fun D hD => lc_it walk_enum (fun i H' => Evl.Ex H1 H' ∧ CsN H' D (openA Am ws ks) i) ⟨Evl.Ex.new hD, CsN.start upd_same⟩ (fun i H' _ q => SqL.of (q.1 _ _ hxs)) ?_ ?_⟩
    · rintro i v H2 H3 hi ⟨e2, hN⟩ ⟨t3, z, o, rfl, ht3, rfl, hz, ho⟩
      obtain rfl := (Option.some.inj hz).symm
      obtain ⟨a, rfl, hia, hLa⟩ := hxi i _ ho
      have e3 := Evl.Ex.new (o := .tup [.int (i : Nat), .ref a]) ht3
      have e23 := e2.trans e3
      refine ⟨t3, _, rfl, SqT.of upd_same, rfl, _, _, rfl, _, _, rfl, rfl, rfl, ?_⟩
      show tIf (tTest (tOp (rIn K false) (tVar 8) (tVar 0))) (tCall spMc [] E0 (tCons (tVar 5) (tCons (tOp (rIxL K) (tVar 2) (tVar 8)) tNil))) (tCall spMc [] E0 (tCons (tVar 9) (tCons (tVar 6) tNil))) _ _ _
      obtain ⟨as0, hD0, _⟩ := id hN
      have fin : ∀ (r : Addr) (H4 : Hp) (n : Int), upd H2 t3 (.tup [.int (i : Nat), .ref a]) r = none → Evl.Ex (upd H2 t3 (.tup [.int (i : Nat), .ref a])) H4 → Li H4 r (cp n) → (openA Am ws ks)[i]? = some n → ∃ acc, H4 D = some (.lst acc) ∧ acc.length < sizeLine ∧ Evl.Ex H1 (upd H4 D (.lst (acc ++ [.ref r]))) ∧ CsN (upd H4 D (.lst (acc ++ [.ref r]))) D (openA Am ws ks) (i + 1) := fun r H4 n hr4 e4 h4 hn => by
        obtain ⟨acc, a1, a2, a3⟩ := hN.more (e3.trans e4) (ne_of_none (e3 _ _ hD0) hr4).symm h4 hn (by omega)
        exact ⟨acc, a1, a2, Evl.Ex.mut (e23.trans e4) hD, a3⟩
      have hget : (openA Am ws ks)[i]? = some (if (i : Int) ∈ ks then (pick Am ks).sum * ws.getD i 0 else Am.getD i 0 * (pick ws ks).sum) := map_range_get hia
      refine ⟨_, rfl, _, rfl, lk, _, rfl, .inl (SqL.of (e23 _ _ (e1 _ _ hk))), rfl, flat_ints ks, _, rfl, ?_⟩
      have em : (if false = true then !inV (.int (i : Nat)) (iV ks) else inV (.int (i : Nat)) (iV ks)) = decide (((i : Nat) : Int) ∈ ks) := inV_ints _ _
      rw [em]
      by_cases hm : ((i : Nat) : Int) ∈ ks
      · rw [if_pos hm] at hget
        refine if_t (decide_eq_true hm) ?_
        have hiw : i < ws.length := by omega
        have hyx : ys[i]? = some ys[i] := List.getElem?_eq_getElem (by omega)
        obtain ⟨b, hb, _, hLb⟩ := hyi i _ hyx
        rw [hb] at hyx
        refine ⟨_, rfl, _, rfl, _, rfl, lw, _, _, _, rfl, rfl, SqL.of (e23 _ _ hys), atI_nat hyx, x, b, _, _, rfl, e23 _ _ hx, e23 _ _ hLb, bT, bw _ (getD_mem' hiw), fun r H4 hr4 e4 h4 => fin r H4 _ hr4 e4 h4 hget⟩
      · rw [if_neg hm] at hget
        refine if_f (decide_eq_false hm) ?_
        refine ⟨_, rfl, _, rfl, a, y, _, _, rfl, e23 _ _ hLa, e23 _ _ hy, bA _ (getD_mem' hia), bS, fun r H4 hr4 e4 h4 => fin r H4 _ hr4 e4 h4 hget⟩
    · rintro H2 ⟨e2, hN⟩
      rw [hxl, show Am.length = (openA Am ws ks).length by unfold openA; rw [List.length_map, List.length_range]] at hN
      have hC := hN.done
      have e12 := e1.trans e2
      refine ⟨_, rfl, _, rfl, _, rfl, lo, y, W, _, rfl, ?_, e2 _ _ hy, bW, bS, fun r H3 hr3 e3 h3 => ⟨two, fun q2 hq2 => ?_⟩⟩
      · rw [cp_n (by omega)]
        exact e12 _ _ hW
      have e4 := Evl.Ex.new (o := .tup [.ref D, .ref r]) hq2
      have WS : 0 < W * (pick ws ks).sum := Int.mul_pos W0 S0
      refine k q2 _ ((e12.trans e3).trans e4) ⟨⟨D, r, upd_same, (hC.ex e3).ex e4, ?_⟩, WS⟩
      have h5 : H3 r = some (.lst (iV (cp (W * (pick ws ks).sum)))) := h3
      rw [cp_n (Int.ne_of_gt WS)] at h5
      exact e4 _ _ h5
end
end V2


namespace V2
open PySem L2
open PySem.Spec PyProof.Rows
def pourA (A : List Int) (W k a : Int) : List Int := (List.range A.length).map fun (j : Nat) => if (j : Int) = k then A.getD j 0 + a * W else A.getD j 0
def spPour : Sp := fun vs H Q _ => ∃ (t : Addr) (A : List Int) (W k a : Int), vs = [.int k, .int a, .ref t] ∧ Wat H t A W ∧ A.length ≤ 20 ∧ Bn 4400 W ∧ Bn 4400 a ∧ ∀ t' H', Evl.Ex H H' → Wat H' t' (pourA A W k a) W → Q (.ref t') H'
/-- an element of a list of constants is not the list -/
theorem cs_ne {H : Hp} {l a : Addr} {as : List Addr} {i : Nat} {n : Int} (hl : H l = some (.lst (as.map V.ref))) (ha : as[i]? = some a) (h : Li H a (cp n)) : a ≠ l := by
  intro z
  have h : H a = some (.lst (iV (cp n))) := h
  rw [z, hl] at h
  injection h with h
  injection h with h
  have h2 := congrArg (fun x => x[i]?) h
  simp only [List.getElem?_map, ha] at h2
  have h2 : some (V.ref a) = (iV (cp n))[i]? := h2
  unfold iV at h2
  rw [List.getElem?_map] at h2
  cases e : (cp n)[i]? with
  | none =>
    rw [e] at h2
    cases h2
  | some x =>
    rw [e] at h2
    cases h2
/-- an element put anew -/
theorem cs_set {H : Hp} {l r : Addr} {as : List Addr} {ns : List Int} {j : Nat} {n : Int} (hl : H l = some (.lst (as.map V.ref))) (hlen : as.length = ns.length) (hat : ∀ (i : Nat) (a : Addr) (n : Int), as[i]? = some a → ns[i]? = some n → Li H a (cp n)) (hr : r ≠ l) (h : Li H r (cp n)) (hj : j < ns.length) :
    CsAt (upd H l (.lst ((as.map V.ref).set j (.ref r)))) l (ns.set j n) := by
  refine ⟨as.set j r, ?_, by rw [List.length_set, List.length_set, hlen], fun i a m ha hm => ?_⟩
  · rw [upd_same, List.map_set]
  · by_cases hij : j = i
    · subst hij
      rw [List.getElem?_set_self (by omega)] at ha hm
      cases ha
      cases hm
      exact Eq.trans (upd_ne hr) h
    · rw [List.getElem?_set_ne hij] at ha hm
      have h3 := hat i a m ha hm
      exact Eq.trans (upd_ne (cs_ne hl ha h3)) h3
section
variable {base : Heap} {mg : Str → Option Value} {K : PySem.W.Frag} {w : World} {P : Program}
theorem ok_poured {f : Addr} {fd : FuncData} (F : Fun K "poured" "poured" s_poured f fd) (T : T2 mg) (cC : Cal P w K mg base 1 "cut" p_cut (spTrim K)) (cM : Cal P w K mg base 1 "multiplied" p_multiplied spMc) (cA : Cal P w K mg base 2 "added" p_added spAc) : FnOk P w K mg base CX0 3 f fd p_poured spPour := by
  refine F.ok sc_poured (fun vs H Q E h => ?_) (fun cdv A outer s H vs Q E hr h => ?_)
  · obtain ⟨t, A, W, k, a, rfl, _⟩ := h
    rfl
  · obtain ⟨t, Am, W, j, x, rfl, ⟨⟨la, lo, ht, hA, hW⟩, W0⟩, h20, bW, bx, k⟩ := h
    have nd := sc_poured.nd
    have r1 : Room 1 _ := hr.mono (by decide)
    have one : 1 ≤ sizeLine := by show 1 ≤ sizeLine; decide
    have two : 2 ≤ sizeLine := by show 2 ≤ sizeLine; decide
    refine ⟨_, pss_cons (ps_asg (pv 2) (pg_tup rfl (pgs_cons (pg_name (i := 3) nd rfl (Or.inl rfl)) (pgs_cons (pg_name (i := 4) nd rfl (Or.inl rfl)) pgs_nil))))
      (pss_cons (ps_set (i := 5) nd rfl (Or.inr rfl) (pe_c cM r1 (pa_cons (pe_c cC r1 (pa_cons (pe_lst (pa_cons (pv 1) pa_nil)) pa_nil)) (pa_cons (pv 4) pa_nil))))
      (pss_one (ps_ret (pe_tup (pa_cons (pe_lc (own := [("k", 6), ("one", 7)]) (g := gTup K 2 (gCons (gName 6) (gCons (gName 7) gNil))) (tt := tYes) (te := tIf (tTest (tOp rEq (tVar 6) (tVar 0))) (tCall spAc [] E0 (tCons (tVar 7) (tCons (tVar 5) tNil))) (tVar 7)) rfl nd (pi_enum (by rfl) T.enu (pa_cons (pv 3) pa_nil)) (blkOk_by (N := n_poured) (sc := defScope s_poured) (by decide +kernel))
          (fun _ _ _ _ _ => pg_tup rfl (pgs_cons (pg_name (i := 6) nd rfl (Or.inl rfl)) (pgs_cons (pg_name (i := 7) nd rfl (Or.inl rfl)) pgs_nil))) (fun _ _ _ _ _ => pts_nil)
          (fun _ _ _ _ _ => pe_ifExp (pt_cmpR op_eq (pv 6) (pv 0) (nomark _)) (pe_c cA hr (pa_cons (pv 7) (pa_cons (pv 5) pa_nil))) (pv 7))) (pa_cons (pv 4) pa_nil)))))), ?_⟩
    refine ⟨_, rfl, t, _, rfl, SqT.of ht, rfl, _, _, rfl, _, _, rfl, rfl, ?_⟩
    refine ⟨_, rfl, one, fun r0 hr0 => ⟨r0, [x], rfl, SqL.of upd_same, by show 1 ≤ 1000; decide, fun r H1 hr1 e1 h1 => ?_⟩⟩
    rw [trm_1] at h1
    have e01 := (Evl.Ex.new (o := .lst [.int x]) hr0).trans e1
    refine ⟨_, rfl, r, lo, x, W, rfl, h1, ?_, bx, bW, fun y H2 hy e2 h2 => ?_⟩
    · rw [cp_n (by omega)]
      exact e01 _ _ hW
    have e02 := e01.trans e2
    have hA2 := hA.ex e02
    obtain ⟨xs, hxs, hxl, hxi⟩ := cs_items hA2
    refine ⟨_, rfl, la, _, rfl, SqL.of hxs, fun D hD => lc_it walk_enum (fun i H' => Evl.Ex H2 H' ∧ CsN H' D (pourA Am W j x) i) ⟨Evl.Ex.new hD, CsN.start upd_same⟩ (fun i H' _ q => SqL.of (q.1 _ _ hxs)) ?_ ?_⟩
    · rintro i v H3 H4 hi ⟨e3, hN⟩ ⟨t3, z, o, rfl, ht3, rfl, hz, ho⟩
      obtain rfl := (Option.some.inj hz).symm
      obtain ⟨a, rfl, hia, hLa⟩ := hxi i _ ho
      have e4 := Evl.Ex.new (o := .tup [.int (i : Nat), .ref a]) ht3
      have e34 := e3.trans e4
      refine ⟨t3, _, rfl, SqT.of upd_same, rfl, _, _, rfl, _, _, rfl, rfl, rfl, ?_⟩
      show tIf (tTest (tOp rEq (tVar 6) (tVar 0))) (tCall spAc [] E0 (tCons (tVar 7) (tCons (tVar 5) tNil))) (tVar 7) _ _ _
      obtain ⟨as0, hD0, _⟩ := id hN
      have hget : (pourA Am W j x)[i]? = some (if (i : Int) = j then Am.getD i 0 + x * W else Am.getD i 0) := map_range_get hia
      refine ⟨_, rfl, _, rfl, rfl, _, rfl, ?_⟩
      by_cases hm : ((i : Nat) : Int) = j
      · rw [if_pos hm] at hget
        refine if_t (decide_eq_true (by rw [hm])) ?_
        refine ⟨_, rfl, _, rfl, a, y, _, _, rfl, e34 _ _ hLa, e34 _ _ h2, fun r H5 hr5 e5 h5 => ?_⟩
        obtain ⟨acc, a1, a2, a3⟩ := hN.more (e4.trans e5) (ne_of_none (e4 _ _ hD0) hr5).symm h5 hget (by omega)
        exact ⟨acc, a1, a2, Evl.Ex.mut (e34.trans e5) hD, a3⟩
      · rw [if_neg hm] at hget
        refine if_f (decide_eq_false fun z => hm (by injection z)) ?_
        obtain ⟨acc, a1, a2, a3⟩ := hN.more e4 (ne_of_none (show H2 a = some _ from hLa) hD) (e34 _ _ hLa) hget (by omega)
        exact ⟨_, rfl, acc, a1, a2, Evl.Ex.mut e34 hD, a3⟩
    · rintro H3 ⟨e3, hN⟩
      rw [hxl, show Am.length = (pourA Am W j x).length by unfold pourA; rw [List.length_map, List.length_range]] at hN
      have hC := hN.done
      refine ⟨_, rfl, two, fun q hq => ?_⟩
      have e5 := Evl.Ex.new (o := .tup [.ref D, .ref lo]) hq
      exact k q _ ((e02.trans e3).trans e5) ⟨⟨D, lo, upd_same, hC.ex e5, e5 _ _ (e3 _ _ (e02 _ _ hW))⟩, W0⟩
end
end V2


namespace V2
open PySem L2
open PySem.Spec PyProof.Rows
def oV : Option Int → V
  | none => .non
  | some m => .int m
/-- the amounts when p of q of tank k are taken, put into the tank o -/
def takeA (A : List Int) (k p q : Int) (o : Option Int) : List Int :=
  let B := (A.map (· * q)).set k.toNat (A.getD k.toNat 0 * (q - p))
  match o with
  | none => B
  | some m => B.set m.toNat (B.getD m.toNat 0 + A.getD k.toNat 0 * p)
def spTake : Sp := fun vs H Q _ => ∃ (f t : Addr) (A : List Int) (W k p q : Int) (o : Option Int), vs = [.int k, oV o, .ref f, .ref t] ∧ Wat H t A W ∧ A.length ≤ 20 ∧ (∀ x ∈ A, Bn 4400 x) ∧ Bn 4400 W ∧ Fr H f p q ∧ Pt p q ∧ (0 ≤ k ∧ k < A.length) ∧
  (∀ m, o = some m → 0 ≤ m ∧ m < A.length) ∧ ∀ t' H', Evl.Ex H H' → Wat H' t' (takeA A k p q o) (W * q) → Q (.ref t') H'
section
variable {base : Heap} {mg : Str → Option Value} {K : PySem.W.Frag} {w : World} {P : Program}
theorem ok_taken {f : Addr} {fd : FuncData} (F : Fun K "taken" "taken" s_taken f fd) (cC : Cal P w K mg base 1 "cut" p_cut (spTrim K)) (cM : Cal P w K mg base 1 "multiplied" p_multiplied spMc) (cA : Cal P w K mg base 2 "added" p_added spAc) : FnOk P w K mg base CX0 3 f fd p_taken spTake := by
  refine F.ok sc_taken (fun vs H Q E h => ?_) (fun cdv A outer s H vs Q E hr h => ?_)
  · obtain ⟨g, t, A, W, k, p, q, o, rfl, _⟩ := h
    rfl
  · obtain ⟨g, t, Am, W, j, p, q, o, rfl, ⟨⟨la, lo, ht, hA, hW⟩, W0⟩, h20, bA, bW, hg, ⟨p0, pq, hQn⟩, ⟨j0, j1⟩, hm, k⟩ := h
    have nd := sc_taken.nd
    have r1 : Room 1 _ := hr.mono (by decide)
    have one : 1 ≤ sizeLine := by show 1 ≤ sizeLine; decide
    have two : 2 ≤ sizeLine := by show 2 ≤ sizeLine; decide
    obtain ⟨q0, qc, pb, qb⟩ := hQn
    have bq : Bn 4400 q := Nat.lt_of_lt_of_le qb (Nat.pow_le_pow_right (by decide) (by decide))
    have bp : Bn 4400 p := Nat.lt_of_lt_of_le pb (Nat.pow_le_pow_right (by decide) (by decide))
    have bqp : Bn 4400 (q - p) := Nat.lt_of_le_of_lt (show (q - p).natAbs ≤ q.natAbs by omega) bq
    refine ⟨_, pss_cons (ps_asg (pv 3) (pg_tup rfl (pgs_cons (pg_name (i := 4) nd rfl (Or.inl rfl)) (pgs_cons (pg_name (i := 5) nd rfl (Or.inl rfl)) pgs_nil))))
      (pss_cons (ps_asg (pv 2) (pg_tup rfl (pgs_cons (pg_name (i := 6) nd rfl (Or.inl rfl)) (pgs_cons (pg_name (i := 7) nd rfl (Or.inr rfl)) pgs_nil))))
      (pss_cons (ps_setLc (i := 8) (own := [("one", 9)]) (g := gName 9) (tt := tYes) (te := tCall spMc [] E0 (tCons (tVar 9) (tCons (tLst (tCons (tVar 7) tNil)) tNil))) rfl nd rfl rfl (sw_true rfl rfl rfl (by decide +kernel)) (pi_list (pv 4)) (blkOk_by (N := n_taken) (sc := defScope s_taken) (by decide +kernel)) (fun _ _ _ _ _ => pg_name (i := 9) nd rfl (Or.inl rfl)) (fun _ _ _ _ _ => pts_nil)
          (fun _ _ _ _ _ => pe_c cM r1 (pa_cons (pv 9) (pa_cons (pe_lst (pa_cons (pv 7) pa_nil)) pa_nil))))
      (pss_cons (ps_asg (pe_c cM r1 (pa_cons (pe_ix ix_list (pv 4) (pv 0) (fun _ _ => rfl)) (pa_cons (pe_c cC r1 (pa_cons (pe_lst (pa_cons (pe_op op_sub (pv 7) (pv 6)) pa_nil)) pa_nil)) pa_nil))) (pg_sub (pv 8) (pv 0) set_list))
      (Evl.pss_cut (ps_if (pt_cmp (pc_notN (pv 1))) (pss_one (ps_asg (pe_c cA hr (pa_cons (pe_ix ix_list (pv 8) (pv 1) (fun _ _ => rfl)) (pa_cons (pe_c cM r1 (pa_cons (pe_ix ix_list (pv 4) (pv 0) (fun _ _ => rfl)) (pa_cons (pe_c cC r1 (pa_cons (pe_lst (pa_cons (pv 6) pa_nil)) pa_nil)) pa_nil))) pa_nil))) (pg_sub (pv 8) (pv 1) set_list))) pss_nil)
      (pss_one (ps_ret (pe_tup (pa_cons (pv 8) (pa_cons (pe_c cM r1 (pa_cons (pv 5) (pa_cons (pe_lst (pa_cons (pv 7) pa_nil)) pa_nil))) pa_nil))))))))), ?_⟩
    refine ⟨_, rfl, t, _, rfl, SqT.of ht, rfl, _, _, rfl, _, _, rfl, rfl, ?_⟩
    refine ⟨_, rfl, g, _, rfl, SqT.of hg, rfl, _, _, rfl, _, _, rfl, rfl, ?_⟩
    obtain ⟨xs, hxs, hxl, hxi⟩ := cs_items hA
    have hjn : j.toNat < Am.length := by omega
    obtain ⟨jn, rfl⟩ : ∃ n : Nat, j = n := ⟨j.toNat, by omega⟩
    rw [Int.toNat_natCast] at hjn
    have hxj : xs[jn]? = some xs[jn] := List.getElem?_eq_getElem (by omega)
    obtain ⟨aj, haj, _, hLj⟩ := hxi jn _ hxj
    rw [haj] at hxj
    have bAj := bA _ (getD_mem' hjn)
    refine ⟨_, rfl, la, rfl, ⟨_, SqL.of hxs⟩, fun D hD => lc_list (xs := xs) (fun i H' => Evl.Ex H H' ∧ CsN H' D (Am.map (· * q)) i) ⟨Evl.Ex.new hD, CsN.start upd_same⟩ (fun i H' _ z => SqL.of (z.1 _ _ hxs)) ?_ ?_⟩
    · rintro i v H2 hi ⟨e2, hN⟩
      obtain ⟨a, rfl, hia, hLa⟩ := hxi i _ hi
      refine ⟨rfl, ?_⟩
      show tCall spMc [] E0 (tCons (tVar 9) (tCons (tLst (tCons (tVar 7) tNil)) tNil)) _ _ _
      obtain ⟨as0, hD0, _⟩ := id hN
      have hget : (Am.map (· * q))[i]? = some (Am.getD i 0 * q) := by
        rw [List.getElem?_map, getD_some hia]
        rfl
      refine ⟨_, rfl, _, rfl, one, fun r0 hr0 => ⟨a, r0, Am.getD i 0, q, rfl, Evl.Ex.new hr0 _ _ (e2 _ _ hLa), ?_, bA _ (getD_mem' hia), bq, fun r H4 hr4 e4 h4 => ?_⟩⟩
      · rw [cp_n (by omega)]
        exact upd_same
      · have e3 := Evl.Ex.new (o := .lst [.int q]) hr0
        obtain ⟨acc, a1, a2, a3⟩ := hN.more (e3.trans e4) (ne_of_none (e3 _ _ hD0) hr4).symm h4 hget (by omega)
        exact ⟨acc, a1, a2, Evl.Ex.mut ((e2.trans e3).trans e4) hD, a3⟩
    · rintro H2 ⟨e2, hN⟩
      rw [hxl, show Am.length = (Am.map (· * q)).length by rw [List.length_map]] at hN
      obtain ⟨as, hDa, hDl, hDi⟩ := hN.done
      -- found[tank]
      refine ⟨_, rfl, _, rfl, la, xs, _, _, rfl, rfl, SqL.of (e2 _ _ hxs), atI_nat hxj, _, rfl, _, rfl, _, _, rfl, rfl, one, fun r0 hr0 => ⟨r0, [q - p], rfl, SqL.of upd_same, by show 1 ≤ 1000; decide, fun r1' H3 hr3 e3 h3 => ?_⟩⟩
      rw [trm_1] at h3
      have e23 := (Evl.Ex.new (o := .lst [.int (q - p)]) hr0).trans e3
      have e03 := e2.trans e23
      refine ⟨aj, r1', _, _, rfl, e03 _ _ hLj, h3, bAj, bqp, fun r2 H4 hr4 e4 h4 => ?_⟩
      have e24 := e23.trans e4
      have e04 := e2.trans e24
      have hD4 : H4 D = some (.lst (as.map V.ref)) := e24 _ _ hDa
      have r2D : r2 ≠ D := (ne_of_none (e23 _ _ hDa) hr4).symm
      have hDi4 : ∀ (i : Nat) (a : Addr) (n : Int), as[i]? = some a → (Am.map (· * q))[i]? = some n → Li H4 a (cp n) := fun i a n x y => e24 _ _ (hDi i a n x y)
      have hset := cs_set (r := r2) (j := jn) hD4 hDl hDi4 r2D h4 (by rw [List.length_map]; exact hjn)
      refine ⟨_, rfl, _, rfl, D, _, _, jn, rfl, rfl, hD4, Evl.ixN_nat (by rw [List.length_map, hDl, List.length_map]; exact hjn), ?_⟩
      have x5 : Evl.Ex H (upd H4 D (.lst ((as.map V.ref).set jn (.ref r2)))) := Evl.Ex.mut e04 hD
      generalize upd H4 D (.lst ((as.map V.ref).set jn (.ref r2))) = H5 at hset x5
      -- the other tank
      refine ⟨fun σ H' => Evl.Ex H H' ∧ σ = [some (.int (jn : Int)), some (oV o), some (.ref g), some (.ref t), some (.ref la), some (.ref lo), some (.int p), some (.int q), some (.ref D), none] ∧ CsAt H' D (takeA Am jn p q o), ?_, ?_⟩
      · refine ⟨_, rfl, _, rfl, ?_⟩
        cases o with
        | none => exact ⟨x5, rfl, by unfold takeA; rw [Int.toNat_natCast]; exact hset⟩
        | some m =>
          obtain ⟨m0, m1⟩ := hm m rfl
          obtain ⟨mn, rfl⟩ : ∃ n : Nat, m = n := ⟨m.toNat, by omega⟩
          have hmn : mn < Am.length := by omega
          obtain ⟨bs, hDb, hDbl, hDbi⟩ := id hset
          have hBl : ((Am.map (· * q)).set jn (Am.getD jn 0 * (q - p))).length = Am.length := by rw [List.length_set, List.length_map]
          have hbm : bs[mn]? = some bs[mn] := List.getElem?_eq_getElem (by rw [hDbl, hBl]; exact hmn)
          have hbL := hDbi mn _ _ hbm (getD_some (by rw [hBl]; exact hmn))
          refine ⟨_, rfl, _, rfl, D, _, _, _, rfl, rfl, SqL.of hDb, atI_nat (by rw [List.getElem?_map, hbm]; rfl), ?_⟩
          refine ⟨_, rfl, _, rfl, la, xs, _, _, rfl, rfl, SqL.of (x5 _ _ hxs), atI_nat hxj, _, rfl, one, fun s0 hs0 => ⟨s0, [p], rfl, SqL.of upd_same, by show 1 ≤ 1000; decide, fun s1 H6 hs6 e6 h6 => ?_⟩⟩
          rw [trm_1] at h6
          have e56 := (Evl.Ex.new (o := .lst [.int p]) hs0).trans e6
          refine ⟨aj, s1, _, _, rfl, e56 _ _ (x5 _ _ hLj), h6, bAj, bp, fun s2 H7 hs7 e7 h7 => ?_⟩
          have e57 := e56.trans e7
          refine ⟨bs[mn], s2, _, _, rfl, e57 _ _ hbL, h7, fun s3 H8 hs8 e8 h8 => ?_⟩
          have e58 := e57.trans e8
          have hD8 : H8 D = some (.lst (bs.map V.ref)) := e58 _ _ hDb
          have s3D : s3 ≠ D := (ne_of_none (e57 _ _ hDb) hs8).symm
          have hset2 := cs_set (r := s3) (j := mn) hD8 hDbl (fun i a n x y => e58 _ _ (hDbi i a n x y)) s3D h8 (by rw [hBl]; exact hmn)
          refine ⟨_, rfl, _, rfl, D, _, _, mn, rfl, rfl, hD8, Evl.ixN_nat (by rw [List.length_map, hDbl, hBl]; exact hmn), ?_⟩
          refine ⟨Evl.Ex.mut (x5.trans e58) hD, rfl, ?_⟩
          unfold takeA
          rw [Int.toNat_natCast]
          exact hset2
      · rintro σ H6 ⟨e6, rfl, hC⟩
        refine ⟨_, rfl, _, rfl, _, rfl, one, fun r0 hr0 => ⟨lo, r0, W, q, rfl, ?_, ?_, bW, bq, fun y H7 hy e7 h7 => ⟨two, fun z hz => ?_⟩⟩⟩
        · rw [cp_n (by omega)]
          exact Evl.Ex.new hr0 _ _ (e6 _ _ hW)
        · rw [cp_n (by omega)]
          exact upd_same
        · have e67 := (Evl.Ex.new (o := .lst [.int q]) hr0).trans e7
          have e8 := Evl.Ex.new (o := .tup [.ref D, .ref y]) hz
          have Wq : 0 < W * q := Int.mul_pos W0 q0
          have h7 : H7 y = some (.lst (iV (cp (W * q)))) := h7
          rw [cp_n (Int.ne_of_gt Wq)] at h7
          exact k z _ ((e6.trans e67).trans e8) ⟨⟨D, y, upd_same, (hC.ex e67).ex e8, e8 _ _ h7⟩, Wq⟩
end
end V2


namespace V2
open PySem L2
open PySem.Spec PyProof.Rows
/-- what a step does -/
def stepA (ws : List Int) (S : List Int × Int) : Deed → List Int × Int
  | .op ks => (openA S.1 ws ks, S.2 * (pick ws ks).sum)
  | .po k a => (pourA S.1 S.2 k a, S.2)
  | .sc k p q => (takeA S.1 k p q none, S.2 * q)
  | .mv k m p q => (takeA S.1 k p q (some m), S.2 * q)
  | .un _ _ => S
theorem bn_sum {N : Nat} : ∀ xs : List Int, (∀ x ∈ xs, Bn N x) → xs.sum.natAbs ≤ xs.length * 2 ^ N
  | [], _ => by simp
  | x :: r, h => by
    have h1 := bn_sum r fun y hy => h y (List.mem_cons_of_mem _ hy)
    have h2 : x.natAbs < 2 ^ N := h x List.mem_cons_self
    have h3 : (x :: r).sum = x + r.sum := List.sum_cons
    rw [h3, List.length_cons, Nat.succ_mul r.length (2 ^ N)]
    omega
theorem bn_sum20 {N : Nat} {xs : List Int} (h : ∀ x ∈ xs, Bn N x) (hl : xs.length ≤ 20) : Bn (N + 5) xs.sum := by
  have h1 := bn_sum xs h
  have h2 := Nat.mul_le_mul_right (2 ^ N) hl
  have h3 : (2 : Nat) ^ (N + 5) = 32 * 2 ^ N := by rw [Nat.pow_add, Nat.mul_comm]
  have h4 : 0 < 2 ^ N := Nat.pow_pos (by decide)
  unfold Bn
  omega
theorem pick_mem {ns ks : List Int} (hok : okK ns.length ks) {x : Int} (h : x ∈ pick ns ks) : x ∈ ns := by
  unfold pick at h
  obtain ⟨k, hk, rfl⟩ := List.mem_map.mp h
  obtain ⟨k0, k1⟩ := hok.2 k hk
  exact getD_mem' (by omega)
theorem pick_len (ns ks : List Int) : (pick ns ks).length = ks.length := by unfold pick; rw [List.length_map]
theorem sum_pos : ∀ {xs : List Int}, xs ≠ [] → (∀ x ∈ xs, 0 < x) → 0 < xs.sum
  | [], h, _ => absurd rfl h
  | [x], _, h => by
    have := h x List.mem_cons_self
    simpa using this
  | x :: y :: r, _, h => by
    have h1 := sum_pos (xs := y :: r) (by simp) fun z hz => h z (List.mem_cons_of_mem _ hz)
    have h2 := h x List.mem_cons_self
    rw [List.sum_cons]
    omega
/-- the state of the water: amounts from 0 on, of at most N bits -/
structure OkW (N : Nat) (A : List Int) (W : Int) : Prop where
  nn : ∀ x ∈ A, 0 ≤ x
  bA : ∀ x ∈ A, Bn N x
  bW : Bn N W
  pos : 0 < W
structure OkV (n : Nat) (ws : List Int) : Prop where
  len : ws.length = n
  pos : ∀ x ∈ ws, 0 < x
  bit : ∀ x ∈ ws, Bn 60 x
def spAfter : Sp := fun vs H Q _ => ∃ (s t lw : Addr) (d : Deed) (A ws : List Int) (W : Int) (N : Nat), vs = [.ref s, .ref t, .ref lw] ∧ DAt H s d ∧ okD A.length d ∧ (∀ k a, d = .po k a → Bn 60 a) ∧ Wat H t A W ∧ CsAt H lw ws ∧ A.length ≤ 20 ∧ OkV A.length ws ∧ OkW N A W ∧ N ≤ 4300 ∧
  ∀ t' H', Evl.Ex H H' → Wat H' t' (stepA ws (A, W) d).1 (stepA ws (A, W) d).2 → Q (.ref t') H'
/-- the level of a tank -/
def lvl (A ws : List Int) (W b : Int) (i : Nat) : Int × Int := fr (A.getD i 0 * b) (W * ws.getD i 0)
def FmAt (H : Hp) (l : Addr) (fs : List (Int × Int)) : Prop := ∃ as : List Addr, H l = some (.lst (as.map V.ref)) ∧ as.length = fs.length ∧ ∀ (i : Nat) (a : Addr) (f : Int × Int), as[i]? = some a → fs[i]? = some f → ∃ x y, H a = some (.tup [.ref x, .ref y]) ∧ Li H x (cp f.1) ∧ Li H y [f.2]
def spLev : Sp := fun vs H Q _ => ∃ (t lw : Addr) (A ws : List Int) (W b : Int) (N : Nat), vs = [.ref t, .ref lw, .int b] ∧ Wat H t A W ∧ CsAt H lw ws ∧ A.length ≤ 20 ∧ OkV A.length ws ∧ OkW N A W ∧ N ≤ 4300 ∧ 0 < b ∧ Bn 50 b ∧
  ∀ D H', H D = none → Evl.Ex H H' → FmAt H' D ((List.range A.length).map (lvl A ws W b)) → Q (.ref D) H'
section
variable {base : Heap} {mg : Str → Option Value} {K : PySem.W.Frag} {w : World} {P : Program}
theorem ok_after {f : Addr} {fd : FuncData} (F : Fun K "after" "after" s_after f fd) (cO : Cal P w K mg base 5 "opened" p_opened spOpen) (cP : Cal P w K mg base 3 "poured" p_poured spPour) (cT : Cal P w K mg base 3 "taken" p_taken spTake) : FnOk P w K mg base CX0 6 f fd p_after spAfter := by
  refine F.ok sc_after (fun vs H Q E h => ?_) (fun cdv A outer s H vs Q E hr h => ?_)
  · obtain ⟨s, t, lw, d, A, ws, W, N, rfl, _⟩ := h
    rfl
  · obtain ⟨s, t, lw, d, Am, ws, W, N, rfl, hd, hok, hpo, hWt, hw, h20, hV, hW, hN, k⟩ := h
    have nd := sc_after.nd
    have r3 : Room 3 _ := hr.mono (by decide)
    refine ⟨_, pss_cons (ps_set (i := 3) nd rfl (Or.inl rfl) (pe_ix ix_tup (pv 0) pe_int (fun _ _ => rfl)))
      (pss_cons (ps_if (pt_cmpR op_eq (pv 3) pe_str (nomark _)) (pss_one (ps_ret (pe_c cO hr (pa_cons (pe_ix ix_tup (pv 0) pe_int (fun _ _ => rfl)) (pa_cons (pv 1) (pa_cons (pv 2) pa_nil)))))) pss_nil)
      (pss_cons (ps_if (pt_cmpR op_eq (pv 3) pe_str (nomark _)) (pss_one (ps_ret (pe_c cP r3 (pa_cons (pe_ix ix_tup (pv 0) pe_int (fun _ _ => rfl)) (pa_cons (pe_ix ix_tup (pv 0) pe_int (fun _ _ => rfl)) (pa_cons (pv 1) pa_nil)))))) pss_nil)
      (pss_cons (ps_if (pt_cmpR op_eq (pv 3) pe_str (nomark _)) (pss_one (ps_ret (pe_c cT r3 (pa_cons (pe_ix ix_tup (pv 0) pe_int (fun _ _ => rfl)) (pa_cons pe_non (pa_cons (pe_ix ix_tup (pv 0) pe_int (fun _ _ => rfl)) (pa_cons (pv 1) pa_nil))))))) pss_nil)
      (pss_cons (ps_if (pt_cmpR op_eq (pv 3) pe_str (nomark _)) (pss_one (ps_ret (pe_c cT r3 (pa_cons (pe_ix ix_tup (pv 0) pe_int (fun _ _ => rfl)) (pa_cons (pe_ix ix_tup (pv 0) pe_int (fun _ _ => rfl)) (pa_cons (pe_ix ix_tup (pv 0) pe_int (fun _ _ => rfl)) (pa_cons (pv 1) pa_nil))))))) pss_nil)
      (pss_one (ps_ret (pv 1))))))), ?_⟩
    cases d with
    | op ks =>
      obtain ⟨l, ha, hl⟩ := hd
      obtain ⟨h2, hk20, _, hks⟩ := hok
      have ok1 : okK Am.length ks := ⟨hk20, hks⟩
      have ok2 : okK ws.length ks := by rw [hV.len]; exact ok1
      have l20 : ∀ ns : List Int, (pick ns ks).length ≤ 20 := fun ns => by rw [pick_len]; exact hk20
      refine ⟨_, rfl, s, _, _, _, rfl, rfl, SqT.of ha, rfl, _, rfl, rfl, _, rfl, if_t (by decide) ?_⟩
      refine ⟨_, rfl, s, _, _, _, rfl, rfl, SqT.of ha, rfl, _, rfl, _, rfl, l, t, lw, ks, Am, ws, W, rfl, hl, hWt, hw, ok1, hV.len, h20, fun x hx => (hW.bA x hx).le (by omega), hW.bW.le (by omega), fun x hx => (hV.bit x hx).le (by decide), ?_, ?_, ?_, k⟩
      · exact (bn_sum20 (fun x hx => hW.bA x (pick_mem ok1 hx)) (l20 _)).le (by omega)
      · exact (bn_sum20 (fun x hx => hV.bit x (pick_mem ok2 hx)) (l20 _)).le (by decide)
      · refine sum_pos (fun z => ?_) fun x hx => hV.pos x (pick_mem ok2 hx)
        have := congrArg List.length z
        rw [pick_len, List.length_nil] at this
        omega
    | po j x =>
      have ha : H s = some (.tup [.str "pour", .int j, .int x]) := hd
      refine ⟨_, rfl, s, _, _, _, rfl, rfl, SqT.of ha, rfl, _, rfl, rfl, _, rfl, if_f (by decide) ?_⟩
      refine ⟨_, rfl, rfl, _, rfl, if_t (by decide) ?_⟩
      exact ⟨_, rfl, s, _, _, _, rfl, rfl, SqT.of ha, rfl, _, rfl, s, _, _, _, rfl, rfl, SqT.of ha, rfl, _, rfl, t, Am, W, j, x, rfl, hWt, h20, hW.bW.le (by omega), (hpo j x rfl).le (by decide), k⟩
    | sc j p q =>
      obtain ⟨g, ha, hg⟩ := hd
      refine ⟨_, rfl, s, _, _, _, rfl, rfl, SqT.of ha, rfl, _, rfl, rfl, _, rfl, if_f (by decide) ?_⟩
      refine ⟨_, rfl, rfl, _, rfl, if_f (by decide) ?_⟩
      refine ⟨_, rfl, rfl, _, rfl, if_t (by decide) ?_⟩
      exact ⟨_, rfl, s, _, _, _, rfl, rfl, SqT.of ha, rfl, _, rfl, s, _, _, _, rfl, rfl, SqT.of ha, rfl, _, rfl, g, t, Am, W, j, p, q, none, rfl, hWt, h20, fun x hx => (hW.bA x hx).le (by omega), hW.bW.le (by omega), hg, hok.2, hok.1, fun m hm => (by cases hm), k⟩
    | mv j m p q =>
      obtain ⟨g, ha, hg⟩ := hd
      refine ⟨_, rfl, s, _, _, _, rfl, rfl, SqT.of ha, rfl, _, rfl, rfl, _, rfl, if_f (by decide) ?_⟩
      refine ⟨_, rfl, rfl, _, rfl, if_f (by decide) ?_⟩
      refine ⟨_, rfl, rfl, _, rfl, if_f (by decide) ?_⟩
      refine ⟨_, rfl, rfl, _, rfl, if_t (by decide) ?_⟩
      exact ⟨_, rfl, s, _, _, _, rfl, rfl, SqT.of ha, rfl, _, rfl, s, _, _, _, rfl, rfl, SqT.of ha, rfl, _, rfl, s, _, _, _, rfl, rfl, SqT.of ha, rfl, _, rfl, g, t, Am, W, j, p, q, some m, rfl, hWt, h20, fun x hx => (hW.bA x hx).le (by omega), hW.bW.le (by omega), hg, hok.2.2.2, hok.1, fun m' hm => (by cases hm; exact hok.2.1), k⟩
    | un j m =>
      have ha : H s = some (.tup [.str "unless", .int j, .int m]) := hd
      refine ⟨_, rfl, s, _, _, _, rfl, rfl, SqT.of ha, rfl, _, rfl, rfl, _, rfl, if_f (by decide) ?_⟩
      refine ⟨_, rfl, rfl, _, rfl, if_f (by decide) ?_⟩
      refine ⟨_, rfl, rfl, _, rfl, if_f (by decide) ?_⟩
      refine ⟨_, rfl, rfl, _, rfl, if_f (by decide) ?_⟩
      exact ⟨_, rfl, k t H (Evl.Ex.refl _) hWt⟩
end
end V2


namespace V2
open PySem L2
open PySem.Spec PyProof.Rows
/-- while the list of forms at D is being made -/
def FmN (H : Hp) (D : Addr) (fs : List (Int × Int)) (i : Nat) : Prop := ∃ as : List Addr, H D = some (.lst (as.map V.ref)) ∧ as.length = i ∧ ∀ (j : Nat) (a : Addr) (f : Int × Int), as[j]? = some a → fs[j]? = some f → ∃ x y, a ≠ D ∧ x ≠ D ∧ y ≠ D ∧ H a = some (.tup [.ref x, .ref y]) ∧ Li H x (cp f.1) ∧ Li H y [f.2]
theorem FmN.start {H : Hp} {D : Addr} {fs : List (Int × Int)} (h : H D = some (.lst [])) : FmN H D fs 0 := ⟨[], h, rfl, fun j a n h => by cases h⟩
theorem FmN.more {H2 H3 : Hp} {D r x y : Addr} {fs : List (Int × Int)} {i : Nat} {f : Int × Int} (h : FmN H2 D fs i) (e : Evl.Ex H2 H3) (hx : x ≠ D) (hy : y ≠ D) (hr : H3 r = some (.tup [.ref x, .ref y])) (h3 : Li H3 x (cp f.1)) (h4 : Li H3 y [f.2]) (hn : fs[i]? = some f) (hi : i ≤ 100) :
    ∃ acc, H3 D = some (.lst acc) ∧ acc.length < sizeLine ∧ FmN (upd H3 D (.lst (acc ++ [.ref r]))) D fs (i + 1) := by
  obtain ⟨as, h1, h2, h5⟩ := h
  have h1' := e _ _ h1
  have rD : r ≠ D := ne_of hr h1' (fun z => by cases z)
  refine ⟨_, h1', ?_, as ++ [r], ?_, ?_, fun j a m ha hm => ?_⟩
  · rw [List.length_map, h2]
    exact Nat.lt_of_le_of_lt hi (by decide)
  · rw [upd_same, List.map_append]
    rfl
  · rw [List.length_append, h2]
    rfl
  · rcases get_app ha with ⟨h6, _⟩ | ⟨h6, rfl⟩
    · obtain ⟨x', y', n1, n2, n3, g1, g2, g3⟩ := h5 j a m h6 hm
      exact ⟨x', y', n1, n2, n3, by rw [upd_ne n1]; exact e _ _ g1, Eq.trans (upd_ne n2) (e _ _ g2), Eq.trans (upd_ne n3) (e _ _ g3)⟩
    · rw [h6, h2, hn] at hm
      cases hm
      exact ⟨x, y, rD, hx, hy, by rw [upd_ne rD]; exact hr, Eq.trans (upd_ne hx) h3, Eq.trans (upd_ne hy) h4⟩
theorem FmN.done {H : Hp} {D : Addr} {fs : List (Int × Int)} (h : FmN H D fs fs.length) : FmAt H D fs := by
  obtain ⟨as, h1, h2, h3⟩ := h
  exact ⟨as, h1, h2, fun i a f x y => let ⟨u, v, _, _, _, g⟩ := h3 i a f x y; ⟨u, v, g⟩⟩
section
variable {base : Heap} {mg : Str → Option Value} {K : PySem.W.Frag} {w : World} {P : Program}
theorem ok_levels {f : Addr} {fd : FuncData} (F : Fun K "levels" "levels" s_levels f fd) (T : T2 mg) (cM : Cal P w K mg base 1 "multiplied" p_multiplied spMc) (cR : Cal P w K mg base 5 "reduced" p_reduced spRed1) : FnOk P w K mg base CX0 6 f fd p_levels spLev := by
  refine F.ok sc_levels (fun vs H Q E h => ?_) (fun cdv A outer s H vs Q E hr h => ?_)
  · obtain ⟨t, lw, A, ws, W, b, N, rfl, _⟩ := h
    rfl
  · obtain ⟨t, lw, Am, ws, W, b, N, rfl, ⟨⟨la, lo, ht, hA, hW⟩, _⟩, hw, h20, hV, hOk, hN, b0, bb, k⟩ := h
    have nd := sc_levels.nd
    have r1 : Room 1 _ := hr.mono (by decide)
    have one : 1 ≤ sizeLine := by show 1 ≤ sizeLine; decide
    refine ⟨_, pss_cons (ps_asg (pv 0) (pg_tup rfl (pgs_cons (pg_name (i := 3) nd rfl (Or.inl rfl)) (pgs_cons (pg_name (i := 4) nd rfl (Or.inr rfl)) pgs_nil))))
      (pss_one (ps_ret (pe_lc (own := [("k", 5), ("one", 6)]) (g := gTup K 2 (gCons (gName 5) (gCons (gName 6) gNil))) (tt := tYes) (te := tCall spRed1 [] E0 (tCons (tCall spMc [] E0 (tCons (tVar 6) (tCons (tLst (tCons (tVar 2) tNil)) tNil))) (tCons (tCall spMc [] E0 (tCons (tVar 4) (tCons (tOp (rIxL K) (tVar 1) (tVar 5)) tNil))) tNil))) rfl nd (pi_enum (by rfl) T.enu (pa_cons (pv 3) pa_nil)) (blkOk_by (N := n_levels) (sc := defScope s_levels) (by decide +kernel))
          (fun _ _ _ _ _ => pg_tup rfl (pgs_cons (pg_name (i := 5) nd rfl (Or.inl rfl)) (pgs_cons (pg_name (i := 6) nd rfl (Or.inl rfl)) pgs_nil))) (fun _ _ _ _ _ => pts_nil)
          (fun _ _ _ _ _ => pe_c cR hr (pa_cons (pe_c cM r1 (pa_cons (pv 6) (pa_cons (pe_lst (pa_cons (pv 2) pa_nil)) pa_nil))) (pa_cons (pe_c cM r1 (pa_cons (pv 4) (pa_cons (pe_ix ix_list (pv 1) (pv 5) (fun _ _ => rfl)) pa_nil))) pa_nil)))))), ?_⟩
    refine ⟨_, rfl, t, _, rfl, SqT.of ht, rfl, _, _, rfl, _, _, rfl, rfl, ?_⟩
    obtain ⟨xs, hxs, hxl, hxi⟩ := cs_items hA
    obtain ⟨ys, hys, hyl, hyi⟩ := cs_items hw
    refine ⟨_, rfl, la, _, rfl, SqL.of hxs, fun D hD => lc_it walk_enum (fun i H' => Evl.Ex H H' ∧ FmN H' D ((List.range Am.length).map (lvl Am ws W b)) i) ⟨Evl.Ex.new hD, FmN.start upd_same⟩ (fun i H' _ q => SqL.of (q.1 _ _ hxs)) ?_ ?_⟩
    · rintro i v H3 H4 hi ⟨e3, hN3⟩ ⟨t3, z, o, rfl, ht3, rfl, hz, ho⟩
      obtain rfl := (Option.some.inj hz).symm
      obtain ⟨a, rfl, hia, hLa⟩ := hxi i _ ho
      have e4 := Evl.Ex.new (o := .tup [.int (i : Nat), .ref a]) ht3
      have e34 := e3.trans e4
      refine ⟨t3, _, rfl, SqT.of upd_same, rfl, _, _, rfl, _, _, rfl, rfl, rfl, ?_⟩
      show tCall spRed1 [] E0 (tCons (tCall spMc [] E0 (tCons (tVar 6) (tCons (tLst (tCons (tVar 2) tNil)) tNil))) (tCons (tCall spMc [] E0 (tCons (tVar 4) (tCons (tOp (rIxL K) (tVar 1) (tVar 5)) tNil))) tNil)) _ _ _
      have hiw : i < ws.length := by rw [hV.len]; exact hia
      have hyx : ys[i]? = some ys[i] := List.getElem?_eq_getElem (by omega)
      obtain ⟨bq, hb, _, hLb⟩ := hyi i _ hyx
      rw [hb] at hyx
      have bAi := hOk.bA _ (getD_mem' hia)
      have bwi := hV.bit _ (getD_mem' hiw)
      have pwi := hV.pos _ (getD_mem' hiw)
      have hget : ((List.range Am.length).map (lvl Am ws W b))[i]? = some (lvl Am ws W b i) := by
        rw [List.getElem?_map, List.getElem?_range hia]
        rfl
      obtain ⟨as0, hD0, _⟩ := id hN3
      have hD4 := e4 _ _ hD0
      generalize upd H3 t3 (.tup [.int (i : Nat), .ref a]) = H4 at e4 e34 hD4
      refine ⟨_, rfl, _, rfl, one, fun r0 hr0 => ⟨a, r0, Am.getD i 0, b, rfl, Evl.Ex.new hr0 _ _ (e34 _ _ hLa), ?_, bAi.le (by omega), bb.le (by decide), fun r H5 hr5 e5 h5 => ?_⟩⟩
      · rw [cp_n (by omega)]
        exact upd_same
      have e45 := (Evl.Ex.new (o := .lst [.int b]) hr0).trans e5
      have e05 := e34.trans e45
      refine ⟨_, rfl, _, rfl, _, rfl, lw, _, _, _, rfl, rfl, SqL.of (e05 _ _ hys), atI_nat hyx, lo, bq, W, ws.getD i 0, rfl, ?_, e05 _ _ hLb, hOk.bW.le (by omega), bwi.le (by decide), fun r2 H6 hr6 e6 h6 => ?_⟩
      · rw [cp_n (by have := hOk.pos; omega)]
        exact e05 _ _ hW
      have Ww : 0 < W * ws.getD i 0 := Int.mul_pos hOk.pos pwi
      have h6 : H6 r2 = some (.lst (iV (cp (W * ws.getD i 0)))) := h6
      rw [cp_n (Int.ne_of_gt Ww)] at h6
      refine ⟨r, r2, Am.getD i 0 * b, W * ws.getD i 0, rfl, e6 _ _ h5, h6, Ww, (bAi.mul bb).le (by omega), (hOk.bW.mul bwi).le (by omega), fun q x y H7 hx hy e7 hq hLx hLy => ?_⟩
      have e47 := (e45.trans e6).trans e7
      have hD6 := e6 _ _ (e45 _ _ hD4)
      obtain ⟨acc, a1, a2, a3⟩ := hN3.more (e4.trans e47) (ne_of_none hD6 hx).symm (ne_of_none hD6 hy).symm hq hLx hLy hget (by omega)
      exact ⟨acc, a1, a2, Evl.Ex.mut (e34.trans e47) hD, a3⟩
    · rintro H2 ⟨e2, hN2⟩
      rw [hxl] at hN2
      exact k D H2 hD e2 (FmN.done (by rw [List.length_map, List.length_range]; exact hN2))
end
end V2


namespace V2
open PySem L2
theorem sum_nn : ∀ {xs : List Int}, (∀ x ∈ xs, 0 ≤ x) → 0 ≤ xs.sum
  | [], _ => by simp
  | x :: r, h => by
    have h1 := sum_nn fun z hz => h z (List.mem_cons_of_mem _ hz)
    have h2 := h x List.mem_cons_self
    rw [List.sum_cons]
    omega
theorem openA_len (A ws ks : List Int) : (openA A ws ks).length = A.length := by unfold openA; rw [List.length_map, List.length_range]
theorem pourA_len (A : List Int) (W k a : Int) : (pourA A W k a).length = A.length := by unfold pourA; rw [List.length_map, List.length_range]
theorem takeA_len (A : List Int) (k p q : Int) (o : Option Int) : (takeA A k p q o).length = A.length := by
  unfold takeA
  cases o with
  | none => simp
  | some m => simp
theorem stepA_len (ws A : List Int) (W : Int) (d : Deed) : (stepA ws (A, W) d).1.length = A.length := by
  cases d with
  | op ks => exact openA_len _ _ _
  | po k a => exact pourA_len _ _ _ _
  | sc k p q => exact takeA_len A k p q none
  | mv k m p q => exact takeA_len A k p q (some m)
  | un k m => rfl
theorem mem_set' {α : Type} {l : List α} {i : Nat} {x y : α} (h : y ∈ l.set i x) : y ∈ l ∨ y = x := by
  rcases List.mem_or_eq_of_mem_set h with h | h
  · exact .inl h
  · exact .inr h
theorem getD_or (A : List Int) (i : Nat) : A.getD i 0 ∈ A ∨ A.getD i 0 = 0 := by
  by_cases h : i < A.length
  · exact .inl (getD_mem' h)
  · right
    rw [List.getD_eq_getElem?_getD, List.getElem?_eq_none (by omega)]
    rfl
theorem bn0 (N : Nat) : Bn N 0 := Nat.pow_pos (by decide)
theorem takeA_ok {N : Nat} {A : List Int} {k p q : Int} {o : Option Int} (nn : ∀ x ∈ A, 0 ≤ x) (bA : ∀ x ∈ A, Bn N x) (h : Pt p q) : ∀ x ∈ takeA A k p q o, 0 ≤ x ∧ Bn (N + 51) x := by
  obtain ⟨p0, pq, q0, qc, pb, qb⟩ := h
  have bq : Bn 50 q := qb
  have bp : Bn 50 p := pb
  have bqp : Bn 50 (q - p) := Nat.lt_of_le_of_lt (show (q - p).natAbs ≤ q.natAbs by omega) bq
  have g : 0 ≤ A.getD k.toNat 0 ∧ Bn N (A.getD k.toNat 0) := by
    rcases getD_or A k.toNat with z | z
    · exact ⟨nn _ z, bA _ z⟩
    · rw [z]
      exact ⟨Int.le_refl _, bn0 _⟩
  have hB : ∀ x ∈ (A.map (· * q)).set k.toNat (A.getD k.toNat 0 * (q - p)), 0 ≤ x ∧ Bn (N + 50) x := by
    intro x hx
    rcases mem_set' hx with hx | rfl
    · obtain ⟨y, hy, rfl⟩ := List.mem_map.mp hx
      exact ⟨Int.mul_nonneg (nn y hy) (by omega), (bA y hy).mul bq⟩
    · exact ⟨Int.mul_nonneg g.1 (by omega), g.2.mul bqp⟩
  intro x hx
  unfold takeA at hx
  cases o with
  | none => exact ⟨(hB x hx).1, (hB x hx).2.le (by omega)⟩
  | some m =>
    rcases mem_set' hx with hx | rfl
    · exact ⟨(hB x hx).1, (hB x hx).2.le (by omega)⟩
    · have gm : 0 ≤ ((A.map (· * q)).set k.toNat (A.getD k.toNat 0 * (q - p))).getD m.toNat 0 ∧ Bn (N + 50) (((A.map (· * q)).set k.toNat (A.getD k.toNat 0 * (q - p))).getD m.toNat 0) := by
        rcases getD_or ((A.map (· * q)).set k.toNat (A.getD k.toNat 0 * (q - p))) m.toNat with z | z
        · exact hB _ z
        · rw [z]
          exact ⟨Int.le_refl _, bn0 _⟩
      have z1 := Int.mul_nonneg g.1 p0
      exact ⟨by omega, gm.2.add (g.2.mul bp)⟩
theorem okW_step {N n : Nat} {A ws : List Int} {W : Int} {d : Deed} (hA : A.length = n) (hV : OkV n ws) (hW : OkW N A W) (hd : okD n d) (hpo : ∀ k a, d = .po k a → Bn 60 a) : OkW (N + 66) (stepA ws (A, W) d).1 (stepA ws (A, W) d).2 := by
  subst hA
  cases d with
  | op ks =>
    obtain ⟨h2, hk20, _, hks⟩ := hd
    have ok1 : okK A.length ks := ⟨hk20, hks⟩
    have ok2 : okK ws.length ks := by rw [hV.len]; exact ok1
    have l20 : ∀ ns : List Int, (pick ns ks).length ≤ 20 := fun ns => by rw [pick_len]; exact hk20
    have bT := bn_sum20 (fun x hx => hW.bA x (pick_mem ok1 hx)) (l20 _)
    have bS := bn_sum20 (fun x hx => hV.bit x (pick_mem ok2 hx)) (l20 _)
    have nT := sum_nn (xs := pick A ks) fun x hx => hW.nn x (pick_mem ok1 hx)
    have pS : 0 < (pick ws ks).sum := by
      refine sum_pos (fun z => ?_) fun x hx => hV.pos x (pick_mem ok2 hx)
      have := congrArg List.length z
      rw [pick_len, List.length_nil] at this
      omega
    have each : ∀ x ∈ openA A ws ks, 0 ≤ x ∧ Bn (N + 66) x := by
      intro x hx
      unfold openA at hx
      obtain ⟨i, hi, rfl⟩ := List.mem_map.mp hx
      have hi := List.mem_range.mp hi
      split
      · have m := getD_mem' (ns := ws) (i := i) (by rw [hV.len]; exact hi)
        exact ⟨Int.mul_nonneg nT (Int.le_of_lt (hV.pos _ m)), (bT.mul (hV.bit _ m)).le (by omega)⟩
      · have m := getD_mem' hi
        exact ⟨Int.mul_nonneg (hW.nn _ m) (Int.le_of_lt pS), ((hW.bA _ m).mul bS).le (by omega)⟩
    exact ⟨fun x hx => (each x hx).1, fun x hx => (each x hx).2, (hW.bW.mul bS).le (by omega), Int.mul_pos hW.pos pS⟩
  | po k a =>
    have ba := hpo k a rfl
    have a0 : 0 ≤ a := hd.2
    have aW := Int.mul_nonneg a0 (Int.le_of_lt hW.pos)
    have baW : Bn (N + 60) (a * W) := (ba.mul hW.bW).le (by omega)
    have each : ∀ x ∈ pourA A W k a, 0 ≤ x ∧ Bn (N + 66) x := by
      intro x hx
      unfold pourA at hx
      obtain ⟨i, hi, rfl⟩ := List.mem_map.mp hx
      have m := getD_mem' (List.mem_range.mp hi)
      have n1 := hW.nn _ m
      split
      · exact ⟨by omega, (((hW.bA _ m).le (show N ≤ N + 60 by omega)).add baW).le (by omega)⟩
      · exact ⟨n1, (hW.bA _ m).le (by omega)⟩
    exact ⟨fun x hx => (each x hx).1, fun x hx => (each x hx).2, hW.bW.le (by omega), hW.pos⟩
  | sc k p q =>
    have hp := hd.2
    have z := takeA_ok (k := k) (o := none) hW.nn hW.bA hp
    have bq : Bn 50 q := hp.2.2.2.2.2
    exact ⟨fun x hx => (z x hx).1, fun x hx => (z x hx).2.le (by omega), (hW.bW.mul bq).le (by omega), Int.mul_pos hW.pos hp.2.2.1⟩
  | mv k m p q =>
    have hp := hd.2.2.2
    have z := takeA_ok (k := k) (o := some m) hW.nn hW.bA hp
    have bq : Bn 50 q := hp.2.2.2.2.2
    exact ⟨fun x hx => (z x hx).1, fun x hx => (z x hx).2.le (by omega), (hW.bW.mul bq).le (by omega), Int.mul_pos hW.pos hp.2.2.1⟩
  | un k m => exact ⟨hW.nn, fun x hx => (hW.bA x hx).le (by omega), hW.bW.le (by omega), hW.pos⟩
/-- behind all steps -/
def runA (ws : List Int) (S : List Int × Int) (ds : List Deed) : List Int × Int := ds.foldl (stepA ws) S
theorem runA_take {ws : List Int} {S : List Int × Int} {ds : List Deed} {i : Nat} {d : Deed} (h : ds[i]? = some d) : runA ws S (ds.take (i + 1)) = stepA ws (runA ws S (ds.take i)) d := by
  unfold runA
  rw [List.take_add_one, h, List.foldl_append]
  rfl
theorem runA_ok {n : Nat} {ws : List Int} (hV : OkV n ws) : ∀ {ds : List Deed} {N : Nat} {S : List Int × Int}, S.1.length = n → OkW N S.1 S.2 → (∀ d ∈ ds, okD n d ∧ ∀ k a, d = .po k a → Bn 60 a) → (runA ws S ds).1.length = n ∧ OkW (N + 66 * ds.length) (runA ws S ds).1 (runA ws S ds).2
  | [], N, S, h, hW, _ => ⟨h, hW⟩
  | d :: ds, N, S, h, hW, hd => by
    obtain ⟨h1, h2⟩ := hd d List.mem_cons_self
    have z := runA_ok hV (ds := ds) (N := N + 66) (S := stepA ws S d) (by rw [stepA_len]; exact h) (okW_step h hV hW h1 h2) fun x hx => hd x (List.mem_cons_of_mem _ hx)
    refine ⟨z.1, ?_⟩
    have e : N + 66 * (d :: ds).length = N + 66 + 66 * ds.length := by rw [List.length_cons]; omega
    rw [e]
    exact z.2
end V2


namespace V2
open PySem L2
open PySem.Spec PyProof.Rows
/-- pairs of ints that stand in a list, as tuples -/
def PrAt (H : Hp) (l : Addr) (fs : List (Int × Int)) : Prop := ∃ as : List Addr, H l = some (.lst (as.map V.ref)) ∧ as.length = fs.length ∧ ∀ (i : Nat) (a : Addr) (f : Int × Int), as[i]? = some a → fs[i]? = some f → Fr H a f.1 f.2
theorem PrAt.ex {H H' : Hp} {l : Addr} {fs : List (Int × Int)} (h : PrAt H l fs) (e : Evl.Ex H H') : PrAt H' l fs := by
  obtain ⟨as, h1, h2, h3⟩ := h
  exact ⟨as, e _ _ h1, h2, fun i a t x y => e _ _ (h3 i a t x y)⟩
theorem ds_items {H : Hp} {l : Addr} {ds : List Deed} (h : DsAt H l ds) : ∃ xs, H l = some (.lst xs) ∧ xs.length = ds.length ∧ ∀ (i : Nat) (x : V), xs[i]? = some x → ∃ a d, x = .ref a ∧ ds[i]? = some d ∧ DAt H a d := by
  obtain ⟨as, h1, h2, h3⟩ := h
  refine ⟨_, h1, by rw [List.length_map]; exact h2, fun i x hx => ?_⟩
  rw [List.getElem?_map] at hx
  cases e : as[i]? with
  | none =>
    rw [e] at hx
    cases hx
  | some a =>
    rw [e] at hx
    have hi : i < ds.length := by
      have := (List.getElem?_eq_some_iff.mp e).1
      omega
    exact ⟨a, ds[i], (Option.some.inj hx).symm, List.getElem?_eq_getElem hi, h3 i a _ e (List.getElem?_eq_getElem hi)⟩
def spNum : Sp := fun vs H Q _ => ∃ (a x y : Addr) (f : Int × Int), vs = [.ref a] ∧ H a = some (.tup [.ref x, .ref y]) ∧ Li H x (cp f.1) ∧ Li H y [f.2] ∧ RetU [.int f.1, .int f.2] H Q
def spTL : Sp := fun vs H Q _ => ∃ (t lw g : Addr) (A ws : List Int) (W u b : Int) (N : Nat), vs = [.ref t, .ref lw, .ref g] ∧ Wat H t A W ∧ CsAt H lw ws ∧ Fr H g u b ∧ A.length ≤ 20 ∧ OkV A.length ws ∧ OkW N A W ∧ N ≤ 4300 ∧ 0 < b ∧ Bn 50 b ∧
  ∀ D H', H D = none → Evl.Ex H H' → PrAt H' D ((List.range A.length).map (lvl A ws W b)) → Q (.ref D) H'

def spNeg1 : Sp := fun vs H Q _ => ∃ (a : Addr) (x : Int), vs = [.ref a] ∧ Li H a (cp x) ∧ Evl.RetL (iV (cp (-x))) H Q
def spSc1 : Sp := fun vs H Q _ => ∃ (a b : Addr) (x : Int), vs = [.ref a, .ref b] ∧ Li H a (cp x) ∧ Fr H b 1 1 ∧ Bn 9000 x ∧ RetU [.int x, .int 1] H Q
def spSg1 : Sp := fun vs H Q _ => ∃ (a b : Addr) (x : Int), vs = [.ref a, .ref b] ∧ Li H a (cp x) ∧ Fr H b 1 1 ∧ Bn 9000 x ∧ Evl.RetV (.int (sgn x)) H Q
/-- the sign of one level less another one -/
def spLead : Sp := fun vs H Q _ => ∃ (a1 w1 a2 w2 l : Addr) (x1 y1 x2 y2 W : Int), vs = [.ref a1, .ref w1, .ref a2, .ref w2, .ref l] ∧ Li H a1 (cp x1) ∧ Li H w1 (cp y1) ∧ Li H a2 (cp x2) ∧ Li H w2 (cp y2) ∧ Li H l (cp W) ∧ Bn 4100 x1 ∧ Bn 4100 x2 ∧ Bn 60 y1 ∧ Bn 60 y2 ∧ Bn 4100 W ∧ 0 < y1 ∧ 0 < y2 ∧ 0 < W ∧
  ∀ (p : Addr) (z : Int) (H' : Hp), Evl.Ex H H' → Li H' p (cp z) → Bn 9000 z → (0 < z ↔ x2 * y1 < x1 * y2) → Q (.ref p) H'
def spAhead : Sp := fun vs H Q _ => ∃ (s t lw : Addr) (j m : Int) (A ws : List Int) (W : Int), vs = [.ref s, .ref t, .ref lw] ∧ H s = some (.tup [.str "unless", .int j, .int m]) ∧ (0 ≤ j ∧ j < A.length) ∧ (0 ≤ m ∧ m < A.length) ∧ Wat H t A W ∧ CsAt H lw ws ∧ A.length ≤ 20 ∧ OkV A.length ws ∧ OkW 4000 A W ∧
  ∀ (p : Addr) (z : Int) (H' : Hp), Evl.Ex H H' → Li H' p (cp z) → Bn 9000 z → (0 < z ↔ A.getD m.toNat 0 * ws.getD j.toNat 0 < A.getD j.toNat 0 * ws.getD m.toNat 0) → Q (.ref p) H'
/-- whether a step ends the script -/
def endB (ws : List Int) (A : List Int) : Deed → Bool
  | .un j m => decide (A.getD m.toNat 0 * ws.getD j.toNat 0 < A.getD j.toNat 0 * ws.getD m.toNat 0)
  | _ => false
def spEnd : Sp := fun vs H Q _ => ∃ (s t lw : Addr) (d : Deed) (A ws : List Int) (W : Int), vs = [.ref s, .ref t, .ref lw] ∧ DAt H s d ∧ okD A.length d ∧ Wat H t A W ∧ CsAt H lw ws ∧ A.length ≤ 20 ∧ OkV A.length ws ∧ OkW 4000 A W ∧ Evl.RetV (.bl (endB ws A d)) H Q
theorem dat_unless {H : Hp} {a : Addr} {d : Deed} (h : DAt H a d) : (∃ k m, d = .un k m) ∨ ∃ (x : Str) (r : List V), H a = some (.tup (.str x :: r)) ∧ decide (V.str x = V.str "unless") = false := by
  cases d with
  | op ks =>
    obtain ⟨l, h1, _⟩ := h
    exact .inr ⟨_, _, h1, by decide⟩
  | po k x => exact .inr ⟨_, _, h, by decide⟩
  | sc k p q =>
    obtain ⟨l, h1, _⟩ := h
    exact .inr ⟨_, _, h1, by decide⟩
  | mv k m p q =>
    obtain ⟨l, h1, _⟩ := h
    exact .inr ⟨_, _, h1, by decide⟩
  | un k m => exact .inl ⟨k, m, rfl⟩
section
variable {base : Heap} {mg : Str → Option Value} {K : PySem.W.Frag} {w : World} {P : Program}
theorem ok_number_of {f : Addr} {fd : FuncData} (F : Fun K "number_of" "number_of" s_number_of f fd) : FnOk P w K mg base CX0 1 f fd p_number_of spNum := by
  refine F.ok sc_number_of (fun vs H Q E h => ?_) (fun cdv A outer s H vs Q E hr h => ?_)
  · obtain ⟨a, x, y, f, rfl, _⟩ := h
    rfl
  · obtain ⟨a, x, y, f, rfl, ha, hx, hy, k⟩ := h
    have nd := sc_number_of.nd
    have two : 2 ≤ sizeLine := by show 2 ≤ sizeLine; decide
    refine ⟨_, pss_cons (ps_asg (pv 0) (pg_tup rfl (pgs_cons (pg_name (i := 1) nd rfl (Or.inl rfl)) (pgs_cons (pg_name (i := 2) nd rfl (Or.inl rfl)) pgs_nil))))
      (pss_one (ps_ret (pe_tup (pa_cons (pe_ifExp (pt_truth (pv 1) (by intro _; rfl)) (pe_ix ix_list (pv 1) pe_int (fun _ _ => rfl)) pe_int) (pa_cons (pe_ix ix_list (pv 2) pe_int (fun _ _ => rfl)) pa_nil))))), ?_⟩
    refine ⟨_, rfl, a, _, rfl, SqT.of ha, rfl, _, _, rfl, _, _, rfl, rfl, ?_⟩
    refine ⟨_, rfl, _, tru_list hx, ?_⟩
    have fin : ∀ r, H r = none → Q (.ref r) (upd H r (.tup [.int f.1, .int f.2])) := fun r hr5 => k r _ hr5 (Evl.Ex.new hr5) upd_same
    by_cases h0 : f.1 = 0
    · refine if_f (by rw [h0]; rfl) ?_
      rw [h0] at fin
      exact ⟨_, rfl, y, _, _, _, rfl, rfl, SqL.of hy, rfl, two, fun r hr5 => fin r hr5⟩
    · rw [cp_n h0] at hx
      refine if_t (by rw [cp_n h0]; rfl) ?_
      exact ⟨_, rfl, x, _, _, _, rfl, rfl, SqL.of hx, rfl, _, rfl, y, _, _, _, rfl, rfl, SqL.of hy, rfl, two, fun r hr5 => fin r hr5⟩
theorem ok_told_levels {f : Addr} {fd : FuncData} (F : Fun K "told_levels" "told_levels" s_told_levels f fd) (cN : Cal P w K mg base 1 "number_of" p_number_of spNum) (cL : Cal P w K mg base 6 "levels" p_levels spLev) : FnOk P w K mg base CX0 7 f fd p_told_levels spTL := by
  refine F.ok sc_told_levels (fun vs H Q E h => ?_) (fun cdv A outer s H vs Q E hr h => ?_)
  · obtain ⟨t, lw, g, A, ws, W, u, b, N, rfl, _⟩ := h
    rfl
  · obtain ⟨t, lw, g, Am, ws, W, u, b, N, rfl, hWt, hw, hg, h20, hV, hOk, hN, b0, bb, k⟩ := h
    have nd := sc_told_levels.nd
    have r1 : Room 1 _ := hr.mono (by decide)
    refine ⟨_, pss_one (ps_ret (pe_lc (own := [("form", 3)]) (g := gName 3) (tt := tYes) (te := tCall spNum [] E0 (tCons (tVar 3) tNil)) rfl nd (pi_list (pe_c cL hr (pa_cons (pv 0) (pa_cons (pv 1) (pa_cons (pe_ix ix_tup (pv 2) pe_int (fun _ _ => rfl)) pa_nil))))) (blkOk_by (N := n_told_levels) (sc := defScope s_told_levels) (by decide +kernel))
          (fun _ _ _ _ _ => pg_name (i := 3) nd rfl (Or.inl rfl)) (fun _ _ _ _ _ => pts_nil)
          (fun _ _ _ _ _ => pe_c cN r1 (pa_cons (pv 3) pa_nil)))), ?_⟩
    refine ⟨_, rfl, _, rfl, _, rfl, g, _, _, _, rfl, rfl, SqT.of hg, rfl, t, lw, _, ws, _, b, N, rfl, hWt, hw, h20, hV, hOk, hN, b0, bb, fun D H4 hDn e4 hF => ?_⟩
    have fl : ((List.range Am.length).map (lvl Am ws W b)).length ≤ 20 := by
      rw [List.length_map, List.length_range]
      exact h20
    generalize (List.range Am.length).map (lvl Am ws W b) = fs at hF fl k
    obtain ⟨as, hDl, hlen, hat⟩ := hF
    refine ⟨D, rfl, ⟨_, SqL.of hDl⟩, fun D2 hD2 => lc_list (xs := as.map V.ref) (fun i H' => Evl.Ex H4 H' ∧ ∃ rs : List Addr, H' D2 = some (.lst (rs.map V.ref)) ∧ rs.length = i ∧ ∀ (j : Nat) (a : Addr) (f : Int × Int), rs[j]? = some a → fs[j]? = some f → a ≠ D2 ∧ Fr H' a f.1 f.2) ⟨Evl.Ex.new hD2, [], upd_same, rfl, fun j a f h => (by cases h)⟩ (fun i H' _ q => SqL.of (q.1 _ _ hDl)) ?_ ?_⟩
    · rintro i v H5 hi ⟨e5, rs, hrs, hrl, hra⟩
      rw [List.getElem?_map] at hi
      obtain ⟨a, ha, rfl⟩ : ∃ a, as[i]? = some a ∧ v = .ref a := by
        cases e : as[i]? with
        | none =>
          rw [e] at hi
          cases hi
        | some a =>
          rw [e] at hi
          exact ⟨a, rfl, (Option.some.inj hi).symm⟩
      have hif : i < fs.length := by
        have := (List.getElem?_eq_some_iff.mp ha).1
        omega
      have hf : fs[i]? = some fs[i] := List.getElem?_eq_getElem hif
      obtain ⟨p, q, h1, h2, h3⟩ := hat i a _ ha hf
      generalize fs[i] = fi at hf h2 h3
      refine ⟨rfl, ?_⟩
      unfold tYes
      refine if_t rfl ?_
      show tCall spNum [] E0 (tCons (tVar 3) tNil) _ _ _
      refine ⟨_, rfl, a, p, q, fi, rfl, e5 _ _ h1, e5 _ _ h2, e5 _ _ h3, fun r H6 hr5 e6 hr6 => ?_⟩
      have rD : r ≠ D2 := (ne_of_none hrs hr5).symm
      refine ⟨_, e6 _ _ hrs, ?_, Evl.Ex.mut (e5.trans e6) hD2, rs ++ [r], ?_, ?_, fun j a' f h7 h8 => ?_⟩
      · rw [List.length_map, hrl]
        exact Nat.lt_of_le_of_lt (show i ≤ 20 by omega) (by decide)
      · rw [upd_same, List.map_append]
        rfl
      · rw [List.length_append, hrl]
        rfl
      · rcases get_app h7 with ⟨h9, _⟩ | ⟨h9, rfl⟩
        · obtain ⟨n1, n2⟩ := hra j a' f h9 h8
          exact ⟨n1, Eq.trans (upd_ne n1) (e6 _ _ n2)⟩
        · rw [h9, hrl, hf] at h8
          cases h8
          exact ⟨rD, Eq.trans (upd_ne rD) hr6⟩
    · rintro H5 ⟨e5, rs, hrs, hrl, hra⟩
      rw [List.length_map, hlen] at hrl
      refine k D2 _ ?_ (e4.trans e5) ⟨rs, hrs, hrl, fun i a f h1 h2 => (hra i a f h1 h2).2⟩
      cases e : H D2 with
      | none => rfl
      | some o =>
        have h1 := e4 _ _ e
        rw [hD2] at h1
        cases h1
theorem ok_neg1 {f : Addr} {fd : FuncData} (F : Fun K "negated" "negated" s_negated f fd) : FnOk P w K mg base CX0 1 f fd p_negated spNeg1 := by
  refine F.ok sc_negated (fun vs H Q E h => ?_) (fun cdv A outer s H vs Q E hr h => ?_)
  · obtain ⟨a, x, rfl, _⟩ := h
    rfl
  · obtain ⟨a, x, rfl, hL, k⟩ := h
    have nd := sc_negated.nd
    refine ⟨_, pss_one (ps_ret (pe_lc (own := [("number", 1)]) (g := (gName 1)) (tt := tYes) (te := (tUn (rU fun i => .int (-i)) (tVar 1))) rfl nd (pi_list (pv 0)) (blkOk_by (N := n_negated) (sc := defScope s_negated) (by decide +kernel)) (fun _ _ _ _ _ => (pg_name (i := 1) nd rfl (Or.inl rfl))) (fun _ _ _ _ _ => pts_nil) (fun _ _ _ _ _ => (pe_un un_neg (pv 1))))), ?_⟩
    refine ⟨_, rfl, a, rfl, ⟨_, hL.sq⟩, fun D hD => lc_list (xs := iV (cp x)) (fun i H' => Evl.Ex H H' ∧ H' D = some (.lst (iV (((cp x).map fun n => -n).take i)))) ⟨Evl.Ex.new hD, upd_same⟩ (fun i H' _ q => SqL.of (q.1 _ _ hL)) ?_ ?_⟩
    · rintro i v H' hi ⟨e1, h1⟩
      obtain ⟨n, hn, rfl⟩ := iV_get hi
      have hlt : i < (cp x).length := (List.getElem?_eq_some_iff.mp hn).1
      have hl := (cp_pw x).2
      refine ⟨rfl, ?_⟩
      show tUn (rU fun i => .int (-i)) (tVar 1) _ _ _
      refine ⟨_, rfl, n, rfl, _, h1, ?_, Evl.Ex.mut e1 hD, ?_⟩
      · rw [iV_len, List.length_take, List.length_map]
        exact Nat.lt_of_le_of_lt (show min i (cp x).length ≤ 100 by omega) (by decide)
      · rw [upd_same, take_next (n := -n) (by rw [List.getElem?_map, hn]; rfl)]
    · rintro H' ⟨e1, h1⟩
      rw [iV_len, ← List.length_map (as := cp x) (f := fun n => -n), List.take_length] at h1
      refine k D H' hD e1 (h1.trans ?_)
      congr 2
      unfold cp
      by_cases c : x = 0
      · subst c
        rfl
      · rw [if_neg c, if_neg (by omega)]
        rfl
theorem ok_sc1 {f : Addr} {fd : FuncData} (F : Fun K "scaled_value" "scaled_value" s_scaled_value f fd) (T : T2 mg) : FnOk P w K mg base CX0 1 f fd p_scaled_value spSc1 := by
  refine F.ok sc_scaled_value (fun vs H Q E h => ?_) (fun cdv A outer s H vs Q E hr h => ?_)
  · obtain ⟨a, b, x, rfl, _⟩ := h
    rfl
  · obtain ⟨a, b, x, rfl, ha, hb, hx, k⟩ := h
    have nd := sc_scaled_value.nd
    have two : 2 ≤ sizeLine := by show 2 ≤ sizeLine; decide
    refine ⟨_, pss_cons (ps_asg (pv 1) (pg_tup rfl (pgs_cons (pg_name (i := 2) nd rfl (Or.inl rfl)) (pgs_cons (pg_name (i := 3) nd rfl (Or.inl rfl)) pgs_nil))))
      (pss_cons (ps_asg (pe_tup (pa_cons pe_int (pa_cons pe_int pa_nil))) (pg_tup rfl (pgs_cons (pg_name (i := 4) nd rfl (Or.inl rfl)) (pgs_cons (pg_name (i := 5) nd rfl (Or.inl rfl)) pgs_nil))))
      (pss_cons (ps_for PassesOwn.never rfl (pi_enum (by rfl) T.enu (pa_cons (pe_revL (pv 0)) pa_nil)) (pg_tup rfl (pgs_cons (pg_name (i := 6) nd rfl (Or.inl rfl)) (pgs_cons (pg_name (i := 7) nd rfl (Or.inl rfl)) pgs_nil))) (pss_cons (ps_if (pt_cmpR op_gt (pv 6) pe_int (nomark _)) (pss_one (ps_set (i := 5) nd rfl (Or.inl rfl) (pe_op op_mulW (pv 5) (pv 3)))) pss_nil)
      (pss_one (ps_set (i := 4) nd rfl (Or.inl rfl) (pe_op op_add (pe_op op_mulW (pv 4) (pv 2)) (pe_op op_mulW (pv 7) (pv 5)))))))
      (pss_one (ps_ret (pe_tup (pa_cons (pv 4) (pa_cons (pv 5) pa_nil))))))), ?_⟩
    refine ⟨_, rfl, b, _, rfl, SqT.of hb, rfl, _, _, rfl, _, _, rfl, rfl, ?_⟩
    refine ⟨two, fun c hc => ?_⟩
    have e0 : Evl.Ex H (upd H c (.tup [.int 0, .int 1])) := Evl.Ex.new hc
    refine ⟨c, _, rfl, SqT.of upd_same, rfl, _, _, rfl, _, _, rfl, rfl, ?_⟩
    refine ⟨_, rfl, a, _, rfl, SqL.of (e0 _ _ ha), fun l hl => ⟨l, _, rfl, SqL.of upd_same, ?_⟩⟩
    have e1 := e0.trans (Evl.Ex.new (o := .lst (iV (cp x)).reverse) hl)
    have hl1 : upd (upd H c (.tup [.int 0, .int 1])) l (.lst (iV (cp x)).reverse) l = some (.lst (iV (cp x)).reverse) := upd_same
    have erev : (iV (cp x)).reverse = iV (cp x) := by
      unfold cp
      split <;> rfl
    rw [erev] at e1 hl1 ⊢
    generalize upd (upd H c (.tup [.int 0, .int 1])) l (.lst (iV (cp x))) = H1 at e1 hl1
    refine for_it walk_enum (fun i σ H' => ∃ v6 v7, σ = [some (.ref a), some (.ref b), some (.int 1), some (.int 1), some (.int (if i = 0 then 0 else x)), some (.int 1), v6, v7] ∧ Evl.Ex H1 H')
      ⟨none, none, rfl, Evl.Ex.refl _⟩ (fun i σ H' _ ⟨_, _, _, q⟩ => SqL.of (q _ _ hl1)) ?_ ?_
    · rintro i v σ H' H2 hi ⟨v6, v7, rfl, e2⟩ ⟨T, z, y, rfl, hT2, rfl, hz, hy⟩
      obtain rfl := (Option.some.inj hz).symm
      obtain ⟨n, hn, rfl⟩ := iV_get hy
      have e3 := e2.trans (Evl.Ex.new (o := .tup [.int (i : Nat), .int n]) hT2)
      obtain ⟨i0, n0⟩ : i = 0 ∧ n = x := by
        unfold cp at hn
        split at hn
        · cases hn
        · match i, hn with
          | 0, hn => cases hn; exact ⟨rfl, rfl⟩
      subst i0
      subst n0
      refine ⟨T, _, rfl, SqT.of upd_same, rfl, _, _, rfl, _, _, rfl, rfl, ?_⟩
      refine ⟨_, rfl, _, _, rfl, rfl, _, rfl, if_f (by decide) ?_⟩
      refine ⟨_, rfl, _, rfl, _, _, rfl, rfl, wide_mul (a := 1) (b := 2) (i := 0) (by decide) (by decide) (by decide) (by decide) (by decide), _, rfl, _, rfl, n, 1, rfl, rfl, wide_mul (a := 9000) (b := 2) hx (by decide) (by decide) (by decide) (by decide), _, _, rfl, rfl, ?_⟩
      refine ⟨some (.int ((0 : Nat) : Int)), some (.int n), ?_, e3⟩
      have ez : (if (0 : Nat) = 0 then (0 : Int) else n) * 1 + n * 1 = n := by rw [if_pos rfl]; omega
      show [some (V.ref a), some (V.ref b), some (V.int 1), some (V.int 1), some (V.int ((if (0 : Nat) = 0 then (0 : Int) else n) * 1 + n * 1)), some (V.int 1), some (V.int ((0 : Nat) : Int)), some (V.int n)] = _
      rw [ez]
      rfl
    · rintro σ H' ⟨v6, v7, rfl, e2⟩
      refine ⟨_, rfl, _, rfl, two, fun t ht => ?_⟩
      have ex : (if (iV (cp x)).length = 0 then 0 else x) = x := by
        rw [iV_len]
        unfold cp
        by_cases c : x = 0
        · subst c
          rfl
        · rw [if_neg c]
          rfl
      rw [ex]
      exact k t _ (Evl.fresh_back (e1.trans e2) ht) ((e1.trans e2).trans (Evl.Ex.new ht)) upd_same
theorem ok_sg1 {f : Addr} {fd : FuncData} (F : Fun K "sign_at_fraction" "sign_at_fraction" s_sign_at_fraction f fd) (cS : Cal P w K mg base 1 "sign_of" p_sign_of spSgn) (cV : Cal P w K mg base 1 "scaled_value" p_scaled_value spSc1) : FnOk P w K mg base CX0 2 f fd p_sign_at_fraction spSg1 := by
  refine F.ok sc_sign_at_fraction (fun vs H Q E h => ?_) (fun cdv A outer s H vs Q E hr h => ?_)
  · obtain ⟨a, b, x, rfl, _⟩ := h
    rfl
  · obtain ⟨a, b, x, rfl, ha, hb, hx, k⟩ := h
    refine ⟨_, pss_one (ps_ret (pe_c cS hr (pa_cons (pe_ix ix_tup (pe_c cV hr (pa_cons (pv 0) (pa_cons (pv 1) pa_nil))) pe_int (fun _ _ => rfl)) pa_nil))), ?_⟩
    exact ⟨_, rfl, _, rfl, a, b, x, rfl, ha, hb, hx, fun t H1 ht e1 h1 => ⟨t, _, _, _, rfl, rfl, SqT.of h1, rfl, x, rfl, fun H2 e2 => k _ (e1.trans e2)⟩⟩
theorem ok_lead {f : Addr} {fd : FuncData} (F : Fun K "lead" "lead" s_lead f fd) (cA : Cal P w K mg base 2 "added" p_added spAc) (cM : Cal P w K mg base 1 "multiplied" p_multiplied spMc) (cN : Cal P w K mg base 1 "negated" p_negated spNeg1) (cR : Cal P w K mg base 5 "reduced" p_reduced spRed1) : FnOk P w K mg base CX0 6 f fd p_lead spLead := by
  refine F.ok sc_lead (fun vs H Q E h => ?_) (fun cdv A outer s H vs Q E hr h => ?_)
  · obtain ⟨a1, w1, a2, w2, l, x1, y1, x2, y2, W, rfl, _⟩ := h
    rfl
  · obtain ⟨a1, w1, a2, w2, l, x1, y1, x2, y2, W, rfl, h1, h2, h3, h4, h5, bx1, bx2, by1, by2, bW, p1, p2, pW, k⟩ := h
    have nd := sc_lead.nd
    have r1 : Room 1 _ := hr.mono (by decide)
    have r2 : Room 2 _ := hr.mono (by decide)
    refine ⟨_, pss_cons (ps_set (i := 5) nd rfl (Or.inl rfl) (pe_c cA r2 (pa_cons (pe_c cM r1 (pa_cons (pv 0) (pa_cons (pv 3) pa_nil))) (pa_cons (pe_c cN r1 (pa_cons (pe_c cM r1 (pa_cons (pv 2) (pa_cons (pv 1) pa_nil))) pa_nil)) pa_nil))))
      (pss_one (ps_ret (pe_ix ix_tup (pe_c cR hr (pa_cons (pv 5) (pa_cons (pe_c cM r1 (pa_cons (pv 4) (pa_cons (pe_c cM r1 (pa_cons (pv 1) (pa_cons (pv 3) pa_nil))) pa_nil))) pa_nil))) pe_int (fun _ _ => rfl)))), ?_⟩
    have hp := Int.mul_pos pW (Int.mul_pos p1 p2)
    refine ⟨_, rfl, _, rfl, a1, w2, x1, y2, rfl, h1, h4, bx1.le (by decide), by2.le (by decide), fun r1 H1 hr1 e1 hL1 => ?_⟩
    refine ⟨_, rfl, _, rfl, a2, w1, x2, y1, rfl, e1 _ _ h3, e1 _ _ h2, bx2.le (by decide), by1.le (by decide), fun r2 H2 hr2 e2 hL2 => ⟨r2, _, rfl, hL2, fun r3 H3 hr3 e3 hL3 => ⟨r1, r3, x1 * y2, -(x2 * y1), rfl, (e2.trans e3) _ _ hL1, hL3, fun r4 H4 hr4 e4 hL4 => ?_⟩⟩⟩
    have e14 := ((e1.trans e2).trans e3).trans e4
    refine ⟨_, rfl, _, rfl, _, rfl, _, rfl, w1, w2, y1, y2, rfl, e14 _ _ h2, e14 _ _ h4, by1.le (by decide), by2.le (by decide), fun r5 H5 hr5 e5 hL5 => ⟨l, r5, W, y1 * y2, rfl, (e14.trans e5) _ _ h5, hL5, bW.le (by decide), (by1.mul by2).le (by decide), fun r6 H6 hr6 e6 hL6 => ?_⟩⟩
    have bT : Bn 4200 (x1 * y2 + -(x2 * y1)) := by
      have c1 : Bn 4160 (x1 * y2) := bx1.mul by2
      have c2 : Bn 4160 (-(x2 * y1)) := by
        have h : (x2 * y1).natAbs < 2 ^ 4160 := bx2.mul by1
        show (-(x2 * y1)).natAbs < 2 ^ 4160
        rw [Int.natAbs_neg]
        exact h
      exact (c1.add c2).le (by decide)
    have bM : Bn 4220 (W * (y1 * y2)) := (bW.mul (by1.mul by2)).le (by decide)
    have hL6 : Li H6 r6 (cp (W * (y1 * y2))) := hL6
    rw [cp_n (Int.ne_of_gt hp)] at hL6
    refine ⟨r4, r6, x1 * y2 + -(x2 * y1), W * (y1 * y2), rfl, (e5.trans e6) _ _ hL4, hL6, hp, bT.le (by decide), bM.le (by decide), fun q x y H7 hx hy e7 hq hLx hLy => ?_⟩
    refine ⟨q, _, _, _, rfl, rfl, SqT.of hq, rfl, k x _ H7 ((e14.trans e5).trans (e6.trans e7)) hLx ?_ ?_⟩
    · exact (show Bn 4200 _ from Nat.lt_of_le_of_lt (fr_abs1 hp) bT).le (by decide)
    · obtain ⟨m1, m2⟩ := fr_mul (u := x1 * y2 + -(x2 * y1)) hp
      have g := gcd_pos (u := x1 * y2 + -(x2 * y1)) hp
      constructor
      · intro z
        have := Int.mul_pos z g
        omega
      · intro z
        refine Int.not_le.mp fun q => ?_
        have := Int.mul_le_mul_of_nonneg_right q (Int.le_of_lt g)
        omega
theorem ok_ahead {f : Addr} {fd : FuncData} (F : Fun K "ahead" "ahead" s_ahead f fd) (cL : Cal P w K mg base 6 "lead" p_lead spLead) : FnOk P w K mg base CX0 7 f fd p_ahead spAhead := by
  refine F.ok sc_ahead (fun vs H Q E h => ?_) (fun cdv A outer s H vs Q E hr h => ?_)
  · obtain ⟨s, t, lw, j, m, A, ws, W, rfl, _⟩ := h
    rfl
  · obtain ⟨sp, t, lw, j', m', Am, ws, W, rfl, hs, ⟨j0, j1⟩, ⟨m0, m1⟩, ⟨⟨la, lo, ht, hA, hW⟩, W0⟩, hw, h20, hV, hO, k⟩ := h
    have nd := sc_ahead.nd
    obtain ⟨j, rfl⟩ : ∃ j : Nat, j' = (j : Int) := ⟨j'.toNat, by omega⟩
    obtain ⟨m, rfl⟩ : ∃ j : Nat, m' = (j : Int) := ⟨m'.toNat, by omega⟩
    rw [Int.toNat_natCast, Int.toNat_natCast] at k
    refine ⟨_, pss_cons (ps_asg (pv 1) (pg_tup rfl (pgs_cons (pg_name (i := 3) nd rfl (Or.inl rfl)) (pgs_cons (pg_name (i := 4) nd rfl (Or.inl rfl)) pgs_nil))))
      (pss_cons (ps_asg (pv 0) (pg_tup rfl (pgs_cons (pg_name (i := 5) nd rfl (Or.inl rfl)) (pgs_cons (pg_name (i := 6) nd rfl (Or.inl rfl)) (pgs_cons (pg_name (i := 7) nd rfl (Or.inl rfl)) pgs_nil)))))
      (pss_one (ps_ret (pe_c cL hr (pa_cons (pe_ix ix_list (pv 3) (pv 6) (fun _ _ => rfl)) (pa_cons (pe_ix ix_list (pv 2) (pv 6) (fun _ _ => rfl)) (pa_cons (pe_ix ix_list (pv 3) (pv 7) (fun _ _ => rfl)) (pa_cons (pe_ix ix_list (pv 2) (pv 7) (fun _ _ => rfl)) (pa_cons (pv 4) pa_nil))))))))), ?_⟩
    obtain ⟨xs, hxs, hxl, hxi⟩ := cs_items hA
    obtain ⟨ys, hys, hyl, hyi⟩ := cs_items hw
    have gx : ∀ i : Nat, i < Am.length → ∃ a, xs[i]? = some (.ref a) ∧ Li H a (cp (Am.getD i 0)) := fun i hi => by
      obtain ⟨a, e, _, hL⟩ := hxi i _ (List.getElem?_eq_getElem (show i < xs.length by omega))
      exact ⟨a, by rw [← e]; exact List.getElem?_eq_getElem _, hL⟩
    have gy : ∀ i : Nat, i < Am.length → ∃ a, ys[i]? = some (.ref a) ∧ Li H a (cp (ws.getD i 0)) := fun i hi => by
      obtain ⟨a, e, _, hL⟩ := hyi i _ (List.getElem?_eq_getElem (show i < ys.length by rw [hyl, hV.len]; exact hi))
      exact ⟨a, by rw [← e]; exact List.getElem?_eq_getElem _, hL⟩
    obtain ⟨a1, ha1, hL1⟩ := gx j (by omega)
    obtain ⟨a2, ha2, hL2⟩ := gx m (by omega)
    obtain ⟨b1, hb1, hM1⟩ := gy j (by omega)
    obtain ⟨b2, hb2, hM2⟩ := gy m (by omega)
    have mA : ∀ i : Nat, i < Am.length → Am.getD i 0 ∈ Am := fun i hi => getD_mem' hi
    have mW : ∀ i : Nat, i < Am.length → ws.getD i 0 ∈ ws := fun i hi => getD_mem' (by rw [hV.len]; exact hi)
    refine ⟨_, rfl, t, _, rfl, SqT.of ht, rfl, _, _, rfl, _, _, rfl, rfl, ?_⟩
    refine ⟨_, rfl, sp, _, rfl, SqT.of hs, rfl, _, _, rfl, _, _, rfl, _, _, rfl, rfl, ?_⟩
    refine ⟨_, rfl, _, rfl, la, _, _, _, rfl, rfl, SqL.of hxs, atI_nat ha1, _, rfl, _, rfl, lw, _, _, _, rfl, rfl, SqL.of hys, atI_nat hb1, _, rfl, _, rfl, la, _, _, _, rfl, rfl, SqL.of hxs, atI_nat ha2, _, rfl, _, rfl, lw, _, _, _, rfl, rfl, SqL.of hys, atI_nat hb2, _, rfl, ?_⟩
    refine ⟨a1, b1, a2, b2, lo, Am.getD j 0, ws.getD j 0, Am.getD m 0, ws.getD m 0, W, rfl, hL1, hM1, hL2, hM2, ?_, (hO.bA _ (mA j (by omega))).le (by decide), (hO.bA _ (mA m (by omega))).le (by decide), hV.bit _ (mW j (by omega)), hV.bit _ (mW m (by omega)), hO.bW.le (by decide), hV.pos _ (mW j (by omega)), hV.pos _ (mW m (by omega)), hO.pos, k⟩
    rw [cp_n (Int.ne_of_gt W0)]
    exact hW
theorem ok_is_ended {f : Addr} {fd : FuncData} (F : Fun K "is_ended" "is_ended" s_is_ended f fd) (cS : Cal P w K mg base 2 "sign_at_fraction" p_sign_at_fraction spSg1) (cA : Cal P w K mg base 7 "ahead" p_ahead spAhead) : FnOk P w K mg base CX0 8 f fd p_is_ended spEnd := by
  refine F.ok sc_is_ended (fun vs H Q E h => ?_) (fun cdv A outer s H vs Q E hr h => ?_)
  · obtain ⟨a, t, lw, d, A, ws, W, rfl, _⟩ := h
    rfl
  · obtain ⟨a, t, lw, d, Am, ws, W, rfl, hd, hok, hWt, hw, h20, hV, hO, k⟩ := h
    have r2 : Room 2 _ := hr.mono (by decide)
    have two : 2 ≤ sizeLine := by show 2 ≤ sizeLine; decide
    refine ⟨_, pss_one (ps_ret (pe_and (pe_cmpR op_eq (pe_ix ix_tup (pv 0) pe_int (fun _ _ => rfl)) pe_str (nomark _)) (pe_one (pe_cmpR op_gt (pe_c cS r2 (pa_cons (pe_c cA hr (pa_cons (pv 0) (pa_cons (pv 1) (pa_cons (pv 2) pa_nil)))) (pa_cons (pe_tup (pa_cons pe_int (pa_cons pe_int pa_nil))) pa_nil))) pe_int (nomark _))))), ?_⟩
    rcases dat_unless hd with ⟨j, m, rfl⟩ | ⟨wd, rs, hwd, hne⟩
    · have hd : H a = some (.tup [.str "unless", .int j, .int m]) := hd
      refine ⟨_, rfl, a, _, _, _, rfl, rfl, SqT.of hd, rfl, rfl, _, rfl, if_t (by decide) ?_⟩
      refine ⟨_, rfl, _, rfl, _, rfl, a, t, lw, j, m, Am, ws, W, rfl, hd, hok.1, hok.2.1, hWt, hw, h20, hV, hO, fun p z H1 e1 hp hz hiff => ⟨two, fun q hq => ?_⟩⟩
      have e2 := Evl.Ex.new (o := .tup [.int 1, .int 1]) hq
      refine ⟨p, q, z, rfl, e2 _ _ hp, upd_same, hz, fun H2 e3 => ⟨_, _, rfl, rfl, ?_⟩⟩
      have ee : decide (0 < sgn z) = endB ws Am (.un j m) := by
        unfold endB
        refine decide_eq_decide.mpr (Iff.trans ?_ hiff)
        unfold sgn
        constructor
        · intro h
          split at h
          · exact absurd h (by decide)
          · split at h
            · assumption
            · exact absurd h (by decide)
        · intro h
          rw [if_neg (by omega), if_pos h]
          decide
      have kk := k _ ((e1.trans e2).trans e3)
      rw [← ee] at kk
      exact kk
    · have ee : endB ws Am d = false := by
        cases d with
        | un j m =>
          have hd : H a = some (.tup [.str "unless", .int j, .int m]) := hd
          rw [hd] at hwd
          cases hwd
          exact absurd hne (by decide)
        | _ => rfl
      rw [ee] at k
      exact ⟨_, rfl, a, _, _, _, rfl, rfl, SqT.of hwd, (by exact atI_nat (j := 0) rfl), rfl, _, rfl, if_f hne (k _ (Evl.Ex.refl _))⟩
end
end V2


namespace V2
open PySem L2
open PySem.Spec PyProof.Rows
/-- all but what stands at ps -/
def woL (ps : List Addr) (H : Hp) : Hp := fun b => if b ∈ ps then none else H b
theorem woL_ex {ps : List Addr} {H : Hp} : Evl.Ex (woL ps H) H := fun b o h => by
  unfold woL at h
  split at h
  · cases h
  · exact h
theorem woL_at {ps : List Addr} {b : Addr} {H : Hp} {o : HO} (n : b ∉ ps) (h : H b = some o) : woL ps H b = some o := by
  unfold woL
  rw [if_neg n]
  exact h
theorem woL_ne {ps : List Addr} {b : Addr} {H : Hp} {o : HO} (h : woL ps H b = some o) : b ∉ ps := fun z => by
  unfold woL at h
  rw [if_pos z] at h
  cases h
def ButL (ps : List Addr) (H H' : Hp) : Prop := ∀ b o, b ∉ ps → H b = some o → H' b = some o
theorem ButL.wo {ps qs : List Addr} {H H' : Hp} (h : ButL ps H H') (s : ∀ p ∈ ps, p ∈ qs) : Evl.Ex (woL qs H) (woL qs H') := fun b o z => woL_at (woL_ne z) (h b o (fun q => woL_ne z (s b q)) (woL_ex _ _ z))
theorem ButL.trans {ps : List Addr} {H H1 H2 : Hp} (a : ButL ps H H1) (b : ButL ps H1 H2) : ButL ps H H2 := fun c o n h => b c o n (a c o n h)
theorem ButL.of_ex {ps : List Addr} {H H' : Hp} (e : Evl.Ex H H') : ButL ps H H' := fun b o _ h => e b o h
theorem ButL.of_but {ps : List Addr} {p : Addr} {H H' : Hp} (h : But p H H') (m : p ∈ ps) : ButL ps H H' := fun b o n z => h b o (fun q => n (q ▸ m)) z
theorem ButL.mono {ps qs : List Addr} {H H' : Hp} (h : ButL ps H H') (s : ∀ p ∈ ps, p ∈ qs) : ButL qs H H' := fun b o n z => h b o (fun q => n (s b q)) z
/-- objects that are no part of water, widths or told widths -/
def Odd (H : Hp) (p : Addr) : Prop := (∃ ns : List Int, 2 ≤ ns.length ∧ H p = some (.lst (iV ns))) ∨ (∃ C dx fs, H p = some (.ins C dx fs)) ∨ ∃ ys c zs, H p = some (.lst (ys ++ [.ref c])) ∧ H c = some (.tup zs)
theorem Odd.get {H : Hp} {p : Addr} (k : Odd H p) : ∃ o, H p = some o := by
  rcases k with ⟨ns, n2, k⟩ | ⟨C, dx, fs, k⟩ | ⟨ys, c, zs, k, _⟩
  · exact ⟨_, k⟩
  · exact ⟨_, k⟩
  · exact ⟨_, k⟩
theorem Odd.ex {H H' : Hp} {p : Addr} (k : Odd H p) (e : Evl.Ex H H') : Odd H' p := by
  rcases k with ⟨ns, n2, k⟩ | ⟨C, dx, fs, k⟩ | ⟨ys, c, zs, k, k2⟩
  · exact .inl ⟨ns, n2, e _ _ k⟩
  · exact .inr (.inl ⟨_, _, _, e _ _ k⟩)
  · exact .inr (.inr ⟨_, _, _, e _ _ k, e _ _ k2⟩)
theorem Odd.but {H H' : Hp} {p x C dx : Addr} {fs : List (Str × V)} (k : Odd H p) (hx : H x = some (.ins C dx fs)) (b : But x H H') (n : p ≠ x) : Odd H' p := by
  rcases k with ⟨ns, n2, k⟩ | ⟨C, dx, fs, k⟩ | ⟨ys, c, zs, k, k2⟩
  · exact .inl ⟨ns, n2, b _ _ n k⟩
  · exact .inr (.inl ⟨_, _, _, b _ _ n k⟩)
  · exact .inr (.inr ⟨_, _, _, b _ _ n k, b _ _ (fun z => by rw [z, hx] at k2; cases k2) k2⟩)
theorem Odd.tup {H : Hp} {p q : Addr} {xs : List V} (k : Odd H p) (h : H q = some (.tup xs)) : q ≠ p := fun z => by
  rcases k with ⟨ns', n2, k⟩ | ⟨C, dx, fs, k⟩ | ⟨ys, c, zs, k, _⟩
  · rw [z, k] at h; cases h
  · rw [z, k] at h; cases h
  · rw [z, k] at h; cases h
theorem Odd.ints {H : Hp} {p q : Addr} {ns : List Int} (k : Odd H p) (h : Li H q ns) (l : ns.length ≤ 1) : q ≠ p := fun z => by
  have h : H q = some (.lst (iV ns)) := h
  rcases k with ⟨ns', n2, k⟩ | ⟨C, dx, fs, k⟩ | ⟨ys, c, zs, k, _⟩
  · rw [z, k] at h
    injection h with h
    injection h with h
    have := congrArg List.length h
    rw [iV_len, iV_len] at this
    omega
  · rw [z, k] at h; cases h
  · rw [z, k] at h
    injection h with h
    injection h with h
    have m : V.ref c ∈ iV ns := h ▸ List.mem_append_right _ (List.mem_singleton.mpr rfl)
    unfold iV at m
    obtain ⟨n, _, e⟩ := List.mem_map.mp m
    cases e
theorem Odd.cs {H : Hp} {p l : Addr} {ns : List Int} (k : Odd H p) (h : CsAt H l ns) : l ≠ p := fun z => by
  obtain ⟨as, h1, h2, h3⟩ := h
  rcases k with ⟨ns', n2, k⟩ | ⟨C, dx, fs, k⟩ | ⟨ys, c, zs, k, k2⟩
  · rw [z, k] at h1
    injection h1 with h1
    injection h1 with h1
    cases ns' with
    | nil => exact absurd n2 (by decide)
    | cons n r =>
      cases as with
      | nil => cases h1
      | cons x r => cases h1
  · rw [z, k] at h1; cases h1
  · rw [z, k] at h1
    injection h1 with h1
    injection h1 with h1
    have e : as.length = ys.length + 1 := by
      have := congrArg List.length h1
      rw [List.length_append, List.length_map] at this
      exact this.symm
    have ha : as[ys.length]? = some c := by
      have q : (as.map V.ref)[ys.length]? = some (.ref c) := by
        rw [← h1, List.getElem?_append_right (Nat.le_refl _), Nat.sub_self]
        rfl
      rw [List.getElem?_map] at q
      cases e2 : as[ys.length]? with
      | none =>
        rw [e2] at q
        cases q
      | some a =>
        rw [e2] at q
        injection q with q
        injection q with q
        rw [q]
    have hl : ys.length < ns.length := by omega
    have := h3 ys.length c _ ha (List.getElem?_eq_getElem hl)
    have this : H c = some (.lst _) := this
    rw [k2] at this
    cases this
def spCw : Sp := fun vs H Q _ => ∃ (a : Addr) (u b : Int), vs = [.ref a] ∧ Fr H a u b ∧ Qn u b ∧ 0 < u ∧ Evl.RetV .non H Q
def bnF (lq g lw ls lt : Addr) (v : V) : List (Str × V) := [("_tanks", .ref lq), ("_width", .ref g), ("_widths", .ref lw), ("_steps", .ref ls), ("_waters", .ref lt), ("_ended", v)]
/-- the parts of a bench that stay as they are: tanks, widths, the water (now and ahead of each step), the steps -/
structure BnP (H : Hp) (lq g lw t : Addr) (ts : List Tk) (A ws : List Int) (W u b : Int) (as bs : List Addr) (ds : List Deed) (S : List (List Int × Int)) : Prop where
  q : TksAt H lq ts
  f : Fr H g u b
  c : CsAt H lw ws
  w : Wat H t A W
  d : ∀ (i : Nat) (a : Addr) (d : Deed), as[i]? = some a → ds[i]? = some d → DAt H a d
  ww : ∀ (i : Nat) (a : Addr) (s : List Int × Int), bs[i]? = some a → S[i]? = some s → Wat H a s.1 s.2
theorem BnP.ex {H H' : Hp} {lq g lw t : Addr} {ts : List Tk} {A ws : List Int} {W u b : Int} {as bs : List Addr} {ds : List Deed} {S : List (List Int × Int)} (h : BnP H lq g lw t ts A ws W u b as bs ds S) (e : Evl.Ex H H') : BnP H' lq g lw t ts A ws W u b as bs ds S :=
  ⟨h.q.ex e, e _ _ h.f, h.c.ex e, h.w.ex e, fun i a d x y => (h.d i a d x y).ex e, fun i a s x y => (h.ww i a s x y).ex e⟩
/-- a bench with the lists that it changes; s: the sack; ds: its steps; S: the water ahead of each; A by W: the water now -/
structure BnAt (C s : Addr) (H : Hp) (x ls lt : Addr) (ts : List Tk) (ds : List Deed) (S : List (List Int × Int)) (A ws : List Int) (W u b : Int) (v : V) : Prop where
  ex : ∃ (dx lq g lw t : Addr) (as bs : List Addr), H x = some (.ins C dx (bnF lq g lw ls lt v)) ∧ H ls = some (.lst (as.map V.ref)) ∧ as.length = ds.length ∧ H lt = some (.lst (bs.map V.ref ++ [.ref t])) ∧ bs.length = S.length ∧ BnP (woL [s, x, ls, lt] H) lq g lw t ts A ws W u b as bs ds S
  ne : ls ≠ lt ∧ ls ≠ s ∧ lt ≠ s ∧ x ≠ s
  nv : v = .non ∨ ∃ i, v = .int i
  len : S.length = ds.length
theorem BnAt.sep {C s : Addr} {H : Hp} {x ls lt : Addr} {ts : List Tk} {ds : List Deed} {S : List (List Int × Int)} {A ws : List Int} {W u b : Int} {v : V} (h : BnAt C s H x ls lt ts ds S A ws W u b v) {H' : Hp} (e : Evl.Ex (woL [s] H) (woL [s] H')) : BnAt C s H' x ls lt ts ds S A ws W u b v := by
  obtain ⟨⟨dx, lq, g, lw, t, as, bs, h1, h2, h3, h4, h5, h6⟩, ⟨n1, n2, n3, n4⟩, nv, ln⟩ := h
  have w : ∀ {p : Addr} {o : HO}, p ≠ s → H p = some o → H' p = some o := fun hn hp => woL_ex _ _ (e _ _ (woL_at (fun z => hn (List.mem_singleton.mp z)) hp))
  refine ⟨⟨dx, lq, g, lw, t, as, bs, w n4 h1, w n2 h2, h3, w n3 h4, h5, h6.ex fun p o z => ?_⟩, ⟨n1, n2, n3, n4⟩, nv, ln⟩
  have nm := woL_ne z
  exact woL_at nm (w (fun q => nm (q ▸ List.mem_cons_self)) (woL_ex _ _ z))
theorem BnAt.go {C s : Addr} {H : Hp} {x ls lt : Addr} {ts : List Tk} {ds : List Deed} {S : List (List Int × Int)} {A ws : List Int} {W u b : Int} {v : V} (h : BnAt C s H x ls lt ts ds S A ws W u b v) {H' : Hp} (e : Evl.Ex H H') : BnAt C s H' x ls lt ts ds S A ws W u b v := h.sep fun p o z => woL_at (woL_ne z) (e _ _ (woL_ex _ _ z))
theorem TksAt.dq {H : Hp} {l : Addr} {ts : List Tk} (h : TksAt H l ts) : Dq H (.ref l) (.list (ts.map tkD)) := by
  obtain ⟨as, h1, h2, h3⟩ := h
  refine .lst h1 ?_
  have go : ∀ (as : List Addr) (ts : List Tk), as.length = ts.length → (∀ (i : Nat) (a : Addr) (t : Tk), as[i]? = some a → ts[i]? = some t → H a = some (.tup [wV t.1, .int t.2])) → DqAll H (as.map V.ref) (ts.map tkD) := by
    intro as
    induction as with
    | nil =>
      intro ts hl _
      cases ts with
      | nil => exact .nil
      | cons t r => cases hl
    | cons a r ih =>
      intro ts hl hi
      cases ts with
      | nil => cases hl
      | cons t q =>
        refine .cons (.tup (hi 0 a t rfl rfl) (.cons ?_ (.cons (.int _) .nil))) (ih q (by simpa using hl) fun i a' t' h1 h2 => hi (i + 1) a' t' h1 h2)
        cases t.1 with
        | none => exact .non
        | some z => exact .int z
  exact go as ts h2 h3
theorem TksAt.but {H H' : Hp} {x l : Addr} {ts : List Tk} {C dx : Addr} {fs : List (Str × V)} (h : TksAt H l ts) (hx : H x = some (.ins C dx fs)) (b : But x H H') : TksAt H' l ts := by
  obtain ⟨as, h1, h2, h3⟩ := h
  have w : ∀ {p : Addr} {o : HO}, H p = some o → DObj o → H' p = some o := fun hp hd => keep_ins hx b _ _ hd hp
  exact ⟨as, w h1 trivial, h2, fun i a t y z => w (h3 i a t y z) trivial⟩
theorem OkW.le {N M : Nat} {A : List Int} {W : Int} (h : OkW N A W) (l : N ≤ M) : OkW M A W := ⟨h.nn, fun x hx => (h.bA x hx).le l, h.bW.le l, h.pos⟩
theorem dqi {H : Hp} : ∀ ns : List Int, DqAll H (iV ns) (ns.map .int)
  | [] => .nil
  | n :: ns => .cons (.int _) (dqi ns)
theorem dat_dq {H : Hp} {a : Addr} {d : Deed} (h : DAt H a d) : Dq H (.ref a) (dD d) := by
  cases d with
  | op ks =>
    obtain ⟨l, h1, h2⟩ := h
    exact .tup h1 (.cons (.str _) (.cons (.lst h2 (dqi ks)) .nil))
  | po k x => exact .tup h (.cons (.str _) (.cons (.int _) (.cons (.int _) .nil)))
  | sc k p q =>
    obtain ⟨l, h1, h2⟩ := h
    exact .tup h1 (.cons (.str _) (.cons (.int _) (.cons (.tup h2 (.cons (.int _) (.cons (.int _) .nil))) .nil)))
  | mv k m p q =>
    obtain ⟨l, h1, h2⟩ := h
    exact .tup h1 (.cons (.str _) (.cons (.int _) (.cons (.int _) (.cons (.tup h2 (.cons (.int _) (.cons (.int _) .nil))) .nil))))
  | un k m => exact .tup h (.cons (.str _) (.cons (.int _) (.cons (.int _) .nil)))
theorem at_last (ys : List V) (t : V) : atI (ys ++ [t]) (-1) = some t := by
  unfold atI ixN
  rw [if_neg (by decide), if_pos (by rw [List.length_append]; show -(((ys.length + 1 : Nat)) : Int) ≤ -1; omega)]
  show (ys ++ [t])[(-1 + ((ys ++ [t]).length : Int)).toNat]? = some t
  rw [List.length_append, show (-1 + ((ys.length + [t].length : Nat) : Int)).toNat = ys.length by show (-1 + ((ys.length + 1 : Nat) : Int)).toNat = ys.length; omega, List.getElem?_append_right (Nat.le_refl _), Nat.sub_self]
  rfl
section
variable {base : Heap} {mg : Str → Option Value} {K : PySem.W.Frag} {w : World} {P : Program} {C fI fC fL fW fE pE : Addr}
theorem ok_check_width {f : Addr} {fd : FuncData} (F : Fun K "check_width" "check_width" s_check_width f fd) (cF : Cal P w K mg base 2 "is_fraction" p_is_fraction spIsFr) : FnOk P w K mg base CX0 3 f fd p_check_width spCw := by
  refine F.ok sc_check_width (fun vs H Q E h => ?_) (fun cdv A outer s H vs Q E hr h => ?_)
  · obtain ⟨a, u, b, rfl, _⟩ := h
    rfl
  · obtain ⟨a, u, b, rfl, ha, hQ, hu, k⟩ := h
    refine ⟨_, pss_one (ps_if (PW.pt (pw_or (pt_not (pt_val (pe_c cF hr (pa_cons (pv 0) pa_nil)))) (pw_or1 (pt_cmpR op_le (pe_ix ix_tup (pv 0) pe_int (fun _ _ => rfl)) pe_int (nomark _))))) (pss_one ps_never) pss_nil), ?_⟩
    refine ⟨_, rfl, a, u, b, rfl, ha, hQ, fun H1 e1 => ⟨true, rfl, if_f rfl ?_⟩⟩
    exact ⟨_, rfl, a, _, _, _, rfl, rfl, SqT.of (e1 _ _ ha), rfl, _, _, rfl, rfl, _, rfl, if_f (decide_eq_false (by omega)) (k _ e1)⟩
end
end V2


namespace V2
open PySem L2
open PySem.Spec PyProof.Rows
/-- a fraction from 0 to 1 whose numbers are at most m -/
def spPt : Sp := fun vs H Q _ => ∃ (s : Addr) (m : Int) (n : Nat), vs = [.ref s, .int m] ∧ 0 < m ∧ m ≤ 1000 ∧ Sk H s n ∧ n ≤ 90000 ∧ ∀ (t : Addr) (p q : Int) (H' : Hp), But s H H' → Sk H' s (n + 2) → H t = none → H' t = some (.tup [.int p, .int q]) → Pt p q → Q (.ref t) H'
def spTwo2 : Sp := fun vs H Q _ => ∃ (s : Addr) (m : Int) (n : Nat), vs = [.ref s, .int m] ∧ 2 ≤ m ∧ m ≤ 20 ∧ Sk H s n ∧ n ≤ 90000 ∧ ∀ (t : Addr) (x y : Int) (H' : Hp), But s H H' → Sk H' s (n + 2) → H t = none → H' t = some (.tup [.int x, .int y]) → 0 ≤ x → x < m → 0 ≤ y → y < m → x ≠ y → Q (.ref t) H'
theorem fr_part {a d : Int} (hd : 0 < d) (h0 : 0 ≤ a) (h1 : a ≤ d) (hb : d ≤ 1001) : Pt (fr a d).1 (fr a d).2 := by
  have hp := fr_pos (u := a) hd
  have hm := fr_mul (u := a) hd
  have g0 : 0 < ((Int.gcd a d : Nat) : Int) := by
    have : 0 < Int.gcd a d := Int.gcd_pos_of_ne_zero_right _ (by omega)
    omega
  have n50 : (2 : Nat) ^ 50 = 1125899906842624 := by decide
  have a1 := fr_abs1 (a := a) hd
  have a2 := fr_abs2 (a := a) hd
  refine ⟨?_, ?_, hp, fr_cop hd, by rw [n50]; omega, by rw [n50]; omega⟩
  · refine Int.not_lt.mp fun z => ?_
    have := Int.mul_neg_of_neg_of_pos z g0
    omega
  · refine Int.not_lt.mp fun z => ?_
    have := Int.mul_lt_mul_of_pos_right z g0
    omega
theorem n200e : (2 : Nat) ^ 200 = 1606938044258990275541962092341162602522202993782792835301376 := by decide
/-- all but the object at p -/
def wo (p : Addr) (H : Hp) : Hp := fun b => if b = p then none else H b
theorem wo_ex {p : Addr} {H : Hp} : Evl.Ex (wo p H) H := fun b o h => by
  unfold wo at h
  split at h
  · cases h
  · exact h
theorem wo_at {p b : Addr} {H : Hp} {o : HO} (n : b ≠ p) (h : H b = some o) : wo p H b = some o := by
  unfold wo
  rw [if_neg n]
  exact h
theorem wo_ne {p b : Addr} {H : Hp} {o : HO} (h : wo p H b = some o) : b ≠ p := fun z => by
  unfold wo at h
  rw [if_pos z] at h
  cases h
theorem But.wo {p : Addr} {H H' : Hp} (h : But p H H') : Evl.Ex (wo p H) (V2.wo p H') := fun b o z => wo_at (wo_ne z) (h b o (wo_ne z) (wo_ex _ _ z))
theorem but_none {p q : Addr} {H H' : Hp} {n : Nat} (b : But p H H') (s : Sk H' p n) (h : H' q = none) : H q = none := by
  cases e : H q with
  | none => rfl
  | some o =>
    have h1 := b q o (sk_ne s h) e
    rw [h] at h1
    cases h1
theorem Sk.upd {H : Hp} {p l : Addr} {n : Nat} {o : HO} (s : Sk H p n) (h : l ≠ p) : Sk (L2.upd H l o) p n := by
  obtain ⟨a, b, c, h1, h2⟩ := s
  exact ⟨a, b, c, by rw [upd_ne h.symm]; exact h1, h2⟩
theorem ne_of_none' {H : Hp} {c l : Addr} {o : HO} (h : H c = some o) (hl : H l = none) : c ≠ l := fun z => by
  rw [z, hl] at h
  cases h
/-- many tanks, whose numbers are at most most -/
def spVats : Sp := fun vs H Q _ => ∃ (s : Addr) (m o : Int) (n : Nat), vs = [.ref s, .int m, .int o] ∧ 0 < m ∧ m ≤ 20 ∧ 0 < o ∧ o ≤ 1000 ∧ Sk H s n ∧ n ≤ 90000 ∧
  ∀ (l : Addr) (ts : List Tk) (H' : Hp), But s H H' → Sk H' s (n + 1 + 3 * m.toNat) → H l = none → TksAt (wo s H') l ts → okT ts → (ts.length : Int) = m → (∀ t ∈ ts, (∀ z, t.1 = some z → z ≤ 1000) ∧ t.2 ≤ 1000) → Q (.ref l) H'
theorem tks_more {p : Addr} {H : Hp} {l t : Addr} {ts : List Tk} {x : Tk} (h : TksAt (wo p H) l ts) (tp : t ≠ p) (ht : H t = some (.tup [wV x.1, .int x.2])) : ∃ acc, H l = some (.lst acc) ∧ acc.length = ts.length ∧ TksAt (wo p (upd H l (.lst (acc ++ [.ref t])))) l (ts ++ [x]) := by
  obtain ⟨as, h1, h2, h3⟩ := h
  have lp := wo_ne h1
  refine ⟨_, wo_ex _ _ h1, by rw [List.length_map]; exact h2, as ++ [t], ?_, by rw [List.length_append, List.length_append, h2]; rfl, fun i a y ha hy => ?_⟩
  · rw [List.map_append]
    exact wo_at lp upd_same
  · have ne : ∀ {a : Addr} {xs : List V}, wo p H a = some (.tup xs) → a ≠ l := fun h z => by
      rw [z, h1] at h
      cases h
    rcases get_app ha with ⟨h4, h5⟩ | ⟨h4, rfl⟩
    · rcases get_app hy with ⟨h6, _⟩ | ⟨h6, _⟩
      · have z := h3 i a y h4 h6
        exact wo_at (wo_ne z) (Eq.trans (upd_ne (ne z)) (wo_ex _ _ z))
      · omega
    · rcases get_app hy with ⟨h6, h7⟩ | ⟨_, rfl⟩
      · omega
      · exact wo_at tp (Eq.trans (upd_ne (ne (wo_at tp ht))) ht)
theorem cnt_more {ts : List Tk} {x : Tk} {rk : Int} {i : Nat} (h : ts.countP (fun t => t.1.isNone) = if rk < (i : Int) then 1 else 0) (hx : x.1 = none ↔ rk = (i : Int)) : (ts ++ [x]).countP (fun t => t.1.isNone) = if rk < ((i + 1 : Nat) : Int) then 1 else 0 := by
  rw [List.countP_append, h]
  obtain ⟨w, a⟩ := x
  cases w with
  | none =>
    have e := hx.mp rfl
    rw [if_neg (by omega), if_pos (by omega)]
    rfl
  | some z =>
    have e : rk ≠ (i : Int) := fun q => by cases hx.mpr q
    by_cases c : rk < (i : Int)
    · rw [if_pos c, if_pos (by omega)]
      rfl
    · rw [if_neg c, if_neg (by omega)]
      rfl
section
variable {base : Heap} {mg : Str → Option Value} {K : PySem.W.Frag} {w : World} {P : Program}
end
end V2


namespace V2
open PySem L2
open PySem.Spec PyProof.Rows
theorem inV2 (i x y : Int) : inV (.int i) [.int x, .int y] = true ↔ x = i ∨ y = i := by
  simp [inV, eqV]
/-- numbers below i that are drawn: f and s are among them -/
structure AscI (f s : Int) (ks : List Int) (i : Nat) : Prop where
  asc : ∀ (j : Nat) (x y : Int), ks[j]? = some x → ks[j + 1]? = some y → x < y
  bd : ∀ x ∈ ks, 0 ≤ x ∧ x < (i : Int)
  hf : 0 ≤ f → f < (i : Int) → f ∈ ks
  hs : 0 ≤ s → s < (i : Int) → s ∈ ks
  len : ks.length ≤ i
theorem AscI.start (f s : Int) : AscI f s [] 0 := ⟨fun _ _ _ h => (by cases h), fun _ h => (by cases h), fun h h' => by omega, fun h h' => by omega, Nat.le_refl _⟩
theorem AscI.more {f s : Int} {ks : List Int} {i : Nat} (h : AscI f s ks i) : AscI f s (ks ++ [(i : Int)]) (i + 1) := by
  refine ⟨fun j x y hx hy => ?_, fun x hx => ?_, fun h0 h1 => ?_, fun h0 h1 => ?_, by rw [List.length_append]; exact Nat.succ_le_succ h.len⟩
  · rcases get_app hy with ⟨h1, h2⟩ | ⟨h1, rfl⟩
    · rcases get_app hx with ⟨h3, _⟩ | ⟨h3, _⟩
      · exact h.asc j x y h3 h1
      · omega
    · rcases get_app hx with ⟨h3, _⟩ | ⟨h3, _⟩
      · exact (h.bd x (List.mem_of_getElem? h3)).2
      · omega
  · rcases List.mem_append.mp hx with h1 | h1
    · have := h.bd x h1
      omega
    · have := List.mem_singleton.mp h1
      omega
  · by_cases c : f < (i : Int)
    · exact List.mem_append_left _ (h.hf h0 c)
    · exact List.mem_append_right _ (List.mem_singleton.mpr (by omega))
  · by_cases c : s < (i : Int)
    · exact List.mem_append_left _ (h.hs h0 c)
    · exact List.mem_append_right _ (List.mem_singleton.mpr (by omega))
theorem AscI.skip {f s : Int} {ks : List Int} {i : Nat} (h : AscI f s ks i) (n : ¬ (f = (i : Int) ∨ s = (i : Int))) : AscI f s ks (i + 1) := by
  have n1 : f ≠ (i : Int) := fun z => n (.inl z)
  have n2 : s ≠ (i : Int) := fun z => n (.inr z)
  exact ⟨h.asc, fun x hx => (by have := h.bd x hx; omega), fun h0 h1 => h.hf h0 (by omega), fun h0 h1 => h.hs h0 (by omega), by have := h.len; omega⟩
theorem mem2_len {ks : List Int} {f s : Int} (hf : f ∈ ks) (hs : s ∈ ks) (n : f ≠ s) : 2 ≤ ks.length := by
  match ks, hf, hs with
  | [], hf, _ => cases hf
  | [x], hf, hs =>
    rw [List.mem_singleton] at hf hs
    exact absurd (hf.trans hs.symm) n
  | x :: y :: r, _, _ => simp
def Word (x : Str) : Prop := x = "pour" ∨ x = "scoop" ∨ x = "move" ∨ x = "open" ∨ x = "unless"
section
variable {base : Heap} {mg : Str → Option Value} {K : PySem.W.Frag} {w : World} {P : Program}
end
end V2


namespace V2
open PySem L2
open PySem.Spec PyProof.Rows
theorem atI_mem {xs : List V} {r : Int} (h0 : 0 ≤ r) (h1 : r < xs.length) : ∃ v, v ∈ xs ∧ atI xs r = some v := by
  obtain ⟨j, rfl⟩ : ∃ j : Nat, r = (j : Int) := ⟨r.toNat, by omega⟩
  have hj : j < xs.length := by omega
  exact ⟨xs[j], List.getElem_mem hj, atI_nat (List.getElem?_eq_getElem hj)⟩
/-- [a, b, ..][coin(sack, many)] -/
theorem pick_read {K : PySem.W.Frag} {σ : L2.St} {H : Hp} {Q : VK} {t : TA} {xs : List V} {s : Addr} {n : Nat} {m : Int} (hm : m = (xs.length : Int)) (h0 : 0 < xs.length) (hl : xs.length ≤ 100) (i0 : σ[0]? = some (some (.ref s))) (hS : Sk H s n) (hn : n ≤ 99990)
    (ht : ∀ (H' : Hp) (Q' : List V → Hp → Prop), Q' xs H' → t σ H' Q') (k : ∀ (v : V) (H' : Hp), v ∈ xs → But s H H' → Sk H' s (n + 1) → Q v H') :
    tOp (rIxL K) (tLst t) (tCall spCoin [] E0 (tCons (tVar 0) (tCons (tC (.int m)) tNil))) σ H Q := by
  refine ht _ _ ⟨Nat.le_trans hl (by decide), fun p hp => ⟨_, i0, s, m, n, rfl, hS.ex (Evl.Ex.new hp), by omega, by omega, ?_, fun r H' r0 r1 b s' z => ?_⟩⟩
  · rw [n200e]
    omega
  · obtain ⟨v, hv, e⟩ := atI_mem (xs := xs) r0 (by omega)
    exact ⟨p, xs, r, v, rfl, rfl, SqL.of (b _ _ (sk_ne hS hp) upd_same), e, k v H' hv ((But.of_ex (Evl.Ex.new hp)).trans b) s'⟩
theorem dat_keep {H H' : Hp} {a l : Addr} {d : Deed} {n : Int} {as : List Addr} (h : DAt H a d) (hd : okD n d) (hl : H l = some (.lst (as.map V.ref))) (e : ∀ b o, b ≠ l → H b = some o → H' b = some o) : DAt H' a d := by
  have ne : ∀ {a : Addr} {xs : List V}, H a = some (.tup xs) → a ≠ l := fun h z => by
    rw [z, hl] at h
    cases h
  cases d with
  | op ks =>
    obtain ⟨q, h1, h2⟩ := h
    refine ⟨q, e _ _ (ne h1) h1, e _ _ (fun z => ?_) h2⟩
    have h2 : H q = some (.lst (iV ks)) := h2
    rw [z, hl] at h2
    have h3 : as.map V.ref = iV ks := by
      injection h2 with h2
      injection h2
    have h4 : 2 ≤ ks.length := hd.1
    match ks, as, h3, h4 with
    | k :: ks, a :: as, h3, _ =>
      unfold iV at h3
      rw [List.map_cons, List.map_cons] at h3
      injection h3 with h3 _
      cases h3
    | k :: ks, [], h3, _ => cases h3
    | [], _, _, h4 => exact absurd h4 (by decide)
  | po k x => exact e _ _ (ne h) h
  | sc k p q =>
    obtain ⟨f, h1, h2⟩ := h
    exact ⟨f, e _ _ (ne h1) h1, e _ _ (ne h2) h2⟩
  | mv k m p q =>
    obtain ⟨f, h1, h2⟩ := h
    exact ⟨f, e _ _ (ne h1) h1, e _ _ (ne h2) h2⟩
  | un k m => exact e _ _ (ne h) h
theorem ds_more {G G' : Hp} {l t : Addr} {ds : List Deed} {d : Deed} {n : Int} (h : DsAt G l ds) (hds : ∀ d ∈ ds, okD n d) (ht : DAt G t d) (hd : okD n d) (e : ∀ b o, b ≠ l → G b = some o → G' b = some o) (e' : ∀ acc, G l = some (.lst acc) → G' l = some (.lst (acc ++ [.ref t]))) : DsAt G' l (ds ++ [d]) := by
  obtain ⟨as, h1, h2, h3⟩ := h
  refine ⟨as ++ [t], ?_, by rw [List.length_append, List.length_append, h2]; rfl, fun i a y ha hy => ?_⟩
  · rw [List.map_append]
    exact e' _ h1
  · rcases get_app ha with ⟨h4, h5⟩ | ⟨h4, rfl⟩
    · rcases get_app hy with ⟨h6, _⟩ | ⟨h6, _⟩
      · exact dat_keep (h3 i a y h4 h6) (hds y (List.mem_of_getElem? h6)) h1 e
      · omega
    · rcases get_app hy with ⟨h6, h7⟩ | ⟨_, rfl⟩
      · omega
      · exact dat_keep ht hd h1 e
theorem ds_list {G : Hp} {l : Addr} {ds : List Deed} (h : DsAt G l ds) : ∃ acc, G l = some (.lst acc) ∧ acc.length = ds.length := by
  obtain ⟨as, h1, h2, h3⟩ := h
  exact ⟨_, h1, by rw [List.length_map]; exact h2⟩
theorem tks_list {G : Hp} {l : Addr} {ts : List Tk} (h : TksAt G l ts) : ∃ acc, G l = some (.lst acc) ∧ acc.length = ts.length := by
  obtain ⟨as, h1, h2, h3⟩ := h
  exact ⟨_, h1, by rw [List.length_map]; exact h2⟩
theorem wo_upd {p l : Addr} {H : Hp} {x : HO} : ∀ b o, b ≠ l → wo p H b = some o → wo p (upd H l x) b = some o := fun b o nb h => wo_at (wo_ne h) (Eq.trans (upd_ne nb) (wo_ex _ _ h))
theorem wo_app {p l t : Addr} {H : Hp} {acc0 : List V} (h : H l = some (.lst acc0)) : ∀ acc, wo p H l = some (.lst acc) → wo p (upd H l (.lst (acc0 ++ [.ref t]))) l = some (.lst (acc ++ [.ref t])) := fun acc h' => by
  have e := wo_ex _ _ h'
  rw [h] at e
  injection e with e
  injection e with e
  rw [← e]
  exact wo_at (wo_ne h') upd_same
theorem nw_wo {p : Addr} {H H' : Hp} {n : Nat} (s : Sk H p n) : Evl.Ex (Nw H H') (wo p H') := fun b o h => wo_at (fun z => by
  rw [z] at h
  obtain ⟨o', h'⟩ := sk_some s
  rw [nw_none h] at h'
  cases h') (Nw.ex _ _ h)
theorem tks_keep {H H' : Hp} {l v : Addr} {ts : List Tk} {xs : List V} (h : TksAt H v ts) (hl : H l = some (.lst xs)) (n : v ≠ l) (e : ∀ b o, b ≠ l → H b = some o → H' b = some o) : TksAt H' v ts := by
  obtain ⟨as, h1, h2, h3⟩ := h
  exact ⟨as, e _ _ n h1, h2, fun i a t x y => e _ _ (fun z => by rw [← z, h3 i a t x y] at hl; cases hl) (h3 i a t x y)⟩
theorem ex_wo {p : Addr} {G G' : Hp} (e : Evl.Ex G G') : Evl.Ex (wo p G) (wo p G') := fun b o h => wo_at (wo_ne h) (e _ _ (wo_ex _ _ h))
theorem wo_upd2 {q p l : Addr} {H : Hp} {x : HO} : ∀ b o, b ≠ l → wo q (wo p H) b = some o → wo q (wo p (upd H l x)) b = some o := fun b o nb h => wo_at (wo_ne h) (wo_upd b o nb (wo_ex _ _ h))
theorem wo_app2 {q p l t : Addr} {H : Hp} {acc0 : List V} (h : H l = some (.lst acc0)) : ∀ acc, wo q (wo p H) l = some (.lst acc) → wo q (wo p (upd H l (.lst (acc0 ++ [.ref t])))) l = some (.lst (acc ++ [.ref t])) := fun acc h' => wo_at (wo_ne h') (wo_app h acc (wo_ex _ _ h'))
theorem dat_keep' {G G' : Hp} {t l : Addr} {d : Deed} {ds : List Deed} {n : Int} (h : DAt G t d) (hd : okD n d) (hl : DsAt G l ds) (e : ∀ b o, b ≠ l → G b = some o → G' b = some o) : DAt G' t d := by
  obtain ⟨as, h1, _⟩ := hl
  exact dat_keep h hd h1 e
/-- a drawn shape: tanks and steps, none of whose numbers is great -/
structure ShW (ts : List Tk) (ds : List Deed) : Prop where
  ok : okS ts ds
  w1000 : ∀ t ∈ ts, (∀ z, t.1 = some z → z ≤ 1000) ∧ t.2 ≤ 1000
  p1000 : ∀ k a, Deed.po k a ∈ ds → a ≤ 1000
def ShAt (H : Hp) (t : Addr) (ts : List Tk) (ds : List Deed) : Prop := ∃ lv ld, H t = some (.tup [.ref lv, .ref ld]) ∧ TksAt H lv ts ∧ DsAt H ld ds
theorem sIx_pos {n d k : Nat} : HT.sIx n d (some (k : Int)) = min k n := by
  unfold HT.sIx
  simp
  first
    | done
    | omega
    | (split <;> omega)
theorem cut_min (xs : List V) (k : Nat) : cutV xs none (some (k : Int)) = xs.take k := by
  by_cases h : k ≤ xs.length
  · exact cut_to xs h
  · rw [List.take_of_length_le (by omega)]
    unfold cutV
    rw [sIx_pos]
    have e : HT.sIx xs.length 0 none = 0 := rfl
    rw [e, List.drop_zero, Nat.min_eq_right (by omega)]
    exact List.take_of_length_le (by omega)
theorem DsAt.take {H H' : Hp} {l l2 : Addr} {ds : List Deed} {xs : List V} (h : DsAt H l ds) (hl : H l = some (.lst xs)) (k : Nat) (e : Evl.Ex H H') (h2 : H' l2 = some (.lst (xs.take k))) : DsAt H' l2 (ds.take k) := by
  obtain ⟨as, h1, h3, h4⟩ := h
  rw [hl] at h1
  injection h1 with h1
  injection h1 with h1
  subst h1
  refine ⟨as.take k, by rw [h2, List.map_take], by rw [List.length_take, List.length_take, h3], fun i a d ha hd => ?_⟩
  rw [List.getElem?_take] at ha hd
  by_cases c : i < k
  · rw [if_pos c] at ha hd
    exact (h4 i a d ha hd).ex e
  · rw [if_neg c] at ha
    cases ha
def spShape : Sp := fun vs H Q _ => ∃ (s : Addr) (n : Nat), vs = [.ref s] ∧ Sk H s n ∧ n ≤ 70000 ∧
  ∀ (t : Addr) (ts : List Tk) (ds : List Deed) (H' : Hp), But s H H' → Sk H' s (n + 3000) → ShAt (wo s H') t ts ds → ShW ts ds → Q (.ref t) H'
/-- a told width -/
def spWid (a c : Nat) : Sp := fun vs H Q _ => ∃ (s : Addr) (n : Nat), vs = [.ref s] ∧ Sk H s n ∧ n ≤ a ∧
  ∀ (t : Addr) (u b : Int) (H' : Hp), But s H H' → Sk H' s (n + c) → H t = none → Fr (wo s H') t u b → Qn u b → 0 < u → Q (.ref t) H'
theorem qn_fr {y z : Int} (y0 : 0 ≤ y) (y1 : y ≤ 1000000000000000) (z0 : 0 ≤ z) (z1 : z ≤ 1000000000000000) : Qn (fr (1 + z) (1 + y)).1 (fr (1 + z) (1 + y)).2 ∧ 0 < (fr (1 + z) (1 + y)).1 := by
  have p1 := fr_abs1 (a := 1 + z) (show 0 < 1 + y by omega)
  have p2 := fr_abs2 (a := 1 + z) (show 0 < 1 + y by omega)
  have p3 := fr_pos (u := 1 + z) (show 0 < 1 + y by omega)
  have p4 := fr_cop (u := 1 + z) (show 0 < 1 + y by omega)
  have p5 := fr_mul (u := 1 + z) (show 0 < 1 + y by omega)
  have n50 : (2 : Nat) ^ 50 = 1125899906842624 := by decide
  refine ⟨⟨p3, p4, by rw [n50]; omega, by rw [n50]; omega⟩, ?_⟩
  have g := gcd_pos (u := 1 + z) (show 0 < 1 + y by omega)
  refine Int.not_le.mp fun q => ?_
  have q2 := Int.mul_le_mul_of_nonneg_right q (Int.le_of_lt g)
  rw [← p5.1] at q2
  omega
theorem bn15 {x : Int} (h0 : 0 ≤ x) (h1 : x ≤ 1000000000000001) : x.natAbs < 2 ^ 9000 := Nat.lt_of_le_of_lt (show x.natAbs ≤ 1000000000000001 by omega) (Nat.lt_of_lt_of_le (show 1000000000000001 < 2 ^ 50 by decide) (Nat.pow_le_pow_right (by decide) (by decide)))
section
variable {base : Heap} {mg : Str → Option Value} {K : PySem.W.Frag} {w : World} {P : Program}
end
end V2


namespace V2
open PySem L2
open PySem.Spec PyProof.Rows
/-! ## draws of another law -/
section
variable {base : Heap} {mg : Str → Option Value} {K : PySem.W.Frag} {w : World} {P : Program}
theorem ok_coinL {f : Addr} {fd : FuncData} (F : Fun K "_law_coin" "_law_coin" s_l_coin f fd) (T : T0 mg) : FnOk P w K mg base CX0 1 f fd p_l_coin spCoin := by
  refine F.ok sc_l_coin (fun vs H Q E h => ?_) (fun cdv A outer s H vs Q E hr h => ?_)
  · obtain ⟨p, many, m, rfl, _⟩ := h
    rfl
  · obtain ⟨p, many, m, rfl, ⟨a, b, c, hp, ha, hb, hb2, hc, hc2⟩, hm, h0, h200, k⟩ := h
    have nd := sc_l_coin.nd
    refine ⟨_, pss_cons (ps_if (pt_cmpR op_gt (pe_ix ix_list (pv 0) pe_int (fun _ _ => rfl)) pe_int (nomark _))
        (pss_cons (ps_set (i := 2) nd rfl (Or.inl rfl) (pe_op op_mod (pe_callTy call_int1 (by rfl) T.int (by decide +kernel) (pa_cons (pe_ix ix_list (pv 0) pe_int (fun _ _ => rfl)) pa_nil)) (pv 1)))
        (pss_cons (ps_asg (pe_op op_fdivW (pe_ix ix_list (pv 0) pe_int (fun _ _ => rfl)) (pv 1)) (pg_sub (pv 0) pe_int set_list))
        (pss_one (ps_ret (pv 2))))) pss_nil)
      (pss_cons (ps_asg (pe_op op_add (pe_ix ix_list (pv 0) pe_int (fun _ _ => rfl)) pe_int) (pg_sub (pv 0) pe_int set_list))
      (pss_cons (ps_set (i := 3) nd rfl (Or.inl rfl) (pe_op op_mod (pe_op op_powX (pe_callTy call_int1 (by rfl) T.int (by decide +kernel) (pa_cons (pe_op op_add (pe_ix ix_list (pv 0) pe_int (fun _ _ => rfl)) (pe_op op_mul pe_int (pe_ix ix_list (pv 0) pe_int (fun _ _ => rfl)))) pa_nil)) pe_int) (pe_op op_add (pe_op op_powX pe_int pe_int) pe_int)))
      (pss_cons (ps_set (i := 3) nd rfl (Or.inl rfl) (pe_op op_mod (pe_op op_powX (pe_callTy call_int1 (by rfl) T.int (by decide +kernel) (pa_cons (pe_op op_add (pv 3) (pe_op op_mul pe_int (pe_ix ix_list (pv 0) pe_int (fun _ _ => rfl)))) pa_nil)) pe_int) (pe_op op_add (pe_op op_powX pe_int pe_int) pe_int)))
      (pss_one (ps_ret (pe_op op_mod (pe_callTy call_int1 (by rfl) T.int (by decide +kernel) (pa_cons (pe_op op_fdivW (pv 3) pe_int) pa_nil)) (pv 1))))))), ?_⟩
    refine ⟨_, rfl, p, _, _, _, rfl, rfl, SqL.of hp, at0, _, _, rfl, rfl, _, rfl, ?_⟩
    refine ite2 (fun q => ?_) (fun _ => ?_)
    · have q0 : 0 < a := by simpa using q
      refine ⟨_, rfl, p, _, _, _, rfl, rfl, SqL.of hp, at0, .inl ⟨_, rfl, _, rfl, _, _, rfl, rfl, h0, ?_⟩⟩
      refine ⟨_, rfl, p, _, _, _, rfl, rfl, SqL.of hp, at0, _, rfl, _, _, rfl, rfl, wide_div h0 h200 (by decide) (by decide), _, rfl, p, _, 0, 0, rfl, rfl, hp, ixN3 0 (by decide), ?_⟩
      refine ⟨_, rfl, k _ _ (Int.emod_nonneg _ (by omega)) (Int.emod_lt_of_pos _ h0) But.upd ⟨a / many, b, c, upd_same, Int.ediv_nonneg ha (by omega), hb, hb2, hc, by omega⟩ (fun q hq => ?_)⟩
      rw [upd_ne (fun z => by rw [z, hp] at hq; cases hq)]; exact hq
    · have e24 : ((10 : Int) ^ (24 : Int).toNat + 7) = 1000000000000000000000007 := by decide
      have e25 : ((10 : Int) ^ (25 : Int).toNat + 13) = 10000000000000000000000013 := by decide
      have p80 : (2 : Int) ^ 80 = 1208925819614629174706176 := by decide
      have n82 : (2 : Nat) ^ 82 = 4835703278458516698824704 := by decide
      have n85 : (2 : Nat) ^ 85 = 38685626227668133590597632 := by decide
      rw [p80] at hb2
      have w1 : CPowX (b + 2038074743 * (c + 1)) 3 := pow_ok (k := 82) (n := 3) (by rw [n82]; omega) (by decide)
      have w25 : CPowX 10 25 := pow_ok (k := 4) (n := 25) (by decide) (by decide)
      have w24 : CPowX 10 24 := pow_ok (k := 4) (n := 24) (by decide) (by decide)
      have hp2 : upd H p (.lst [.int a, .int b, .int (c + 1)]) p = some (.lst [.int a, .int b, .int (c + 1)]) := upd_same
      refine ⟨_, rfl, p, _, _, _, rfl, rfl, SqL.of hp, at2, _, _, rfl, rfl, _, rfl, p, _, 2, 2, rfl, rfl, hp, ixN3 2 (by decide), ?_⟩
      refine ⟨_, rfl, p, _, _, _, rfl, rfl, SqL.of hp2, at1, _, rfl, p, _, _, _, rfl, rfl, SqL.of hp2, at2, _, _, rfl, rfl, .inl ⟨by decide, by decide⟩, _, _, rfl, rfl, .inl ⟨_, rfl, ?_⟩⟩
      have g25 : (0 : Int) < 10 ^ (25 : Int).toNat + 13 := by rw [e25]; decide
      have g24 : (0 : Int) < 10 ^ (24 : Int).toNat + 7 := by rw [e24]; decide
      refine ⟨_, 3, rfl, rfl, w1, 10, 25, rfl, rfl, w25, _, 13, rfl, rfl, _, _, rfl, rfl, g25, ?_⟩
      have x0 : 0 ≤ (b + 2038074743 * (c + 1)) ^ (3 : Int).toNat % (10 ^ (25 : Int).toNat + 13) := Int.emod_nonneg _ (by omega)
      have x1 : (b + 2038074743 * (c + 1)) ^ (3 : Int).toNat % (10 ^ (25 : Int).toNat + 13) < 10000000000000000000000013 := by rw [← e25]; exact Int.emod_lt_of_pos _ g25
      have w2 : CPowX ((b + 2038074743 * (c + 1)) ^ (3 : Int).toNat % (10 ^ (25 : Int).toNat + 13) + 982451653 * (c + 1)) 2 := pow_ok (k := 85) (n := 2) (by rw [n85]; omega) (by decide)
      refine ⟨_, rfl, _, rfl, p, _, _, _, rfl, rfl, SqL.of hp2, at2, _, _, rfl, rfl, .inl ⟨by decide, by decide⟩, _, _, rfl, rfl, .inl ⟨_, rfl, ?_⟩⟩
      refine ⟨_, 2, rfl, rfl, w2, 10, 24, rfl, rfl, w24, _, 7, rfl, rfl, _, _, rfl, rfl, g24, ?_⟩
      refine ⟨_, rfl, _, 1024, rfl, rfl, wide_div (b := 11) (by decide) (by decide) (by decide) (by decide), .inl ⟨_, rfl, _, rfl, _, _, rfl, rfl, h0, ?_⟩⟩
      refine k _ _ (Int.emod_nonneg _ (by omega)) (Int.emod_lt_of_pos _ h0) But.upd ⟨a, b, c + 1, hp2, ha, hb, by rw [p80]; exact hb2, by omega, by omega⟩ (fun q hq => ?_)
      rw [upd_ne (fun z => by rw [z, hp] at hq; cases hq)]; exact hq
theorem ok_purse {f : Addr} {fd : FuncData} (F : Fun K "_law_purse" "_law_purse" s_l_purse f fd) (T : T0 mg) : FnOk P w K mg base CX0 1 f fd p_l_purse (spSack K) := by
  refine F.ok sc_l_purse (fun vs H Q E h => ?_) (fun cdv A outer s H vs Q E hr h => ?_)
  · obtain ⟨a, ns, r, rfl, _⟩ := h
    rfl
  · obtain ⟨a, ns, r, rfl, hS, hl, hr63, k⟩ := h
    have nd := sc_l_purse.nd
    refine ⟨_, pss_cons (ps_set (i := 2) nd rfl (Or.inl rfl) (pe_ifExp (pt_cmpR op_lt (pv 1) (pe_callB call_len_seq (by rfl) T.len PySem.boot_len (pa_cons (pv 0) pa_nil)) (nomark _)) (pe_ix ix_list (pv 0) (pv 1) (fun _ _ => rfl)) pe_int))
      (pss_one (ps_ret (pe_lst (pa_cons (pe_callB (call_max2 rfl) (by rfl) T.max (by decide +kernel) (pa_cons pe_int (pa_cons (pe_op op_sub (pe_callB call_abs (by rfl) T.abs (by decide +kernel) (pa_cons (pv 2) pa_nil)) (pe_op op_powX pe_int pe_int)) pa_nil)))
        (pa_cons (pe_op op_mod (pe_callTy call_int1 (by rfl) T.int (by decide +kernel) (pa_cons (pe_op op_add (pe_op op_add (pe_op op_mul (pv 2) pe_int) (pe_op op_mul (pv 1) pe_int)) pe_int) pa_nil)) (pe_op op_add (pe_op op_powX pe_int pe_int) pe_int))
        (pa_cons pe_int pa_nil)))))), ?_⟩
    have w18 : CPowX 10 18 := pow_ok (k := 4) (n := 18) (by decide) (by decide)
    have w24 : CPowX 10 24 := pow_ok (k := 4) (n := 24) (by decide) (by decide)
    have e24 : ((10 : Int) ^ (24 : Int).toNat + 7) = 1000000000000000000000007 := by decide
    have g24 : (0 : Int) < 10 ^ (24 : Int).toNat + 7 := by rw [e24]; decide
    have p80 : (2 : Int) ^ 80 = 1208925819614629174706176 := by decide
    (refine ⟨_, rfl, _, rfl, a, _, rfl, .inl hS, _, _, rfl, rfl, _, rfl, ?_⟩)
    refine ite2 (fun q => ?_) (fun _ => ?_)
    · have q2 : r < ns.length := by
        have q1 := of_decide_eq_true q
        rw [iV_len] at q1
        omega
      refine ⟨_, rfl, _, rfl, a, _, _, _, rfl, rfl, hS, atI_nat (iV_at (List.getElem?_eq_getElem q2)), ?_⟩
      refine ⟨_, rfl, _, rfl, 10, 18, rfl, rfl, w18, _, _, rfl, rfl, _, _, rfl, ?_⟩
      refine ⟨_, rfl, _, 30011, rfl, rfl, .inr ⟨by decide, by decide⟩, _, rfl, _, 7368787, rfl, rfl, .inr ⟨by decide, by decide⟩, _, _, rfl, rfl, _, _, rfl, rfl, .inl ⟨_, rfl, ?_⟩⟩
      refine ⟨10, 24, rfl, rfl, w24, _, 7, rfl, rfl, _, _, rfl, rfl, g24, ?_⟩
      refine ⟨by show 3 ≤ sizeLine; decide, fun q hq => ?_⟩
      refine k q _ hq (Evl.Ex.new hq) ⟨_, _, _, upd_same, ?_, Int.emod_nonneg _ (by omega), Int.lt_trans (Int.emod_lt_of_pos _ g24) (by rw [e24, p80]; decide), Int.le_refl _, Int.le_refl _⟩
      split <;> omega
    · refine ⟨_, rfl, _, rfl, 10, 18, rfl, rfl, w18, _, _, rfl, rfl, _, _, rfl, ?_⟩
      refine ⟨_, rfl, _, 30011, rfl, rfl, .inr ⟨by decide, by decide⟩, _, rfl, _, 7368787, rfl, rfl, .inr ⟨by decide, by decide⟩, _, _, rfl, rfl, _, _, rfl, rfl, .inl ⟨_, rfl, ?_⟩⟩
      refine ⟨10, 24, rfl, rfl, w24, _, 7, rfl, rfl, _, _, rfl, rfl, g24, ?_⟩
      refine ⟨by show 3 ≤ sizeLine; decide, fun q hq => ?_⟩
      refine k q _ hq (Evl.Ex.new hq) ⟨_, _, _, upd_same, ?_, Int.emod_nonneg _ (by omega), Int.lt_trans (Int.emod_lt_of_pos _ g24) (by rw [e24, p80]; decide), Int.le_refl _, Int.le_refl _⟩
      split <;> omega
theorem ok_divisor {f : Addr} {fd : FuncData} (F : Fun K "_law_wl_divisor" "_law_wl_divisor" s_l_divisor f fd) (T : T0 mg) : FnOk P w K mg base CX0 1 f fd p_l_divisor spShared := by
  refine F.ok sc_l_divisor (fun vs H Q E h => ?_) (fun cdv A outer s H vs Q E hr h => ?_)
  · obtain ⟨x, y, rfl, _⟩ := h
    rfl
  · obtain ⟨x, y, rfl, hx, hy, k⟩ := h
    have nd := sc_l_divisor.nd
    refine ⟨_, pss_cons (ps_par (i := 0) (j := 1) rfl nd rfl rfl (by decide) rfl rfl (pa_cons (pe_callB call_abs (by rfl) T.abs (by decide +kernel) (pa_cons (pv 0) pa_nil)) (pa_cons (pe_callB call_abs (by rfl) T.abs (by decide +kernel) (pa_cons (pv 1) pa_nil)) pa_nil)) (by rfl))
      (pss_cons (ps_while PassesOwn.never (pt_cmpR op_ne (pv 1) pe_int (nomark _)) (pss_one (ps_par (i := 0) (j := 1) rfl nd rfl rfl (by decide) rfl rfl (pa_cons (pv 1) (pa_cons (pe_op op_mod (pe_callTy call_int1 (by rfl) T.int (by decide +kernel) (pa_cons (pv 0) pa_nil)) (pe_callTy call_int1 (by rfl) T.int (by decide +kernel) (pa_cons (pv 1) pa_nil))) pa_nil)) (by rfl))))
      (pss_one (ps_ret (pv 0)))), ?_⟩
    have ab : ∀ z : Int, (if z < 0 then -z else z) = (z.natAbs : Int) := fun z => by split <;> omega
    refine ⟨_, rfl, _, rfl, _, rfl, _, rfl, _, _, rfl, ?_⟩
    rw [ab, ab]
    refine ⟨fun m σ H' => H' = H ∧ ∃ l r : Nat, σ = [some (.int l), some (.int r)] ∧ r = m ∧ Nat.gcd l r = Nat.gcd x.natAbs y.natAbs, ⟨_, rfl, _, _, rfl, rfl, rfl⟩, ?_⟩
    rintro m σ H' ⟨rfl, l, r, rfl, rfl, hg⟩
    refine ⟨_, rfl, rfl, _, rfl, ?_⟩
    by_cases h0 : r = 0
    · subst h0
      refine if_f (by decide) ?_
      refine ⟨_, rfl, ?_⟩
      have e : (l : Int) = (Int.gcd x y : Int) := by
        rw [Nat.gcd_zero_right] at hg
        rw [hg]
        rfl
      rw [e]
      exact k _ (Evl.Ex.refl _)
    · refine if_t (by rw [decide_eq_false (fun z => h0 (by injection z with z; omega))]; rfl) ?_
      refine ⟨fun σ H2 => H2 = H' ∧ σ = [some (.int r), some (.int ((l % r : Nat) : Int))], fun σ H2 z => ⟨l % r, Nat.mod_lt _ (by omega), z.1, r, l % r, z.2, rfl, ?_⟩, ?_⟩
      · rw [Nat.gcd_comm r, ← Nat.gcd_rec, Nat.gcd_comm]
        exact hg
      · exact ⟨_, rfl, _, rfl, .inl ⟨_, rfl, _, rfl, .inl ⟨_, rfl, _, _, rfl, rfl, (by show (0 : Int) < (r : Int); omega), _, _, rfl, rfl, rfl⟩⟩⟩
theorem ok_ratioL {f : Addr} {fd : FuncData} (F : Fun K "_law_wl_ratio" "_law_wl_ratio" s_l_ratio f fd) (cD : Cal P w K mg base 1 "_law_wl_divisor" p_l_divisor spShared) : FnOk P w K mg base CX0 2 f fd p_l_ratio spRatio := by
  refine F.ok sc_l_ratio (fun vs H Q E h => ?_) (fun cdv A outer s H vs Q E hr h => ?_)
  · obtain ⟨x, y, rfl, _⟩ := h
    rfl
  · obtain ⟨x, y, rfl, hx, hy, y0, k⟩ := h
    have nd := sc_l_ratio.nd
    have two : 2 ≤ sizeLine := by show 2 ≤ sizeLine; decide
    refine ⟨_, pss_cons (ps_set (i := 2) nd rfl (Or.inl rfl) (pe_c cD hr (pa_cons (pv 0) (pa_cons (pv 1) pa_nil))))
      (pss_cons (ps_if (pt_cmpR op_lt (pv 1) pe_int (nomark _)) (pss_one (ps_set (i := 2) nd rfl (Or.inl rfl) (pe_op op_sub pe_int (pv 2)))) pss_nil)
      (pss_one (ps_ret (pe_tup (pa_cons (pe_op op_fdivW (pv 0) (pv 2)) (pa_cons (pe_op op_fdivW (pv 1) (pv 2)) pa_nil)))))), ?_⟩
    refine ⟨_, rfl, _, rfl, x, y, rfl, hx, hy, fun H1 e1 => ?_⟩
    refine ⟨_, rfl, _, _, rfl, rfl, _, rfl, if_f (decide_eq_false (by omega)) ?_⟩
    have g := gcd_pos (u := x) y0
    have gb : (Int.gcd x y : Int).natAbs < 2 ^ 9000 := by
      rw [Int.natAbs_natCast]
      exact Nat.lt_of_le_of_lt (Nat.gcd_le_right _ (by omega)) hy
    have cD : ∀ z : Int, CDivW z (Int.gcd x y : Int) := fun z => wide_div g gb (by decide) (by decide)
    refine ⟨_, rfl, _, rfl, _, _, rfl, rfl, cD _, _, rfl, _, rfl, _, _, rfl, rfl, cD _, two, fun p hp => ?_⟩
    refine k p _ (Evl.fresh_back e1 hp) (e1.trans (Evl.Ex.new hp)) ?_
    rw [upd_same]
    rfl
theorem ok_partL {f : Addr} {fd : FuncData} (F : Fun K "_law_wl_part" "_law_wl_part" s_l_part f fd) (cC : Cal P w K mg base 1 "_law_coin" p_l_coin spCoin) (cR : Cal P w K mg base 2 "_law_wl_ratio" p_l_ratio spRatio) : FnOk P w K mg base CX0 3 f fd p_l_part spPt := by
  refine F.ok sc_l_part (fun vs H Q E h => ?_) (fun cdv A outer s H vs Q E hr h => ?_)
  · obtain ⟨s, m, n, rfl, _⟩ := h
    rfl
  · obtain ⟨sk, m, n, rfl, m0, m1, hS, hn, k⟩ := h
    have nd := sc_l_part.nd
    have r1 : Room 1 _ := hr.mono (by decide)
    refine ⟨_, pss_cons (ps_set (i := 2) nd rfl (Or.inl rfl) (pe_op op_add pe_int (pe_c cC r1 (pa_cons (pv 0) (pa_cons (pv 1) pa_nil)))))
      (pss_one (ps_ret (pe_c cR hr (pa_cons (pe_c cC r1 (pa_cons (pv 0) (pa_cons (pe_op op_add (pv 2) pe_int) pa_nil))) (pa_cons (pv 2) pa_nil))))), ?_⟩
    have n200 : (2 : Nat) ^ 200 = 1606938044258990275541962092341162602522202993782792835301376 := by decide
    refine ⟨_, rfl, _, rfl, sk, m, n, rfl, hS, by omega, m0, by rw [n200]; omega, fun r H1 r0 r1' b1 s1 z1 => ⟨_, _, rfl, rfl, ?_⟩⟩
    refine ⟨_, rfl, _, rfl, _, _, rfl, rfl, sk, 1 + r + 1, n + 1, rfl, s1, by omega, by omega, by rw [n200]; omega, fun x H2 x0 x1 b2 s2 z2 => ⟨_, rfl, x, 1 + r, rfl, ?_, ?_, by omega, fun t H3 ht e3 h3 => ?_⟩⟩
    · exact Nat.lt_of_le_of_lt (show x.natAbs ≤ 1001 by omega) (Nat.lt_of_lt_of_le (show 1001 < 2 ^ 10 by decide) (Nat.pow_le_pow_right (by decide) (by decide)))
    · exact Nat.lt_of_le_of_lt (show (1 + r).natAbs ≤ 1000 by omega) (Nat.lt_of_lt_of_le (show 1000 < 2 ^ 10 by decide) (Nat.pow_le_pow_right (by decide) (by decide)))
    · have tn : H t = none := by
        cases e : H t with
        | none => rfl
        | some o =>
          have h1 := b1 t o (sk_ne s2 ht) e
          have h2 := b2 t o (sk_ne s2 ht) h1
          rw [ht] at h2
          cases h2
      exact k t _ _ H3 ((b1.trans b2).trans (But.of_ex e3)) (s2.ex e3) tn h3 (fr_part (by omega) x0 (by omega) (by omega))
theorem ok_twoL {f : Addr} {fd : FuncData} (F : Fun K "_law_wl_two" "_law_wl_two" s_l_two f fd) (T : T0 mg) (cC : Cal P w K mg base 1 "_law_coin" p_l_coin spCoin) : FnOk P w K mg base CX0 2 f fd p_l_two spTwo2 := by
  refine F.ok sc_l_two (fun vs H Q E h => ?_) (fun cdv A outer s H vs Q E hr h => ?_)
  · obtain ⟨s, m, n, rfl, _⟩ := h
    rfl
  · obtain ⟨sk, m, n, rfl, m0, m1, hS, hn, k⟩ := h
    have nd := sc_l_two.nd
    have two : 2 ≤ sizeLine := by show 2 ≤ sizeLine; decide
    refine ⟨_, pss_cons (ps_set (i := 2) nd rfl (Or.inl rfl) (pe_c cC hr (pa_cons (pv 0) (pa_cons (pv 1) pa_nil))))
      (pss_one (ps_ret (pe_tup (pa_cons (pv 2) (pa_cons (pe_op op_mod (pe_callTy call_int1 (by rfl) T.int (by decide +kernel) (pa_cons (pe_op op_add (pe_op op_add (pv 2) pe_int) (pe_c cC hr (pa_cons (pv 0) (pa_cons (pe_callB (call_max2 rfl) (by rfl) T.max (by decide +kernel) (pa_cons pe_int (pa_cons (pe_op op_sub (pv 1) pe_int) pa_nil))) pa_nil)))) pa_nil)) (pv 1)) pa_nil))))), ?_⟩
    have n200 := n200e
    refine ⟨_, rfl, _, rfl, sk, m, n, rfl, hS, by omega, by omega, by rw [n200]; omega, fun x H1 x0 x1 b1 s1 z1 => ?_⟩
    refine ⟨_, rfl, _, rfl, _, _, rfl, rfl, _, rfl, _, rfl, _, _, rfl, rfl, _, _, rfl, ?_⟩
    refine ⟨sk, _, n + 1, rfl, s1, by omega, by split <;> omega, by rw [n200]; split <;> omega, fun c H2 c0 c1 b2 s2 z2 => ⟨_, _, rfl, rfl, .inl ⟨_, rfl, _, rfl, _, _, rfl, rfl, by omega, two, fun t ht => ?_⟩⟩⟩
    have c1 : c < m - 1 := by split at c1 <;> omega
    have tn : H t = none := by
      cases e : H t with
      | none => rfl
      | some o =>
        have h1 := b1 t o (sk_ne s2 ht) e
        have h2 := b2 t o (sk_ne s2 ht) h1
        rw [ht] at h2
        cases h2
    refine k t x ((x + 1 + c) % m) _ ((b1.trans b2).trans (But.of_ex (Evl.Ex.new ht))) (s2.ex (Evl.Ex.new ht)) tn upd_same x0 x1 (Int.emod_nonneg _ (by omega)) (Int.emod_lt_of_pos _ (by omega)) ?_
    intro z
    by_cases hh : x + 1 + c < m
    · rw [Int.emod_eq_of_lt (by omega) hh] at z
      omega
    · have e : (x + 1 + c) % m = x + 1 + c - m := by
        rw [← Int.sub_emod_right, Int.emod_eq_of_lt (by omega) (by omega)]
      rw [e] at z
      omega
theorem ok_vats {f : Addr} {fd : FuncData} (F : Fun K "_law_wl_vats" "_law_wl_vats" s_l_vats f fd) (mR : mg "range" = none) (cC : Cal P w K mg base 1 "_law_coin" p_l_coin spCoin) : FnOk P w K mg base CX0 2 f fd p_l_vats spVats := by
  refine F.ok sc_l_vats (fun vs H Q E h => ?_) (fun cdv A outer s H vs Q E hr h => ?_)
  · obtain ⟨s, m, o, n, rfl, _⟩ := h
    rfl
  · obtain ⟨sk, m, o, n, rfl, m0, m1, o0, o1, hS, hn, k⟩ := h
    have nd := sc_l_vats.nd
    have two : 2 ≤ sizeLine := by show 2 ≤ sizeLine; decide
    have n200 := n200e
    refine ⟨_, pss_cons (ps_par (i := 3) (j := 4) rfl nd rfl rfl (by decide) rfl rfl (pa_cons (pe_c cC hr (pa_cons (pv 0) (pa_cons (pv 1) pa_nil))) (pa_cons (pe_lst pa_nil) pa_nil)) (by rfl))
      (pss_cons (ps_for PassesOwn.never rfl (pi_range1 (by rfl) mR (pa_cons (pv 1) pa_nil)) (pg_name (i := 5) nd rfl (Or.inl rfl)) (pss_cons (ps_set (i := 6) nd rfl (Or.inl rfl) (pe_c cC hr (pa_cons (pv 0) (pa_cons (pe_op op_add (pv 2) pe_int) pa_nil))))
      (Evl.pss_cut (ps_set (i := 6) nd rfl (Or.inl rfl) (pe_ifExp (pt_cmpR op_eq (pe_c cC hr (pa_cons (pv 0) (pa_cons pe_int pa_nil))) pe_int (nomark _)) pe_int (pv 6)))
      (pss_cons (ps_set (i := 7) nd rfl (Or.inl rfl) (pe_op op_add pe_int (pe_c cC hr (pa_cons (pv 0) (pa_cons (pv 2) pa_nil)))))
      (pss_one (ps_expr (pe_bm PySem.F.plainAttrs_list PySem.F.slot_list_append PySem.F.type_list_append mt_append (pv 4) (pa_cons (pe_tup (pa_cons (pe_ifExp (pt_cmpR op_eq (pv 5) (pv 3) (nomark _)) pe_non (pv 7)) (pa_cons (pv 6) pa_nil))) pa_nil))))))))
      (pss_one (ps_ret (pv 4)))), ?_⟩
    refine ⟨_, rfl, _, rfl, sk, m, n, rfl, hS, by omega, m0, by rw [n200]; omega, fun rk H1 rk0 rk1 b1 s1 z1 => ⟨Nat.zero_le _, fun l hl => ⟨_, _, rfl, ?_⟩⟩⟩
    have lsk : l ≠ sk := sk_ne s1 hl
    have lH : H l = none := but_none b1 s1 hl
    have e1 := Evl.Ex.new (o := .lst []) hl
    refine ⟨_, rfl, m, rfl, by omega, by omega, for_range (n := m.toNat) (fun i σ H' => ∃ (ts : List Tk) (v5 v6 v7 : Option V), σ = [some (.ref sk), some (.int m), some (.int o), some (.int rk), some (.ref l), v5, v6, v7] ∧ But sk H H' ∧ Sk H' sk (n + 1 + 3 * i) ∧ TksAt (wo sk H') l ts ∧ ts.length = i ∧ (∀ t ∈ ts, ((∀ z, t.1 = some z → 1 ≤ z) ∧ 0 ≤ t.2) ∧ (∀ z, t.1 = some z → z ≤ 1000) ∧ t.2 ≤ 1000) ∧ ts.countP (fun t => t.1.isNone) = if rk < (i : Int) then 1 else 0)
      ⟨[], none, none, none, rfl, b1.trans (But.of_ex e1), s1.ex e1, ⟨[], wo_at lsk upd_same, rfl, fun i a t h => (by cases h)⟩, rfl, (fun t h => by cases h), by rw [if_neg (by omega)]; rfl⟩ ?_ ?_⟩
    · rintro i σ H2 hi ⟨ts, v5, v6, v7, rfl, b2, s2, hT, hl2, hb, hc⟩
      rw [Int.zero_add]
      have hi20 : i < 20 := by omega
      have fin : ∀ (H5 : Hp) (x : Tk) (t : Addr), But sk H2 H5 → Sk H5 sk (n + 1 + 3 * (i + 1)) → H5 t = none → ((∀ z, x.1 = some z → 1 ≤ z) ∧ 0 ≤ x.2) ∧ (∀ z, x.1 = some z → z ≤ 1000) ∧ x.2 ≤ 1000 → (x.1 = none ↔ rk = (i : Int)) →
          ∃ acc, upd H5 t (.tup [wV x.1, .int x.2]) l = some (.lst acc) ∧ acc.length < sizeLine ∧ ∃ (ts : List Tk), But sk H (upd (upd H5 t (.tup [wV x.1, .int x.2])) l (.lst (acc ++ [.ref t]))) ∧ Sk (upd (upd H5 t (.tup [wV x.1, .int x.2])) l (.lst (acc ++ [.ref t]))) sk (n + 1 + 3 * (i + 1)) ∧ TksAt (wo sk (upd (upd H5 t (.tup [wV x.1, .int x.2])) l (.lst (acc ++ [.ref t])))) l ts ∧ ts.length = i + 1 ∧ (∀ t ∈ ts, ((∀ z, t.1 = some z → 1 ≤ z) ∧ 0 ≤ t.2) ∧ (∀ z, t.1 = some z → z ≤ 1000) ∧ t.2 ≤ 1000) ∧ ts.countP (fun t => t.1.isNone) = if rk < ((i + 1 : Nat) : Int) then 1 else 0 := by
        intro H5 x t b5 s5 ht hx hn
        have ex := Evl.Ex.new (o := .tup [wV x.1, .int x.2]) ht
        have b26 := b5.trans (But.of_ex (p := sk) ex)
        have s6 := s5.ex ex
        have h6 : upd H5 t (.tup [wV x.1, .int x.2]) t = some (.tup [wV x.1, .int x.2]) := upd_same
        generalize upd H5 t (.tup [wV x.1, .int x.2]) = H6 at ex b26 s6 h6
        obtain ⟨acc, q1, q2, q3⟩ := tks_more (x := x) (hT.ex b26.wo) (sk_ne s5 ht) h6
        refine ⟨acc, q1, ?_, ts ++ [x], ?_, ?_, q3, by rw [List.length_append, hl2]; rfl, ?_, cnt_more hc hn⟩
        · rw [q2, hl2]
          exact Nat.lt_of_lt_of_le hi20 (by decide)
        · exact fun c o nc e => Eq.trans (upd_ne (ne_of_none' e lH)) ((b2.trans b26) c o nc e)
        · exact s6.upd lsk
        · intro t' ht'
          rcases List.mem_append.mp ht' with h | h
          · exact hb _ h
          · rw [List.mem_singleton.mp h]
            exact hx
      refine ⟨_, rfl, _, rfl, _, _, rfl, rfl, sk, o + 1, _, rfl, s2, by omega, by omega, by rw [n200]; omega, fun a H3 a0 a1 b3 s3 z3 => ?_⟩
      refine ⟨fun σ H' => ∃ (e : Int), σ = [some (.ref sk), some (.int m), some (.int o), some (.int rk), some (.ref l), some (.int (i : Int)), some (.int e), v7] ∧ 0 ≤ e ∧ e ≤ 1000 ∧ But sk H3 H' ∧ Sk H' sk (n + 1 + 3 * i + 2), ?_, ?_⟩
      · refine ⟨_, rfl, sk, 5, _, rfl, s3, by omega, by decide, by decide, fun y H4 y0 y1 b4 s4 z4 => ⟨rfl, _, rfl, ?_⟩⟩
        by_cases hy : y = 0
        · exact if_t (by rw [hy]; exact decide_eq_true rfl) ⟨0, rfl, by decide, by decide, b4, s4⟩
        · exact if_f (decide_eq_false fun z => hy (by cases z; rfl)) ⟨_, rfl, a, rfl, by omega, by omega, b4, s4⟩
      rintro σ H4 ⟨e, rfl, e0, e1', b4, s4⟩
      refine ⟨_, rfl, _, rfl, sk, o, _, rfl, s4, by omega, by omega, by rw [n200]; omega, fun z H5 z0 z1 b5 s5 z5 => ⟨_, _, rfl, rfl, ?_⟩⟩
      have b25 := (b3.trans b4).trans b5
      have hT5 := hT.ex b25.wo
      refine ⟨_, rfl, .inl ⟨rfl, _, SqL.of (wo_ex _ _ hT5.choose_spec.1)⟩, ?_⟩
      refine ⟨_, rfl, _, rfl, rfl, _, rfl, ?_⟩
      by_cases hr : rk = (i : Int)
      · refine if_t (decide_eq_true (by rw [hr])) ⟨_, rfl, two, fun t ht => ?_⟩
        obtain ⟨acc, q1, q2, ts', q3, q4⟩ := fin H5 (none, e) t b25 (s5.le (by omega)) ht ⟨⟨fun z h => (by cases h), e0⟩, fun z h => (by cases h), e1'⟩ ⟨fun _ => hr, fun _ => rfl⟩
        exact ⟨l, acc, _, rfl, rfl, q1, q2, ts', _, _, _, rfl, q3, q4⟩
      · refine if_f (decide_eq_false fun q => hr (by injection q with q; exact q.symm)) ⟨_, rfl, _, rfl, two, fun t ht => ?_⟩
        obtain ⟨acc, q1, q2, ts', q3, q4⟩ := fin H5 (some (1 + z), e) t b25 (s5.le (by omega)) ht ⟨⟨fun z' h => (by cases h; omega), e0⟩, fun z' h => (by cases h; omega), e1'⟩ ⟨fun h => (by cases h), fun h => absurd h hr⟩
        exact ⟨l, acc, _, rfl, rfl, q1, q2, ts', _, _, _, rfl, q3, q4⟩
    · rintro σ H2 ⟨ts, v5, v6, v7, rfl, b2, s2, hT, hl2, hb, hc⟩
      refine ⟨_, rfl, k l ts H2 b2 s2 lH hT ⟨by omega, fun t ht => (hb t ht).1, ?_⟩ (by omega) fun t ht => (hb t ht).2⟩
      rw [hc, if_pos (by omega)]
end
end V2


namespace V2
open PySem L2
open PySem.Spec PyProof.Rows
section
variable {X : Cx} {CX : CXT} {k : Nat} {f C : Addr} {fd : FuncData} {ps : List Str} {sp : Sp} {E : L2.St → XK} {m : Str} {p q : Pos} {o e : Expr} {es : List Expr} {to : TE} {t : TA}
/-- what follows on the arguments of raise C(y) -/
theorem raise_in {K : PySem.W.Frag} {C g : Addr} {G : Hp} {y : V} {Q : XK} (T : EC K C g) (q : ∀ d G', G d = none → Evl.Ex G G' → G' d = some (.xd [("value", y)]) → Q (.ref C) (some d) G') :
    [y].length ≤ 1000 ∧ ∀ a, G a = none → spInit K (.ref a :: ([y] ++ [])) (upd G a (exo a C none)) (fun v G2 => v = .non ∧ ∃ (d : Addr) (fs : List (Str × V)), G2 a = some (exo a C (some d)) ∧ G2 d = some (exd d fs) ∧ G d = none ∧ Q (.ref C) (some d) (upd (del G2 a) d (.xd fs))) (fun _ _ _ => False) := by
  refine ⟨by show 1 ≤ 1000; decide, fun a ha => ⟨a, C, y, rfl, T.ox, T.noV, upd_same, fun dx hd hne => ⟨rfl, dx, [("value", y)], upd_same, Eq.trans (upd_ne hne) upd_same, ?_⟩⟩⟩
  have hd' : G dx = none := (upd_ne hne).symm.trans hd
  refine ⟨hd', q dx _ hd' (fun b o hb => ?_) upd_same⟩
  exact Eq.trans (upd_ne (ne_of_none hb hd')) (Eq.trans (del_ne (ne_of_none hb ha)) (Eq.trans (upd_ne (ne_of_none hb ha)) (Eq.trans (upd_ne (ne_of_none hb hd')) (Eq.trans (upd_ne (ne_of_none hb ha)) hb))))
end
end V2


namespace V2
open PySem L2
open PySem.Spec PyProof.Rows
theorem last_split {α : Type} {l : List α} (h : 0 < l.length) : ∃ a b, l = a ++ [b] := ⟨_, _, (List.dropLast_concat_getLast (List.length_pos_iff.mp h)).symm⟩
section
variable {base : Heap} {mg : Str → Option Value} {K : PySem.W.Frag} {w : World} {P : Program} {C fI fC fL fW fE pE : Addr}
end
end V2


namespace V2
open PySem L2
open PySem.Spec PyProof.Rows
theorem shp_v {ts : List Tk} {ds : List Deed} {u b : Int} (h : ShW ts ds) (hu : 0 < u) (hQ : Qn u b) : OkV ts.length (ts.map (wid u b)) := by
  obtain ⟨b0, _, ub, bb⟩ := hQ
  refine ⟨by rw [List.length_map], fun x hx => ?_, fun x hx => ?_⟩
  · obtain ⟨t, ht, rfl⟩ := List.mem_map.mp hx
    unfold wid
    split
    · exact hu
    · rename_i z hz
      have := (h.ok.1.2.1 t ht).1 z hz
      exact Int.mul_pos (by omega) b0
  · obtain ⟨t, ht, rfl⟩ := List.mem_map.mp hx
    unfold wid
    split
    · exact Nat.lt_of_lt_of_le ub (Nat.pow_le_pow_right (by decide) (by decide))
    · rename_i z hz
      have h1 := (h.ok.1.2.1 t ht).1 z hz
      have h2 := (h.w1000 t ht).1 z hz
      have hz : Bn 10 z := Nat.lt_of_le_of_lt (show z.natAbs ≤ 1000 by omega) (by decide)
      exact hz.mul bb
theorem shp_w {ts : List Tk} {ds : List Deed} (h : ShW ts ds) : OkW 11 (ts.map (·.2)) 1 := by
  refine ⟨fun x hx => ?_, fun x hx => ?_, by show 1 < 2 ^ 11; decide, by decide⟩
  · obtain ⟨t, ht, rfl⟩ := List.mem_map.mp hx
    exact (h.ok.1.2.1 t ht).2
  · obtain ⟨t, ht, rfl⟩ := List.mem_map.mp hx
    have h1 := (h.ok.1.2.1 t ht).2
    have h2 := (h.w1000 t ht).2
    exact Nat.lt_of_le_of_lt (show t.2.natAbs ≤ 1000 by omega) (by decide)
/-- a script stands at x -/
def ScAt (H : Hp) (C x : Addr) (ts : List Tk) (ds : List Deed) : Prop := ∃ (dx : Addr) (fs : List (Str × V)) (v u : V), H x = some (.ins C dx fs) ∧ fs.lookup ("_tanks" : Str) = some v ∧ fs.lookup ("_steps" : Str) = some u ∧ Dq H v (.list (ts.map tkD)) ∧ Dq H u (.list (ds.map dD)) ∧ fs = scF v u
theorem ScAt.ex {H H' : Hp} {C x : Addr} {ts : List Tk} {ds : List Deed} (h : ScAt H C x ts ds) (e : Evl.Ex H H') : ScAt H' C x ts ds := by
  obtain ⟨dx, fs, v, u, h1, h2, h3, h4, h5, h6⟩ := h
  exact ⟨dx, fs, v, u, e _ _ h1, h2, h3, h4.go e, h5.go e, h6⟩
/-- where the water stands behind the first i steps -/
abbrev wAt (ts : List Tk) (ds : List Deed) (u b : Int) (i : Nat) : List Int × Int := runA (ts.map (wid u b)) (ts.map (·.2), 1) (ds.take i)
/-- the run ends behind the first n steps; e tells at which step -/
structure EndsAt (ts : List Tk) (ds : List Deed) (u b : Int) (n : Nat) (e : V) : Prop where
  le : n ≤ ds.length
  no : ∀ (j : Nat) (d : Deed), j < n → ds[j]? = some d → endB (ts.map (wid u b)) (wAt ts ds u b j).1 d = false
  at_ : (n = ds.length ∧ e = .non) ∨ ∃ d, ds[n]? = some d ∧ endB (ts.map (wid u b)) (wAt ts ds u b n).1 d = true ∧ e = .int (n : Int)
def lvsA (ts : List Tk) (ds : List Deed) (u b : Int) (n : Nat) : List (Int × Int) := (List.range (wAt ts ds u b n).1.length).map (lvl (wAt ts ds u b n).1 (ts.map (wid u b)) (wAt ts ds u b n).2 b)
def spRunOf : Sp := fun vs H Q _ => ∃ (lt ls f : Addr) (ts : List Tk) (ds : List Deed) (u b : Int), vs = [.ref lt, .ref ls, .ref f] ∧ TksAt H lt ts ∧ DsAt H ls ds ∧ ShW ts ds ∧ Fr H f u b ∧ 0 < u ∧ Qn u b ∧
  ∀ q D e n H', Evl.Ex H H' → H D = none → H' q = some (.tup [e, .ref D]) → PrAt H' D (lvsA ts ds u b n) → EndsAt ts ds u b n e → Q (.ref q) H'
theorem wAt_ok {ts : List Tk} {ds : List Deed} {u b : Int} (h : ShW ts ds) (hu : 0 < u) (hQ : Qn u b) (i : Nat) : (wAt ts ds u b i).1.length = ts.length ∧ OkW 4000 (wAt ts ds u b i).1 (wAt ts ds u b i).2 := by
  have := runA_ok (shp_v h hu hQ) (ds := ds.take i) (N := 11) (S := (ts.map (·.2), 1)) (List.length_map ..) (shp_w h) (fun d hd => by
    have md := List.mem_of_mem_take hd
    refine ⟨h.ok.2.2 d md, fun k a e => ?_⟩
    subst e
    have h1 := h.p1000 k a md
    have h2 := (h.ok.2.2 _ md).2
    exact Nat.lt_of_le_of_lt (show a.natAbs ≤ 1000 by omega) (by decide))
  refine ⟨this.1, ⟨this.2.nn, fun x hx => (this.2.bA x hx).le ?_, this.2.bW.le ?_, this.2.pos⟩⟩
  · have := h.ok.2.1
    rw [List.length_take]
    omega
  · have := h.ok.2.1
    rw [List.length_take]
    omega
section
variable {base : Heap} {mg : Str → Option Value} {K : PySem.W.Frag} {w : World} {P : Program} {C fI fC fL fW fE pE : Addr}
theorem ok_run_of {f : Addr} {fd : FuncData} (F : Fun K "run_of" "run_of" s_run_of f fd) (T : T2 mg) (cT : Cal P w K mg base 1 "told_widths" p_told_widths spTold) (cF : Cal P w K mg base 2 "first_water" p_first_water spFirst) (cA : Cal P w K mg base 6 "after" p_after spAfter) (cE : Cal P w K mg base 8 "is_ended" p_is_ended spEnd) (cL : Cal P w K mg base 7 "told_levels" p_told_levels spTL) : FnOk P w K mg base CX0 9 f fd p_run_of spRunOf := by
  refine F.ok sc_run_of (fun vs H Q E h => ?_) (fun cdv A outer s H vs Q E hr h => ?_)
  · obtain ⟨lt, ls, g, ts, ds, u, b, rfl, _⟩ := h
    rfl
  · obtain ⟨lt, ls, g, ts, ds, u, b, rfl, hT, hD, hS, hg, hu, hQ, k⟩ := h
    have nd := sc_run_of.nd
    have r1 : Room 1 _ := hr.mono (by decide)
    have r2 : Room 2 _ := hr.mono (by decide)
    have r6 : Room 6 _ := hr.mono (by decide)
    have r7 : Room 7 _ := hr.mono (by decide)
    have two : 2 ≤ sizeLine := by show 2 ≤ sizeLine; decide
    refine ⟨_, pss_cons (ps_par (i := 3) (j := 4) rfl nd rfl rfl (by decide) rfl rfl (pa_cons (pe_c cT r1 (pa_cons (pv 0) (pa_cons (pv 2) pa_nil))) (pa_cons (pe_c cF r2 (pa_cons (pv 0) pa_nil)) pa_nil)) (by rfl))
      (pss_cons (ps_for PassesOwn.never rfl (pi_enum (by rfl) T.enu (pa_cons (pv 1) pa_nil)) (pg_tup rfl (pgs_cons (pg_name (i := 5) nd rfl (Or.inl rfl)) (pgs_cons (pg_name (i := 6) nd rfl (Or.inl rfl)) pgs_nil))) (pss_cons (ps_if (pt_val (pe_c cE hr (pa_cons (pv 6) (pa_cons (pv 4) (pa_cons (pv 3) pa_nil))))) (pss_one (ps_ret (pe_tup (pa_cons (pv 5) (pa_cons (pe_c cL r7 (pa_cons (pv 4) (pa_cons (pv 3) (pa_cons (pv 2) pa_nil)))) pa_nil))))) pss_nil)
      (pss_one (ps_set (i := 4) nd rfl (Or.inl rfl) (pe_c cA r6 (pa_cons (pv 6) (pa_cons (pv 4) (pa_cons (pv 3) pa_nil))))))))
      (pss_one (ps_ret (pe_tup (pa_cons pe_non (pa_cons (pe_c cL r7 (pa_cons (pv 4) (pa_cons (pv 3) (pa_cons (pv 2) pa_nil)))) pa_nil)))))), ?_⟩
    obtain ⟨b0, bc, ub, bb⟩ := id hQ
    have h20 := hS.ok.1.1
    refine ⟨_, rfl, _, rfl, lt, g, ts, u, b, rfl, hT, hS.ok.1, fun t ht => (hS.w1000 t ht).1, hg, hu, b0, ub, bb, fun Wd H1 hWd e1 hw => ?_⟩
    refine ⟨_, rfl, lt, ts, rfl, hT.ex e1, h20, fun t x y H2 e2 ht hx hy => ⟨_, _, rfl, ?_⟩⟩
    have hw2 := hw.ex e2
    have e02 := e1.trans e2
    have hV := shp_v hS hu hQ
    have hV' : ∀ i, OkV (wAt ts ds u b i).1.length (ts.map (wid u b)) := fun i => by rw [(wAt_ok hS hu hQ i).1]; exact hV
    have h20' : ∀ i, (wAt ts ds u b i).1.length ≤ 20 := fun i => by rw [(wAt_ok hS hu hQ i).1]; exact h20
    obtain ⟨xs, hxs, hxl, hxi⟩ := ds_items (hD.ex e02)
    refine ⟨_, rfl, ls, _, rfl, SqL.of hxs, for_it walk_enum (fun i σ H' => ∃ (t : Addr) (v6 v7 : Option V), σ = [some (.ref lt), some (.ref ls), some (.ref g), some (.ref Wd), some (.ref t), v6, v7] ∧ Evl.Ex H2 H' ∧ Wat H' t (wAt ts ds u b i).1 (wAt ts ds u b i).2 ∧ ∀ (j : Nat) (d : Deed), j < i → ds[j]? = some d → endB (ts.map (wid u b)) (wAt ts ds u b j).1 d = false)
      ⟨t, none, none, rfl, Evl.Ex.refl _, ⟨⟨x, y, ht, hx, hy⟩, by show (0 : Int) < 1; decide⟩, fun j d h => absurd h (Nat.not_lt_zero _)⟩ (fun i σ H' _ ⟨_, _, _, _, q, _⟩ => SqL.of (q _ _ hxs)) ?_ ?_⟩
    · rintro i v σ H3 H4 hi ⟨t, v6, v7, rfl, e3, hWt, hno⟩ ⟨t3, z, o, rfl, ht3, rfl, hz, ho⟩
      obtain rfl := (Option.some.inj hz).symm
      obtain ⟨a, d, rfl, hd, hDa⟩ := hxi i _ ho
      have e4 := Evl.Ex.new (o := .tup [.int (i : Nat), .ref a]) ht3
      have e34 := e3.trans e4
      have hi2 : i < ds.length := (List.getElem?_eq_some_iff.mp hd).1
      have hdm := List.mem_of_getElem? hd
      have hok : okD (wAt ts ds u b i).1.length d := by rw [(wAt_ok hS hu hQ i).1]; exact hS.ok.2.2 d hdm
      have hpo : ∀ k a, d = .po k a → Bn 60 a := fun k a e => by
        subst e
        have h1 := hS.p1000 k a hdm
        have h2 := (hS.ok.2.2 _ hdm).2
        exact Nat.lt_of_le_of_lt (show a.natAbs ≤ 1000 by omega) (by decide)
      refine ⟨t3, _, rfl, SqT.of upd_same, rfl, _, _, rfl, _, _, rfl, rfl, ?_⟩
      refine ⟨_, rfl, _, rfl, _, rfl, a, t, Wd, d, _, _, _, rfl, hDa.ex e34, hok, hWt.ex e4, hw2.ex e34, h20' i, hV' i, (wAt_ok hS hu hQ i).2, fun H5 e5 => ?_⟩
      have e35 := e34.trans e5
      cases he : endB (ts.map (wid u b)) (wAt ts ds u b i).1 d with
      | true =>
        refine ⟨_, rfl, if_t rfl ?_⟩
        refine ⟨_, rfl, _, rfl, _, rfl, _, rfl, t, Wd, g, _, ts.map (wid u b), _, u, b, 4000, rfl, (hWt.ex e4).ex e5, hw2.ex e35, (e02.trans e35) _ _ hg, h20' i, hV' i, (wAt_ok hS hu hQ i).2, by decide, b0, bb, fun D2 H6 hD2 e6 hF => ⟨two, fun q hq => ?_⟩⟩
        have e7 := Evl.Ex.new (o := .tup [.int (i : Nat), .ref D2]) hq
        exact k q D2 _ i _ (((e02.trans e35).trans e6).trans e7) (Evl.fresh_back (e02.trans e35) hD2) upd_same (hF.ex e7) ⟨Nat.le_of_lt hi2, hno, .inr ⟨d, hd, he, rfl⟩⟩
      | false =>
        refine ⟨_, rfl, if_f rfl ?_⟩
        refine ⟨_, rfl, _, rfl, _, rfl, a, t, Wd, d, _, ts.map (wid u b), _, 4000, rfl, hDa.ex e35, hok, hpo, (hWt.ex e4).ex e5, hw2.ex e35, h20' i, hV' i, (wAt_ok hS hu hQ i).2, by decide, fun t' H6 e6 hW6 => ?_⟩
        refine ⟨t', _, _, rfl, e35.trans e6, ?_, fun j d' hj hd' => ?_⟩
        · show Wat H6 t' (runA _ _ (ds.take (i + 1))).1 (runA _ _ (ds.take (i + 1))).2
          rw [runA_take hd]
          exact hW6
        · rcases Nat.lt_succ_iff_lt_or_eq.mp hj with h | rfl
          · exact hno j d' h hd'
          · rw [hd] at hd'
            cases hd'
            exact he
    · rintro σ H3 ⟨t, v6, v7, rfl, e3, hWt, hno⟩
      rw [hxl] at hWt hno
      have e03 := e02.trans e3
      refine ⟨_, rfl, _, rfl, _, rfl, t, Wd, g, _, ts.map (wid u b), _, u, b, 4000, rfl, hWt, hw2.ex e3, e03 _ _ hg, h20' _, hV' _, (wAt_ok hS hu hQ _).2, by decide, b0, bb, fun D2 H5 hD2 e5 hF => ⟨two, fun q hq => ?_⟩⟩
      have e6 := Evl.Ex.new (o := .tup [.non, .ref D2]) hq
      exact k q D2 _ ds.length _ ((e03.trans e5).trans e6) (Evl.fresh_back e03 hD2) upd_same (hF.ex e6) ⟨Nat.le_refl _, hno, .inl ⟨rfl, rfl⟩⟩
end
end V2


namespace V2
open PySem L2
open PySem.Spec PyProof.Rows
def frD (f : Int × Int) : PyData := .tuple [.int f.1, .int f.2]
theorem DpAll.of_get {K : PySem.W.Frag} {H : Hp} : ∀ {vs : List V} {ds : List PyData}, vs.length = ds.length → (∀ (i : Nat) (v : V) (d : PyData), vs[i]? = some v → ds[i]? = some d → Dp K H v d) → DpAll K H vs ds
  | [], [], _, _ => .nil
  | v :: vs, d :: ds, hl, h => .cons (h 0 v d rfl rfl) (DpAll.of_get (by simpa using hl) fun i v d x y => h (i + 1) v d x y)
  | [], _ :: _, hl, _ => by cases hl
  | _ :: _, [], hl, _ => by cases hl
theorem DqAll.of_get {H : Hp} : ∀ {vs : List V} {ds : List PyData}, vs.length = ds.length → (∀ (i : Nat) (v : V) (d : PyData), vs[i]? = some v → ds[i]? = some d → Dq H v d) → DqAll H vs ds
  | [], [], _, _ => .nil
  | v :: vs, d :: ds, hl, h => .cons (h 0 v d rfl rfl) (DqAll.of_get (by simpa using hl) fun i v d x y => h (i + 1) v d x y)
  | [], _ :: _, hl, _ => by cases hl
  | _ :: _, [], hl, _ => by cases hl
/-- a fraction whose numbers are not great -/
def Fb (N : Nat) (f : Int × Int) : Prop := 0 < f.2 ∧ Bn N f.1 ∧ Bn N f.2
/-- while a list of steps is being made at D -/
def DsN (H : Hp) (D : Addr) (ds : List Deed) : Prop := ∃ as : List Addr, H D = some (.lst (as.map V.ref)) ∧ as.length = ds.length ∧ ∀ (i : Nat) (a : Addr) (d : Deed), as[i]? = some a → ds[i]? = some d → DAt (wo D H) a d
theorem DsN.start {H : Hp} {D : Addr} (h : H D = some (.lst [])) : DsN H D [] := ⟨[], h, rfl, fun i a f h => by cases h⟩
theorem DsN.done {H : Hp} {D : Addr} {ds : List Deed} (h : DsN H D ds) : DsAt H D ds := by
  obtain ⟨as, h1, h2, h3⟩ := h
  exact ⟨as, h1, h2, fun i a f x y => (h3 i a f x y).ex wo_ex⟩
theorem DsN.more {H H' : Hp} {D t : Addr} {ds : List Deed} {d : Deed} {n : Int} (h : DsN H D ds) (e : Evl.Ex H H') (ht : DAt H' t d) (hd : okD n d) (hl : ds.length ≤ 1000) : ∃ acc, H' D = some (.lst acc) ∧ acc.length < sizeLine ∧ DsN (upd H' D (.lst (acc ++ [.ref t]))) D (ds ++ [d]) := by
  obtain ⟨as, h1, h2, h3⟩ := h
  have h1' := e _ _ h1
  have up : ∀ o, Evl.Ex (wo D H') (wo D (upd H' D o)) := fun o b u z => wo_at (wo_ne z) (Eq.trans (upd_ne (wo_ne z)) (wo_ex _ _ z))
  refine ⟨_, h1', ?_, as ++ [t], ?_, by rw [List.length_append, List.length_append, h2]; rfl, fun i a g ha hg => ?_⟩
  · rw [List.length_map, h2]
    exact Nat.lt_of_le_of_lt hl (by decide)
  · rw [upd_same, List.map_append]
    rfl
  · rcases get_app ha with ⟨h4, h5⟩ | ⟨h4, rfl⟩
    · rcases get_app hg with ⟨h6, _⟩ | ⟨h6, _⟩
      · exact ((h3 i a g h4 h6).ex (ex_wo e)).ex (up _)
      · omega
    · rcases get_app hg with ⟨h6, h7⟩ | ⟨_, rfl⟩
      · omega
      · exact (dat_keep ht hd h1' fun b o n z => wo_at n z).ex (up _)
/-- while a list of fractions is being made at D -/
def PrN (H : Hp) (D : Addr) (fs : List (Int × Int)) : Prop := ∃ as : List Addr, H D = some (.lst (as.map V.ref)) ∧ as.length = fs.length ∧ ∀ (i : Nat) (a : Addr) (f : Int × Int), as[i]? = some a → fs[i]? = some f → a ≠ D ∧ Fr H a f.1 f.2
theorem PrN.start {H : Hp} {D : Addr} (h : H D = some (.lst [])) : PrN H D [] := ⟨[], h, rfl, fun i a f h => by cases h⟩
theorem PrN.done {H : Hp} {D : Addr} {fs : List (Int × Int)} (h : PrN H D fs) : PrAt H D fs := by
  obtain ⟨as, h1, h2, h3⟩ := h
  exact ⟨as, h1, h2, fun i a f x y => (h3 i a f x y).2⟩
theorem PrN.more {H H' : Hp} {D t : Addr} {fs : List (Int × Int)} {f : Int × Int} (h : PrN H D fs) (e : Evl.Ex H H') (ht : Fr H' t f.1 f.2) (hl : fs.length ≤ 1000) : ∃ acc, H' D = some (.lst acc) ∧ acc.length < sizeLine ∧ acc.length = fs.length ∧ PrN (upd H' D (.lst (acc ++ [.ref t]))) D (fs ++ [f]) := by
  obtain ⟨as, h1, h2, h3⟩ := h
  have h1' := e _ _ h1
  have tD : t ≠ D := fun z => by
    have ht : H' t = some (.tup [.int f.1, .int f.2]) := ht
    rw [z, h1'] at ht
    cases ht
  refine ⟨_, h1', ?_, by rw [List.length_map]; exact h2, as ++ [t], ?_, by rw [List.length_append, List.length_append, h2]; rfl, fun i a g ha hg => ?_⟩
  · rw [List.length_map, h2]
    exact Nat.lt_of_le_of_lt hl (by decide)
  · rw [upd_same, List.map_append]
    rfl
  · rcases get_app ha with ⟨h4, h5⟩ | ⟨h4, rfl⟩
    · rcases get_app hg with ⟨h6, _⟩ | ⟨h6, _⟩
      · obtain ⟨n, z⟩ := h3 i a g h4 h6
        exact ⟨n, Eq.trans (upd_ne n) (e _ _ z)⟩
      · omega
    · rcases get_app hg with ⟨h6, h7⟩ | ⟨_, rfl⟩
      · omega
      · exact ⟨tD, Eq.trans (upd_ne tD) ht⟩
end V2


namespace V2
open PySem L2
open PySem.Spec PyProof.Rows
theorem DsAt.dq {H : Hp} {l : Addr} {ds : List Deed} (h : DsAt H l ds) : Dq H (.ref l) (.list (ds.map dD)) := by
  obtain ⟨as, h1, h2, h3⟩ := h
  refine .lst h1 (DqAll.of_get (by rw [List.length_map, List.length_map]; exact h2) fun i v d hv hd => ?_)
  rw [List.getElem?_map] at hv hd
  cases e1 : as[i]? with
  | none =>
    rw [e1] at hv
    cases hv
  | some a =>
    cases e2 : ds[i]? with
    | none =>
      rw [e2] at hd
      cases hd
    | some t =>
      rw [e1] at hv
      rw [e2] at hd
      cases hv
      cases hd
      exact dat_dq (h3 i a t e1 e2)
def spRun (C : Addr) : Sp := fun vs H Q _ => ∃ (x f : Addr) (ts : List Tk) (ds : List Deed) (u b : Int), vs = [.ref x, .ref f] ∧ ScAt H C x ts ds ∧ ShW ts ds ∧ Fr H f u b ∧ 0 < u ∧ Qn u b ∧
  ∀ q D e n H', Evl.Ex H H' → H D = none → H' q = some (.tup [e, .ref D]) → PrAt H' D (lvsA ts ds u b n) → EndsAt ts ds u b n e → Q (.ref q) H'
def spCi : Sp := fun vs H Q _ => ∃ (i m : Int), vs = [.int i, .int m] ∧ 0 ≤ i ∧ i < m ∧ Evl.RetV .non H Q
def spCx : Sp := fun vs H Q _ => ∃ (i m : Int), vs = [.int i, .int m] ∧ 0 ≤ i ∧ i + 1 < m ∧ Evl.RetV .non H Q
section
variable {base : Heap} {mg : Str → Option Value} {K : PySem.W.Frag} {w : World} {P : Program} {C fI fT fS pT pS : Addr}
theorem ok_run {f : Addr} {fd fdT fdS : FuncData} (F : Fun K "run" "run" s_run f fd) (c : ScC K C fI fT fS pT pS) (FT : FnOk P w K mg base CX0 4 fT fdT p_Sc_tanks (spGet C 2 "_tanks")) (bT : Binds K fdT p_Sc_tanks []) (FS : FnOk P w K mg base CX0 5 fS fdS p_Sc_steps (spGet C 3 "_steps")) (bS : Binds K fdS p_Sc_steps [])
    (cW : Cal P w K mg base 3 "check_width" p_check_width spCw) (cR : Cal P w K mg base 9 "run_of" p_run_of spRunOf) : FnOk P w K mg base CX0 10 f fd p_run (spRun C) := by
  refine F.ok sc_run (fun vs H Q E h => ?_) (fun cdv A outer s H vs Q E hr h => ?_)
  · obtain ⟨x, g, ts, ds, u, b, rfl, _⟩ := h
    rfl
  · obtain ⟨x, g, ts, ds, u, b, rfl, ⟨dx, fs, v, y, hx, hv, hy, hdv, hdy, _⟩, hS, hg, hu, hQ, k⟩ := h
    refine ⟨_, pss_cons (ps_expr (pe_c cW (hr.mono (by decide)) (pa_cons (pv 1) pa_nil)))
      (pss_one (ps_ret (pe_c cR hr (pa_cons (pe_prop (pv 0) c.cls c.prT FT (hr.mono (by decide)) bT .nil pass0 rfl) (pa_cons (pe_prop (pv 0) c.cls c.prS FS (hr.mono (by decide)) bS .nil pass0 rfl) (pa_cons (pv 1) pa_nil)))))), ?_⟩
    refine ⟨_, rfl, g, u, b, rfl, hg, hQ, hu, fun H1 e1 => ?_⟩
    refine ⟨_, rfl, x, dx, fs, rfl, e1 _ _ hx, x, dx, fs, v, _, rfl, e1 _ _ hx, hv, hdv.go e1, cp_tks (Nat.le_trans hS.ok.1.1 (by decide)), fun v1 H2 e2 h2 => ?_⟩
    have e02 := e1.trans e2
    refine ⟨_, rfl, x, dx, fs, rfl, e02 _ _ hx, x, dx, fs, y, _, rfl, e02 _ _ hx, hy, hdy.go e02, cp_deeds hS.ok.2.2 (Nat.le_trans hS.ok.2.1 (by decide)), fun v2 H3 e3 h3 => ?_⟩
    have e03 := e02.trans e3
    obtain ⟨lt, rfl, hlt⟩ := ((h2.go Nw.ex).go e3).tks
    obtain ⟨ls, rfl, hls⟩ := (h3.go Nw.ex).deeds
    exact ⟨_, rfl, lt, ls, g, ts, ds, u, b, rfl, hlt, hls, hS, e03 _ _ hg, hu, hQ, fun q D e n H' e4 hD hq hP hE => k q D e n H' (e03.trans e4) (Evl.fresh_back e03 hD) hq hP hE⟩
theorem ok_check_index {f : Addr} {fd : FuncData} (F : Fun K "check_index" "check_index" s_check_index f fd) (cA : Cal P w K mg base 2 "is_amount" p_is_amount spAmt) : FnOk P w K mg base CX0 3 f fd p_check_index spCi := by
  refine F.ok sc_check_index (fun vs H Q E h => ?_) (fun cdv A outer s H vs Q E hr h => ?_)
  · obtain ⟨i, m, rfl, _⟩ := h
    rfl
  · obtain ⟨i, m, rfl, i0, i1, k⟩ := h
    refine ⟨_, pss_one (ps_if (PW.pt (pw_or (pt_not (pt_val (pe_c cA hr (pa_cons (pv 0) pa_nil)))) (pw_or1 (pt_cmpR op_ge (pv 0) (pv 1) (nomark _))))) (pss_one ps_never) pss_nil), ?_⟩
    refine ⟨_, rfl, i, rfl, i0, fun H1 e1 => ⟨true, rfl, if_f rfl ?_⟩⟩
    exact ⟨_, rfl, _, rfl, _, _, rfl, rfl, _, rfl, if_f (decide_eq_false (by omega)) (k _ e1)⟩
theorem ok_check_exchange {f : Addr} {fd : FuncData} (F : Fun K "check_exchange" "check_exchange" s_check_exchange f fd) (cI : Cal P w K mg base 3 "check_index" p_check_index spCi) : FnOk P w K mg base CX0 4 f fd p_check_exchange spCx := by
  refine F.ok sc_check_exchange (fun vs H Q E h => ?_) (fun cdv A outer s H vs Q E hr h => ?_)
  · obtain ⟨i, m, rfl, _⟩ := h
    rfl
  · obtain ⟨i, m, rfl, i0, i1, k⟩ := h
    refine ⟨_, pss_cons (ps_expr (pe_c cI hr (pa_cons (pv 0) (pa_cons (pv 1) pa_nil))))
      (pss_one (ps_if (pt_cmpR op_ge (pe_op op_add (pv 0) pe_int) (pv 1) (nomark _)) (pss_one ps_never) pss_nil)), ?_⟩
    refine ⟨_, rfl, _, rfl, i, m, rfl, i0, by omega, fun H1 e1 => ?_⟩
    exact ⟨_, rfl, _, _, rfl, rfl, _, rfl, _, _, rfl, rfl, _, rfl, if_f (decide_eq_false (by omega)) (k _ e1)⟩
end
end V2


namespace V2
open PySem L2
open PySem.Spec PyProof.Rows
def Bh (A : List Int) (W : Int) : List (Int × Int) := A.map fun x => fr x W
theorem PrN.keep {H H' : Hp} {D l : Addr} {fs : List (Int × Int)} {xs : List V} (h : PrN H D fs) (hl : H l = some (.lst xs)) (n : D ≠ l) (e : ∀ b o, b ≠ l → H b = some o → H' b = some o) : PrN H' D fs := by
  obtain ⟨as, h1, h2, h3⟩ := h
  refine ⟨as, e _ _ n h1, h2, fun i a f x y => ?_⟩
  obtain ⟨n1, z⟩ := h3 i a f x y
  exact ⟨n1, e _ _ (fun q => by
    have z : H a = some (.tup _) := z
    rw [q, hl] at z
    cases z) z⟩
theorem PrN.ex {H H' : Hp} {D : Addr} {fs : List (Int × Int)} (h : PrN H D fs) (e : Evl.Ex H H') : PrN H' D fs := by
  obtain ⟨as, h1, h2, h3⟩ := h
  exact ⟨as, e _ _ h1, h2, fun i a f x y => ⟨(h3 i a f x y).1, e _ _ (h3 i a f x y).2⟩⟩
end V2


namespace V2
open PySem L2
open PySem.Spec PyProof.Rows
def lvs (A ws : List Int) (W b : Int) : List (Int × Int) := (List.range A.length).map (lvl A ws W b)
section
variable {base : Heap} {mg : Str → Option Value} {K : PySem.W.Frag} {w : World} {P : Program}
end
end V2


namespace V2
open PySem L2
open PySem.Spec PyProof.Rows
theorem lvl_bits {N n : Nat} {A ws : List Int} {W b : Int} (hA : A.length = n) (hO : OkW N A W) (hV : OkV n ws) (b0 : 0 < b) (bb : Bn 50 b) : ∀ f ∈ lvs A ws W b, Fb (N + 60) f := by
  intro f hf
  unfold lvs at hf
  obtain ⟨i, hi, rfl⟩ := List.mem_map.mp hf
  rw [List.mem_range] at hi
  have wm : ws.getD i 0 ∈ ws := getD_mem' (by rw [hV.len]; omega)
  have wp := hV.pos _ wm
  have Wp := Int.mul_pos hO.pos wp
  have h1 : (A.getD i 0 * b).natAbs < 2 ^ (N + 50) := (hO.bA _ (getD_mem' hi)).mul bb
  have h2 : (W * ws.getD i 0).natAbs < 2 ^ (N + 60) := hO.bW.mul (hV.bit _ wm)
  have a1 := fr_abs1 (a := A.getD i 0 * b) Wp
  have a2 := fr_abs2 (a := A.getD i 0 * b) Wp
  have h3 : (2 : Nat) ^ (N + 50) ≤ 2 ^ (N + 60) := Nat.pow_le_pow_right (by decide) (by omega)
  exact ⟨fr_pos Wp, Nat.lt_of_le_of_lt a1 (Nat.lt_of_lt_of_le h1 h3), Nat.lt_of_le_of_lt a2 h2⟩
section
variable {base : Heap} {mg : Str → Option Value} {K : PySem.W.Frag} {w : World} {P : Program}
end
end V2


namespace V2
open PySem L2
open PySem.Spec PyProof.Rows
mutual
/-- v is data; as: its lists, outer ones first -/
inductive TrD (H : Hp) : V → PyData → List Addr → Prop
  | non : TrD H .non .none []
  | bl (b : Bool) : TrD H (.bl b) (.bool b) []
  | int (i : Int) : TrD H (.int i) (.int i) []
  | str (x : Str) : TrD H (.str x) (.str x) []
  | lst {a : Addr} {xs : List V} {ds : List PyData} {as : List Addr} : H a = some (.lst xs) → TrA H xs ds as → TrD H (.ref a) (.list ds) (a :: as)
  | tup {a : Addr} {xs : List V} {ds : List PyData} {as : List Addr} : H a = some (.tup xs) → TrA H xs ds as → TrD H (.ref a) (.tuple ds) as
inductive TrA (H : Hp) : List V → List PyData → List Addr → Prop
  | nil : TrA H [] [] []
  | cons {v : V} {vs : List V} {d : PyData} {ds : List PyData} {as bs : List Addr} : TrD H v d as → TrA H vs ds bs → TrA H (v :: vs) (d :: ds) (as ++ bs)
end
mutual
theorem TrD.go {H H' : Hp} : ∀ {d : PyData} {v : V} {as : List Addr}, TrD H v d as → Evl.Ex H H' → TrD H' v d as
  | _, _, _, .non, _ => .non
  | _, _, _, .bl b, _ => .bl b
  | _, _, _, .int i, _ => .int i
  | _, _, _, .str x, _ => .str x
  | _, _, _, .lst h r, e => .lst (e _ _ h) (TrA.go r e)
  | _, _, _, .tup h r, e => .tup (e _ _ h) (TrA.go r e)
theorem TrA.go {H H' : Hp} : ∀ {ds : List PyData} {vs : List V} {as : List Addr}, TrA H vs ds as → Evl.Ex H H' → TrA H' vs ds as
  | _, _, _, .nil, _ => .nil
  | _, _, _, .cons a b, e => .cons (TrD.go a e) (TrA.go b e)
end
mutual
theorem TrD.dq {H : Hp} : ∀ {d : PyData} {v : V} {as : List Addr}, TrD H v d as → Dq H v d
  | _, _, _, .non => .non
  | _, _, _, .bl b => .bl b
  | _, _, _, .int i => .int i
  | _, _, _, .str x => .str x
  | _, _, _, .lst h r => .lst h (TrA.dq r)
  | _, _, _, .tup h r => .tup h (TrA.dq r)
theorem TrA.dq {H : Hp} : ∀ {ds : List PyData} {vs : List V} {as : List Addr}, TrA H vs ds as → DqAll H vs ds
  | _, _, _, .nil => .nil
  | _, _, _, .cons a b => .cons (TrD.dq a) (TrA.dq b)
end
mutual
/-- how many lists there are in data -/
def cntD : PyData → Nat
  | .list ds => 1 + cntA ds
  | .tuple ds => cntA ds
  | _ => 0
def cntA : List PyData → Nat
  | [] => 0
  | d :: ds => cntD d + cntA ds
end
mutual
/-- the data behind each of whose lists its rank was put, ranks from k on -/
def mkD : Nat → PyData → PyData
  | k, .list ds => .list (mkA (k + 1) ds ++ [.int (k : Int)])
  | k, .tuple ds => .tuple (mkA k ds)
  | _, d => d
def mkA : Nat → List PyData → List PyData
  | _, [] => []
  | k, d :: ds => mkD k d :: mkA (k + cntD d) ds
end
mutual
theorem TrD.cnt {H : Hp} : ∀ {d : PyData} {v : V} {as : List Addr}, TrD H v d as → as.length = cntD d
  | _, _, _, .non => rfl
  | _, _, _, .bl b => rfl
  | _, _, _, .int i => rfl
  | _, _, _, .str x => rfl
  | _, _, _, .lst h r => by
    have := TrA.cnt r
    simp only [cntD, List.length_cons]
    omega
  | _, _, _, .tup h r => by
    have := TrA.cnt r
    simpa only [cntD] using this
theorem TrA.cnt {H : Hp} : ∀ {ds : List PyData} {vs : List V} {as : List Addr}, TrA H vs ds as → as.length = cntA ds
  | _, _, _, .nil => rfl
  | _, _, _, .cons a b => by
    have h1 := TrD.cnt a
    have h2 := TrA.cnt b
    simp only [cntA, List.length_append]
    omega
end
theorem TrA.get {H : Hp} : ∀ {ds : List PyData} {vs : List V} {as : List Addr}, TrA H vs ds as → ∃ bss : List (List Addr), bss.length = vs.length ∧ as = bss.flatten ∧ ∀ (i : Nat) (x : V), vs[i]? = some x → ∃ d bs, ds[i]? = some d ∧ bss[i]? = some bs ∧ TrD H x d bs
  | _, _, _, .nil => ⟨[], rfl, rfl, fun _ _ h => by cases h⟩
  | _, _, _, @TrA.cons _ v vs d ds as bs a b => by
    obtain ⟨bss, h1, h2, h3⟩ := TrA.get b
    refine ⟨as :: bss, by rw [List.length_cons, List.length_cons, h1], by rw [List.flatten_cons, h2], fun i x hx => ?_⟩
    cases i with
    | zero =>
      cases hx
      exact ⟨d, as, rfl, rfl, a⟩
    | succ i => exact h3 i x hx
section
variable {base : Heap} {mg : Str → Option Value} {K : PySem.W.Frag} {w : World} {P : Program}
theorem ls_base {H : Hp} {v : V} {d : PyData} {as : List Addr} (h : TrD H v d as) (n : ∀ ds, d ≠ .list ds ∧ d ≠ .tuple ds) : as = [] ∧ ∃ t : String, kitB t "list" = some false ∧ kitB t "tuple" = some false ∧ ∀ H, TyX K H v (.type t) := by
  cases h with
  | non => exact ⟨rfl, _, by decide +kernel, by decide +kernel, fun H => .base .non⟩
  | bl b => exact ⟨rfl, _, by decide +kernel, by decide +kernel, fun H => .base (.bl b)⟩
  | int i => exact ⟨rfl, _, by decide +kernel, by decide +kernel, fun H => .base (.int i)⟩
  | str x => exact ⟨rfl, _, by decide +kernel, by decide +kernel, fun H => .base (.str x)⟩
  | lst h r => exact absurd rfl (n _).1
  | tup h r => exact absurd rfl (n _).2
theorem cp_cases {n : Nat} {d : PyData} (h : Cp (n + 1) d) : (∀ ds, d ≠ .list ds ∧ d ≠ .tuple ds) ∨ (∃ ds, d = .list ds ∧ ds.length ≤ 100 ∧ ∀ x ∈ ds, Cp n x) ∨ ∃ ds, d = .tuple ds ∧ ds.length ≤ 100 ∧ ∀ x ∈ ds, Cp n x := by
  cases h with
  | non => exact .inl fun ds => ⟨(fun z => nomatch z), (fun z => nomatch z)⟩
  | bl b => exact .inl fun ds => ⟨(fun z => nomatch z), (fun z => nomatch z)⟩
  | int i => exact .inl fun ds => ⟨(fun z => nomatch z), (fun z => nomatch z)⟩
  | str x => exact .inl fun ds => ⟨(fun z => nomatch z), (fun z => nomatch z)⟩
  | lst h1 h2 => exact .inr (.inl ⟨_, rfl, h1, h2⟩)
  | tup h1 h2 => exact .inr (.inr ⟨_, rfl, h1, h2⟩)
end
end V2


namespace V2
open PySem L2
open PySem.Spec PyProof.Rows
mutual
theorem TrD.lists {H : Hp} : ∀ {d : PyData} {v : V} {as : List Addr}, TrD H v d as → ∀ {n : Nat}, Cp n d → ∀ a ∈ as, ∃ xs, H a = some (.lst xs) ∧ xs.length ≤ 100
  | _, _, _, .non, _, _, _, m => by cases m
  | _, _, _, .bl b, _, _, _, m => by cases m
  | _, _, _, .int i, _, _, _, m => by cases m
  | _, _, _, .str x, _, _, _, m => by cases m
  | _, _, _, @TrD.lst _ a xs ds as h r, _, c, b, m => by
    cases c with
    | lst hl hc =>
      rcases List.mem_cons.mp m with rfl | m
      · exact ⟨xs, h, by rw [r.dq.len]; exact hl⟩
      · exact TrA.lists r hc b m
  | _, _, _, @TrD.tup _ a xs ds as h r, _, c, b, m => by
    cases c with
    | tup hl hc => exact TrA.lists r hc b m
theorem TrA.lists {H : Hp} : ∀ {ds : List PyData} {vs : List V} {as : List Addr}, TrA H vs ds as → ∀ {n : Nat}, (∀ d ∈ ds, Cp n d) → ∀ a ∈ as, ∃ xs, H a = some (.lst xs) ∧ xs.length ≤ 100
  | _, _, _, .nil, _, _, _, m => by cases m
  | _, _, _, .cons a b, _, c, q, m => by
    rcases List.mem_append.mp m with m | m
    · exact TrD.lists a (c _ List.mem_cons_self) q m
    · exact TrA.lists b (fun d hd => c d (List.mem_cons_of_mem _ hd)) q m
end
mutual
theorem Dq.tr {H : Hp} : ∀ {d : PyData} {v : V}, Dq H v d → ∀ {n : Nat}, Cp n d → ∃ as, TrD H v d as
  | _, _, .non, _, _ => ⟨_, .non⟩
  | _, _, .bl b, _, _ => ⟨_, .bl b⟩
  | _, _, .int i, _, _ => ⟨_, .int i⟩
  | _, _, .str x, _, _ => ⟨_, .str x⟩
  | _, _, .lst h r, _, c => by
    cases c with
    | lst hl hc =>
      obtain ⟨as, t⟩ := DqAll.tr r hc
      exact ⟨_, .lst h t⟩
  | _, _, .tup h r, _, c => by
    cases c with
    | tup hl hc =>
      obtain ⟨as, t⟩ := DqAll.tr r hc
      exact ⟨_, .tup h t⟩
  | _, _, .dct h r, _, c => nomatch c
theorem DqAll.tr {H : Hp} : ∀ {ds : List PyData} {vs : List V}, DqAll H vs ds → ∀ {n : Nat}, (∀ d ∈ ds, Cp n d) → ∃ as, TrA H vs ds as
  | _, _, .nil, _, _ => ⟨_, .nil⟩
  | _, _, .cons a b, _, c => by
    obtain ⟨as, t⟩ := Dq.tr a (c _ List.mem_cons_self)
    obtain ⟨bs, u⟩ := DqAll.tr b fun d hd => c d (List.mem_cons_of_mem _ hd)
    exact ⟨_, .cons t u⟩
end
section
variable {base : Heap} {mg : Str → Option Value} {K : PySem.W.Frag} {w : World} {P : Program}
end
end V2


namespace V2
open PySem L2
open PySem.Spec PyProof.Rows
/-- the law's state: waters, index, steps done -/
def StAt (H : Hp) (q : Addr) (ds : List Deed) (A : List Int) (W : Int) (v : V) : Prop := ∃ D L, H q = some (.tup [.ref D, v, .ref L]) ∧ PrAt H D (Bh A W) ∧ DsAt H L ds
theorem StAt.ex {H H' : Hp} {q : Addr} {ds : List Deed} {A : List Int} {W : Int} {v : V} (h : StAt H q ds A W v) (e : Evl.Ex H H') : StAt H' q ds A W v := by
  obtain ⟨D, L, h1, h2, h3⟩ := h
  exact ⟨D, L, e _ _ h1, h2.ex e, h3.ex e⟩
/-- objects that are no tuples -/
def Nt (ps : List Addr) (H : Hp) : Prop := ∀ p ∈ ps, (∃ o, H p = some o) ∧ ∀ xs, H p ≠ some (.tup xs)
theorem Nt.ex {ps : List Addr} {H H' : Hp} (h : Nt ps H) (e : Evl.Ex H H') : Nt ps H' := fun p hp => by
  obtain ⟨⟨o, h1⟩, h2⟩ := h p hp
  refine ⟨⟨o, e _ _ h1⟩, fun xs z => h2 xs ?_⟩
  rw [e _ _ h1] at z
  rw [h1, z]
theorem Nt.new {ps : List Addr} {H H' : Hp} {p : Addr} (h : Nt ps H) (e : Evl.Ex H H') (n : H' p = none) : p ∉ ps := fun hp => by
  obtain ⟨⟨o, h1⟩, _⟩ := h p hp
  rw [e _ _ h1] at n
  cases n
theorem Nt.tup {ps : List Addr} {H : Hp} {p : Addr} {xs : List V} (h : Nt ps H) (z : H p = some (.tup xs)) : p ∉ ps := fun hp => (h p hp).2 xs z
theorem woL_go {ps : List Addr} {H H' : Hp} (e : Evl.Ex H H') : Evl.Ex (woL ps H) (woL ps H') := fun b o z => woL_at (woL_ne z) (e _ _ (woL_ex _ _ z))
section
variable {base : Heap} {mg : Str → Option Value} {K : PySem.W.Frag} {w : World} {P : Program}
end
end V2


namespace V2
open PySem L2
open PySem.Spec PyProof.Rows
abbrev wEnd (ts : List Tk) (es : List Deed) (u b : Int) : List Int × Int := wAt ts es u b es.length
def hist (ts : List Tk) (es : List Deed) (u b : Int) : List (List Int × Int) := (List.range es.length).map fun j => wAt ts es u b j
theorem BnAt.ins {C s : Addr} {H : Hp} {x ls lt : Addr} {ts : List Tk} {ds : List Deed} {S : List (List Int × Int)} {A ws : List Int} {W u b : Int} {v : V} (h : BnAt C s H x ls lt ts ds S A ws W u b v) : ∃ dx fs, H x = some (.ins C dx fs) := by
  obtain ⟨⟨dx, lq, g, lw, t, as, bs, h1, _⟩, _, _, _⟩ := h
  exact ⟨_, _, h1⟩
end V2


namespace V2
open PySem L2
open PySem.Spec PyProof.Rows
theorem lay_ints : ∀ ns : List Int, PyData.canLayAll0 (ns.map .int) = true
  | [] => by simp [PyData.canLayAll0]
  | n :: ns => by simp [PyData.canLayAll0, PyData.canLay0, lay_ints ns]
theorem dep_ints : ∀ ns : List Int, PyData.depthAll (ns.map .int) ≤ 1
  | [] => by simp [PyData.depthAll]
  | n :: ns => by
    have := dep_ints ns
    simp [PyData.depthAll, PyData.depth]
    omega
theorem lay_dD (d : Deed) : PyData.canLay0 (dD d) = true ∧ PyData.depth (dD d) ≤ 3 := by
  cases d with
  | op ks =>
    have h1 := lay_ints ks
    have h2 := dep_ints ks
    exact ⟨by simp [dD, PyData.canLay0, PyData.canLayAll0, h1]; decide +kernel, by simp [dD, PyData.depth, PyData.depthAll]; omega⟩
  | po k a => exact ⟨by simp [dD, PyData.canLay0, PyData.canLayAll0]; decide +kernel, by simp [dD, PyData.depth, PyData.depthAll]⟩
  | sc k p q => exact ⟨by simp [dD, PyData.canLay0, PyData.canLayAll0]; decide +kernel, by simp [dD, PyData.depth, PyData.depthAll]⟩
  | mv k m p q => exact ⟨by simp [dD, PyData.canLay0, PyData.canLayAll0]; decide +kernel, by simp [dD, PyData.depth, PyData.depthAll]⟩
  | un k m => exact ⟨by simp [dD, PyData.canLay0, PyData.canLayAll0]; decide +kernel, by simp [dD, PyData.depth, PyData.depthAll]⟩
theorem lay_ds : ∀ es : List Deed, PyData.canLayAll0 (es.map dD) = true ∧ PyData.depthAll (es.map dD) ≤ 3
  | [] => by simp [PyData.canLayAll0, PyData.depthAll]
  | d :: es => by
    obtain ⟨h1, h2⟩ := lay_ds es
    obtain ⟨h3, h4⟩ := lay_dD d
    exact ⟨by simp [PyData.canLayAll0, h1, h3], by simp [PyData.depthAll]; omega⟩
theorem shp_ds (es : List Deed) : SeqAt.shaped (.list (es.map dD)) = true := by
  obtain ⟨h1, h2⟩ := lay_ds es
  simp [SeqAt.shaped, PyData.canLay0, PyData.depth, h1]
  omega
theorem dp_deed {K : PySem.W.Frag} {H : Hp} {a : Addr} {d : Deed} (h : DAt H a d) : Dp K H (.ref a) (dD d) := by
  cases d with
  | op ks =>
    obtain ⟨l, h1, h2⟩ := h
    exact .tup (SqT.of h1) (.cons (.str _) (.cons (.lst (SqL.of h2) (dpI2 ks)) .nil))
  | po k x => exact .tup (SqT.of h) (.cons (.str _) (.cons (.int _) (.cons (.int _) .nil)))
  | sc k p q =>
    obtain ⟨l, h1, h2⟩ := h
    exact .tup (SqT.of h1) (.cons (.str _) (.cons (.int _) (.cons (.tup (SqT.of h2) (.cons (.int _) (.cons (.int _) .nil))) .nil)))
  | mv k m p q =>
    obtain ⟨l, h1, h2⟩ := h
    exact .tup (SqT.of h1) (.cons (.str _) (.cons (.int _) (.cons (.int _) (.cons (.tup (SqT.of h2) (.cons (.int _) (.cons (.int _) .nil))) .nil))))
  | un k m => exact .tup (SqT.of h) (.cons (.str _) (.cons (.int _) (.cons (.int _) .nil)))
where dpI2 {K : PySem.W.Frag} {H : Hp} : ∀ ns : List Int, DpAll K H (iV ns) (ns.map .int)
  | [] => .nil
  | n :: r => .cons (.int n) (dpI2 r)
theorem dp_ds {K : PySem.W.Frag} {H : Hp} {l : Addr} {es : List Deed} (h : DsAt H l es) : Dp K H (.ref l) (.list (es.map dD)) := by
  obtain ⟨as, h1, h2, h3⟩ := h
  refine .lst (SqL.of h1) ?_
  clear h1
  induction as generalizing es with
  | nil =>
    cases es with
    | nil => exact .nil
    | cons d r => cases h2
  | cons a r ih =>
    cases es with
    | nil => cases h2
    | cons d q => exact .cons (dp_deed (h3 0 a d rfl rfl)) (ih (Nat.succ.inj h2) fun i b e x y => h3 (i + 1) b e x y)
theorem lay_tks : ∀ ts : List Tk, PyData.canLayAll0 (ts.map tkD) = true ∧ PyData.depthAll (ts.map tkD) ≤ 2
  | [] => by simp [PyData.canLayAll0, PyData.depthAll]
  | (none, a) :: ts => by
    obtain ⟨h1, h2⟩ := lay_tks ts
    exact ⟨by simp [tkD, wD, PyData.canLayAll0, PyData.canLay0, h1], by simp [tkD, wD, PyData.depthAll, PyData.depth]; omega⟩
  | (some z, a) :: ts => by
    obtain ⟨h1, h2⟩ := lay_tks ts
    exact ⟨by simp [tkD, wD, PyData.canLayAll0, PyData.canLay0, h1], by simp [tkD, wD, PyData.depthAll, PyData.depth]; omega⟩
theorem shp_tks (ts : List Tk) : SeqAt.shaped (.list (ts.map tkD)) = true := by
  obtain ⟨h1, h2⟩ := lay_tks ts
  simp [SeqAt.shaped, PyData.canLay0, PyData.depth, h1]
  omega
theorem dp_tks {K : PySem.W.Frag} {H : Hp} {l : Addr} {ts : List Tk} (h : TksAt H l ts) : Dp K H (.ref l) (.list (ts.map tkD)) := by
  obtain ⟨as, h1, h2, h3⟩ := h
  refine .lst (SqL.of h1) ?_
  clear h1
  induction as generalizing ts with
  | nil =>
    cases ts with
    | nil => exact .nil
    | cons d r => cases h2
  | cons a r ih =>
    cases ts with
    | nil => cases h2
    | cons d q =>
      refine .cons ?_ (ih (Nat.succ.inj h2) fun i b e x y => h3 (i + 1) b e x y)
      have z := h3 0 a d rfl rfl
      obtain ⟨w, am⟩ := d
      cases w with
      | none => exact .tup (SqT.of z) (.cons .non (.cons (.int _) .nil))
      | some n => exact .tup (SqT.of z) (.cons (.int _) (.cons (.int _) .nil))
theorem eqv_same {d : PyData} (h : SeqAt.shaped d = true) : PyData.eqv d d = true := by
  refine PySem.SeqAt.eqv_refl _ ?_
  unfold SeqAt.shaped at h
  exact (Bool.and_eq_true_iff.mp h).1
section
variable {base : Heap} {mg : Str → Option Value} {K : PySem.W.Frag} {w : World} {P : Program} {B gI gC gL gW gE qE CE fI : Addr}
end
end V2


namespace V2
open PySem L2
open PySem.Spec PyProof.Rows
/-- a step as it may be wrong: nothing, a step of the right form, another word or length -/
inductive Bent where
  | nil
  | de (d : Deed)
  | bad (x : Str) (ds : List PyData)
def dB : Bent → PyData
  | .nil => .tuple []
  | .de d => dD d
  | .bad x ds => .tuple (.str x :: ds)
def BAt (H : Hp) (a : Addr) : Bent → Prop
  | .nil => H a = some (.tup [])
  | .de d => DAt H a d
  | .bad x ds => ∃ vs, H a = some (.tup (.str x :: vs)) ∧ DqAll H vs ds
/-- which word has which length -/
def thN (x : Str) : Option Nat := if x = "open" then some 2 else if x = "pour" then some 3 else if x = "scoop" then some 3 else if x = "move" then some 4 else if x = "unless" then some 3 else none
def badOk (x : Str) (ds : List PyData) : Prop := thN x ≠ some (ds.length + 1)
def BOk : Bent → Prop
  | .bad x ds => badOk x ds ∧ (thN x = none → x ∈ (["Open", "shut", "pours", "", "unles", "moves"] : List Str))
  | .de (.op ks) => ks.length ≤ 30
  | _ => True
section
variable {base : Heap} {mg : Str → Option Value} {K : PySem.W.Frag} {w : World} {P : Program} {aT : Addr} {es : Array DictEntry} {nT : Nat} {t1 t2 t3 t4 t5 : Tok}
end
end V2


namespace V2
open PySem L2
open PySem.Spec PyProof.Rows
theorem TrA.snoc {H : Hp} : ∀ {ds : List PyData} {vs : List V} {as : List Addr} {v : V} {d : PyData} {bs : List Addr}, TrA H vs ds as → TrD H v d bs → TrA H (vs ++ [v]) (ds ++ [d]) (as ++ bs)
  | _, _, _, v, d, bs, .nil, h => by
    have := TrA.cons h (.nil (H := H))
    rw [List.append_nil] at this
    exact this
  | _, _, _, v, d, bs, .cons a b, h => by
    rw [List.append_assoc]
    exact .cons a (TrA.snoc b h)
def woD (D : Addr) (H : Hp) : Hp := fun b => if b = D then none else H b
theorem woD_some {D : Addr} {H : Hp} {b : Addr} {o : HO} (h : woD D H b = some o) : b ≠ D ∧ H b = some o := by
  unfold woD at h
  split at h
  · cases h
  · rename_i n
    exact ⟨n, h⟩
theorem woD_at {D : Addr} {H : Hp} {b : Addr} {o : HO} (n : b ≠ D) (h : H b = some o) : woD D H b = some o := by
  unfold woD
  rw [if_neg n]
  exact h
theorem nwd_go {H H2 H3 : Hp} {D : Addr} {o : HO} (e : Evl.Ex H2 H3) : Evl.Ex (Nw H (woD D H2)) (Nw H (woD D (upd H3 D o))) := fun b u z => by
  obtain ⟨n, z2⟩ := woD_some (Nw.ex _ _ z)
  exact nw_at (nw_none z) (woD_at n (by rw [upd_ne n]; exact e _ _ z2))
theorem nwd_new {H H2 H3 : Hp} {D : Addr} {o u : HO} (e0 : Evl.Ex H H2) (hD : H2 D = some u) : Evl.Ex (Nw H2 H3) (Nw H (woD D (upd H3 D o))) := fun b x z => by
  have n := nw_none z
  have nd : b ≠ D := fun q => by
    rw [q, hD] at n
    cases n
  exact nw_at (Evl.fresh_back e0 n) (woD_at nd (by rw [upd_ne nd]; exact Nw.ex _ _ z))
theorem nodup_app {as bs : List Addr} (h1 : as.Nodup) (h2 : bs.Nodup) (h : ∀ a ∈ as, a ∉ bs) : (as ++ bs).Nodup := List.nodup_append.mpr ⟨h1, h2, fun a ha b hb e => h a ha (e ▸ hb)⟩
def spCt (n : Nat) : Sp := fun vs H Q _ => ∃ (v : V) (d : PyData), vs = [v] ∧ Dq H v d ∧ Cp n d ∧ ∀ v' as H', Evl.Ex H H' → TrD (Nw H H') v' d as → as.Nodup → Q v' H'
theorem turn_nd {H H2 H3 : Hp} {D : Addr} {acc : List V} {ds : List PyData} {bs as : List Addr} {v : V} {d : PyData} {n i : Nat} (hcs : ∀ x ∈ ds, Cp n x) (hd : d ∈ ds) (hA : TrA (Nw H (woD D H2)) acc (ds.take i) bs) (hn : bs.Nodup) (hT : TrD (Nw H2 H3) v d as) (hm : as.Nodup) : (bs ++ as).Nodup :=
  nodup_app hn hm fun a ha hb => by
    obtain ⟨xs, h1, _⟩ := hA.lists (fun x hx => hcs x (List.mem_of_mem_take hx)) a ha
    obtain ⟨ys, h2, _⟩ := hT.lists (hcs d hd) a hb
    have := nw_none h2
    rw [(woD_some (Nw.ex _ _ h1)).2] at this
    cases this
section
variable {base : Heap} {mg : Str → Option Value} {K : PySem.W.Frag} {w : World} {P : Program}
theorem ok_ct0 {f : Addr} {fd : FuncData} (F : Fun K "copied" "copied" s_copied f fd) (T : T5 mg) : FnOk P w K mg base CX0 1 f fd p_copied (spCt 0) := by
  refine F.ok sc_copied (fun vs H Q E h => ?_) (fun cdv A outer s H vs Q E hr h => ?_)
  · obtain ⟨v, d, rfl, _⟩ := h
    rfl
  · obtain ⟨v, d, rfl, hd, hc, kk⟩ := h
    obtain ⟨as, tb⟩ := hd.tr hc
    obtain ⟨rfl, t, k1, k2, ty⟩ := ls_base (K := K) tb fun ds => ⟨(fun z => (by subst z; cases hc)), (fun z => (by subst z; cases hc))⟩
    have tb : TrD (Nw H H) v d [] := by
      cases tb with
      | non => exact .non
      | bl b => exact .bl b
      | int i => exact .int i
      | str x => exact .str x
      | tup h1 h2 => cases hc
    exact ⟨_, pss_cons (ps_if (pt_val (pe_callB call_isi (by rfl) T.isi (by decide +kernel) (pa_cons (pv 0) (pa_cons (pe_bltn (v := .ty "list") (by rfl) T.lst (by decide +kernel) rfl) pa_nil)))) (pss_one ps_never) pss_nil)
        (pss_cons (ps_if (pt_val (pe_callB call_isi (by rfl) T.isi (by decide +kernel) (pa_cons (pv 0) (pa_cons (pe_bltn (v := .ty "tuple") (by rfl) T.tup (by decide +kernel) rfl) pa_nil)))) (pss_one ps_never) pss_nil)
        (pss_one (ps_ret (pv 0)))), ⟨_, rfl, _, _, _, _, false, rfl, .ty "list", ty _, kit_ty k1, false, rfl, if_f rfl ⟨_, rfl, _, _, _, _, false, rfl, .ty "tuple", ty _, kit_ty k2, false, rfl, if_f rfl ⟨_, rfl, kk _ [] _ (Evl.Ex.refl _) tb List.nodup_nil⟩⟩⟩⟩
theorem ok_ctS {n k : Nat} {f : Addr} {fd : FuncData} (F : Fun K "copied" "copied" s_copied f fd) (T : T5 mg) (c0 : Cal P w K mg base k "copied" p_copied (spCt n)) : FnOk P w K mg base CX0 (k + 1) f fd p_copied (spCt (n + 1)) := by
  refine F.ok sc_copied (fun vs H Q E h => ?_) (fun cdv A outer s H vs Q E hr h => ?_)
  · obtain ⟨v, d, rfl, _⟩ := h
    rfl
  · obtain ⟨v, d, rfl, hd, hc, kk⟩ := h
    have nd := sc_copied.nd
    rcases cp_cases hc with nn | ⟨ds, rfl, hl, hcs⟩ | ⟨ds, rfl, hl, hcs⟩
    · obtain ⟨as, tb⟩ := hd.tr hc
      obtain ⟨rfl, t, k1, k2, ty⟩ := ls_base (K := K) tb nn
      have tb : TrD (Nw H H) v d [] := by
        cases tb with
        | non => exact .non
        | bl b => exact .bl b
        | int i => exact .int i
        | str x => exact .str x
        | tup h1 h2 => exact absurd rfl (nn _).2
      exact ⟨_, pss_cons (ps_if (pt_val (pe_callB call_isi (by rfl) T.isi (by decide +kernel) (pa_cons (pv 0) (pa_cons (pe_bltn (v := .ty "list") (by rfl) T.lst (by decide +kernel) rfl) pa_nil)))) (pss_one ps_never) pss_nil)
        (pss_cons (ps_if (pt_val (pe_callB call_isi (by rfl) T.isi (by decide +kernel) (pa_cons (pv 0) (pa_cons (pe_bltn (v := .ty "tuple") (by rfl) T.tup (by decide +kernel) rfl) pa_nil)))) (pss_one ps_never) pss_nil)
        (pss_one (ps_ret (pv 0)))), ⟨_, rfl, _, _, _, _, false, rfl, .ty "list", ty _, kit_ty k1, false, rfl, if_f rfl ⟨_, rfl, _, _, _, _, false, rfl, .ty "tuple", ty _, kit_ty k2, false, rfl, if_f rfl ⟨_, rfl, kk _ [] _ (Evl.Ex.refl _) tb List.nodup_nil⟩⟩⟩⟩
    · cases hd with
      | @lst a xs _ ha hds =>
      refine ⟨_, pss_cons (ps_if (pt_val (pe_callB call_isi (by rfl) T.isi (by decide +kernel) (pa_cons (pv 0) (pa_cons (pe_bltn (v := .ty "list") (by rfl) T.lst (by decide +kernel) rfl) pa_nil))))
          (pss_one (ps_ret (pe_lc (own := [("part", 1)]) (g := gName 1) (tt := tYes) (te := tCall (spCt n) [] E0 (tCons (tVar 1) tNil)) rfl nd (pi_list (pv 0)) (blkOk_by (N := n_copied) (sc := defScope s_copied) (by decide +kernel)) (fun _ _ _ _ _ => pg_name (i := 1) nd rfl (Or.inl rfl)) (fun _ _ _ _ _ => pts_nil)
            (fun _ _ _ _ _ => pe_c c0 hr (pa_cons (pv 1) pa_nil))))) pss_nil)
        (pss_cons ps_never (pss_one ps_never)), ?_⟩
      refine ⟨_, rfl, _, _, _, _, true, rfl, .ty "list", .base (.lst ha), kit_ty (by decide +kernel), true, rfl, if_t rfl ?_⟩
      have hlen := hds.len
      refine ⟨_, rfl, a, rfl, ⟨_, SqL.of ha⟩, fun D hD => lc_list (xs := xs) (fun i H' => Evl.Ex H H' ∧ ∃ acc bs, H' D = some (.lst acc) ∧ TrA (Nw H (woD D H')) acc (ds.take i) bs ∧ bs.Nodup) ⟨Evl.Ex.new hD, [], [], upd_same, .nil, List.nodup_nil⟩ (fun i H' _ q => SqL.of (q.1 _ _ ha)) ?_ ?_⟩
      · rintro i x H2 hi ⟨e2, acc, bs, hD2, hacc, hnd⟩
        obtain ⟨d, hdi, hdx⟩ := hds.get hi
        refine ⟨rfl, ?_⟩
        show tCall (spCt n) [] E0 (tCons (tVar 1) tNil) _ _ _
        refine ⟨_, rfl, x, d, rfl, hdx.go e2, hcs d (List.mem_of_getElem? hdi), fun v' as' H3 e3 hv' hn' => ⟨acc, e3 _ _ hD2, ?_, Evl.Ex.mut (e2.trans e3) hD, _, bs ++ as', upd_same, ?_, turn_nd hcs (List.mem_of_getElem? hdi) hacc hnd hv' hn'⟩⟩
        · have h1 := hacc.dq.len
          rw [List.length_take] at h1
          exact Nat.lt_of_le_of_lt (show acc.length ≤ 100 by omega) (by decide)
        · rw [ds_take hdi]
          exact (hacc.go (nwd_go e3)).snoc (hv'.go (nwd_new e2 hD2))
      · rintro H2 ⟨e2, acc, bs, hD2, hacc, hnd⟩
        rw [hlen, List.take_length] at hacc
        refine kk _ _ _ e2 (.lst (nw_at hD hD2) (hacc.go fun b o h => nw_at (nw_none h) (woD_some (Nw.ex _ _ h)).2)) (List.nodup_cons.mpr ⟨fun hm => ?_, hnd⟩)
        obtain ⟨ys, h1, _⟩ := hacc.lists hcs D hm
        exact (woD_some (Nw.ex _ _ h1)).1 rfl
    · cases hd with
      | @tup a xs _ ha hds =>
      refine ⟨_, pss_cons (ps_if (pt_val (pe_callB call_isi (by rfl) T.isi (by decide +kernel) (pa_cons (pv 0) (pa_cons (pe_bltn (v := .ty "list") (by rfl) T.lst (by decide +kernel) rfl) pa_nil)))) (pss_one ps_never) pss_nil)
        (pss_cons (ps_if (pt_val (pe_callB call_isi (by rfl) T.isi (by decide +kernel) (pa_cons (pv 0) (pa_cons (pe_bltn (v := .ty "tuple") (by rfl) T.tup (by decide +kernel) rfl) pa_nil))))
          (pss_one (ps_ret (pe_callTy call_tuple_of (by rfl) T.tup (by decide +kernel) (pa_cons (pe_lc (own := [("part", 1)]) (g := gName 1) (tt := tYes) (te := tCall (spCt n) [] E0 (tCons (tVar 1) tNil)) rfl nd (pi_tup (pv 0)) (blkOk_by (N := n_copied) (sc := defScope s_copied) (by decide +kernel)) (fun _ _ _ _ _ => pg_name (i := 1) nd rfl (Or.inl rfl)) (fun _ _ _ _ _ => pts_nil)
            (fun _ _ _ _ _ => pe_c c0 hr (pa_cons (pv 1) pa_nil))) pa_nil)))) pss_nil)
        (pss_one ps_never)), ?_⟩
      refine ⟨_, rfl, _, _, _, _, false, rfl, .ty "list", .base (.tup ha), kit_ty (by decide +kernel), false, rfl, if_f rfl ?_⟩
      refine ⟨_, rfl, _, _, _, _, true, rfl, .ty "tuple", .base (.tup ha), kit_ty (by decide +kernel), true, rfl, if_t rfl ?_⟩
      have hlen := hds.len
      refine ⟨_, rfl, a, rfl, ⟨_, SqT.of ha⟩, fun D hD => lc_tup (xs := xs) (fun i H' => Evl.Ex H H' ∧ ∃ acc bs, H' D = some (.lst acc) ∧ TrA (Nw H (woD D H')) acc (ds.take i) bs ∧ bs.Nodup) ⟨Evl.Ex.new hD, [], [], upd_same, .nil, List.nodup_nil⟩ (fun i H' _ q => SqT.of (q.1 _ _ ha)) ?_ ?_⟩
      · rintro i x H2 hi ⟨e2, acc, bs, hD2, hacc, hnd⟩
        obtain ⟨d, hdi, hdx⟩ := hds.get hi
        refine ⟨rfl, ?_⟩
        show tCall (spCt n) [] E0 (tCons (tVar 1) tNil) _ _ _
        refine ⟨_, rfl, x, d, rfl, hdx.go e2, hcs d (List.mem_of_getElem? hdi), fun v' as' H3 e3 hv' hn' => ⟨acc, e3 _ _ hD2, ?_, Evl.Ex.mut (e2.trans e3) hD, _, bs ++ as', upd_same, ?_, turn_nd hcs (List.mem_of_getElem? hdi) hacc hnd hv' hn'⟩⟩
        · have h1 := hacc.dq.len
          rw [List.length_take] at h1
          exact Nat.lt_of_le_of_lt (show acc.length ≤ 100 by omega) (by decide)
        · rw [ds_take hdi]
          exact (hacc.go (nwd_go e3)).snoc (hv'.go (nwd_new e2 hD2))
      · rintro H2 ⟨e2, acc, bs, hD2, hacc, hnd⟩
        rw [hlen, List.take_length] at hacc
        refine ⟨D, _, rfl, .inl ⟨SqL.of hD2, fun l hl2 => ?_⟩⟩
        have e3 := Evl.Ex.new (o := .tup acc) hl2
        exact kk _ _ _ (e2.trans e3) (.tup (nw_at (Evl.fresh_back e2 hl2) upd_same) (hacc.go fun b o h => nw_at (nw_none h) (e3 _ _ (woD_some (Nw.ex _ _ h)).2))) hnd
end
end V2


namespace V2
open PySem L2
open PySem.Spec PyProof.Rows
def CalX (P : Program) (w : World) (K : PySem.W.Frag) (mg : Str → Option Value) (base : Heap) (k : Nat) (x : Str) (ps : List Str) (sp : Sp) : Prop :=
  ∃ (f : Addr) (fd : FuncData), FnOk P w K mg base (L2.CX P w) k f fd ps sp ∧ mg x = some (.ref f) ∧ PySem.W.keepIn K (.ref f) = true ∧ Binds K fd ps []
theorem pe_cx {X : Cx} {k : Nat} {x : Str} {ps : List Str} {sp : Sp} {E : XK} {W : WX} {e : Expr} {es : List Expr} {t : TA} {p pos : Pos} (c : CalX X.prog X.w X.K X.mg X.base k x ps sp) (hr : Room k X.A) (tk : Takes X W) (hW : ∀ cls d σ H, E cls d H → W cls d σ H) (ha : PA X (e :: es) t) (hg : Gl X x := by rfl)
    (he : starEach (e :: es) X.env = (false, eval e X.env) :: starEach es X.env := by rfl) (hpl : (backTo pos (starEach es X.env)).any (fun z => z.1) = false := by rfl) (hdb : (x == ("__debug__" : Str)) = false := by decide) : PE X (.Call (.Name x p) (e :: es) [] pos) (tCall sp [] E t) := by
  obtain ⟨f, fd, F, hm, hk, hb⟩ := c
  exact pe_call F hr hg hm hk hb .nil (passes_call tk hW) ha hdb he hpl
theorem nw_ofEx {H H1 H3 : Hp} (e : Evl.Ex H H1) {b : Addr} {o : HO} (z : Nw H1 H3 b = some o) : Nw H H3 b = some o := nw_at (Evl.fresh_back e (nw_none z)) (Nw.ex _ _ z)
def frB (p q : Int) : Bool := decide (1 ≤ q) && decide (Int.gcd p q = 1)
def spIsFrB : Sp := fun vs H Q _ => ∃ (a : Addr) (p q : Int), vs = [.ref a] ∧ Fr H a p q ∧ Evl.RetV (.bl (frB p q)) H Q
section
variable {base : Heap} {mg : Str → Option Value} {K : PySem.W.Frag} {w : World} {P : Program} {CS CT CF fI : Addr}
theorem ok_is_fractionB {f : Addr} {fd : FuncData} (F : Fun K "is_fraction" "is_fraction" s_is_fraction f fd) (T : T3 mg) (cI : Cal P w K mg base 1 "is_integer" p_is_integer spInt) : FnOk P w K mg base CX0 2 f fd p_is_fraction spIsFrB := by
  refine F.ok sc_is_fraction (fun vs H Q E h => ?_) (fun cdv A outer s H vs Q E hr h => ?_)
  · obtain ⟨a, p, q, rfl, _⟩ := h
    rfl
  · obtain ⟨a, p, q, rfl, ha, k⟩ := h
    have nd := sc_is_fraction.nd
    refine ⟨_, pss_cons (ps_if (PW.pt (pw_or (pt_not (pt_val (pe_callB call_isi (by rfl) T.isi (by decide +kernel) (pa_cons (pv 0) (pa_cons (pe_bltn (v := .ty "tuple") (by rfl) T.tup (by decide +kernel) rfl) pa_nil)))))
        (pw_or1 (pt_cmpR op_ne (pe_callB call_len_seq (by rfl) T.len PySem.boot_len (pa_cons (pv 0) pa_nil)) pe_int (nomark _))))) (pss_one (ps_ret pe_bl)) pss_nil)
      (pss_cons (ps_asg (pv 0) (pg_tup rfl (pgs_cons (pg_name (i := 1) nd rfl (Or.inl rfl)) (pgs_cons (pg_name (i := 2) nd rfl (Or.inl rfl)) pgs_nil))))
      (pss_one (ps_ret (pe_and (pe_c cI hr (pa_cons (pv 1) pa_nil)) (pe_and (pe_c cI hr (pa_cons (pv 2) pa_nil)) (pe_and (pe_cmpR op_ge (pv 2) pe_int (nomark _)) (pe_one (pe_cmpR op_eq (pe_callBfun cr_gcd (by rfl) T.gcd (pa_cons (pv 1) (pa_cons (pv 2) pa_nil))) pe_int (nomark _))))))))), ?_⟩
    refine ⟨_, rfl, _, _, _, _, true, rfl, .ty "tuple", .base (.tup ha), kit_ty (by decide +kernel), true, rfl, if_f rfl ?_⟩
    refine ⟨_, rfl, a, _, rfl, .inr (SqT.of ha), rfl, false, rfl, if_f rfl ?_⟩
    refine ⟨_, rfl, a, _, rfl, SqT.of ha, rfl, _, _, rfl, _, _, rfl, rfl, ?_⟩
    refine ⟨_, rfl, p, rfl, fun H1 e1 => ⟨_, rfl, if_t rfl ⟨_, rfl, q, rfl, fun H2 e2 => ⟨_, rfl, if_t rfl ⟨_, rfl, _, _, rfl, rfl, _, rfl, ?_⟩⟩⟩⟩⟩
    unfold frB at k
    by_cases c : 1 ≤ q
    · refine if_t (decide_eq_true c) ?_
      rw [decide_eq_true c, Bool.true_and] at k
      refine ⟨_, rfl, _, rfl, p, q, rfl, rfl, ?_⟩
      have e : decide (V.int ((Nat.gcd p.natAbs q.natAbs : Nat) : Int) = V.int 1) = decide (Int.gcd p q = 1) := decide_eq_decide.mpr ⟨fun z => by injection z with z; show Nat.gcd p.natAbs q.natAbs = 1; omega, fun z => by have z : Nat.gcd p.natAbs q.natAbs = 1 := z; rw [z]; rfl⟩
      show Q (.bl (decide (V.int ((Nat.gcd p.natAbs q.natAbs : Nat) : Int) = V.int 1))) H2
      rw [e]
      exact k _ (e1.trans e2)
    · refine if_f (decide_eq_false c) ?_
      rw [decide_eq_false c, Bool.false_and] at k
      exact k _ (e1.trans e2)
end
end V2


namespace V2
open PySem L2
open PySem.Spec PyProof.Rows
def partD : Deed → Option (Int × Int)
  | .sc _ p q => some (p, q)
  | .mv _ _ p q => some (p, q)
  | _ => none
/-- how a step is refused, if it is -/
inductive Flt where
  | ok
  | step
  | tank (k : Int)
  | part (p q : Int)
theorem BAt.dq {H : Hp} {a : Addr} {d : Bent} (h : BAt H a d) : Dq H (.ref a) (dB d) := by
  cases d with
  | nil => exact .tup (show H a = some (.tup []) from h) .nil
  | de d => exact dat_dq h
  | bad x ds =>
    obtain ⟨vs, h1, h2⟩ := h
    exact .tup h1 (.cons (.str x) h2)
theorem BAt.ex {H H' : Hp} {a : Addr} {d : Bent} (h : BAt H a d) (e : Evl.Ex H H') : BAt H' a d := by
  cases d with
  | nil => exact e _ _ h
  | de d => exact DAt.ex h e
  | bad x ds =>
    obtain ⟨vs, h1, h2⟩ := h
    exact ⟨vs, e _ _ h1, DqAll.go h2 e⟩
def PBn (d : Bent) : Prop := match d with
  | .de d => ∀ p q, partD d = some (p, q) → Bn 50 p ∧ Bn 50 q
  | _ => True
/-- the error of class C with the value y -/
def Rz (C : Addr) (H : Hp) (y : V) (E : XK) : Prop := ∀ (e : Addr) (H' : Hp), H e = none → Evl.Ex H H' → H' e = some (.xd [("value", y)]) → E (.ref C) (some e) H'
section
variable {base : Heap} {mg : Str → Option Value} {K : PySem.W.Frag} {w : World} {P : Program} {CS CT CF fI : Addr}
end
end V2


namespace V2
open PySem L2
open PySem.Spec PyProof.Rows
def spWidX (CF : Addr) : Sp := fun vs H Q E => ∃ (a : Addr) (p q : Int), vs = [.ref a] ∧ Fr H a p q ∧ (frB p q = true → 0 < p → Evl.RetV .non H Q) ∧
  (¬ (frB p q = true ∧ 0 < p) → ∀ (y : V) (H1 : Hp), Evl.Ex H H1 → TrD (Nw H H1) y (frD (p, q)) [] → Rz CF H1 y E)
theorem tr_flat2 {H : Hp} {v : V} {d1 d2 : PyData} {as : List Addr} (h : TrD H v (.tuple [d1, d2]) as) (f1 : ∀ {v as}, TrD H v d1 as → as = []) (f2 : ∀ {v as}, TrD H v d2 as → as = []) : as = [] := by
  cases h with
  | tup _ h2 => cases h2 with
    | cons a1 a2 => cases a2 with
      | cons b1 b2 => cases b2 with
        | nil => rw [f1 a1, f2 b1]; rfl
theorem tr_fl_int {H : Hp} {v : V} {i : Int} {as : List Addr} (h : TrD H v (.int i) as) : as = [] := by
  cases h
  rfl
section
variable {base : Heap} {mg : Str → Option Value} {K : PySem.W.Frag} {w : World} {P : Program} {CI CF fI : Addr}
theorem ok_check_widthX {f : Addr} {fd fdI : FuncData} (F : Fun K "check_width" "check_width" s_check_width f fd) (cF : Cal P w K mg base 2 "is_fraction" p_is_fraction spIsFrB) (cc : Cal P w K mg base 2 "copied" p_copied (spCt 1)) (T : EC K CF fI) (G : EG K fI) (mE : mg "InvalidFraction" = some (.ref CF)) (FI : FnOk P w K mg base CX0 1 fI fdI ["self", "value"] (spInit K)) (bI : Binds K fdI ["self", "value"] []) : FnOk P w K mg base (L2.CX P w) 3 f fd p_check_width (spWidX CF) := by
  refine F.okX sc_check_width (fun vs H Q E h => ?_) (fun cdv A outer s H vs Q E hr h => ?_)
  · obtain ⟨a, p, q, rfl, _⟩ := h
    rfl
  · obtain ⟨a, p, q, rfl, ha, k, kx⟩ := h
    have r2 : Room (1 + 1) _ := hr.mono (by decide)
    have r2c : Room 2 _ := hr.mono (by decide)
    refine ⟨_, pss_one (ps_if (PW.pt (pw_or (pt_not (pt_val (pe_c cF hr (pa_cons (pv 0) pa_nil)))) (pw_or1 (pt_cmpR op_le (pe_ix ix_tup (pv 0) pe_int (fun _ _ => rfl)) pe_int (nomark _))))) (pss_one (ps_raise rfl (takes_of rfl rfl rfl rfl) (pmk_oex (k := 1) T.ox T.iC G.tI FI r2 bI .nil pass0 (by rfl) mE (pa_cons (pe_c cc r2c (pa_cons (pv 0) pa_nil)) pa_nil)))) pss_nil), ?_⟩
    have cp : Cp 1 (frD (p, q)) := .tup (by show 2 ≤ 100; decide) fun d hd => by
      simp only [List.mem_cons, List.not_mem_nil, or_false] at hd
      rcases hd with rfl | rfl
      · exact .int _
      · exact .int _
    have bad : ∀ {H1 : Hp} {σ : L2.St}, Evl.Ex H H1 → ¬ (frB p q = true ∧ 0 < p) → ∀ v' as H3, Evl.Ex H1 H3 → TrD (Nw H1 H3) v' (frD (p, q)) as → Rz CF H3 v' E := fun {H1 σ} e1 hb v' as H3 e3 hv => by
      obtain rfl := tr_flat2 hv tr_fl_int tr_fl_int
      exact kx hb v' H3 (e1.trans e3) (hv.go fun b o z => nw_ofEx e1 z)
    refine ⟨_, rfl, a, p, q, rfl, ha, fun H1 e1 => ⟨_, rfl, ?_⟩⟩
    have dq : Dq H1 (.ref a) (frD (p, q)) := .tup (e1 _ _ ha) (.cons (.int p) (.cons (.int q) .nil))
    cases c : frB p q with
    | false =>
      refine if_t rfl ⟨_, rfl, _, _, rfl, dq, cp, fun v' as H3 e4 hv' _ => ?_⟩
      exact raise_in T fun e G' he ee hx => bad (σ := []) e1 (fun z => by rw [c] at z; cases z.1) v' as H3 e4 hv' e G' he ee hx
    | true =>
      refine if_f rfl ⟨_, rfl, a, _, _, _, rfl, rfl, SqT.of (e1 _ _ ha), rfl, _, _, rfl, rfl, _, rfl, ?_⟩
      by_cases h0 : 0 < p
      · exact if_f (decide_eq_false (by omega)) (k c h0 _ e1)
      · refine if_t (decide_eq_true (by omega)) ⟨_, rfl, _, _, rfl, dq, cp, fun v' as H3 e4 hv' _ => ?_⟩
        exact raise_in T fun e G' he ee hx => bad (σ := []) e1 (fun z => h0 z.2) v' as H3 e4 hv' e G' he ee hx
end
end V2


namespace V2
open PySem L2 L2H
open PySem.Spec PyProof.Rows
/-- isinstance(e, c), e the error that is handled -/
def rIsP (K : PySem.W.Frag) (p : Addr × Obj) (C fI : Addr) : List V → Hp → VK → Prop := fun xs H Q => ∃ (d : Addr) (fs : List (Str × V)) (c : V) (cv : Value) (b : Bool), xs = [.ref p.1, c] ∧ p.2.dict = some d ∧ H d = some (.xd fs) ∧ EC K C fI ∧ (∀ u, RelV c u → u = cv) ∧ PySem.W.kitOne K (.ref C) cv = some b ∧ Q (.bl b) H
theorem inst_pin {P : Program} {w : World} {H : Hp} {h : Heap} {p : Addr × Obj} {C d : Addr} {fs : List (Str × V)} (hok : HOk P w H h) (hg : h.get? p.1 = some p.2) (hc : p.2.cls = .ref C) (hf : ∃ vs, p.2.data = .fields vs) (hd : p.2.dict = some d) (hx : H d = some (.xd fs)) : ∃ od, PySem.W.InstAt h p.1 p.2 C (some od) := by
  have z : ObjOk P w H h d (.xd fs) := hok d _ hx
  obtain ⟨mA, ⟨o, es, ep, e1, e2⟩, hr⟩ := z
  obtain ⟨vs, hv⟩ := hf
  exact ⟨o, hg, hc, by unfold PySem.W.notCls; rw [hv] <;> rfl, by rw [hd]; exact e1⟩
theorem call_isP {X : Cx} {p : Addr × Obj} {C fI : Addr} (G : EG X.K fI) (hp : p ∈ X.pn) (hc : p.2.cls = .ref C) (hf : ∃ vs, p.2.data = .fields vs) : CallR X (.builtin "isinstance") (rIsP X.K p C fI) := by
  intro pins s σ H xs us Q I r h
  obtain ⟨d, fs, c, cv, b, rfl, hd, hx, T, hcv, e, q⟩ := h
  cases r with
  | cons rx rr =>
    cases rr with
    | cons rt rr =>
      cases rr
      cases rx
      have ec := hcv _ rt
      subst ec
      obtain ⟨od, J⟩ := inst_pin I.hok (I.pin p (List.mem_append_left _ hp)).1 hc hf hd hx
      exact PySem.W.kia_one (PySem.W.kitx_exc T.hcl T.xf.ga T.xf.gg T.xf.exC T.ha G.hn G.ht T.hm) I.kIn J e (fun z => nomatch z) fun tk => ⟨.bl b, H, I.kept (t' := tk) fun _ _ z => z, rfl, q⟩
end V2


namespace V2
open PySem L2
open PySem.Spec PyProof.Rows
def tI1E (C : Addr) (a : Addr) (cls : Value) (d : Option Addr) (n : Nat) : TE := fun σ H Q => ∃ (dd : Addr) (fs : List (Str × V)), σ[n]? = some (some (.ref a)) ∧ cls = .ref C ∧ d = some dd ∧ H dd = some (.xd fs) ∧ Q (.bl true) H
def tV1E (C : Addr) (a : Addr) (cls : Value) (d : Option Addr) (n : Nat) : TE := fun σ H Q => ∃ (dd : Addr) (fs : List (Str × V)) (v : V), σ[n]? = some (some (.ref a)) ∧ cls = .ref C ∧ d = some dd ∧ H dd = some (.xd fs) ∧ fs.lookup ("value" : Str) = some v ∧ Q v H
section
variable {X : Cx} {C fI a : Addr} {oe : Obj} {cls : Value} {d : Option Addr} {pn : List (Addr × Obj)} {n : Nat} {x : Str} {p1 p2 p3 pos : Pos}
theorem pe_i1E {K : PySem.W.Frag} {mg : Str → Option Value} (hK : X.K = K) (hmg : X.mg = mg) (T : EC K C fI) (G : EG K fI) (mI : mg "isinstance" = none) (mV : mg "ValueError" = none) (kv : PySem.W.kitOne K (.ref C) (.type "ValueError") = some true) (hz : Zc cls d oe) (hf : ∃ vs, oe.data = .fields vs) (he : PE (X.suite a ((a, oe) :: pn)) (.Name x p1) (tVar n))
    (hg : Gl (X.suite a ((a, oe) :: pn)) "isinstance" := by rfl) (hg2 : Gl (X.suite a ((a, oe) :: pn)) "ValueError" := by rfl) :
    PE (X.suite a ((a, oe) :: pn)) (.Call (.Name "isinstance" p2) [.Name x p1, .Name "ValueError" p3] [] pos) (tI1E C a cls d n) := by
  subst hK hmg
  refine ⟨fun pins s σ H Q I h => ?_⟩
  obtain ⟨dd, fs, h3, e1, e2, hx, q⟩ := h
  have hc : (a, oe).2.cls = .ref C := hz.1.trans e1
  have z := pe_callB (X := X.suite a ((a, oe) :: pn)) (p := p2) (pos := pos) (call_isP (p := (a, oe)) (C := C) G List.mem_cons_self hc hf) hg mI (by decide +kernel) (pa_cons he (pa_cons (pe_bltn (pos := p3) (v := .ty "ValueError") hg2 mV (by decide +kernel) rfl) pa_nil))
  exact z.run pins s σ H Q I ⟨_, h3, dd, fs, .ty "ValueError", .type "ValueError", true, rfl, hz.2.trans e2, hx, T, fun u h => h, kv, q⟩
theorem pe_v1E {K : PySem.W.Frag} (hK : X.K = K) (T : EC K C fI) (hz : Zc cls d oe) (hf : ∃ vs, oe.data = .fields vs) (he : PE (X.suite a ((a, oe) :: pn)) (.Name x p1) (tVar n))
    (hb : attributeBase (.Name x p1) "value" (X.suite a ((a, oe) :: pn)).env (eval (.Name x p1) (X.suite a ((a, oe) :: pn)).env) = eval (.Name x p1) (X.suite a ((a, oe) :: pn)).env := by rfl) :
    PE (X.suite a ((a, oe) :: pn)) (.Attribute (.Name x p1) "value" pos) (tV1E C a cls d n) := by
  subst hK
  refine ⟨fun pins s σ H Q I h => ?_⟩
  obtain ⟨dd, fs, v, h3, e1, e2, hx, hv, q⟩ := h
  exact (pe_xf (X := X) (a := a) (C := C) (oe := oe) (cls := cls) (d := d) (pn := pn) (pos := pos) (n := "value") T.xf T.noV hz hf he hb).run pins s σ H Q I ⟨_, h3, rfl, e1, dd, fs, v, e2, hx, hv, q⟩
end
section
variable {base : Heap} {mg : Str → Option Value} {K : PySem.W.Frag} {w : World} {P : Program} {B gI gC gL gW gE qE gU CE CN CT fI : Addr}
end
end V2


namespace PySem
section
variable {prog : Program} {w : World} {A : Around} {E : Value → Shared → Prop} {s : Shared}
/-- nobody has set the digits' limit -/
def NoDig (K : PySem.W.Frag) : Prop := PySem.W.nsIn K cStatics "sys.int_max_str_digits" = some none
theorem over_small {K : PySem.W.Frag} (hK : K.In s.heap) (e : NoDig K) {a : Int} (ha : a.natAbs < 10 ^ 4300) {Q : Option Nat → Shared → Prop} (h : Q none s) : wpAny (model prog w) A (Builtin.overDigitLimit? a) Q E s := by
  generalize hP : 10 ^ 4300 = P at ha
  have lo : 2 ^ 12900 ≤ P := hP ▸ PyProof.Rows.pow_lo
  have hi : P ≤ 2 ^ 30000 := hP ▸ PyProof.Rows.pow_hi
  unfold Builtin.overDigitLimit?
  by_cases hs : a.natAbs.log2 < 1920
  · rw [if_pos hs]
    exact wpAny_pure h
  · rw [if_neg hs]
    unfold Builtin.intMaxStrDigits
    refine wpAny_bind (wpAny_bind (PySem.W.looks_nsIn hK e A _ _ s (fun _ _ z => z) ?_))
    refine wpAny_pure ?_
    rw [hP]
    dsimp only
    by_cases hz : a.natAbs.log2 / 30 + 1 > 1000
    · exact absurd (Nat.le_trans hi (PyProof.Rows.le_of_log2 (by decide) (show 30000 ≤ a.natAbs.log2 by omega))) (Nat.not_le_of_lt ha)
    · rw [if_neg hz]
      by_cases h3 : a.natAbs.log2 < 3 * 4300
      · rw [if_pos (by simp [h3])]
        exact wpAny_pure h
      · rw [if_neg (by simp [h3])]
        rw [if_neg (Nat.not_le_of_lt ha)]
        exact wpAny_pure h
theorem gives_int_reprW {K : PySem.W.Frag} (e : NoDig K) {a : Int} {t : Tok} (ha : a.natAbs < 10 ^ 4300) : GivesAt (fun s => K.In s.heap) (Builtin.«int.__repr__» ⟨[.int a t], []⟩) (.str (toString a)) := by
  intro prog w A R s hK h
  unfold Builtin.«int.__repr__»
  show wpAny _ _ (do let r ← Builtin.overDigitLimit? a; _) _ _ s
  refine wpAny_bind (over_small hK e ha ?_)
  exact wpAny_bind (wpAny_mkStr (wpAny_pure h.2) (int_text_fits10 ha))
theorem pyReprObj_intW {K : PySem.W.Frag} (hK : K.In s.heap) (e : NoDig K) {a : Int} {t : Tok} (ha : a.natAbs < 10 ^ 4300) {Q : Value → Shared → Prop} (h : Q (.str (toString a) s.toks) { s with toks := s.toks + 1 }) : wpAny (model prog w) A (pyReprObj (.int a t)) Q E s := by
  have hv : [Value.int a t].any Value.onHeap = false := rfl
  have hT := typeIs_int s a t
  unfold pyReprObj
  simp only [cRoomFor, hv, Bool.false_eq_true, if_false, pure_bind]
  refine wpAny_bind (wpAny_specialOf (name := Str.ofString "__repr__") hT F.slot_int_repr.lookup ?_)
  refine wpAny_bind (m := callSpecialIfBound? (.int a t) (Str.ofString "__repr__")) (wpAny_callSpecialIfBound?_slot (name := Str.ofString "__repr__") hT F.slot_int_repr (call_givesAt F.slot_int_repr hT F.entry_int_repr (F.args_int_repr_1 _) (gives_int_reprW e ha) hK ⟨int_text_fits10 ha, ?_⟩))
  exact wpAny_bind (wpAny_isInstance (T := "str") (b := true) rfl isSubtype_str_str (wpAny_pure h))
theorem ReprK.intW {K : PySem.W.Frag} {h₀ : Heap} (hK : K.In h₀) (e : NoDig K) {a : Int} {t : Tok} (ha : a.natAbs < 10 ^ 4300) (bs : List Addr) (d : Nat) : ReprK prog w bs h₀ d (.int a t) (toString a) := by
  intro n hn A g E s Q _ _ _ hk hQ
  have hn' : n ≤ sizeLine := by omega
  rw [pyReprUnder_leaf (v := .int a t) hn' (fun _ e => nomatch e)]
  unfold pyRepr
  exact wpAny_bind (pyReprObj_intW (PySem.W.Frag.In.keeps hK hk) e ha (wpAny_pure (hQ s.heap _ fun _ _ z => z)))
end
mutual
/-- what may be shown so -/
def WideD : PyData → Prop
  | .none => True
  | .bool _ => True
  | .int n => n.natAbs < 10 ^ 4300
  | .str _ => True
  | .list ds => WideA ds
  | .tuple ds => WideA ds
  | _ => False
def WideA : List PyData → Prop
  | [] => True
  | d :: ds => WideD d ∧ WideA ds
end
section
variable {prog : Program} {w : World} {h₀ : Heap} {K : PySem.W.Frag}
mutual
theorem ReprK.of_readsW (hK : K.In h₀) (e : NoDig K) : ∀ {v : Value} {d : PyData}, ReadsS h₀ v d → WideD d → d.shown.length ≤ sizeLine → ∃ bs, ReadAtMost h₀ d.depth bs ∧ ReprK prog w bs h₀ d.depth v d.shown
  | _, _, .none, _, _ => ⟨[], (fun _ h => nomatch h), by simp only [PyData.shown]; exact .of_is ReprIs.none _ _ _⟩
  | _, _, .bool b, _, _ => ⟨[], (fun _ h => nomatch h), by simp only [PyData.shown]; exact .of_is (ReprIs.bool b) _ _ _⟩
  | _, _, .int i t, hs, _ => ⟨[], (fun _ h => nomatch h), by simp only [PyData.shown]; exact ReprK.intW hK e hs _ _⟩
  | _, _, .str x t, _, hz => ⟨[], (fun _ h => nomatch h), by simp only [PyData.shown]; exact .of_is (ReprIs.str x t (by simpa only [PyData.shown] using hz)) _ _ _⟩
  | _, _, .list (a := a) (vs := vs) (xs := xs) h1 h2 h3 h4, hs, hz => by
    have hz' : (listText (PyData.shownAll xs)).length ≤ sizeLine := by simpa only [PyData.shown] using hz
    obtain ⟨bs, hb, hk⟩ := ReprAllK.of_readsAllW hK e h4 (by simpa only [WideD] using hs) (fun t ht => Nat.le_trans (listText_mem_le ht) hz')
    obtain ⟨_, r4⟩ := h4.reads
    have r : Reads h₀ (.ref a) (.list xs) _ := .list h1 h2 h3 r4
    have hna : a ∉ bs := not_mem_of_deeper r (by simp only [PyData.depth]; omega) hb
    refine ⟨a :: bs, ReadAtMost.cons r (by simp only [PyData.depth]; omega) hb, ?_⟩
    simp only [PyData.depth, PyData.shown]
    obtain ⟨l⟩ := vs
    cases l with
    | nil =>
      have h4' : ReadsAllS h₀ [] xs := h4
      cases h4'
      simp only [PyData.shownAll, listText_nil]
      exact ReprK.listEmpty h1 h2 h3
    | cons x l => exact ReprK.list h1 h2 h3 hna (by simpa using hk.length_eq) (fun i y e => hk.item i y (by simpa using e))
  | _, _, .tuple (a := a) (xs := xs) h1 h2 h3 h4, hs, hz => by
    have hz' : (tupleText (PyData.shownAll xs)).length ≤ sizeLine := by simpa only [PyData.shown] using hz
    obtain ⟨bs, hb, hk⟩ := ReprAllK.of_readsAllW hK e h4 (by simpa only [WideD] using hs) (fun t ht => Nat.le_trans (tupleText_mem_le ht) hz')
    obtain ⟨_, r4⟩ := h4.reads
    have r : Reads h₀ (.ref a) (.tuple xs) _ := .tuple h1 h2 h3 r4
    have hna : a ∉ bs := not_mem_of_deeper r (by simp only [PyData.depth]; omega) hb
    refine ⟨a :: bs, ReadAtMost.cons r (by simp only [PyData.depth]; omega) hb, ?_⟩
    simp only [PyData.depth, PyData.shown]
    exact ReprK.tuple h1 h2 h3 hna hk
  | _, _, .dict h1 h2 h3 hsys h4 h5, hs, hz => by
    simp only [WideD] at hs
theorem ReprAllK.of_readsAllW (hK : K.In h₀) (e : NoDig K) : ∀ {vs : List Value} {ds : List PyData}, ReadsAllS h₀ vs ds → WideA ds → (∀ t ∈ PyData.shownAll ds, t.length ≤ sizeLine) →
    ∃ bs, ReadAtMost h₀ (PyData.depthAll ds) bs ∧ ReprAllK prog w bs h₀ (PyData.depthAll ds) vs (PyData.shownAll ds)
  | _, _, .nil, _, _ => ⟨[], (fun _ h => nomatch h), by simp only [PyData.shownAll]; exact .nil⟩
  | _, _, .cons (d := d) (ds := ds) r rs, hs, hz => by
    have hs' : WideD d ∧ WideA ds := by simpa only [WideA] using hs
    obtain ⟨b1, hb1, k1⟩ := ReprK.of_readsW hK e r hs'.1 (hz _ (by simp only [PyData.shownAll]; exact List.mem_cons_self ..))
    obtain ⟨b2, hb2, k2⟩ := ReprAllK.of_readsAllW hK e rs hs'.2 (fun t ht => hz t (by simp only [PyData.shownAll]; exact List.mem_cons_of_mem _ ht))
    refine ⟨b1 ++ b2, ?_, ?_⟩
    · intro b hm
      simp only [PyData.depthAll]
      rcases List.mem_append.mp hm with hm | hm
      · obtain ⟨d', as', r', hd'⟩ := hb1 b hm
        exact ⟨d', as', r', Nat.le_trans hd' (Nat.le_max_left _ _)⟩
      · obtain ⟨d', as', r', hd'⟩ := hb2 b hm
        exact ⟨d', as', r', Nat.le_trans hd' (Nat.le_max_right _ _)⟩
    · simp only [PyData.depthAll, PyData.shownAll]
      exact .cons ((k1.more fun b hb => List.mem_append_left _ hb).level_le (Nat.le_max_left _ _)) (k2.more_le (fun b hb => List.mem_append_right _ hb) (Nat.le_max_right _ _))
end
theorem showsBy_of_readsW (hK : K.In h₀) (e : NoDig K) {a : Addr} {d : PyData} (r : ReadsS h₀ (.ref a) d) (hs : WideD d) (hsz : d.shown.length ≤ sizeLine) : ∃ T idr, ShowsBy prog w h₀ a d T idr := by
  cases r with
  | list h1 h2 h3 h4 =>
    rename_i o vs n xs
    have hz' : (listText (PyData.shownAll xs)).length ≤ sizeLine := by simpa only [PyData.shown] using hsz
    obtain ⟨bs, hb, hk⟩ := ReprAllK.of_readsAllW (prog := prog) (w := w) hK e h4 (by simpa only [WideD] using hs) (fun t ht => Nat.le_trans (listText_mem_le ht) hz')
    obtain ⟨_, r4⟩ := h4.reads
    have hna : a ∉ bs := not_mem_of_deeper (.list h1 h2 h3 r4) (by simp only [PyData.depth]; omega) hb
    refine ⟨"list", "list.__repr__", F.slot_list_repr.toG, F.slot_list_str, F.slot_list_format, fun s hk0 => ⟨o, hk0 _ _ h1, h2⟩, fun A E s Q hg hu hk0 hQ => ?_⟩
    simp only [PyData.depth] at hu
    simp only [PyData.shown] at hQ
    obtain ⟨l⟩ := vs
    cases l with
    | nil =>
      have h4' : ReadsAllS h₀ [] xs := h4
      cases h4'
      simp only [PyData.shownAll, listText_nil] at hQ
      exact call_list_repr_empty ⟨o, hk0 _ _ h1, h2⟩ (hk0 _ _ h1) h3 (hQ s.heap _ _ fun _ _ e => e)
    | cons x l =>
      exact call_list_reprK h1 h2 h3 hna (by simpa using hk.length_eq) (fun i y e => hk.item i y (by simpa using e)) hg (fun b _ => Clear.nil b) hu hk0 hQ hz'
  | tuple h1 h2 h3 h4 =>
    rename_i o vs n xs
    have hz' : (tupleText (PyData.shownAll xs)).length ≤ sizeLine := by simpa only [PyData.shown] using hsz
    obtain ⟨bs, hb, hk⟩ := ReprAllK.of_readsAllW (prog := prog) (w := w) hK e h4 (by simpa only [WideD] using hs) (fun t ht => Nat.le_trans (tupleText_mem_le ht) hz')
    obtain ⟨_, r4⟩ := h4.reads
    have hna : a ∉ bs := not_mem_of_deeper (.tuple h1 h2 h3 r4) (by simp only [PyData.depth]; omega) hb
    refine ⟨"tuple", "tuple.__repr__", F.slot_tuple_repr, F.slot_tuple_str, F.slot_tuple_format, fun s hk0 => ⟨o, hk0 _ _ h1, h2⟩, fun A E s Q hg hu hk0 hQ => ?_⟩
    simp only [PyData.depth] at hu
    simp only [PyData.shown] at hQ
    exact call_tuple_reprK h1 h2 h3 hna hk hg (fun b _ => Clear.nil b) hu hk0 hQ hz'
  | dict h1 h2 h3 hsys h4 h5 => simp only [WideD] at hs
theorem repr_of_readsW (hK : K.In h₀) (e : NoDig K) {a : Addr} {d : PyData} {A : Around} {E : Value → Shared → Prop} {s : Shared} {Q : Value → Shared → Prop} (r : ReadsS h₀ (.ref a) d) (hs : WideD d) (hg : A.guards = some []) (hu : A.units + (d.depth + 1) < cLine) (hk0 : ∀ b o, h₀.get? b = some o → s.heap.get? b = some o)
    (hQ : ∀ h' u tk, (∀ b o, s.heap.get? b = some o → h'.get? b = some o) → Q (.str d.shown u) { s with heap := h', toks := tk })
    (hsz : d.shown.length ≤ sizeLine) : wpAny (model prog w) A (call (.builtin "repr") [.ref a]) Q E s := by
  obtain ⟨T, idr, S⟩ := showsBy_of_readsW (prog := prog) (w := w) hK e r hs hsz
  exact call_repr_slot (by omega) (S.typeIs s hk0) S.slotRepr (S.call A.in1 E s _ hg (by show A.units + 1 + d.depth < cLine; omega) hk0 fun h' u tk hk => ⟨_, _, rfl, hQ h' u tk hk⟩)
end
end PySem
namespace V2
open PySem L2
open PySem.Spec PyProof.Rows
/-- repr of lists and tuples that are data, with ints of up to 4300 digits -/
def rShowW : List V → Hp → VK → Prop := fun xs H Q => ∃ (a : Addr) (d : PyData), xs = [.ref a] ∧ Dq H (.ref a) d ∧ WideD d ∧ d.depth ≤ 60 ∧ d.shown.length ≤ sizeLine ∧ Q (.str d.shown) H
theorem call_showW {X : Cx} (hN : NoDig X.K) (hgd : X.A.guards = some []) (hu : X.A.units + 64 < cLine) : CallR X (.builtin "repr") rShowW := by
  intro pins s σ H xs us Q I r h
  obtain ⟨a, d, rfl, hd, hs, hp, hz, q⟩ := h
  obtain ⟨u, rfl, ru⟩ : ∃ u, us = [u] ∧ RelV (.ref a) u := by
    cases r with
    | cons ra rb =>
      cases rb
      exact ⟨_, rfl, ra⟩
  have rd := Dq.reads I hd ru
  cases ru
  exact repr_of_readsW I.kIn hN rd hs hgd (by omega) (fun _ _ e => e) (fun h' u tk k => ⟨.str _, H, I.kept (t' := tk) k, ⟨u, rfl⟩, q⟩) hz
end V2


namespace V2
open PySem L2
open PySem.Spec PyProof.Rows
def ShX (d : PyData) : Prop := WideD d ∧ d.depth ≤ 60 ∧ d.shown.length ≤ sizeLine
section
variable {base : Heap} {mg : Str → Option Value} {K : PySem.W.Frag} {w : World} {P : Program}
end
end V2


namespace V2
open PySem L2
open PySem.Spec PyProof.Rows
structure Sx (n B : Nat) (d : PyData) : Prop where
  s : WideD d
  dp : d.depth ≤ n
  l : d.shown.length ≤ B
theorem Sx.le {n m B C : Nat} {d : PyData} (h : Sx n B d) (a : n ≤ m) (b : B ≤ C) : Sx m C d := ⟨h.s, Nat.le_trans h.dp a, Nat.le_trans h.l b⟩
theorem Sx.sh {n B : Nat} {d : PyData} (h : Sx n B d) (a : n ≤ 60) (b : B ≤ 10000000) : ShX d := ⟨h.s, Nat.le_trans h.dp a, Nat.le_trans h.l (Nat.le_trans b (by decide))⟩
theorem sx_int {B : Nat} {n : Int} (h : n.natAbs < 2 ^ B) (b0 : 0 < B) (b1 : B ≤ 12900) : Sx 1 (B + 1) (.int n) := by
  have h4 := PySem.Flt.log2_lt_of b0 h
  refine ⟨?_, by simp [PyData.depth], ?_⟩
  · have h5 : (2 : Nat) ^ B ≤ 2 ^ 12900 := Nat.pow_le_pow_right (by decide) b1
    show n.natAbs < 10 ^ 4300
    exact Nat.lt_of_lt_of_le (Nat.lt_of_lt_of_le h h5) PyProof.Rows.pow_lo
  · show (Str.ofString (toString n)).length ≤ _
    rw [PySem.ofString_length]
    exact int_text_length_le b0 h4
theorem sx_non : Sx 1 10 .none := ⟨trivial, by simp [PyData.depth], by decide⟩
theorem sx_bool (b : Bool) : Sx 1 10 (.bool b) := ⟨trivial, by simp [PyData.depth], by cases b <;> decide⟩
theorem sx_str {x : Str} (h : (PyData.shown (.str x)).length ≤ 10) : Sx 1 10 (.str x) := ⟨trivial, by simp [PyData.depth], h⟩
theorem sx_all {n B : Nat} : ∀ xs : List PyData, (∀ d ∈ xs, Sx n B d) → WideA xs ∧ PyData.depthAll xs ≤ n ∧ ((PyData.shownAll xs).map (·.length)).sum ≤ xs.length * B
  | [], _ => ⟨trivial, by simp [PyData.depthAll], by simp [PyData.shownAll]⟩
  | d :: r, h => by
    obtain ⟨a1, a2, a3⟩ := sx_all r fun x hx => h x (List.mem_cons_of_mem _ hx)
    obtain ⟨b1, b2, b3⟩ := h d List.mem_cons_self
    refine ⟨⟨b1, a1⟩, by simp [PyData.depthAll]; omega, ?_⟩
    simp only [PyData.shownAll, List.map_cons, List.sum_cons, List.length_cons, Nat.succ_mul]
    omega
theorem sx_list {n B : Nat} {xs : List PyData} (h : ∀ d ∈ xs, Sx n B d) : Sx (n + 1) (xs.length * B + 2 * xs.length + 3) (.list xs) := by
  obtain ⟨h1, h2, h3⟩ := sx_all xs h
  have h4 := listText_len_le (PyData.shownAll xs)
  have h5 := PyData.shownAll_length xs
  refine ⟨h1, by simp [PyData.depth]; omega, ?_⟩
  simp only [PyData.shown]
  omega
theorem sx_tup {n B : Nat} {xs : List PyData} (h : ∀ d ∈ xs, Sx n B d) : Sx (n + 1) (xs.length * B + 2 * xs.length + 3) (.tuple xs) := by
  obtain ⟨h1, h2, h3⟩ := sx_all xs h
  have h4 := tupleText_len_le (PyData.shownAll xs)
  have h5 := PyData.shownAll_length xs
  refine ⟨h1, by simp [PyData.depth]; omega, ?_⟩
  simp only [PyData.shown]
  omega
theorem sx_fr {B : Nat} {f : Int × Int} (b0 : 0 < B) (b1 : B ≤ 12900) (h : Fb B f) : Sx 2 (2 * B + 9) (frD f) := by
  obtain ⟨_, h1, h2⟩ := h
  have := sx_tup (xs := [.int f.1, .int f.2]) (n := 1) (B := B + 1) fun d hd => by
    simp only [List.mem_cons, List.not_mem_nil, or_false] at hd
    rcases hd with rfl | rfl
    · exact sx_int h1 b0 b1
    · exact sx_int h2 b0 b1
  exact this.le (Nat.le_refl _) (by show 2 * (B + 1) + 2 * 2 + 3 ≤ _; omega)
theorem sx_i50 {n : Int} (h : n.natAbs < 2 ^ 50) : Sx 1 60 (.int n) := (sx_int h (by decide) (by decide)).le (Nat.le_refl _) (by decide)
theorem sx_nat {k : Nat} (h : k ≤ 100000) : Sx 1 60 (.int (k : Int)) := sx_i50 (Nat.lt_of_le_of_lt (show ((k : Int)).natAbs ≤ 100000 by omega) (by decide))
def eD : V → PyData
  | .int i => .int i
  | _ => .none
/-- an index, or none -/
def IxV (e : V) : Prop := e = .non ∨ ∃ i : Nat, e = .int (i : Int) ∧ i ≤ 1000
theorem sx_ix {e : V} (he : IxV e) : Sx 1 60 (eD e) := by
  rcases he with rfl | ⟨i, rfl, h⟩
  · exact sx_non.le (Nat.le_refl _) (by decide)
  · exact sx_nat (by omega)
theorem sx_frs {B : Nat} {fs : List (Int × Int)} {xs : List PyData} (b0 : 0 < B) (b1 : B ≤ 12900) (hl : fs.length ≤ 20) (h : ∀ f ∈ fs, Fb B f) (hx : xs = [] ∨ ∃ k : Nat, xs = [.int (k : Int)] ∧ k ≤ 1000) : Sx 3 600000 (.list (fs.map frD ++ xs)) := by
  have h1 := sx_list (xs := fs.map frD ++ xs) (n := 2) (B := 25809) fun d hd => by
    rcases List.mem_append.mp hd with hd | hd
    · obtain ⟨f, hf, rfl⟩ := List.mem_map.mp hd
      exact (sx_fr b0 b1 (h f hf)).le (Nat.le_refl _) (by omega)
    · rcases hx with rfl | ⟨k, rfl, hk⟩
      · cases hd
      · cases List.mem_singleton.mp hd
        exact (sx_nat (by omega)).le (by decide) (by decide)
  have hxl : xs.length ≤ 1 := by
    rcases hx with rfl | ⟨k, rfl, hk⟩
    · exact Nat.zero_le _
    · exact Nat.le_refl _
  have hL : (fs.map frD ++ xs).length ≤ 21 := by rw [List.length_append, List.length_map]; omega
  exact h1.le (Nat.le_refl _) (by
    have := Nat.mul_le_mul_right 25809 hL
    omega)
end V2


namespace V2
open PySem L2
open PySem.Spec PyProof.Rows
theorem Cp.up {n : Nat} {d : PyData} (h : Cp n d) : Cp (n + 1) d := by
  induction h with
  | non => exact .non
  | bl b => exact .bl b
  | int i => exact .int i
  | str x => exact .str x
  | lst h1 h2 ih => exact .lst h1 ih
  | tup h1 h2 ih => exact .tup h1 ih
section
variable {base : Heap} {mg : Str → Option Value} {K : PySem.W.Frag} {w : World} {P : Program} {B gI gC gL gW gE qE gS gN C fI fT fS pT pS : Addr}
end
end V2


namespace V2
open PySem L2
open PySem.Spec PyProof.Rows
section
variable {base : Heap} {mg : Str → Option Value} {K : PySem.W.Frag} {w : World} {P : Program}
end
theorem DqAll.take {H : Hp} : ∀ {vs : List V} {ds : List PyData} (n : Nat), DqAll H vs ds → DqAll H (vs.take n) (ds.take n)
  | _, _, 0, _ => .nil
  | _, _, _ + 1, .nil => .nil
  | _, _, n + 1, .cons a b => .cons a (DqAll.take n b)
section
variable {base : Heap} {mg : Str → Option Value} {K : PySem.W.Frag} {w : World} {P : Program}
end
end V2


namespace V2
open PySem L2
open PySem.Spec PyProof.Rows
mutual
theorem Dq.dp {K : PySem.W.Frag} {H : Hp} : ∀ {n : Nat} {d : PyData} {v : V}, Dq H v d → Cp n d → Dp K H v d
  | _, _, _, .non, _ => .non
  | _, _, _, .bl b, _ => .bl b
  | _, _, _, .int i, _ => .int i
  | _, _, _, .str x, _ => .str x
  | _, _, _, .lst h r, .lst _ c => .lst (SqL.of h) (DqAll.dp r c)
  | _, _, _, .tup h r, .tup _ c => .tup (SqT.of h) (DqAll.dp r c)
theorem DqAll.dp {K : PySem.W.Frag} {H : Hp} : ∀ {n : Nat} {ds : List PyData} {vs : List V}, DqAll H vs ds → (∀ d ∈ ds, Cp n d) → DpAll K H vs ds
  | _, _, _, .nil, _ => .nil
  | _, _, _, .cons a b, c => .cons (Dq.dp a (c _ List.mem_cons_self)) (DqAll.dp b fun d h => c d (List.mem_cons_of_mem _ h))
end
def g5 : Deed → Bool
  | .po _ a => decide (0 ≤ a)
  | .mv k m _ _ => decide (k ≠ m)
  | .un k m => decide (k ≠ m)
  | _ => true
section
variable {base : Heap} {mg : Str → Option Value} {K : PySem.W.Frag} {w : World} {P : Program}
end
end V2


namespace V2
open PySem L2
open PySem.Spec PyProof.Rows
inductive Lw : List Nat → PyData → Prop
  | non {l : List Nat} : Lw l .none
  | int {l : List Nat} {i : Int} : i.natAbs < 2 ^ 50 → Lw l (.int i)
  | str {l : List Nat} {x : Str} : (PyData.shown (.str x)).length ≤ 10 → Lw l (.str x)
  | lst {L : Nat} {l : List Nat} {ds : List PyData} : ds.length ≤ L → (∀ d ∈ ds, Lw l d) → Lw (L :: l) (.list ds)
  | tup {L : Nat} {l : List Nat} {ds : List PyData} : ds.length ≤ L → (∀ d ∈ ds, Lw l d) → Lw (L :: l) (.tuple ds)
def LwB : List Nat → Nat
  | [] => 60
  | L :: l => L * LwB l + 2 * L + 60
def LwC : List Nat → Nat
  | [] => 0
  | L :: l => 1 + L * LwC l
theorem lwB_60 : ∀ l, 60 ≤ LwB l
  | [] => Nat.le_refl _
  | L :: l => Nat.le_add_left _ _
theorem Lw.sx {l : List Nat} {d : PyData} (h : Lw l d) : Sx (l.length + 1) (LwB l) d := by
  induction h with
  | @non l => exact sx_non.le (by omega) (Nat.le_trans (by decide) (lwB_60 l))
  | @int l i h => exact (sx_i50 h).le (by omega) (lwB_60 l)
  | @str l x h => exact (sx_str h).le (by omega) (Nat.le_trans (by decide) (lwB_60 l))
  | @lst L l ds h1 h2 ih => exact (sx_list ih).le (Nat.le_refl _) (by
      have := Nat.mul_le_mul_right (LwB l) h1
      show _ ≤ L * LwB l + 2 * L + 60
      omega)
  | @tup L l ds h1 h2 ih => exact (sx_tup ih).le (Nat.le_refl _) (by
      have := Nat.mul_le_mul_right (LwB l) h1
      show _ ≤ L * LwB l + 2 * L + 60
      omega)
theorem Lw.cp {l : List Nat} {d : PyData} (h : Lw l d) (hl : ∀ L ∈ l, L ≤ 100) : Cp l.length d := by
  induction h with
  | non => exact .non
  | int h => exact .int _
  | str h => exact .str _
  | lst h1 h2 ih => exact .lst (Nat.le_trans h1 (hl _ List.mem_cons_self)) fun d hd => ih d hd fun L hL => hl L (List.mem_cons_of_mem _ hL)
  | tup h1 h2 ih => exact .tup (Nat.le_trans h1 (hl _ List.mem_cons_self)) fun d hd => ih d hd fun L hL => hl L (List.mem_cons_of_mem _ hL)
theorem cntA_le {n : Nat} : ∀ {ds : List PyData}, (∀ d ∈ ds, cntD d ≤ n) → cntA ds ≤ ds.length * n
  | [], _ => by simp [cntA]
  | d :: r, h => by
    have h1 := h d List.mem_cons_self
    have h2 := cntA_le (ds := r) fun x hx => h x (List.mem_cons_of_mem _ hx)
    simp only [cntA, List.length_cons, Nat.succ_mul]
    omega
theorem Lw.cnt {l : List Nat} {d : PyData} (h : Lw l d) : cntD d ≤ LwC l := by
  induction h with
  | non => simp [cntD]
  | int h => simp [cntD]
  | str h => simp [cntD]
  | @lst L l ds h1 h2 ih =>
    have h3 := cntA_le ih
    have := Nat.mul_le_mul_right (LwC l) h1
    show cntD (.list ds) ≤ 1 + L * LwC l
    simp only [cntD]
    omega
  | @tup L l ds h1 h2 ih =>
    have h3 := cntA_le ih
    have := Nat.mul_le_mul_right (LwC l) h1
    show cntD (.tuple ds) ≤ 1 + L * LwC l
    simp only [cntD]
    omega
theorem mkA_len2 : ∀ (ds : List PyData) (k : Nat), (mkA k ds).length = ds.length
  | [], _ => by simp [mkA]
  | d :: r, k => by simp [mkA, mkA_len2 r]
theorem mkA_all {C : PyData → Prop} {N : Nat} : ∀ {ds : List PyData} {k : Nat}, (∀ d ∈ ds, ∀ k, k + cntD d ≤ N → C (mkD k d)) → k + cntA ds ≤ N → ∀ x ∈ mkA k ds, C x
  | [], k, _, _, x, hx => by simp [mkA] at hx
  | d :: r, k, h, hk, x, hx => by
    simp only [cntA] at hk
    simp only [mkA, List.mem_cons] at hx
    rcases hx with rfl | hx
    · exact h d List.mem_cons_self k (by omega)
    · exact mkA_all (fun d hd => h d (List.mem_cons_of_mem _ hd)) (by omega) x hx
theorem Lw.mk {l : List Nat} {d : PyData} (h : Lw l d) : ∀ k, k + cntD d ≤ 100000 → Lw (l.map (· + 1)) (mkD k d) := by
  induction h with
  | non => exact fun k _ => by simp only [mkD]; exact .non
  | int h => exact fun k _ => by simp only [mkD]; exact .int h
  | str h => exact fun k _ => by simp only [mkD]; exact .str h
  | @lst L l ds h1 h2 ih =>
    intro k hk
    simp only [cntD] at hk
    simp only [mkD]
    refine .lst ?_ fun x hx => ?_
    · rw [List.length_append, mkA_len2]
      show ds.length + 1 ≤ L + 1
      omega
    · rcases List.mem_append.mp hx with hx | hx
      · exact mkA_all ih (by omega) x hx
      · rw [List.mem_singleton.mp hx]
        exact .int (Nat.lt_of_le_of_lt (show ((k : Int)).natAbs ≤ 100000 by omega) (by decide))
  | @tup L l ds h1 h2 ih =>
    intro k hk
    simp only [cntD] at hk
    simp only [mkD]
    refine .tup ?_ fun x hx => mkA_all ih (by omega) x hx
    rw [mkA_len2]
    show ds.length ≤ L + 1
    omega
/-- what is compared by the law's right -/
abbrev lwR : List Nat := [2, 2, 5, 31]
theorem Lw.rt {d : PyData} (h : Lw lwR d) : Cp 4 d ∧ ShX d ∧ ShX (mkD 0 d) ∧ cntD d ≤ 1000 := by
  have hc : cntD d ≤ LwC lwR := h.cnt
  have hn : LwC lwR ≤ 1000 := by decide
  refine ⟨h.cp (by decide), h.sx.sh (by decide) (by decide), (h.mk 0 (by omega)).sx.sh (by decide) (by decide), by omega⟩
def TD (p : Addr) (te : TE) (σ : L2.St) (H : Hp) (d : PyData) : Prop := ∀ (H1 : Hp) (Q : V → Hp → Prop), Evl.Ex H H1 → (∀ v H2, Evl.Ex H1 H2 → Dq (wo p H2) v d → Q v H2) → te σ H1 Q
section
variable {p : Addr} {σ : L2.St} {H : Hp} {K : PySem.W.Frag}
theorem td_new {o : HO} {q : Addr} {H1 : Hp} (h : H p = some o) (e : Evl.Ex H H1) (hq : H1 q = none) : q ≠ p := fun z => by
  rw [z, e _ _ h] at hq
  cases hq
theorem DqAll.app {H : Hp} : ∀ {vs us : List V} {ds es : List PyData}, DqAll H vs ds → DqAll H us es → DqAll H (vs ++ us) (ds ++ es)
  | _, _, _, _, .nil, h => h
  | _, _, _, _, .cons a b, h => .cons a (DqAll.app b h)
theorem td_cat {o : HO} {ta tb : TE} {ds es : List PyData} (hp : H p = some o) (ha : TD p ta σ H (.list ds)) (hb : TD p tb σ H (.list es)) (hl : Nat.ble (ds.length + es.length) 100 = true := by rfl) : TD p (tOp rCat ta tb) σ H (.list (ds ++ es)) := fun H1 Q e k => ha H1 _ e fun x H2 e2 hx => hb H2 _ (e.trans e2) fun y H3 e3 hy => by
  cases hx with
  | lst h1 d1 =>
    cases hy with
    | lst h2 d2 =>
      refine ⟨_, _, _, _, rfl, rfl, e3 _ _ (wo_ex _ _ h1), wo_ex _ _ h2, ?_, fun q hq => k _ _ ((e2.trans e3).trans (Evl.Ex.new hq)) (.lst (wo_at (td_new hp ((e.trans e2).trans e3) hq) upd_same) (DqAll.go (DqAll.app (DqAll.go d1 (ex_wo e3)) d2) (ex_wo (Evl.Ex.new hq))))⟩
      rw [d1.len, d2.len]
      exact Nat.le_trans (Nat.le_of_ble_eq_true hl) (by decide)
end
/-- what is known of a step as it may be wrong -/
structure GB (bd : Bent) : Prop where
  ok : BOk bd
  lw : Lw [5, 31] (dB bd)
  pb : PBn bd
  sh : SeqAt.shaped (dB bd) = true
theorem GB.cp {bd : Bent} (g : GB bd) : Cp 2 (dB bd) := g.lw.cp (by decide)
end V2


namespace V2
open PySem L2
open PySem.Spec PyProof.Rows
/-! ## constants as polynomials, by another law -/
theorem trm_nil : trm [] = [] := rfl
theorem trm_snoc0 (l : List Int) : trm (l ++ [0]) = trm l := by
  have h : tz (l ++ [0]) = tz l + 1 := by
    unfold tz
    rw [List.reverse_append]
    show zer (0 :: l.reverse) = _
    conv => lhs; unfold zer
    rw [if_pos rfl]
  have h2 := tz_le l
  unfold trm
  rw [h, List.length_append]
  show (l ++ [0]).take (l.length + 1 - (tz l + 1)) = _
  rw [show l.length + 1 - (tz l + 1) = l.length - tz l by omega, List.take_append_of_le_length (by omega)]
theorem trm_snocn (l : List Int) {z : Int} (h : z ≠ 0) : trm (l ++ [z]) = l ++ [z] := trm_pol fun x hx => by
  rw [List.length_append, List.getElem?_append_right (by show l.length ≤ l.length + 1 - 1; omega)] at hx
  have hx : [z][l.length + 1 - 1 - l.length]? = some x := hx
  rw [show l.length + 1 - 1 - l.length = 0 by omega] at hx
  cases hx
  exact h
theorem trm_one (n : Int) : trm [n] = cp n := by
  by_cases h : n = 0
  · subst h
    exact (trm_snoc0 []).trans rfl
  · rw [cp_n h]
    exact trm_snocn [] h
theorem cut_neg1 (ys : List V) (y : V) : cutV (ys ++ [y]) none (some (-1)) = ys := by
  unfold cutV
  have h1 : HT.sIx (ys ++ [y]).length 0 none = 0 := rfl
  have h2 : HT.sIx (ys ++ [y]).length (ys ++ [y]).length (some (-1)) = ys.length := by
    show (if (-1 : Int) < 0 then ((-1 : Int) + ((ys ++ [y]).length : Int)).toNat else min (-1 : Int).toNat (ys ++ [y]).length) = _
    rw [if_pos (by decide), List.length_append]
    show ((-1 : Int) + ((ys.length + 1 : Nat) : Int)).toNat = _
    omega
  rw [h1, h2, List.drop_zero, Nat.sub_zero, List.take_append_of_le_length (Nat.le_refl _), List.take_length]
def spTrimL : Sp := fun vs H Q _ => ∃ (a : Addr) (ns : List Int), vs = [.ref a] ∧ Li H a ns ∧ ns.length ≤ 100 ∧ Evl.RetL (iV (trm ns)) H Q
def spAddL : Sp := fun vs H Q _ => ∃ (a b : Addr) (x y f : Int), vs = [.ref a, .ref b, .int f] ∧ Li H a (cp x) ∧ Li H b (cp y) ∧ Bn 100000 y ∧ Bn 100000 f ∧ Evl.RetL (iV (cp (x + f * y))) H Q
def spMulL : Sp := fun vs H Q _ => ∃ (a b : Addr) (x y : Int), vs = [.ref a, .ref b] ∧ Li H a (cp x) ∧ Li H b (cp y) ∧ Bn 100000 x ∧ Bn 100000 y ∧ Evl.RetL (iV (cp (x * y))) H Q
theorem iV_snoc (l : List Int) (z : Int) : iV (l ++ [z]) = iV l ++ [.int z] := by unfold iV; rw [List.map_append]; rfl
theorem iV_repL (n : Nat) (z : Int) : iV (List.replicate n z) = List.replicate n (.int z) := by unfold iV; rw [List.map_replicate]
theorem repS {n : Nat} {v : V} : List.replicate n v ++ [v] = List.replicate (n + 1) v := List.replicate_succ'.symm
theorem len1 (x : Int) : -(2 ^ 62) ≤ ((iV [x]).length : Int) ∧ ((iV [x]).length : Int) < 2 ^ 62 := ⟨by show (-(2 ^ 62) : Int) ≤ ((1 : Nat) : Int); decide, by show ((1 : Nat) : Int) < 2 ^ 62; decide⟩
theorem cp_le (n : Int) : (cp n).length ≤ 1 := by
  unfold cp
  split
  · exact Nat.zero_le _
  · exact Nat.le_refl _
/-- the constant with zeros behind, up to a size -/
def padL (x : Int) (s : Nat) : List Int := cp x ++ List.replicate (s - (cp x).length) 0
theorem padL_at {x : Int} (i : Nat) (s : Nat) (h : i < s) (hs : s ≤ 1) : (padL x s)[i]? = some x := by
  have hi : i = 0 := by omega
  subst hi
  have h1 : s = 1 := by omega
  subst h1
  unfold padL
  by_cases h0 : x = 0
  · subst h0; rfl
  · rw [cp_n h0]; rfl
section
variable {base : Heap} {mg : Str → Option Value} {K : PySem.W.Frag} {w : World} {P : Program}
theorem ok_trimL {f : Addr} {fd : FuncData} (F : Fun K "_law_wl_trim" "_law_wl_trim" s_l_trim f fd) (mLs : mg "list" = none) : FnOk P w K mg base CX0 1 f fd p_l_trim spTrimL := by
  refine F.ok sc_l_trim (fun vs H Q E h => ?_) (fun cdv A outer s H vs Q E hr h => ?_)
  · obtain ⟨a, ns, rfl, _⟩ := h
    rfl
  · obtain ⟨a, ns, rfl, hl, hn, k⟩ := h
    have nd := sc_l_trim.nd
    refine ⟨_, pss_cons (ps_while PassesOwn.never (PW.pt (pw_and (pt_cmpR (op_neD hr.units) (pv 0) (pe_lst pa_nil) (nomark _)) (pw_and1 (pt_cmpR op_eq (pe_ix ix_list (pv 0) (pe_un un_neg pe_int) (fun _ _ => rfl)) pe_int (nomark _))))) (pss_one (ps_set (i := 0) nd rfl (Or.inl rfl) (pe_slice sl_list (pv 0) po_none (po_some (pe_un un_neg pe_int))))))
      (pss_one (ps_ret (pe_callTy call_list_of (by rfl) mLs (by decide +kernel) (pa_cons (pv 0) pa_nil)))), ?_⟩
    refine ⟨fun m σ H' => ∃ (a' : Addr) (ns' : List Int), σ = [some (.ref a')] ∧ Evl.Ex H H' ∧ Li H' a' ns' ∧ ns'.length = m ∧ trm ns' = trm ns, ⟨_, a, ns, rfl, Evl.Ex.refl _, hl, rfl, rfl⟩, ?_⟩
    rintro m σ H' ⟨a', ns', rfl, e, hl', hm, ht⟩
    refine ⟨_, rfl, Nat.zero_le _, fun r hr => ?_⟩
    have f1 := Evl.Ex.new (o := .lst []) hr
    refine ⟨.list (ns'.map .int), .list [], .lst (SqL.of (f1 _ _ hl')) (dp_deed.dpI2 ns'), .lst (SqL.of upd_same) .nil, shaped_ints ns', by decide, _, rfl, ?_⟩
    have hl2 : Li (upd H' r (.lst [])) a' ns' := f1 _ _ hl'
    have e2 := e.trans f1
    generalize upd H' r (.lst []) = H2 at hl2 e2
    have out : trm ns' = ns' → ∀ l, H2 l = none → Q (.ref l) (upd H2 l (.lst (iV ns'))) := fun h l hl => k l _ (Evl.fresh_back e2 hl) (e2.trans (Evl.Ex.new hl)) (by rw [upd_same, ← ht, h])
    rcases List.eq_nil_or_concat ns' with rfl | ⟨l, z, rfl⟩
    · refine if_f (by simp [PyData.eqv, PyData.eqvAll]) ?_
      exact ⟨_, rfl, a', _, rfl, .inl (SqL.of hl2), fun l hl => out rfl l hl⟩
    · rw [List.concat_eq_append] at hl2 ht out hm
      refine if_t (by cases l <;> simp [PyData.eqv, PyData.eqvAll]) ?_
      refine ⟨_, rfl, _, rfl, a', iV l ++ [.int z], _, .int z, rfl, rfl, SqL.of (by rw [← iV_snoc]; exact hl2), at_last _ _, rfl, _, rfl, ?_⟩
      by_cases hz : z = 0
      · subst hz
        refine if_t (by decide) ?_
        refine ⟨fun σ H3 => ∃ (a' : Addr), σ = [some (.ref a')] ∧ Evl.Ex H H3 ∧ Li H3 a' l, fun σ H3 ⟨a', q1, q2, q3⟩ => ⟨l.length, by rw [← hm, List.length_append]; exact Nat.lt_succ_self _, a', l, q1, q2, q3, rfl, by rw [← ht, trm_snoc0]⟩, ?_⟩
        refine ⟨_, rfl, _, rfl, _, rfl, a', iV l ++ [.int 0], rfl, SqL.of (by rw [← iV_snoc]; exact hl2), fun r2 hr2 => ?_⟩
        exact ⟨r2, rfl, e2.trans (Evl.Ex.new hr2), Eq.trans upd_same (by rw [cut_neg1])⟩
      · refine if_f (decide_eq_false fun q => hz (by injection q)) ?_
        exact ⟨_, rfl, a', _, rfl, .inl (SqL.of hl2), fun l' hl => out (trm_snocn l hz) l' hl⟩
theorem ok_addL {f : Addr} {fd : FuncData} (F : Fun K "_law_wl_add" "_law_wl_add" s_l_add f fd) (mL : mg "len" = none) (mR : mg "range" = none) (mM : mg "max" = none) (cT : Cal P w K mg base 1 "_law_wl_trim" p_l_trim spTrimL) : FnOk P w K mg base CX0 2 f fd p_l_add spAddL := by
  refine F.ok sc_l_add (fun vs H Q E h => ?_) (fun cdv A outer s H vs Q E hr h => ?_)
  · obtain ⟨a, b, x, y, f, rfl, _⟩ := h
    rfl
  · obtain ⟨a, b, x, y, fc, rfl, ha, hb, by_, bf, k⟩ := h
    have nd := sc_l_add.nd
    refine ⟨_, pss_cons (ps_set (i := 3) nd rfl (Or.inl rfl) (pe_callB (call_max2 rfl) (by rfl) mM (by decide +kernel) (pa_cons (pe_callB call_len_seq (by rfl) mL PySem.boot_len (pa_cons (pv 0) pa_nil)) (pa_cons (pe_callB call_len_seq (by rfl) mL PySem.boot_len (pa_cons (pv 1) pa_nil)) pa_nil))))
      (pss_cons (ps_set (i := 4) nd rfl (Or.inr rfl) (pe_op op_cat (pv 0) (pe_lc (own := [("k", 6)]) (g := (gName 6)) (tt := tYes) (te := (tC (.int 0))) rfl nd (pi_range1 (by rfl) mR (pa_cons (pe_op op_sub (pv 3) (pe_callB call_len_seq (by rfl) mL PySem.boot_len (pa_cons (pv 0) pa_nil))) pa_nil)) (blkOk_by (N := n_l_add) (sc := defScope s_l_add) (by decide +kernel)) (fun _ _ _ _ _ => (pg_name (i := 6) nd rfl (Or.inl rfl))) (fun _ _ _ _ _ => pts_nil) (fun _ _ _ _ _ => pe_int))))
      (pss_cons (ps_set (i := 5) nd rfl (Or.inr rfl) (pe_op op_cat (pv 1) (pe_lc (own := [("k", 6)]) (g := (gName 6)) (tt := tYes) (te := (tC (.int 0))) rfl nd (pi_range1 (by rfl) mR (pa_cons (pe_op op_sub (pv 3) (pe_callB call_len_seq (by rfl) mL PySem.boot_len (pa_cons (pv 1) pa_nil))) pa_nil)) (blkOk_by (N := n_l_add) (sc := defScope s_l_add) (by decide +kernel)) (fun _ _ _ _ _ => (pg_name (i := 6) nd rfl (Or.inl rfl))) (fun _ _ _ _ _ => pts_nil) (fun _ _ _ _ _ => pe_int))))
      (pss_one (ps_ret (pe_c cT hr (pa_cons (pe_lc (own := [("k", 6)]) (g := (gName 6)) (tt := tYes) (te := (tOp (rI0 fun i j => .int (i + j)) (tOp (rIxL K) (tVar 4) (tVar 6)) (tOp (rI CMulW fun i j => .int (i * j)) (tVar 2) (tOp (rIxL K) (tVar 5) (tVar 6))))) rfl nd (pi_range1 (by rfl) mR (pa_cons (pv 3) pa_nil)) (blkOk_by (N := n_l_add) (sc := defScope s_l_add) (by decide +kernel)) (fun _ _ _ _ _ => (pg_name (i := 6) nd rfl (Or.inl rfl))) (fun _ _ _ _ _ => pts_nil) (fun _ _ _ _ _ => (pe_op op_add (pe_ix ix_list (pv 4) (pv 6) (fun _ _ => rfl)) (pe_op op_mulW (pv 2) (pe_ix ix_list (pv 5) (pv 6) (fun _ _ => rfl)))))) pa_nil)))))), ?_⟩
    have la := cp_le x
    have lb := cp_le y
    obtain ⟨sz, hsz, sz1, sxa, sxb⟩ : ∃ s : Nat, (if ((iV (cp y)).length : Int) > ((iV (cp x)).length : Int) then ((iV (cp y)).length : Int) else ((iV (cp x)).length : Int)) = (s : Int) ∧ s ≤ 1 ∧ (cp x).length ≤ s ∧ (cp y).length ≤ s := by
      rw [iV_len, iV_len]
      split
      · exact ⟨(cp y).length, rfl, lb, by omega, Nat.le_refl _⟩
      · exact ⟨(cp x).length, rfl, la, Nat.le_refl _, by omega⟩
    refine ⟨_, rfl, a, _, rfl, .inl (SqL.of ha), _, rfl, b, _, rfl, .inl (SqL.of hb), _, _, rfl, ?_⟩
    rw [hsz]
    have hx : ∀ i : Nat, i < sz → (padL x sz)[i]? = some x := fun i h => padL_at i sz h sz1
    have hy : ∀ i : Nat, i < sz → (padL y sz)[i]? = some y := fun i h => padL_at i sz h sz1
    have small : ∀ {n : Nat}, n ≤ 10 → n < sizeLine := fun h => Nat.lt_of_lt_of_le (show _ < 100 by omega) (by decide)
    -- left
    refine ⟨_, rfl, _, rfl, _, rfl, a, _, rfl, .inl (SqL.of ha), _, _, rfl, rfl, _, rfl, by rw [iV_len]; omega, by rw [iV_len]; omega, fun D hD => ?_⟩
    refine lc_range (n := ((sz : Int) - ((iV (cp x)).length : Int)).toNat) (fun i H' => Evl.Ex H H' ∧ H' D = some (.lst (List.replicate i (.int 0)))) ⟨Evl.Ex.new hD, upd_same⟩ ?_ ?_
    · rintro i H1 hi ⟨e1, h1⟩
      rw [iV_len] at hi
      refine ⟨rfl, ?_⟩
      unfold tYes
      exact if_t rfl ⟨_, h1, by rw [List.length_replicate]; exact small (by omega), Evl.Ex.mut e1 hD, by rw [upd_same, repS]⟩
    rintro H1 ⟨e1, h1⟩
    have n1 : ((sz : Int) - ((iV (cp x)).length : Int)).toNat = sz - (cp x).length := by rw [iV_len]; omega
    rw [n1, ← iV_repL] at h1
    refine ⟨a, D, _, _, rfl, rfl, e1 _ _ ha, h1, by rw [iV_len, iV_len, List.length_replicate]; exact Nat.le_of_lt (small (by omega)), fun p4 hp4 => ?_⟩
    have e2 := e1.trans (Evl.Ex.new (o := .lst (iV (cp x) ++ iV (List.replicate (sz - (cp x).length) 0))) hp4)
    have h4 : Li (upd H1 p4 (.lst (iV (cp x) ++ iV (List.replicate (sz - (cp x).length) 0)))) p4 (padL x sz) := by
      unfold padL
      show upd H1 p4 _ p4 = some (.lst (iV _))
      unfold iV
      rw [List.map_append]
      exact upd_same
    generalize upd H1 p4 (.lst (iV (cp x) ++ iV (List.replicate (sz - (cp x).length) 0))) = H2 at e2 h4
    -- right
    refine ⟨_, rfl, _, rfl, _, rfl, b, _, rfl, .inl (SqL.of (e2 _ _ hb)), _, _, rfl, rfl, _, rfl, by rw [iV_len]; omega, by rw [iV_len]; omega, fun D2 hD2 => ?_⟩
    refine lc_range (n := ((sz : Int) - ((iV (cp y)).length : Int)).toNat) (fun i H' => Evl.Ex H2 H' ∧ H' D2 = some (.lst (List.replicate i (.int 0)))) ⟨Evl.Ex.new hD2, upd_same⟩ ?_ ?_
    · rintro i H3 hi ⟨e3, h3⟩
      rw [iV_len] at hi
      refine ⟨rfl, ?_⟩
      unfold tYes
      exact if_t rfl ⟨_, h3, by rw [List.length_replicate]; exact small (by omega), Evl.Ex.mut e3 hD2, by rw [upd_same, repS]⟩
    rintro H3 ⟨e3, h3⟩
    have n2 : ((sz : Int) - ((iV (cp y)).length : Int)).toNat = sz - (cp y).length := by rw [iV_len]; omega
    rw [n2, ← iV_repL] at h3
    refine ⟨b, D2, _, _, rfl, rfl, e3 _ _ (e2 _ _ hb), h3, by rw [iV_len, iV_len, List.length_replicate]; exact Nat.le_of_lt (small (by omega)), fun p5 hp5 => ?_⟩
    have e4 := e3.trans (Evl.Ex.new (o := .lst (iV (cp y) ++ iV (List.replicate (sz - (cp y).length) 0))) hp5)
    have h5 : Li (upd H3 p5 (.lst (iV (cp y) ++ iV (List.replicate (sz - (cp y).length) 0)))) p5 (padL y sz) := by
      unfold padL
      show upd H3 p5 _ p5 = some (.lst (iV _))
      unfold iV
      rw [List.map_append]
      exact upd_same
    generalize upd H3 p5 (.lst (iV (cp y) ++ iV (List.replicate (sz - (cp y).length) 0))) = H4 at e4 h5
    have h4' : Li H4 p4 (padL x sz) := e4 _ _ h4
    -- the sum
    refine ⟨_, rfl, _, rfl, by omega, by omega, fun D3 hD3 => ?_⟩
    refine lc_range (n := (sz : Int).toNat) (fun i H' => Evl.Ex H4 H' ∧ H' D3 = some (.lst (List.replicate i (.int (x + fc * y))))) ⟨Evl.Ex.new hD3, upd_same⟩ ?_ ?_
    · rintro i H5 hi ⟨e5, h6⟩
      rw [Int.zero_add]
      have hi : i < sz := by omega
      refine ⟨rfl, ?_⟩
      unfold tYes
      refine if_t rfl ?_
      have cm : CMulW fc y := wide_mul bf by_ (by decide) (by decide) (by decide)
      refine ⟨_, rfl, _, rfl, p4, _, _, .int x, rfl, rfl, SqL.of (e5 _ _ h4'), atI_nat (iV_at (hx i hi)), _, rfl, _, rfl, _, rfl, p5, _, _, .int y, rfl, rfl, SqL.of (e5 _ _ h5), atI_nat (iV_at (hy i hi)), _, _, rfl, rfl, cm, _, _, rfl, rfl, ?_⟩
      exact ⟨_, h6, by rw [List.length_replicate]; exact small (by omega), Evl.Ex.mut e5 hD3, by rw [upd_same, repS]⟩
    rintro H5 ⟨e5, h6⟩
    rw [Int.toNat_natCast, ← iV_repL] at h6
    have ev : trm (List.replicate sz (x + fc * y)) = cp (x + fc * y) := by
      rcases Nat.lt_or_ge 0 sz with h | h
      · rw [show sz = 1 by omega]
        exact trm_one _
      · have hz : sz = 0 := by omega
        have zx : x = 0 := by
          by_cases q : x = 0
          · exact q
          · rw [cp_n q] at sxa
            exact absurd sxa (by show ¬ 1 ≤ sz; omega)
        have zy : y = 0 := by
          by_cases q : y = 0
          · exact q
          · rw [cp_n q] at sxb
            exact absurd sxb (by show ¬ 1 ≤ sz; omega)
        rw [hz, zx, zy, Int.mul_zero]
        rfl
    refine ⟨D3, List.replicate sz (x + fc * y), rfl, h6, by rw [List.length_replicate]; omega, fun p H6 hp e6 h7 => k p H6 (Evl.fresh_back ((e2.trans e4).trans e5) hp) (((e2.trans e4).trans e5).trans e6) ?_⟩
    rw [h7, ev]
theorem ok_mulL {f : Addr} {fd : FuncData} (F : Fun K "_law_wl_mul" "_law_wl_mul" s_l_mul f fd) (mL : mg "len" = none) (mR : mg "range" = none) (cT : Cal P w K mg base 1 "_law_wl_trim" p_l_trim spTrimL) : FnOk P w K mg base CX0 2 f fd p_l_mul spMulL := by
  refine F.ok sc_l_mul (fun vs H Q E h => ?_) (fun cdv A outer s H vs Q E hr h => ?_)
  · obtain ⟨a, b, x, y, rfl, _⟩ := h
    rfl
  · obtain ⟨a, b, x, y, rfl, ha, hb, bx, by_, k⟩ := h
    have nd := sc_l_mul.nd
    refine ⟨_, pss_cons (ps_setLc (i := 2) (own := [("k", 3)]) (g := (gName 3)) (tt := tYes) (te := (tC (.int 0))) rfl nd rfl rfl (sw_true rfl rfl rfl (by decide +kernel)) (pi_range1 (by rfl) mR (pa_cons (pe_op op_add (pe_callB call_len_seq (by rfl) mL PySem.boot_len (pa_cons (pv 0) pa_nil)) (pe_callB call_len_seq (by rfl) mL PySem.boot_len (pa_cons (pv 1) pa_nil))) pa_nil)) (blkOk_by (N := n_l_mul) (sc := defScope s_l_mul) (by decide +kernel)) (fun _ _ _ _ _ => (pg_name (i := 3) nd rfl (Or.inl rfl))) (fun _ _ _ _ _ => pts_nil) (fun _ _ _ _ _ => pe_int))
      (pss_cons (ps_for PassesOwn.never rfl (pi_range1 (by rfl) mR (pa_cons (pe_callB call_len_seq (by rfl) mL PySem.boot_len (pa_cons (pv 0) pa_nil)) pa_nil)) (pg_name (i := 3) nd rfl (Or.inl rfl)) (pss_one (ps_for PassesOwn.never rfl (pi_range1 (by rfl) mR (pa_cons (pe_callB call_len_seq (by rfl) mL PySem.boot_len (pa_cons (pv 1) pa_nil)) pa_nil)) (pg_name (i := 4) nd rfl (Or.inl rfl)) (pss_one (ps_asg (pe_op op_add (pe_ix ix_list (pv 2) (pe_op op_add (pv 3) (pv 4)) (fun _ _ => rfl)) (pe_op op_mulW (pe_ix ix_list (pv 0) (pv 3) (fun _ _ => rfl)) (pe_ix ix_list (pv 1) (pv 4) (fun _ _ => rfl)))) (pg_sub (pv 2) (pe_op op_add (pv 3) (pv 4)) set_list))))))
      (pss_one (ps_ret (pe_c cT hr (pa_cons (pv 2) pa_nil))))), ?_⟩
    have la := cp_le x
    have lb := cp_le y
    have small : ∀ {n : Nat}, n ≤ 10 → n < sizeLine := fun h => Nat.lt_of_lt_of_le (show _ < 100 by omega) (by decide)
    have en : (((iV (cp x)).length : Int) + ((iV (cp y)).length : Int)).toNat = (cp x).length + (cp y).length := by rw [iV_len, iV_len]; omega
    refine ⟨_, rfl, a, _, rfl, .inl (SqL.of ha), _, rfl, b, _, rfl, .inl (SqL.of hb), _, _, rfl, rfl, _, rfl, by rw [iV_len, iV_len]; omega, by rw [iV_len, iV_len]; omega, fun D hD => ?_⟩
    refine lc_range (n := (((iV (cp x)).length : Int) + ((iV (cp y)).length : Int)).toNat) (fun i H' => Evl.Ex H H' ∧ H' D = some (.lst (List.replicate i (.int 0)))) ⟨Evl.Ex.new hD, upd_same⟩ ?_ ?_
    · rintro i H1 hi ⟨e1, h1⟩
      rw [en] at hi
      refine ⟨rfl, ?_⟩
      unfold tYes
      exact if_t rfl ⟨_, h1, by rw [List.length_replicate]; exact small (by omega), Evl.Ex.mut e1 hD, by rw [upd_same, repS]⟩
    rintro H1 ⟨e1, h1⟩
    rw [en, ← iV_repL] at h1
    -- the products: all, or none
    have aD : a ≠ D := fun z => by
      have ha' : H a = some (.lst (iV (cp x))) := ha
      rw [z, hD] at ha'
      cases ha'
    have bD : b ≠ D := fun z => by
      have hb' : H b = some (.lst (iV (cp y))) := hb
      rw [z, hD] at hb'
      cases hb'
    have fin : ∀ {H2 : Hp} {ns : List Int}, Evl.Ex H H2 → Li H2 D ns → ns.length ≤ 100 → trm ns = cp (x * y) → spTrimL [.ref D] H2 Q E0 := fun {H2 ns} e h hl ht => ⟨D, ns, rfl, h, hl, fun p H3 hp e3 h3 => k p H3 (Evl.fresh_back e hp) (e.trans e3) (by rw [h3, ht])⟩
    by_cases hx0 : x = 0
    · subst hx0
      refine ⟨_, rfl, a, _, rfl, .inl (SqL.of (e1 _ _ ha)), _, rfl, by decide, by decide, for_range (n := 0) (fun i σ H' => H' = H1 ∧ ∃ (v3 v4 : Option V), σ = [some (.ref a), some (.ref b), some (.ref D), v3, v4]) ⟨rfl, _, _, rfl⟩ (fun i σ H2 hi _ => absurd hi (Nat.not_lt_zero _)) ?_⟩
      rintro σ H2 ⟨rfl, v3, v4, rfl⟩
      refine ⟨_, rfl, fin e1 h1 (by rw [List.length_replicate]; show 0 + (cp y).length ≤ 100; omega) ?_⟩
      rw [Int.zero_mul]
      show trm (List.replicate (0 + (cp y).length) 0) = cp 0
      rcases Nat.lt_or_ge 0 (cp y).length with h | h
      · rw [show (cp y).length = 1 by omega]; exact trm_one 0
      · rw [show (cp y).length = 0 by omega]; rfl
    rw [cp_n hx0] at ha h1 la
    by_cases hy0 : y = 0
    · subst hy0
      refine ⟨_, rfl, a, _, rfl, .inl (SqL.of (e1 _ _ ha)), _, rfl, (len1 x).1, (len1 x).2, for_range (n := 1) (fun i σ H' => H' = H1 ∧ ∃ (v3 v4 : Option V), σ = [some (.ref a), some (.ref b), some (.ref D), v3, v4]) ⟨rfl, _, _, rfl⟩ ?_ ?_⟩
      · rintro i σ H2 hi ⟨rfl, v3, v4, rfl⟩
        refine ⟨_, rfl, b, _, rfl, .inl (SqL.of (e1 _ _ hb)), _, rfl, by decide, by decide, for_range (n := 0) (fun j σ H' => H' = H2 ∧ ∃ (v3 v4 : Option V), σ = [some (.ref a), some (.ref b), some (.ref D), v3, v4]) ⟨rfl, _, _, rfl⟩ (fun j σ H3 hj _ => absurd hj (Nat.not_lt_zero _)) ?_⟩
        rintro σ H3 ⟨rfl, v3, v4, rfl⟩
        exact ⟨rfl, _, _, rfl⟩
      · rintro σ H2 ⟨rfl, v3, v4, rfl⟩
        refine ⟨_, rfl, fin e1 h1 (by rw [List.length_replicate]; show 1 ≤ 100; decide) ?_⟩
        rw [Int.mul_zero]
        exact trm_one 0
    rw [cp_n hy0] at hb h1 lb
    have cm : CMulW x y := wide_mul bx by_ (by decide) (by decide) (by decide)
    have xy : x * y ≠ 0 := Int.mul_ne_zero hx0 hy0
    refine ⟨_, rfl, a, _, rfl, .inl (SqL.of (e1 _ _ ha)), _, rfl, (len1 x).1, (len1 x).2, for_range (n := 1) (fun i σ H' => Evl.Ex H H' ∧ Li H' a [x] ∧ Li H' b [y] ∧ Li H' D (if i = 0 then [0, 0] else [x * y, 0]) ∧ ∃ (v3 v4 : Option V), σ = [some (.ref a), some (.ref b), some (.ref D), v3, v4]) ⟨e1, e1 _ _ ha, e1 _ _ hb, h1, _, _, rfl⟩ ?_ ?_⟩
    · rintro i σ H2 hi ⟨e2, ha2, hb2, h2, v3, v4, rfl⟩
      have hi0 : i = 0 := by omega
      subst hi0
      refine ⟨_, rfl, b, _, rfl, .inl (SqL.of hb2), _, rfl, (len1 y).1, (len1 y).2, ?_⟩
      refine for_range (n := 1) (fun j σ H' => Evl.Ex H H' ∧ Li H' a [x] ∧ Li H' b [y] ∧ Li H' D (if j = 0 then [0, 0] else [x * y, 0]) ∧ ∃ (v4 : Option V), σ = [some (.ref a), some (.ref b), some (.ref D), some (.int 0), v4]) ⟨e2, ha2, hb2, h2, _, rfl⟩ ?_ ?_
      · rintro j σ H3 hj ⟨e3, ha3, hb3, h3, v4, rfl⟩
        have hj0 : j = 0 := by omega
        subst hj0
        have h3 : H3 D = some (.lst [.int 0, .int 0]) := h3
        have ha3 : H3 a = some (.lst [.int x]) := ha3
        have hb3 : H3 b = some (.lst [.int y]) := hb3
        refine ⟨_, rfl, _, rfl, _, rfl, _, _, rfl, rfl, D, _, _, .int 0, rfl, rfl, SqL.of h3, by rfl, _, rfl, _, rfl, a, _, _, .int x, rfl, rfl, SqL.of ha3, by rfl, _, rfl, _, rfl, b, _, _, .int y, rfl, rfl, SqL.of hb3, by rfl, _, _, rfl, rfl, cm, _, _, rfl, rfl, ?_⟩
        refine ⟨_, rfl, _, rfl, _, rfl, _, _, rfl, rfl, D, _, _, 0, rfl, rfl, h3, by rfl, ?_⟩
        refine ⟨fun c o h => Eq.trans (upd_ne (ne_of_none' h hD)) (e3 _ _ h), Eq.trans (upd_ne aD) ha3, Eq.trans (upd_ne bD) hb3, ?_, _, rfl⟩
        show upd H3 D _ D = some (.lst [.int (x * y), .int 0])
        rw [upd_same]
        show some (HO.lst [V.int (0 + x * y), V.int 0]) = _
        rw [Int.zero_add]
      · rintro σ H3 ⟨e3, ha3, hb3, h3, v4, rfl⟩
        exact ⟨e3, ha3, hb3, h3, _, _, rfl⟩
    · rintro σ H2 ⟨e2, _, _, h2, v3, v4, rfl⟩
      have h2 : Li H2 D [x * y, 0] := h2
      refine ⟨_, rfl, fin e2 h2 (by show 2 ≤ 100; decide) ?_⟩
      rw [show [x * y, 0] = [x * y] ++ [0] from rfl, trm_snoc0]
      exact trm_one _
end
end V2


namespace V2
open PySem L2
open PySem.Spec PyProof.Rows
/-! ## another law's steps -/
theorem CsAt.set {H H' : Hp} {l q : Addr} {ns : List Int} {z : Int} {j : Nat} (h : CsAt H l ns) (ql : q ≠ l) (hq : Li H q (cp z)) (he : ∀ c o, c ≠ l → H c = some o → H' c = some o) (hl : ∀ xs : List V, H l = some (.lst xs) → H' l = some (.lst (xs.set j (.ref q)))) : CsAt H' l (ns.set j z) := by
  obtain ⟨as, h1, h2, h3⟩ := h
  refine ⟨as.set j q, by rw [hl _ h1, List.map_set], by rw [List.length_set, List.length_set, h2], fun i a n ha hn => ?_⟩
  rw [List.getElem?_set] at ha hn
  split at ha
  · rename_i c
    rw [if_pos c] at hn
    split at ha
    · split at hn
      · cases ha
        cases hn
        exact he _ _ ql hq
      · cases hn
    · cases ha
  · rename_i c
    rw [if_neg c] at hn
    have := h3 i a n ha hn
    exact he _ _ (cs_ne h1 ha this) this
theorem cs_pick {H : Hp} {l : Addr} {ns : List Int} {k : Int} (h : CsAt H l ns) (k0 : 0 ≤ k) (k1 : k < ns.length) : ∃ (xs : List V) (a : Addr), H l = some (.lst xs) ∧ atI xs k = some (.ref a) ∧ Li H a (cp (ns.getD k.toNat 0)) ∧ xs.length = ns.length ∧ a ≠ l := by
  obtain ⟨as, h1, h2, h3⟩ := h
  obtain ⟨n, rfl⟩ : ∃ n : Nat, k = n := ⟨k.toNat, by omega⟩
  have hn : n < as.length := by omega
  have hn2 : n < ns.length := by omega
  have e := h3 n as[n] ns[n] (List.getElem?_eq_getElem hn) (List.getElem?_eq_getElem hn2)
  refine ⟨as.map V.ref, as[n], h1, atI_nat (by rw [List.getElem?_map, List.getElem?_eq_getElem hn]; rfl), ?_, by rw [List.length_map, h2], cs_ne h1 (List.getElem?_eq_getElem hn) e⟩
  rw [Int.toNat_natCast, List.getD_eq_getElem?_getD, List.getElem?_eq_getElem hn2]
  exact e
theorem pour_set {A : List Int} {W k a : Int} (k0 : 0 ≤ k) (k1 : k < A.length) : A.set k.toNat (A.getD k.toNat 0 + a * W) = pourA A W k a := by
  obtain ⟨n, rfl⟩ : ∃ n : Nat, k = n := ⟨k.toNat, by omega⟩
  rw [Int.toNat_natCast]
  unfold pourA
  refine List.ext_getElem (by simp) fun i h1 h2 => ?_
  rw [List.length_set] at h1
  rw [List.getElem_set, List.getElem_map, List.getElem_range]
  by_cases c : n = i
  · subst c
    rw [if_pos rfl, if_pos rfl]
  · rw [if_neg c, if_neg (by omega)]
    simp [List.getD_eq_getElem?_getD, List.getElem?_eq_getElem h1]
/-- the tanks behind the first i that are open -/
def opnA (A ws ks : List Int) (tot wd : Int) (i : Nat) : List Int := (List.range A.length).map fun (k : Nat) => if (k : Int) ∈ ks.take i then tot * ws.getD k 0 else A.getD k 0 * wd
theorem opn_0 {A ws ks : List Int} {tot wd : Int} : opnA A ws ks tot wd 0 = A.map (· * wd) := by
  unfold opnA
  refine List.ext_getElem (by simp) fun i h1 h2 => ?_
  rw [List.length_map] at h2
  rw [List.getElem_map, List.getElem_range, List.getElem_map, if_neg (by simp)]
  simp [List.getD_eq_getElem?_getD, List.getElem?_eq_getElem h2]
theorem opn_s {A ws ks : List Int} {tot wd : Int} {i : Nat} {k : Int} (hk : ks[i]? = some k) (k0 : 0 ≤ k) : (opnA A ws ks tot wd i).set k.toNat (tot * ws.getD k.toNat 0) = opnA A ws ks tot wd (i + 1) := by
  obtain ⟨n, rfl⟩ : ∃ n : Nat, k = n := ⟨k.toNat, by omega⟩
  rw [Int.toNat_natCast]
  have ht : ks.take (i + 1) = ks.take i ++ [(n : Int)] := by rw [List.take_add_one, hk]; rfl
  unfold opnA
  rw [ht]
  refine List.ext_getElem (by simp) fun j h1 h2 => ?_
  rw [List.getElem_set, List.getElem_map, List.getElem_map, List.getElem_range]
  by_cases c : n = j
  · subst c
    rw [if_pos rfl, if_pos (List.mem_append_right _ (List.mem_singleton.mpr rfl))]
  · rw [if_neg c]
    have : ((j : Int) ∈ ks.take i ++ [(n : Int)]) ↔ (j : Int) ∈ ks.take i := by
      rw [List.mem_append]
      exact ⟨fun h => h.elim id fun h => absurd (List.mem_singleton.mp h) (by omega), .inl⟩
    by_cases c2 : (j : Int) ∈ ks.take i
    · rw [if_pos c2, if_pos (this.mpr c2)]
    · rw [if_neg c2, if_neg (fun h => c2 (this.mp h))]
theorem opn_all {A ws ks : List Int} : opnA A ws ks (pick A ks).sum (pick ws ks).sum ks.length = openA A ws ks := by
  unfold opnA openA
  rw [List.take_length]
theorem pick_s {ns ks : List Int} {i : Nat} {k : Int} (hk : ks[i]? = some k) : (pick ns (ks.take (i + 1))).sum = (pick ns (ks.take i)).sum + 1 * ns.getD k.toNat 0 := by
  have ht : ks.take (i + 1) = ks.take i ++ [k] := by rw [List.take_add_one, hk]; rfl
  rw [ht]
  unfold pick
  rw [List.map_append, List.sum_append, Int.one_mul]
  show _ + (ns.getD k.toNat 0 + 0) = _
  rw [Int.add_zero]
/-- the state of the other law: what stands in the tanks, by a number, and the widths -/
def LSt (H : Hp) (t lw : Addr) (A : List Int) (W : Int) : Prop := ∃ lt lf, H t = some (.tup [.ref lt, .ref lf, .ref lw]) ∧ CsAt H lt A ∧ Li H lf (cp W)
theorem LSt.ex {H H' : Hp} {t lw : Addr} {A : List Int} {W : Int} (h : LSt H t lw A W) (e : Evl.Ex H H') : LSt H' t lw A W := by
  obtain ⟨lt, lf, h1, h2, h3⟩ := h
  exact ⟨lt, lf, e _ _ h1, h2.ex e, e _ _ h3⟩
def spAftW : Sp := fun vs H Q _ => ∃ (t dd lw : Addr) (d : Deed) (A ws : List Int) (W : Int), vs = [.ref t, .ref dd] ∧ LSt H t lw A W ∧ CsAt H lw ws ∧ DAt H dd d ∧ okD A.length d ∧ (∀ k a, d = .po k a → a ≤ 1000) ∧ A.length ≤ 20 ∧ OkV A.length ws ∧ OkW 4000 A W ∧
  ∀ t' H', Evl.Ex H H' → LSt H' t' lw (stepA ws (A, W) d).1 (stepA ws (A, W) d).2 → Q (.ref t') H'
def spApart : Sp := fun vs H Q _ => ∃ (t lw : Addr) (A ws : List Int) (W i j : Int), vs = [.ref t, .int i, .int j] ∧ LSt H t lw A W ∧ CsAt H lw ws ∧ 0 ≤ i ∧ i < A.length ∧ 0 ≤ j ∧ j < A.length ∧ OkV A.length ws ∧ OkW 4000 A W ∧
  Evl.RetL (iV (cp (A.getD i.toNat 0 * ws.getD j.toNat 0 - A.getD j.toNat 0 * ws.getD i.toNat 0))) H Q
def st1 (ws : List Int) (S : List Int × Int) : Deed → List Int × Int
  | .po k a => stepA ws S (.po k a)
  | _ => S
def st2 (ws : List Int) (S : List Int × Int) : Deed → List Int × Int
  | .po k a => stepA ws S (.po k a)
  | .op ks => stepA ws S (.op ks)
  | _ => S
def AfM (H : Hp) (t dd lw : Addr) (S : List Int × Int) : L2.St → Hp → Prop := fun σ H' => ∃ (lt lf : Addr) (v5 v6 v7 v8 v9 : Option V), σ = [some (.ref t), some (.ref dd), some (.ref lt), some (.ref lf), some (.ref lw), v5, v6, v7, v8, v9] ∧ Evl.Ex H H' ∧ H lt = none ∧ CsAt H' lt S.1 ∧ Li H' lf (cp S.2)
theorem bnU {n : Nat} {x : Int} (h : Bn n x) (hn : n ≤ 100000) : Bn 100000 x := h.le hn
section
variable {base : Heap} {mg : Str → Option Value} {K : PySem.W.Frag} {w : World} {P : Program}
theorem ok_apart {f : Addr} {fd : FuncData} (F : Fun K "_law_wl_apart" "_law_wl_apart" s_l_apart f fd) (cA : Cal P w K mg base 2 "_law_wl_add" p_l_add spAddL) (cM : Cal P w K mg base 2 "_law_wl_mul" p_l_mul spMulL) : FnOk P w K mg base CX0 3 f fd p_l_apart spApart := by
  refine F.ok sc_l_apart (fun vs H Q E h => ?_) (fun cdv A outer s H vs Q E hr h => ?_)
  · obtain ⟨t, lw, A, ws, W, i, j, rfl, _⟩ := h
    rfl
  · obtain ⟨t, lw, Am, ws, W, i, j, rfl, ⟨lt, lf, ht, hA, hF⟩, hw, i0, i1, j0, j1, hV, hW, k⟩ := h
    have nd := sc_l_apart.nd
    refine ⟨_, pss_cons (ps_asg (pv 0) (pg_tup rfl (pgs_cons (pg_name (i := 3) nd rfl (Or.inl rfl)) (pgs_cons (pg_name (i := 4) nd rfl (Or.inl rfl)) (pgs_cons (pg_name (i := 5) nd rfl (Or.inl rfl)) pgs_nil)))))
      (pss_one (ps_ret (pe_c cA hr (pa_cons (pe_c cM hr (pa_cons (pe_ix ix_list (pv 3) (pv 1) (fun _ _ => rfl)) (pa_cons (pe_ix ix_list (pv 5) (pv 2) (fun _ _ => rfl)) pa_nil))) (pa_cons (pe_c cM hr (pa_cons (pe_ix ix_list (pv 3) (pv 2) (fun _ _ => rfl)) (pa_cons (pe_ix ix_list (pv 5) (pv 1) (fun _ _ => rfl)) pa_nil))) (pa_cons (pe_op op_sub pe_int pe_int) pa_nil)))))), ?_⟩
    have bA : ∀ {z : Int}, 0 ≤ z → z < Am.length → Bn 100000 (Am.getD z.toNat 0) := fun z0 z1 => bnU (hW.bA _ (getD_mem' (by omega))) (by decide)
    have bw : ∀ {z : Int}, 0 ≤ z → z < Am.length → Bn 100000 (ws.getD z.toNat 0) := fun z0 z1 => bnU (hV.bit _ (getD_mem' (by rw [hV.len]; omega))) (by decide)
    refine ⟨_, rfl, t, _, rfl, SqT.of ht, rfl, _, _, rfl, _, _, rfl, _, _, rfl, rfl, ?_⟩
    obtain ⟨xs1, a1, q1, q2, q3, _⟩ := cs_pick hA i0 i1
    obtain ⟨xs2, a2, p1, p2, p3, _⟩ := cs_pick hw j0 (by rw [hV.len]; exact j1)
    refine ⟨_, rfl, _, rfl, lt, _, _, _, rfl, rfl, SqL.of q1, q2, _, rfl, _, rfl, lw, _, _, _, rfl, rfl, SqL.of p1, p2, a1, a2, _, _, rfl, q3, p3, bA i0 i1, bw j0 j1, fun r1 H1 hr1 e1 h1 => ?_⟩
    obtain ⟨xs3, a3, q4, q5, q6, _⟩ := cs_pick (hA.ex e1) j0 j1
    obtain ⟨xs4, a4, p4, p5, p6, _⟩ := cs_pick (hw.ex e1) i0 (by rw [hV.len]; exact i1)
    refine ⟨_, rfl, _, rfl, lt, _, _, _, rfl, rfl, SqL.of q4, q5, _, rfl, _, rfl, lw, _, _, _, rfl, rfl, SqL.of p4, p5, a3, a4, _, _, rfl, q6, p6, bA j0 j1, bw i0 i1, fun r2 H2 hr2 e2 h2 => ?_⟩
    refine ⟨_, _, rfl, rfl, r1, r2, _, _, 0 - 1, rfl, e2 _ _ h1, h2, bnU (Bn.mul (hW.bA _ (getD_mem' (by omega))) (hV.bit _ (getD_mem' (by rw [hV.len]; omega)))) (by decide), by show (0 - 1 : Int).natAbs < 2 ^ 100000; exact Nat.lt_of_lt_of_le (show 1 < 2 ^ 1 by decide) (Nat.pow_le_pow_right (by decide) (by decide)), fun p H3 hp e3 h3 => k p H3 (Evl.fresh_back (e1.trans e2) hp) ((e1.trans e2).trans e3) ?_⟩
    rw [h3]
    have e : Am.getD i.toNat 0 * ws.getD j.toNat 0 + (0 - 1) * (Am.getD j.toNat 0 * ws.getD i.toNat 0) = Am.getD i.toNat 0 * ws.getD j.toNat 0 - Am.getD j.toNat 0 * ws.getD i.toNat 0 := by omega
    rw [e]
theorem ok_afterL {f : Addr} {fd : FuncData} (F : Fun K "_law_wl_after" "_law_wl_after" s_l_after f fd) (mLs : mg "list" = none) (cA : Cal P w K mg base 2 "_law_wl_add" p_l_add spAddL) (cM : Cal P w K mg base 2 "_law_wl_mul" p_l_mul spMulL) : FnOk P w K mg base CX0 3 f fd p_l_after spAftW := by
  refine F.ok sc_l_after (fun vs H Q E h => ?_) (fun cdv A outer s H vs Q E hr h => ?_)
  · obtain ⟨t, dd, lw, d, A, ws, W, rfl, _⟩ := h
    rfl
  · obtain ⟨t, dd, lw, d, Am, ws, W, rfl, ⟨lt0, lf0, ht, hA, hF⟩, hw, hd, hok, hp, h20, hV, hW, k⟩ := h
    have nd := sc_l_after.nd
    have one : 1 ≤ sizeLine := by show 1 ≤ sizeLine; decide
    have two : 2 ≤ sizeLine := by show 2 ≤ sizeLine; decide
    have three : 3 ≤ sizeLine := by show 3 ≤ sizeLine; decide
    refine ⟨_, pss_cons (ps_par3 (i := 2) (j := 3) (l := 4) rfl nd rfl rfl rfl (by decide) (by decide) (by decide) rfl rfl rfl (pa_cons (pe_callTy call_list_of (by rfl) mLs (by decide +kernel) (pa_cons (pe_ix ix_tup (pv 0) pe_int (fun _ _ => rfl)) pa_nil)) (pa_cons (pe_ix ix_tup (pv 0) pe_int (fun _ _ => rfl)) (pa_cons (pe_ix ix_tup (pv 0) pe_int (fun _ _ => rfl)) pa_nil))) (by rfl))
      (Evl.pss_cut (ps_if (pt_cmpR op_eq (pe_ix ix_tup (pv 1) pe_int (fun _ _ => rfl)) pe_str (nomark _)) (pss_one (ps_asg (pe_c cA hr (pa_cons (pe_ix ix_list (pv 2) (pe_ix ix_tup (pv 1) pe_int (fun _ _ => rfl)) (fun _ _ => rfl)) (pa_cons (pv 3) (pa_cons (pe_ix ix_tup (pv 1) pe_int (fun _ _ => rfl)) pa_nil)))) (pg_sub (pv 2) (pe_ix ix_tup (pv 1) pe_int (fun _ _ => rfl)) set_list))) pss_nil)
      (Evl.pss_cut (ps_if (pt_cmpR op_eq (pe_ix ix_tup (pv 1) pe_int (fun _ _ => rfl)) pe_str (nomark _)) (pss_cons (ps_asg (pe_tup (pa_cons (pe_lst pa_nil) (pa_cons (pe_lst pa_nil) pa_nil))) (pg_tup rfl (pgs_cons (pg_name (i := 5) nd rfl (Or.inr rfl)) (pgs_cons (pg_name (i := 6) nd rfl (Or.inl rfl)) pgs_nil))))
      (pss_cons (ps_for PassesOwn.never rfl (pi_list (pe_ix ix_tup (pv 1) pe_int (fun _ _ => rfl))) (pg_name (i := 7) nd rfl (Or.inl rfl)) (pss_one (ps_asg (pe_tup (pa_cons (pe_c cA hr (pa_cons (pv 5) (pa_cons (pe_ix ix_list (pv 4) (pv 7) (fun _ _ => rfl)) (pa_cons pe_int pa_nil)))) (pa_cons (pe_c cA hr (pa_cons (pv 6) (pa_cons (pe_ix ix_list (pv 2) (pv 7) (fun _ _ => rfl)) (pa_cons pe_int pa_nil)))) pa_nil))) (pg_tup rfl (pgs_cons (pg_name (i := 5) nd rfl (Or.inr rfl)) (pgs_cons (pg_name (i := 6) nd rfl (Or.inl rfl)) pgs_nil))))))
      (pss_cons (ps_par (i := 2) (j := 3) rfl nd rfl rfl (by decide) rfl rfl (pa_cons (pe_lc (own := [("nums", 9)]) (g := (gName 9)) (tt := tYes) (te := (tCall spMulL [] E0 (tCons (tVar 9) (tCons (tVar 5) tNil)))) rfl nd (pi_list (pv 2)) (blkOk_by (N := n_l_after) (sc := defScope s_l_after) (by decide +kernel)) (fun _ _ _ _ _ => (pg_name (i := 9) nd rfl (Or.inl rfl))) (fun _ _ _ _ _ => pts_nil) (fun _ _ _ _ _ => (pe_c cM hr (pa_cons (pv 9) (pa_cons (pv 5) pa_nil))))) (pa_cons (pe_c cM hr (pa_cons (pv 3) (pa_cons (pv 5) pa_nil))) pa_nil)) (by rfl))
      (pss_one (ps_for PassesOwn.never rfl (pi_list (pe_ix ix_tup (pv 1) pe_int (fun _ _ => rfl))) (pg_name (i := 7) nd rfl (Or.inl rfl)) (pss_one (ps_asg (pe_c cM hr (pa_cons (pv 6) (pa_cons (pe_ix ix_list (pv 4) (pv 7) (fun _ _ => rfl)) pa_nil))) (pg_sub (pv 2) (pv 7) set_list)))))))) pss_nil)
      (Evl.pss_cut (ps_if (pt_cmpR op_in_seq (pe_ix ix_tup (pv 1) pe_int (fun _ _ => rfl)) (pe_tup (pa_cons pe_str (pa_cons pe_str pa_nil))) (by rfl)) (pss_cons (ps_set (i := 8) nd rfl (Or.inl rfl) (pe_c cA hr (pa_cons (pe_lst pa_nil) (pa_cons (pe_ix ix_list (pv 2) (pe_ix ix_tup (pv 1) pe_int (fun _ _ => rfl)) (fun _ _ => rfl)) (pa_cons (pe_ix ix_tup (pe_ix ix_tup (pv 1) (pe_un un_neg pe_int) (fun _ _ => rfl)) pe_int (fun _ _ => rfl)) pa_nil)))))
      (pss_cons (ps_par (i := 2) (j := 3) rfl nd rfl rfl (by decide) rfl rfl (pa_cons (pe_lc (own := [("nums", 9)]) (g := (gName 9)) (tt := tYes) (te := (tCall spMulL [] E0 (tCons (tVar 9) (tCons (tLst (tCons (tOp (rIxT K) (tOp (rIxT K) (tVar 1) (tUn (rU fun i => .int (-i)) (tC (.int 1)))) (tC (.int 1))) tNil)) tNil)))) rfl nd (pi_list (pv 2)) (blkOk_by (N := n_l_after) (sc := defScope s_l_after) (by decide +kernel)) (fun _ _ _ _ _ => (pg_name (i := 9) nd rfl (Or.inl rfl))) (fun _ _ _ _ _ => pts_nil) (fun _ _ _ _ _ => (pe_c cM hr (pa_cons (pv 9) (pa_cons (pe_lst (pa_cons (pe_ix ix_tup (pe_ix ix_tup (pv 1) (pe_un un_neg pe_int) (fun _ _ => rfl)) pe_int (fun _ _ => rfl)) pa_nil)) pa_nil))))) (pa_cons (pe_c cM hr (pa_cons (pv 3) (pa_cons (pe_lst (pa_cons (pe_ix ix_tup (pe_ix ix_tup (pv 1) (pe_un un_neg pe_int) (fun _ _ => rfl)) pe_int (fun _ _ => rfl)) pa_nil)) pa_nil))) pa_nil)) (by rfl))
      (pss_cons (ps_asg (pe_c cA hr (pa_cons (pe_ix ix_list (pv 2) (pe_ix ix_tup (pv 1) pe_int (fun _ _ => rfl)) (fun _ _ => rfl)) (pa_cons (pv 8) (pa_cons (pe_op op_sub pe_int pe_int) pa_nil)))) (pg_sub (pv 2) (pe_ix ix_tup (pv 1) pe_int (fun _ _ => rfl)) set_list))
      (pss_one (ps_if (pt_cmpR op_eq (pe_ix ix_tup (pv 1) pe_int (fun _ _ => rfl)) pe_str (nomark _)) (pss_one (ps_asg (pe_c cA hr (pa_cons (pe_ix ix_list (pv 2) (pe_ix ix_tup (pv 1) pe_int (fun _ _ => rfl)) (fun _ _ => rfl)) (pa_cons (pv 8) (pa_cons pe_int pa_nil)))) (pg_sub (pv 2) (pe_ix ix_tup (pv 1) pe_int (fun _ _ => rfl)) set_list))) pss_nil))))) pss_nil)
      (pss_one (ps_ret (pe_tup (pa_cons (pv 2) (pa_cons (pv 3) (pa_cons (pv 4) pa_nil))))))))), ?_⟩
    have b1 : Bn 100000 1 := Nat.lt_of_lt_of_le (show 1 < 2 ^ 1 by decide) (Nat.pow_le_pow_right (by decide) (by decide))
    have bm : Bn 100000 (0 - 1) := by show (0 - 1 : Int).natAbs < 2 ^ 100000; exact Nat.lt_of_lt_of_le (show 1 < 2 ^ 1 by decide) (Nat.pow_le_pow_right (by decide) (by decide))
    obtain ⟨as0, hl0, hn0, hx0⟩ := id hA
    refine ⟨_, rfl, t, _, _, _, rfl, rfl, SqT.of ht, rfl, lt0, _, rfl, .inl (SqL.of hl0), fun lt hlt => ?_⟩
    have e1 := Evl.Ex.new (o := .lst (as0.map V.ref)) hlt
    have hA1 : CsAt (upd H lt (.lst (as0.map V.ref))) lt Am := ⟨as0, upd_same, hn0, fun i a n x y => e1 _ _ (hx0 i a n x y)⟩
    have hF1 := e1 _ _ hF
    have ht1 := e1 _ _ ht
    generalize upd H lt (.lst (as0.map V.ref)) = H1 at e1 hA1 hF1 ht1
    refine ⟨_, rfl, t, _, _, _, rfl, rfl, SqT.of ht1, rfl, _, rfl, t, _, _, _, rfl, rfl, SqT.of ht1, rfl, _, _, _, rfl, ?_⟩
    have M0 : AfM H t dd lw (Am, W) [some (.ref t), some (.ref dd), some (.ref lt), some (.ref lf0), some (.ref lw), none, none, none, none, none] H1 := ⟨lt, lf0, _, _, _, _, _, rfl, e1, hlt, hA1, hF1⟩
    -- pour
    refine ⟨AfM H t dd lw (st1 ws (Am, W) d), ?_, ?_⟩
    · have skip : ∀ {x : Str} {vs : List V}, H dd = some (.tup (.str x :: vs)) → x ≠ "pour" → st1 ws (Am, W) d = (Am, W) → True := fun _ _ _ => trivial
      have hd1 := DAt.ex hd e1
      cases d with
      | po j x =>
        have ha : H1 dd = some (.tup [.str "pour", .int j, .int x]) := hd1
        obtain ⟨⟨j0, j1⟩, x0⟩ := hok
        refine ⟨_, rfl, dd, _, _, _, rfl, rfl, SqT.of ha, rfl, rfl, _, rfl, if_t (by decide) ?_⟩
        obtain ⟨xs, a, q1, q2, q3, q4, q5⟩ := cs_pick hA1 j0 j1
        have x1 := hp j x rfl
        refine ⟨_, rfl, _, rfl, dd, _, _, _, rfl, rfl, SqT.of ha, rfl, lt, _, _, _, rfl, rfl, SqL.of q1, q2, _, rfl, _, rfl, dd, _, _, _, rfl, rfl, SqT.of ha, rfl, a, lf0, _, W, x, rfl, q3, hF1, bnU hW.bW (by decide), ?_, fun p H2 hp2 e2 h2 => ?_⟩
        · exact Nat.lt_of_le_of_lt (show x.natAbs ≤ 1000 by omega) (Nat.lt_of_lt_of_le (show 1000 < 2 ^ 10 by decide) (Nat.pow_le_pow_right (by decide) (by decide)))
        have q1' := e2 _ _ q1
        refine ⟨_, rfl, _, rfl, dd, _, _, _, rfl, rfl, SqT.of (e2 _ _ ha), rfl, lt, xs, j, j.toNat, rfl, rfl, q1', ?_, ?_⟩
        · have : j = ((j.toNat : Nat) : Int) := by omega
          rw [this]
          exact Evl.ixN_nat (by omega)
        · have pl : p ≠ lt := fun z => by rw [z, q1] at hp2; cases hp2
          refine ⟨lt, lf0, _, _, _, _, _, rfl, fun c o h => Eq.trans (upd_ne (ne_of_none' h hlt)) ((e1.trans e2) _ _ h), hlt, ?_, ?_⟩
          · show CsAt _ lt (pourA Am W j x)
            rw [← pour_set j0 j1]
            exact (hA1.ex e2).set pl h2 (fun c o n h => Eq.trans (upd_ne n) h) (fun ys h => by rw [q1'] at h; cases h; exact upd_same)
          · have : H2 lf0 = some (.lst (iV (cp W))) := e2 _ _ hF1
            exact Eq.trans (upd_ne (fun z => by
              have h0 : H lf0 = some (.lst (iV (cp W))) := hF
              rw [z, hlt] at h0
              cases h0)) this
      | op ks =>
        obtain ⟨l', ha, _⟩ := hd1
        exact ⟨_, rfl, dd, _, _, _, rfl, rfl, SqT.of ha, rfl, rfl, _, rfl, if_f (by decide) M0⟩
      | sc j p q =>
        obtain ⟨g, ha, _⟩ := hd1
        exact ⟨_, rfl, dd, _, _, _, rfl, rfl, SqT.of ha, rfl, rfl, _, rfl, if_f (by decide) M0⟩
      | mv j m p q =>
        obtain ⟨g, ha, _⟩ := hd1
        exact ⟨_, rfl, dd, _, _, _, rfl, rfl, SqT.of ha, rfl, rfl, _, rfl, if_f (by decide) M0⟩
      | un j m =>
        have ha : H1 dd = some (.tup [.str "unless", .int j, .int m]) := hd1
        exact ⟨_, rfl, dd, _, _, _, rfl, rfl, SqT.of ha, rfl, rfl, _, rfl, if_f (by decide) M0⟩
    clear M0 hA1 hF1 ht1 e1
    rintro σ H1 M
    -- open
    refine ⟨AfM H t dd lw (st2 ws (Am, W) d), ?_, ?_⟩
    · obtain ⟨lt, lf, v5, v6, v7, v8, v9, rfl, e1, hlt, hA1, hF1⟩ := id M
      have hd1 := DAt.ex hd e1
      cases d with
      | op ks =>
        obtain ⟨lk, ha, hk⟩ := hd1
        obtain ⟨k2, k20, _, kin⟩ := hok
        have hA1 : CsAt H1 lt Am := hA1
        have hF1 : Li H1 lf (cp W) := hF1
        have hw1 := hw.ex e1
        refine ⟨_, rfl, dd, _, _, _, rfl, rfl, SqT.of ha, rfl, rfl, _, rfl, if_t (by decide) ?_⟩
        have bA : ∀ {z : Int}, 0 ≤ z → z < Am.length → Bn 100000 (Am.getD z.toNat 0) := fun z0 z1 => bnU (hW.bA _ (getD_mem' (by omega))) (by decide)
        have bw : ∀ {z : Int}, 0 ≤ z → z < Am.length → Bn 100000 (ws.getD z.toNat 0) := fun z0 z1 => bnU (hV.bit _ (getD_mem' (by rw [hV.len]; omega))) (by decide)
        refine ⟨Nat.zero_le _, fun x1 hx1 => ⟨Nat.zero_le _, fun x2 hx2 => ⟨two, fun tt htt => ?_⟩⟩⟩
        have f1 := Evl.Ex.new (o := .lst []) hx1
        have f2 := Evl.Ex.new (o := .lst []) hx2
        have f3 := Evl.Ex.new (o := .tup [.ref x1, .ref x2]) htt
        have hx1a := f3 _ _ (f2 _ _ (upd_same (H := H1) (a := x1) (o := .lst [])))
        have hx2a := f3 _ _ (upd_same (H := upd H1 x1 (.lst [])) (a := x2) (o := .lst []))
        have hta := upd_same (H := upd (upd H1 x1 (.lst [])) x2 (.lst [])) (a := tt) (o := .tup [.ref x1, .ref x2])
        have f13 := (f1.trans f2).trans f3
        generalize upd (upd (upd H1 x1 (.lst [])) x2 (.lst [])) tt (.tup [.ref x1, .ref x2]) = H2 at f13 hx1a hx2a hta
        refine ⟨tt, _, rfl, SqT.of hta, rfl, _, _, rfl, _, _, rfl, rfl, ?_⟩
        have ha2 := f13 _ _ ha
        have hk2 : Li H2 lk ks := f13 _ _ hk
        -- the sums
        refine ⟨_, rfl, dd, _, _, _, rfl, rfl, SqT.of ha2, rfl, lk, rfl, ⟨_, SqL.of hk2⟩, for_list (xs := iV ks) (fun i σ H' => ∃ (pw pt : Addr) (v7 : Option V), σ = [some (.ref t), some (.ref dd), some (.ref lt), some (.ref lf), some (.ref lw), some (.ref pw), some (.ref pt), v7, v8, v9] ∧ Evl.Ex H2 H' ∧ Li H' pw (cp ((pick ws (ks.take i)).sum)) ∧ Li H' pt (cp ((pick Am (ks.take i)).sum)))
          ⟨x1, x2, _, rfl, Evl.Ex.refl _, hx1a, hx2a⟩ (fun i σ H' _ z => by
            obtain ⟨_, _, _, _, z, _⟩ := z
            exact SqL.of (z _ _ hk2)) ?_ ?_⟩
        · rintro i y σ H3 hi ⟨pw, pt, v7, rfl, e3, hpw, hpt⟩
          obtain ⟨z, hz, rfl⟩ := iV_get hi
          obtain ⟨z0, z1⟩ := kin z (List.mem_of_getElem? hz)
          have z1' : z < Am.length := z1
          have e13 := f13.trans e3
          obtain ⟨xs1, a1, q1, q2, q3, _⟩ := cs_pick (hw1.ex e13) z0 (by rw [hV.len]; exact z1')
          refine ⟨_, rfl, _, rfl, _, rfl, lw, _, _, _, rfl, rfl, SqL.of q1, q2, pw, a1, _, _, 1, rfl, hpw, q3, bw z0 z1', b1, fun p4 H4 hp4 e4 h4 => ?_⟩
          obtain ⟨xs2, a2, p1, p2, p3, _⟩ := cs_pick (hA1.ex (e13.trans e4)) z0 z1'
          refine ⟨_, rfl, _, rfl, _, rfl, lt, _, _, _, rfl, rfl, SqL.of p1, p2, pt, a2, _, _, 1, rfl, e4 _ _ hpt, p3, bA z0 z1', b1, fun p5 H5 hp5 e5 h5 => ⟨two, fun t6 ht6 => ?_⟩⟩
          have f6 := Evl.Ex.new (o := .tup [.ref p4, .ref p5]) ht6
          refine ⟨t6, _, rfl, SqT.of upd_same, rfl, _, _, rfl, _, _, rfl, rfl, p4, p5, _, rfl, ((e3.trans e4).trans e5).trans f6, ?_, ?_⟩
          · rw [pick_s hz]
            exact f6 _ _ (e5 _ _ h4)
          · rw [pick_s hz]
            exact f6 _ _ h5
        rintro σ H3 ⟨pw, pt, v7', rfl, e3, hpw, hpt⟩
        rw [iV_len, List.take_length] at hpw hpt
        have bsum : ∀ {ns : List Int} {N : Nat}, (∀ x ∈ ns, Bn N x) → ns.length = Am.length → N ≤ 5000 → Bn 100000 (pick ns ks).sum := fun {ns N} h hl hN => by
          refine bnU (bn_sum20 (N := N) (fun x hx => ?_) (by unfold pick; rw [List.length_map]; exact k20)) (by omega)
          unfold pick at hx
          obtain ⟨z, hz, rfl⟩ := List.mem_map.mp hx
          exact h _ (getD_mem' (by have := kin z hz; have : z < Am.length := this.2; omega))
        have bW := bsum hV.bit hV.len (by decide)
        have bT := bsum hW.bA rfl (by decide)
        generalize hwd : (pick ws ks).sum = wd at hpw bW
        generalize htot : (pick Am ks).sum = tot at hpt bT
        have e13 := f13.trans e3
        have hA3 := hA1.ex e13
        obtain ⟨xs3, hx3, hx3l, hx3i⟩ := cs_items hA3
        -- all of it times the width
        refine ⟨_, rfl, lt, rfl, ⟨_, SqL.of hx3⟩, fun D hD => lc_list (xs := xs3) (fun i H' => Evl.Ex H3 H' ∧ CsN H' D (Am.map (· * wd)) i) ⟨Evl.Ex.new hD, CsN.start upd_same⟩ (fun i H' _ q => SqL.of (q.1 _ _ hx3)) ?_ ?_⟩
        · rintro i y H4 hi ⟨e4, hN⟩
          obtain ⟨a4, rfl, hiA, ha4⟩ := hx3i i y hi
          refine ⟨rfl, ?_⟩
          unfold tYes
          refine if_t rfl ?_
          refine ⟨_, rfl, _, rfl, a4, pw, _, wd, rfl, e4 _ _ ha4, e4 _ _ hpw, bnU (hW.bA _ (getD_mem' hiA)) (by decide), bW, fun p5 H5 hp5 e5 h5 => ?_⟩
          have pD : p5 ≠ D := fun z => by
            obtain ⟨as', q1, _⟩ := id hN
            rw [z, q1] at hp5
            cases hp5
          obtain ⟨acc, q1, q2, q3⟩ := hN.more e5 pD h5 (by rw [List.getElem?_map, getD_some hiA]; rfl) (by omega)
          exact ⟨acc, q1, q2, fun c o h => Eq.trans (upd_ne (ne_of_none' h hD)) ((e4.trans e5) _ _ h), q3⟩
        rintro H4 ⟨e4, hN⟩
        rw [hx3l, show Am.length = (Am.map (· * wd)).length by rw [List.length_map]] at hN
        have hA4 := hN.done
        rw [← opn_0 (ws := ws) (ks := ks) (tot := tot)] at hA4
        refine ⟨_, rfl, _, rfl, lf, pw, W, wd, rfl, e4 _ _ (e13 _ _ hF1), e4 _ _ hpw, bnU hW.bW (by decide), bW, fun lf2 H5 hlf2 e5 hF5 => ⟨_, _, rfl, ?_⟩⟩
        have hA5 := hA4.ex e5
        have lfD : lf2 ≠ D := fun q => by
          obtain ⟨as', q1', _⟩ := id hA4
          rw [q, q1'] at hlf2
          cases hlf2
        have e15 := (e13.trans e4).trans e5
        have hDH : H D = none := Evl.fresh_back (e1.trans e13) hD
        have e35 := e4.trans e5
        -- those that are open
        refine ⟨_, rfl, dd, _, _, _, rfl, rfl, SqT.of (e15 _ _ ha), rfl, lk, rfl, ⟨_, SqL.of (e15 _ _ hk)⟩, for_list (xs := iV ks) (fun i σ H' => ∃ (v7 : Option V), σ = [some (.ref t), some (.ref dd), some (.ref D), some (.ref lf2), some (.ref lw), some (.ref pw), some (.ref pt), v7, v8, v9] ∧ Evl.Ex H3 H' ∧ CsAt H' D (opnA Am ws ks tot wd i) ∧ Li H' lf2 (cp (W * wd)))
          ⟨_, rfl, e35, hA5, hF5⟩ (fun i σ H' _ z => by
            obtain ⟨_, _, z, _⟩ := z
            exact SqL.of (z _ _ (e13 _ _ hk))) ?_ ?_⟩
        · rintro i y σ H6 hi ⟨v7, rfl, e6, hA6, hF6⟩
          obtain ⟨z, hz, rfl⟩ := iV_get hi
          obtain ⟨z0, z1⟩ := kin z (List.mem_of_getElem? hz)
          have z1' : z < Am.length := z1
          obtain ⟨xs1, a1, q1, q2, q3, _⟩ := cs_pick (hw1.ex (e13.trans e6)) z0 (by rw [hV.len]; exact z1')
          refine ⟨_, rfl, _, rfl, _, rfl, lw, _, _, _, rfl, rfl, SqL.of q1, q2, pt, a1, tot, _, rfl, e6 _ _ hpt, q3, bT, bw z0 z1', fun p7 H7 hp7 e7 h7 => ?_⟩
          have ol : (opnA Am ws ks tot wd i).length = Am.length := by unfold opnA; rw [List.length_map, List.length_range]
          obtain ⟨xs2, a2, r1, r2, r3, r4, r5⟩ := cs_pick (hA6.ex e7) z0 (by rw [ol]; exact z1')
          refine ⟨_, rfl, _, rfl, D, xs2, z, z.toNat, rfl, rfl, r1, ?_, _, rfl, ?_, ?_, ?_⟩
          · have : z = ((z.toNat : Nat) : Int) := by omega
            rw [this]
            exact Evl.ixN_nat (by omega)
          · exact fun c o h => Eq.trans (upd_ne (ne_of_none' h hD)) ((e6.trans e7) _ _ h)
          · have pD : p7 ≠ D := fun q => by
              obtain ⟨as', q1', _⟩ := id hA6
              rw [q, q1'] at hp7
              cases hp7
            rw [← opn_s hz z0]
            exact (hA6.ex e7).set pD h7 (fun c o n h => Eq.trans (upd_ne n) h) (fun ys h => by rw [r1] at h; cases h; exact upd_same)
          · refine Eq.trans (upd_ne (fun q => ?_)) (e7 _ _ hF6)
            exact lfD q
        · rintro σ H6 ⟨v7, rfl, e6, hA6, hF6⟩
          rw [iV_len] at hA6
          refine ⟨D, lf2, _, _, _, _, _, rfl, (e1.trans e13).trans e6, hDH, ?_, ?_⟩
          · show CsAt H6 D (openA Am ws ks)
            rw [← opn_all, htot, hwd]
            exact hA6
          · show Li H6 lf2 (cp (W * (pick ws ks).sum))
            rw [hwd]
            exact hF6
      | po j x =>
        have ha : H1 dd = some (.tup [.str "pour", .int j, .int x]) := hd1
        exact ⟨_, rfl, dd, _, _, _, rfl, rfl, SqT.of ha, rfl, rfl, _, rfl, if_f (by decide) M⟩
      | sc j p q =>
        obtain ⟨g, ha, _⟩ := hd1
        exact ⟨_, rfl, dd, _, _, _, rfl, rfl, SqT.of ha, rfl, rfl, _, rfl, if_f (by decide) M⟩
      | mv j m p q =>
        obtain ⟨g, ha, _⟩ := hd1
        exact ⟨_, rfl, dd, _, _, _, rfl, rfl, SqT.of ha, rfl, rfl, _, rfl, if_f (by decide) M⟩
      | un j m =>
        have ha : H1 dd = some (.tup [.str "unless", .int j, .int m]) := hd1
        exact ⟨_, rfl, dd, _, _, _, rfl, rfl, SqT.of ha, rfl, rfl, _, rfl, if_f (by decide) M⟩
    clear M
    rintro σ H1 M
    refine ⟨AfM H t dd lw (stepA ws (Am, W) d), ?_, ?_⟩
    · obtain ⟨lt, lf, v5, v6, v7, v8, v9, rfl, e1, hlt, hA1, hF1⟩ := id M
      have hd1 := DAt.ex hd e1
      cases d with
      | op ks =>
        obtain ⟨l', ha, _⟩ := hd1
        refine ⟨_, rfl, dd, _, _, _, rfl, rfl, SqT.of ha, rfl, two, fun tt htt => ?_⟩
        have f1 := Evl.Ex.new (o := .tup [.str "scoop", .str "move"]) htt
        exact ⟨tt, _, rfl, .inr (SqT.of upd_same), rfl, rfl, _, rfl, if_f (by decide) ⟨lt, lf, _, _, _, _, _, rfl, e1.trans f1, hlt, hA1.ex f1, f1 _ _ hF1⟩⟩
      | po j x =>
        have ha : H1 dd = some (.tup [.str "pour", .int j, .int x]) := hd1
        refine ⟨_, rfl, dd, _, _, _, rfl, rfl, SqT.of ha, rfl, two, fun tt htt => ?_⟩
        have f1 := Evl.Ex.new (o := .tup [.str "scoop", .str "move"]) htt
        exact ⟨tt, _, rfl, .inr (SqT.of upd_same), rfl, rfl, _, rfl, if_f (by decide) ⟨lt, lf, _, _, _, _, _, rfl, e1.trans f1, hlt, hA1.ex f1, f1 _ _ hF1⟩⟩
      | un j m =>
        have ha : H1 dd = some (.tup [.str "unless", .int j, .int m]) := hd1
        refine ⟨_, rfl, dd, _, _, _, rfl, rfl, SqT.of ha, rfl, two, fun tt htt => ?_⟩
        have f1 := Evl.Ex.new (o := .tup [.str "scoop", .str "move"]) htt
        exact ⟨tt, _, rfl, .inr (SqT.of upd_same), rfl, rfl, _, rfl, if_f (by decide) ⟨lt, lf, _, _, _, _, _, rfl, e1.trans f1, hlt, hA1.ex f1, f1 _ _ hF1⟩⟩
      | sc j p q =>
        obtain ⟨g, ha, hg⟩ := hd1
        obtain ⟨⟨j0, j1⟩, hPt⟩ := hok
        have q0 : 0 < q := hPt.2.2.1
        have bp : Bn 100000 p := Nat.lt_of_lt_of_le hPt.2.2.2.2.1 (Nat.pow_le_pow_right (by decide) (by decide))
        have bq : Bn 100000 q := Nat.lt_of_lt_of_le hPt.2.2.2.2.2 (Nat.pow_le_pow_right (by decide) (by decide))
        refine ⟨_, rfl, dd, _, _, _, rfl, rfl, SqT.of ha, rfl, two, fun tt htt => ?_⟩
        have f1 := Evl.Ex.new (o := .tup [.str "scoop", .str "move"]) htt
        refine ⟨tt, _, rfl, .inr (SqT.of upd_same), rfl, rfl, _, rfl, if_t (by decide) ?_⟩
        have e2 := e1.trans f1
        have ha2 := f1 _ _ ha
        have hg2 := f1 _ _ hg
        have hA2 : CsAt _ lt Am := hA1.ex f1
        have hF2 : Li _ lf (cp W) := f1 _ _ hF1
        generalize upd H1 tt (.tup [.str "scoop", .str "move"]) = H2 at e2 ha2 hg2 hA2 hF2
        clear f1 htt tt
        have bA : ∀ {z : Int}, 0 ≤ z → z < Am.length → Bn 4000 (Am.getD z.toNat 0) := fun z0 z1 => hW.bA _ (getD_mem' (by omega))
        refine ⟨Nat.zero_le _, fun x1 hx1 => ?_⟩
        have g1 := Evl.Ex.new (o := .lst []) hx1
        have hx1a : Li (upd H2 x1 (.lst [])) x1 (cp 0) := upd_same
        generalize upd H2 x1 (.lst []) = H3 at g1 hx1a
        obtain ⟨xs1, a1, q1, q2, q3, _⟩ := cs_pick (hA2.ex g1) j0 j1
        refine ⟨_, rfl, _, rfl, dd, _, _, _, rfl, rfl, SqT.of (g1 _ _ ha2), rfl, lt, _, _, _, rfl, rfl, SqL.of q1, q2, _, rfl, _, rfl, dd, _, _, _, rfl, rfl, SqT.of (g1 _ _ ha2), rfl, g, _, _, _, rfl, rfl, SqT.of (g1 _ _ hg2), rfl, x1, a1, 0, _, p, rfl, hx1a, q3, bnU (bA j0 j1) (by decide), bp, fun o H4 ho e4 h4 => ?_⟩
        have h4 : Li H4 o (cp (0 + p * Am.getD j.toNat 0)) := h4
        have e24 := g1.trans e4
        have hA4 := hA2.ex e24
        obtain ⟨xs3, hx3, hx3l, hx3i⟩ := cs_items hA4
        -- all of it times the denominator
        have lstq : ∀ {H' : Hp} {x : Addr}, H' x = none → Li (upd H' x (.lst [.int q])) x (cp q) := fun {H' x} _ => by
          rw [cp_n (Int.ne_of_gt q0)]
          exact upd_same
        refine ⟨_, rfl, lt, rfl, ⟨_, SqL.of hx3⟩, fun D hD => lc_list (xs := xs3) (fun i H' => Evl.Ex H4 H' ∧ CsN H' D (Am.map (· * q)) i) ⟨Evl.Ex.new hD, CsN.start upd_same⟩ (fun i H' _ q => SqL.of (q.1 _ _ hx3)) ?_ ?_⟩
        · rintro i y H5 hi ⟨e5, hN⟩
          obtain ⟨a4, rfl, hiA, ha4⟩ := hx3i i y hi
          refine ⟨rfl, ?_⟩
          unfold tYes
          refine if_t rfl ?_
          refine ⟨_, rfl, _, rfl, _, rfl, dd, _, _, _, rfl, rfl, SqT.of (e5 _ _ (e24 _ _ ha2)), rfl, g, _, _, _, rfl, rfl, SqT.of (e5 _ _ (e24 _ _ hg2)), rfl, one, fun x6 hx6 => ?_⟩
          have g6 := Evl.Ex.new (o := .lst [.int q]) hx6
          have hl6 := lstq hx6
          have x6D : x6 ≠ D := fun z => by
            obtain ⟨as', q1, _⟩ := id hN
            rw [z, q1] at hx6
            cases hx6
          refine ⟨a4, x6, _, q, rfl, g6 _ _ (e5 _ _ ha4), hl6, bnU (hW.bA _ (getD_mem' hiA)) (by decide), bq, fun p5 H6 hp5 e6 h5 => ?_⟩
          have pD : p5 ≠ D := fun z => by
            obtain ⟨as', q1, _⟩ := id hN
            have := g6 _ _ q1
            rw [z, this] at hp5
            cases hp5
          obtain ⟨acc, q1, q2, q3⟩ := hN.more (g6.trans e6) pD h5 (by rw [List.getElem?_map, getD_some hiA]; rfl) (by omega)
          exact ⟨acc, q1, q2, fun c o h => Eq.trans (upd_ne (ne_of_none' h hD)) (((e5.trans g6).trans e6) _ _ h), q3⟩
        rintro H5 ⟨e5, hN⟩
        rw [hx3l, show Am.length = (Am.map (· * q)).length by rw [List.length_map]] at hN
        have hA5 := hN.done
        have e25 := e24.trans e5
        refine ⟨_, rfl, _, rfl, _, rfl, dd, _, _, _, rfl, rfl, SqT.of (e25 _ _ ha2), rfl, g, _, _, _, rfl, rfl, SqT.of (e25 _ _ hg2), rfl, one, fun x6 hx6 => ?_⟩
        have g6 := Evl.Ex.new (o := .lst [.int q]) hx6
        have hl6 := lstq hx6
        generalize upd H5 x6 (.lst [.int q]) = H6 at g6 hl6
        have e26 := e25.trans g6
        refine ⟨lf, x6, W, q, rfl, e26 _ _ hF2, hl6, bnU hW.bW (by decide), bq, fun lf2 H7 hlf2 e7 hF7 => ⟨_, _, rfl, ?_⟩⟩
        have hF7 : Li H7 lf2 (cp (W * q)) := hF7
        have hA7 : CsAt H7 D (Am.map (· * q)) := (hA5.ex g6).ex e7
        have lfD : lf2 ≠ D := fun z => by
          obtain ⟨as', q1', _⟩ := hA5.ex g6
          rw [z, q1'] at hlf2
          cases hlf2
        have e27 := e26.trans e7
        have hDH : H D = none := Evl.fresh_back (e2.trans e24) hD
        have e47 := (e5.trans g6).trans e7
        have ml : (Am.map (· * q)).length = Am.length := List.length_map ..
        have mD : ∀ {z : Int}, 0 ≤ z → z < Am.length → (Am.map (· * q)).getD z.toNat 0 = Am.getD z.toNat 0 * q := fun {z} z0 z1 => by
          simp [List.getD_eq_getElem?_getD, List.getElem?_eq_getElem (show z.toNat < Am.length by omega)]
        -- the part is taken
        obtain ⟨xs6, a6, r1, r2, r3, r4, r5⟩ := cs_pick hA7 j0 (by rw [ml]; exact j1)
        rw [mD j0 j1] at r3
        have bo : Bn 100000 (0 + p * Am.getD j.toNat 0) := by
          rw [Int.zero_add]
          exact bnU (Bn.mul (show Bn 50 p from hPt.2.2.2.2.1) (bA j0 j1)) (by decide)
        refine ⟨_, rfl, _, rfl, dd, _, _, _, rfl, rfl, SqT.of (e27 _ _ ha2), rfl, D, _, _, _, rfl, rfl, SqL.of r1, r2, _, rfl, _, _, rfl, rfl, a6, o, _, _, 0 - 1, rfl, r3, e47 _ _ h4, bo, bm, fun p8 H8 hp8 e8 h8 => ?_⟩
        have e28 := e27.trans e8
        have r1' := e8 _ _ r1
        refine ⟨_, rfl, _, rfl, dd, _, _, _, rfl, rfl, SqT.of (e28 _ _ ha2), rfl, D, xs6, j, j.toNat, rfl, rfl, r1', ?_, ?_⟩
        · have : j = ((j.toNat : Nat) : Int) := by omega
          rw [this]
          exact Evl.ixN_nat (by omega)
        have p8D : p8 ≠ D := fun z => by rw [z, r1] at hp8; cases hp8
        have hA9 : CsAt (upd H8 D (.lst (xs6.set j.toNat (.ref p8)))) D ((Am.map (· * q)).set j.toNat (Am.getD j.toNat 0 * q + (0 - 1) * (0 + p * Am.getD j.toNat 0))) := (hA7.ex e8).set p8D h8 (fun c o n h => Eq.trans (upd_ne n) h) (fun ys h => by rw [r1'] at h; cases h; exact upd_same)
        have e49 : Evl.Ex H4 (upd H8 D (.lst (xs6.set j.toNat (.ref p8)))) := fun c o h => Eq.trans (upd_ne (ne_of_none' h hD)) ((e47.trans e8) _ _ h)
        have hF9 : Li (upd H8 D (.lst (xs6.set j.toNat (.ref p8)))) lf2 (cp (W * q)) := Eq.trans (upd_ne lfD) (e8 _ _ hF7)
        have vv : Am.getD j.toNat 0 * q + (0 - 1) * (0 + p * Am.getD j.toNat 0) = Am.getD j.toNat 0 * (q - p) := by
          rw [Int.mul_sub, Int.zero_add, Int.mul_comm p]
          omega
        rw [vv] at hA9
        generalize upd H8 D (.lst (xs6.set j.toNat (.ref p8))) = H9 at hA9 e49 hF9
        have e29 := e24.trans e49
        refine ⟨_, rfl, dd, _, _, _, rfl, rfl, SqT.of (e29 _ _ ha2), rfl, rfl, _, rfl, if_f (by decide) ?_⟩
        exact ⟨D, lf2, _, _, _, _, _, rfl, e2.trans e29, hDH, hA9, hF9⟩
      | mv j m p q =>
        obtain ⟨g, ha, hg⟩ := hd1
        obtain ⟨⟨j0, j1⟩, ⟨m0, m1⟩, jm, hPt⟩ := hok
        have q0 : 0 < q := hPt.2.2.1
        have bp : Bn 100000 p := Nat.lt_of_lt_of_le hPt.2.2.2.2.1 (Nat.pow_le_pow_right (by decide) (by decide))
        have bq : Bn 100000 q := Nat.lt_of_lt_of_le hPt.2.2.2.2.2 (Nat.pow_le_pow_right (by decide) (by decide))
        refine ⟨_, rfl, dd, _, _, _, rfl, rfl, SqT.of ha, rfl, two, fun tt htt => ?_⟩
        have f1 := Evl.Ex.new (o := .tup [.str "scoop", .str "move"]) htt
        refine ⟨tt, _, rfl, .inr (SqT.of upd_same), rfl, rfl, _, rfl, if_t (by decide) ?_⟩
        have e2 := e1.trans f1
        have ha2 := f1 _ _ ha
        have hg2 := f1 _ _ hg
        have hA2 : CsAt _ lt Am := hA1.ex f1
        have hF2 : Li _ lf (cp W) := f1 _ _ hF1
        generalize upd H1 tt (.tup [.str "scoop", .str "move"]) = H2 at e2 ha2 hg2 hA2 hF2
        clear f1 htt tt
        have bA : ∀ {z : Int}, 0 ≤ z → z < Am.length → Bn 4000 (Am.getD z.toNat 0) := fun z0 z1 => hW.bA _ (getD_mem' (by omega))
        refine ⟨Nat.zero_le _, fun x1 hx1 => ?_⟩
        have g1 := Evl.Ex.new (o := .lst []) hx1
        have hx1a : Li (upd H2 x1 (.lst [])) x1 (cp 0) := upd_same
        generalize upd H2 x1 (.lst []) = H3 at g1 hx1a
        obtain ⟨xs1, a1, q1, q2, q3, _⟩ := cs_pick (hA2.ex g1) j0 j1
        refine ⟨_, rfl, _, rfl, dd, _, _, _, rfl, rfl, SqT.of (g1 _ _ ha2), rfl, lt, _, _, _, rfl, rfl, SqL.of q1, q2, _, rfl, _, rfl, dd, _, _, _, rfl, rfl, SqT.of (g1 _ _ ha2), rfl, g, _, _, _, rfl, rfl, SqT.of (g1 _ _ hg2), rfl, x1, a1, 0, _, p, rfl, hx1a, q3, bnU (bA j0 j1) (by decide), bp, fun o H4 ho e4 h4 => ?_⟩
        have h4 : Li H4 o (cp (0 + p * Am.getD j.toNat 0)) := h4
        have e24 := g1.trans e4
        have hA4 := hA2.ex e24
        obtain ⟨xs3, hx3, hx3l, hx3i⟩ := cs_items hA4
        -- all of it times the denominator
        have lstq : ∀ {H' : Hp} {x : Addr}, H' x = none → Li (upd H' x (.lst [.int q])) x (cp q) := fun {H' x} _ => by
          rw [cp_n (Int.ne_of_gt q0)]
          exact upd_same
        refine ⟨_, rfl, lt, rfl, ⟨_, SqL.of hx3⟩, fun D hD => lc_list (xs := xs3) (fun i H' => Evl.Ex H4 H' ∧ CsN H' D (Am.map (· * q)) i) ⟨Evl.Ex.new hD, CsN.start upd_same⟩ (fun i H' _ q => SqL.of (q.1 _ _ hx3)) ?_ ?_⟩
        · rintro i y H5 hi ⟨e5, hN⟩
          obtain ⟨a4, rfl, hiA, ha4⟩ := hx3i i y hi
          refine ⟨rfl, ?_⟩
          unfold tYes
          refine if_t rfl ?_
          refine ⟨_, rfl, _, rfl, _, rfl, dd, _, _, _, rfl, rfl, SqT.of (e5 _ _ (e24 _ _ ha2)), rfl, g, _, _, _, rfl, rfl, SqT.of (e5 _ _ (e24 _ _ hg2)), rfl, one, fun x6 hx6 => ?_⟩
          have g6 := Evl.Ex.new (o := .lst [.int q]) hx6
          have hl6 := lstq hx6
          have x6D : x6 ≠ D := fun z => by
            obtain ⟨as', q1, _⟩ := id hN
            rw [z, q1] at hx6
            cases hx6
          refine ⟨a4, x6, _, q, rfl, g6 _ _ (e5 _ _ ha4), hl6, bnU (hW.bA _ (getD_mem' hiA)) (by decide), bq, fun p5 H6 hp5 e6 h5 => ?_⟩
          have pD : p5 ≠ D := fun z => by
            obtain ⟨as', q1, _⟩ := id hN
            have := g6 _ _ q1
            rw [z, this] at hp5
            cases hp5
          obtain ⟨acc, q1, q2, q3⟩ := hN.more (g6.trans e6) pD h5 (by rw [List.getElem?_map, getD_some hiA]; rfl) (by omega)
          exact ⟨acc, q1, q2, fun c o h => Eq.trans (upd_ne (ne_of_none' h hD)) (((e5.trans g6).trans e6) _ _ h), q3⟩
        rintro H5 ⟨e5, hN⟩
        rw [hx3l, show Am.length = (Am.map (· * q)).length by rw [List.length_map]] at hN
        have hA5 := hN.done
        have e25 := e24.trans e5
        refine ⟨_, rfl, _, rfl, _, rfl, dd, _, _, _, rfl, rfl, SqT.of (e25 _ _ ha2), rfl, g, _, _, _, rfl, rfl, SqT.of (e25 _ _ hg2), rfl, one, fun x6 hx6 => ?_⟩
        have g6 := Evl.Ex.new (o := .lst [.int q]) hx6
        have hl6 := lstq hx6
        generalize upd H5 x6 (.lst [.int q]) = H6 at g6 hl6
        have e26 := e25.trans g6
        refine ⟨lf, x6, W, q, rfl, e26 _ _ hF2, hl6, bnU hW.bW (by decide), bq, fun lf2 H7 hlf2 e7 hF7 => ⟨_, _, rfl, ?_⟩⟩
        have hF7 : Li H7 lf2 (cp (W * q)) := hF7
        have hA7 : CsAt H7 D (Am.map (· * q)) := (hA5.ex g6).ex e7
        have lfD : lf2 ≠ D := fun z => by
          obtain ⟨as', q1', _⟩ := hA5.ex g6
          rw [z, q1'] at hlf2
          cases hlf2
        have e27 := e26.trans e7
        have hDH : H D = none := Evl.fresh_back (e2.trans e24) hD
        have e47 := (e5.trans g6).trans e7
        have ml : (Am.map (· * q)).length = Am.length := List.length_map ..
        have mD : ∀ {z : Int}, 0 ≤ z → z < Am.length → (Am.map (· * q)).getD z.toNat 0 = Am.getD z.toNat 0 * q := fun {z} z0 z1 => by
          simp [List.getD_eq_getElem?_getD, List.getElem?_eq_getElem (show z.toNat < Am.length by omega)]
        -- the part is taken
        obtain ⟨xs6, a6, r1, r2, r3, r4, r5⟩ := cs_pick hA7 j0 (by rw [ml]; exact j1)
        rw [mD j0 j1] at r3
        have bo : Bn 100000 (0 + p * Am.getD j.toNat 0) := by
          rw [Int.zero_add]
          exact bnU (Bn.mul (show Bn 50 p from hPt.2.2.2.2.1) (bA j0 j1)) (by decide)
        refine ⟨_, rfl, _, rfl, dd, _, _, _, rfl, rfl, SqT.of (e27 _ _ ha2), rfl, D, _, _, _, rfl, rfl, SqL.of r1, r2, _, rfl, _, _, rfl, rfl, a6, o, _, _, 0 - 1, rfl, r3, e47 _ _ h4, bo, bm, fun p8 H8 hp8 e8 h8 => ?_⟩
        have e28 := e27.trans e8
        have r1' := e8 _ _ r1
        refine ⟨_, rfl, _, rfl, dd, _, _, _, rfl, rfl, SqT.of (e28 _ _ ha2), rfl, D, xs6, j, j.toNat, rfl, rfl, r1', ?_, ?_⟩
        · have : j = ((j.toNat : Nat) : Int) := by omega
          rw [this]
          exact Evl.ixN_nat (by omega)
        have p8D : p8 ≠ D := fun z => by rw [z, r1] at hp8; cases hp8
        have hA9 : CsAt (upd H8 D (.lst (xs6.set j.toNat (.ref p8)))) D ((Am.map (· * q)).set j.toNat (Am.getD j.toNat 0 * q + (0 - 1) * (0 + p * Am.getD j.toNat 0))) := (hA7.ex e8).set p8D h8 (fun c o n h => Eq.trans (upd_ne n) h) (fun ys h => by rw [r1'] at h; cases h; exact upd_same)
        have e49 : Evl.Ex H4 (upd H8 D (.lst (xs6.set j.toNat (.ref p8)))) := fun c o h => Eq.trans (upd_ne (ne_of_none' h hD)) ((e47.trans e8) _ _ h)
        have hF9 : Li (upd H8 D (.lst (xs6.set j.toNat (.ref p8)))) lf2 (cp (W * q)) := Eq.trans (upd_ne lfD) (e8 _ _ hF7)
        have vv : Am.getD j.toNat 0 * q + (0 - 1) * (0 + p * Am.getD j.toNat 0) = Am.getD j.toNat 0 * (q - p) := by
          rw [Int.mul_sub, Int.zero_add, Int.mul_comm p]
          omega
        rw [vv] at hA9
        generalize upd H8 D (.lst (xs6.set j.toNat (.ref p8))) = H9 at hA9 e49 hF9
        have e29 := e24.trans e49
        refine ⟨_, rfl, dd, _, _, _, rfl, rfl, SqT.of (e29 _ _ ha2), rfl, rfl, _, rfl, if_t (by decide) ?_⟩
        have sl : ∀ v : Int, ((Am.map (· * q)).set j.toNat v).length = Am.length := fun v => by rw [List.length_set, ml]
        obtain ⟨xs9, a9, s1, s2, s3, s4, s5⟩ := cs_pick hA9 m0 (by rw [sl]; exact m1)
        have bs : Bn 100000 (0 + p * Am.getD j.toNat 0) := bo
        refine ⟨_, rfl, _, rfl, dd, _, _, _, rfl, rfl, SqT.of (e29 _ _ ha2), rfl, D, _, _, _, rfl, rfl, SqL.of s1, s2, _, rfl, a9, o, _, _, 1, rfl, s3, e49 _ _ h4, bo, b1, fun pA HA hpA eA hA => ?_⟩
        have e2A := e29.trans eA
        have s1' := eA _ _ s1
        refine ⟨_, rfl, _, rfl, dd, _, _, _, rfl, rfl, SqT.of (e2A _ _ ha2), rfl, D, xs9, m, m.toNat, rfl, rfl, s1', ?_, ?_⟩
        · have : m = ((m.toNat : Nat) : Int) := by omega
          rw [this]
          refine Evl.ixN_nat ?_
          rw [s4, sl]
          omega
        have pAD : pA ≠ D := fun z => by rw [z, s1] at hpA; cases hpA
        refine ⟨D, lf2, _, _, _, _, _, rfl, fun c o h => Eq.trans (upd_ne (ne_of_none' ((e2.trans e24) _ _ h) hD)) (((e2.trans e29).trans eA) _ _ h), hDH, ?_, Eq.trans (upd_ne lfD) (eA _ _ hF9)⟩
        have := (hA9.ex eA).set (H' := upd HA D (.lst (xs9.set m.toNat (.ref pA)))) (j := m.toNat) pAD hA (fun c o n h => Eq.trans (upd_ne n) h) (fun ys h => by rw [s1'] at h; cases h; exact upd_same)
        rw [Int.one_mul, Int.zero_add, Int.mul_comm p] at this
        exact this
    clear M
    rintro σ H1 ⟨lt, lf, v5, v6, v7, v8, v9, rfl, e1, hlt, hA1, hF1⟩
    refine ⟨_, rfl, _, rfl, _, rfl, three, fun t' ht' => ?_⟩
    have f1 := Evl.Ex.new (o := .tup [.ref lt, .ref lf, .ref lw]) ht'
    exact k t' _ (e1.trans f1) ⟨lt, lf, upd_same, hA1.ex f1, f1 _ _ hF1⟩
end
end V2


namespace V2
open PySem L2
open PySem.Spec PyProof.Rows
/-! ## another law's runs -/
/-- a list of new objects, being built -/
def ObN {β : Type} (g : β → HO) (H : Hp) (D : Addr) (fs : List β) (i : Nat) : Prop := ∃ as : List Addr, H D = some (.lst (as.map V.ref)) ∧ as.length = i ∧ ∀ (j : Nat) (a : Addr) (f : β), as[j]? = some a → fs[j]? = some f → a ≠ D ∧ H a = some (g f)
theorem ObN.start {β : Type} {g : β → HO} {H : Hp} {D : Addr} {fs : List β} (h : H D = some (.lst [])) : ObN g H D fs 0 := ⟨[], h, rfl, fun j a n h => by cases h⟩
theorem ObN.more {β : Type} {g : β → HO} {H2 H3 : Hp} {D r : Addr} {fs : List β} {i : Nat} {n : β} (h : ObN g H2 D fs i) (e : Evl.Ex H2 H3) (hr : r ≠ D) (h3 : H3 r = some (g n)) (hn : fs[i]? = some n) (hi : i ≤ 100) :
    ∃ acc, H3 D = some (.lst acc) ∧ acc.length < sizeLine ∧ ObN g (upd H3 D (.lst (acc ++ [.ref r]))) D fs (i + 1) := by
  obtain ⟨as, h1, h2, h4⟩ := h
  refine ⟨_, e _ _ h1, ?_, as ++ [r], ?_, ?_, fun j a m ha hm => ?_⟩
  · rw [List.length_map, h2]
    exact Nat.lt_of_le_of_lt hi (by decide)
  · rw [upd_same, List.map_append]
    rfl
  · rw [List.length_append, h2]
    rfl
  · rcases get_app ha with ⟨h5, _⟩ | ⟨h5, rfl⟩
    · obtain ⟨n1, n2⟩ := h4 j a m h5 hm
      exact ⟨n1, Eq.trans (upd_ne n1) (e _ _ n2)⟩
    · rw [h5, h2, hn] at hm
      cases hm
      exact ⟨hr, Eq.trans (upd_ne hr) h3⟩
theorem ObN.ne {β : Type} {g : β → HO} {H : Hp} {D r : Addr} {fs : List β} {i : Nat} (h : ObN g H D fs i) (hr : H r = none) : r ≠ D := fun z => by
  obtain ⟨as, q, _⟩ := h
  rw [z, q] at hr
  cases hr
theorem csn_ne {H : Hp} {D r : Addr} {ns : List Int} {i : Nat} (h : CsN H D ns i) (hr : H r = none) : r ≠ D := fun z => by
  obtain ⟨as, q, _⟩ := h
  rw [z, q] at hr
  cases hr
def stW (t : Tk) : List Int := match t.1 with
  | none => [0, 1]
  | some z => [z]
def StWs (H : Hp) (l : Addr) (ts : List Tk) : Prop := ∃ as : List Addr, H l = some (.lst (as.map V.ref)) ∧ as.length = ts.length ∧ ∀ (j : Nat) (a : Addr) (t : Tk), as[j]? = some a → ts[j]? = some t → H a = some (.lst (iV (stW t)))
theorem StWs.ex {H H' : Hp} {l : Addr} {ts : List Tk} (h : StWs H l ts) (e : Evl.Ex H H') : StWs H' l ts := by
  obtain ⟨as, h1, h2, h3⟩ := h
  exact ⟨as, e _ _ h1, h2, fun i a t x y => e _ _ (h3 i a t x y)⟩
def spStart : Sp := fun vs H Q _ => ∃ (l : Addr) (ts : List Tk), vs = [.ref l] ∧ TksAt H l ts ∧ ts.length ≤ 20 ∧ ∀ t lt lf lw H', Evl.Ex H H' → H' t = some (.tup [.ref lt, .ref lf, .ref lw]) → CsAt H' lt (ts.map (·.2)) → Li H' lf (cp 1) → StWs H' lw ts → Q (.ref t) H'
def spRunL : Sp := fun vs H Q _ => ∃ (sh f : Addr) (ts : List Tk) (ds : List Deed) (u b : Int), vs = [.ref sh, .ref f] ∧ ShAt H sh ts ds ∧ ShW ts ds ∧ Fr H f u b ∧ 0 < u ∧ Qn u b ∧
  ∀ q D e n H', Evl.Ex H H' → H D = none → H' q = some (.tup [e, .ref D]) → PrAt H' D (lvsA ts ds u b n) → EndsAt ts ds u b n e → Q (.ref q) H'
/-- the run so far: behind n steps, of the first i -/
def EN (ts : List Tk) (ds : List Deed) (u b : Int) (i n : Nat) (e : V) : Prop := (∀ (j : Nat) (d : Deed), j < n → ds[j]? = some d → endB (ts.map (wid u b)) (wAt ts ds u b j).1 d = false) ∧
  ((n = i ∧ e = .non) ∨ (n < i ∧ ∃ d, ds[n]? = some d ∧ endB (ts.map (wid u b)) (wAt ts ds u b n).1 d = true ∧ e = .int (n : Int)))
def EM (ts : List Tk) (ds : List Deed) (u b : Int) (i n : Nat) (e : V) (d : Deed) : Prop := (∀ (j : Nat) (d : Deed), j < n → ds[j]? = some d → endB (ts.map (wid u b)) (wAt ts ds u b j).1 d = false) ∧
  ((n = i ∧ e = .non ∧ endB (ts.map (wid u b)) (wAt ts ds u b i).1 d = false) ∨ (n < i + 1 ∧ ∃ d, ds[n]? = some d ∧ endB (ts.map (wid u b)) (wAt ts ds u b n).1 d = true ∧ e = .int (n : Int)))
theorem EN.end_ {ts : List Tk} {ds : List Deed} {u b : Int} {n : Nat} {e : V} (h : EN ts ds u b ds.length n e) : EndsAt ts ds u b n e := by
  obtain ⟨h1, h | ⟨h2, d, h3, h4, h5⟩⟩ := h
  · exact ⟨Nat.le_of_eq h.1, h1, .inl h⟩
  · exact ⟨Nat.le_of_lt h2, h1, .inr ⟨d, h3, h4, h5⟩⟩
theorem EndsAt.uniq {ts : List Tk} {ds : List Deed} {u b : Int} {n m : Nat} {e f : V} (h : EndsAt ts ds u b n e) (k : EndsAt ts ds u b m f) : n = m ∧ e = f := by
  have one : ∀ {n m : Nat} {e f : V}, EndsAt ts ds u b n e → EndsAt ts ds u b m f → ¬ n < m := fun {n m e f} h k hn => by
    have hm := k.le
    rcases h.at_ with ⟨h1, _⟩ | ⟨d, h1, h2, _⟩
    · omega
    · rw [k.no n d hn h1] at h2
      cases h2
  have e1 : n = m := by
    have := one h k
    have := one k h
    omega
  subst e1
  refine ⟨rfl, ?_⟩
  rcases h.at_ with ⟨h1, h2⟩ | ⟨d, h1, h2, h3⟩
  · rcases k.at_ with ⟨k1, k2⟩ | ⟨d', k1, k2, k3⟩
    · rw [h2, k2]
    · have := (List.getElem?_eq_some_iff.mp k1).1
      omega
  · rcases k.at_ with ⟨k1, k2⟩ | ⟨d', k1, k2, k3⟩
    · have := (List.getElem?_eq_some_iff.mp h1).1
      omega
    · rw [h3, k3]
theorem cp_sum (n : Int) : (cp n).sum = n := by
  by_cases h : n = 0
  · rw [h]; rfl
  · rw [cp_n h]; simp
section
variable {base : Heap} {mg : Str → Option Value} {K : PySem.W.Frag} {w : World} {P : Program}
theorem ok_start {f : Addr} {fd : FuncData} (F : Fun K "_law_wl_start" "_law_wl_start" s_l_start f fd) (cT : Cal P w K mg base 1 "_law_wl_trim" p_l_trim spTrimL) : FnOk P w K mg base CX0 2 f fd p_l_start spStart := by
  refine F.ok sc_l_start (fun vs H Q E h => ?_) (fun cdv A outer s H vs Q E hr h => ?_)
  · obtain ⟨l, ts, rfl, _⟩ := h
    rfl
  · obtain ⟨l, ts, rfl, hT, h20, k⟩ := h
    have nd := sc_l_start.nd
    have one : 1 ≤ sizeLine := by show 1 ≤ sizeLine; decide
    have two : 2 ≤ sizeLine := by show 2 ≤ sizeLine; decide
    have three : 3 ≤ sizeLine := by show 3 ≤ sizeLine; decide
    refine ⟨_, pss_cons (ps_setLc (i := 1) (own := [("vat", 2)]) (g := (gName 2)) (tt := tYes) (te := (tIf (tB (tIsN (tOp (rIxT K) (tVar 2) (tC (.int 0))))) (tLst (tCons (tC (.int 0)) (tCons (tC (.int 1)) tNil))) (tLst (tCons (tOp (rIxT K) (tVar 2) (tC (.int 0))) tNil)))) rfl nd rfl rfl (sw_true rfl rfl rfl (by decide +kernel)) (pi_list (pv 0)) (blkOk_by (N := n_l_start) (sc := defScope s_l_start) (by decide +kernel)) (fun _ _ _ _ _ => (pg_name (i := 2) nd rfl (Or.inl rfl))) (fun _ _ _ _ _ => pts_nil) (fun _ _ _ _ _ => (pe_ifExp (pt_cmp (pc_isN (pe_ix ix_tup (pv 2) pe_int (fun _ _ => rfl)))) (pe_lst (pa_cons pe_int (pa_cons pe_int pa_nil))) (pe_lst (pa_cons (pe_ix ix_tup (pv 2) pe_int (fun _ _ => rfl)) pa_nil)))))
      (pss_one (ps_ret (pe_tup (pa_cons (pe_lc (own := [("vat", 2)]) (g := (gName 2)) (tt := tYes) (te := (tCall spTrimL [] E0 (tCons (tLst (tCons (tOp (rIxT K) (tVar 2) (tC (.int 1))) tNil)) tNil))) rfl nd (pi_list (pv 0)) (blkOk_by (N := n_l_start) (sc := defScope s_l_start) (by decide +kernel)) (fun _ _ _ _ _ => (pg_name (i := 2) nd rfl (Or.inl rfl))) (fun _ _ _ _ _ => pts_nil) (fun _ _ _ _ _ => (pe_c cT hr (pa_cons (pe_lst (pa_cons (pe_ix ix_tup (pv 2) pe_int (fun _ _ => rfl)) pa_nil)) pa_nil)))) (pa_cons (pe_lst (pa_cons pe_int pa_nil)) (pa_cons (pv 1) pa_nil)))))), ?_⟩
    obtain ⟨xs, hl, hlen, hx⟩ := tks_get hT
    refine ⟨_, rfl, l, rfl, ⟨_, SqL.of hl⟩, fun D hD => lc_list (xs := xs) (fun i H' => Evl.Ex H H' ∧ ObN (fun t : Tk => .lst (iV (stW t))) H' D ts i) ⟨Evl.Ex.new hD, ObN.start upd_same⟩ (fun i H' _ q => SqL.of (q.1 _ _ hl)) ?_ ?_⟩
    · rintro i x H2 hi ⟨e2, hN⟩
      obtain ⟨a, t, rfl, ht, ha⟩ := hx i x hi
      have hi20 : i ≤ 100 := by
        have := (List.getElem?_eq_some_iff.mp ht).1
        omega
      refine ⟨rfl, ?_⟩
      unfold tYes
      refine if_t rfl ?_
      have fin : ∀ r, H2 r = none → ∃ acc, upd H2 r (.lst (iV (stW t))) D = some (.lst acc) ∧ acc.length < sizeLine ∧ Evl.Ex H (upd (upd H2 r (.lst (iV (stW t)))) D (.lst (acc ++ [.ref r]))) ∧ ObN (fun t : Tk => .lst (iV (stW t))) (upd (upd H2 r (.lst (iV (stW t)))) D (.lst (acc ++ [.ref r]))) D ts (i + 1) := fun r hr => by
        have f1 := Evl.Ex.new (o := .lst (iV (stW t))) hr
        obtain ⟨acc, q1, q2, q3⟩ := hN.more f1 (hN.ne hr) upd_same ht hi20
        exact ⟨acc, q1, q2, fun c o h => Eq.trans (upd_ne (ne_of_none' h hD)) ((e2.trans f1) _ _ h), q3⟩
      refine ⟨_, rfl, a, _, _, _, rfl, rfl, SqT.of (e2 _ _ ha), rfl, ?_⟩
      obtain ⟨tw, tm⟩ := t
      cases tw with
      | none => exact ⟨_, rfl, if_t (decide_eq_true rfl) ⟨two, fun r hr => fin r hr⟩⟩
      | some z => exact ⟨_, rfl, if_f (decide_eq_false fun q => by cases q) ⟨_, rfl, a, _, _, _, rfl, rfl, SqT.of (e2 _ _ ha), rfl, one, fun r hr => fin r hr⟩⟩
    rintro H1 ⟨e1, hN⟩
    rw [hlen] at hN
    obtain ⟨as1, hD1, hl1, hi1⟩ := hN
    have hW1 : StWs H1 D ts := ⟨as1, hD1, hl1, fun i a t x y => (hi1 i a t x y).2⟩
    refine ⟨_, rfl, l, rfl, ⟨_, SqL.of (e1 _ _ hl)⟩, fun D2 hD2 => lc_list (xs := xs) (fun i H' => Evl.Ex H1 H' ∧ CsN H' D2 (ts.map (·.2)) i) ⟨Evl.Ex.new hD2, CsN.start upd_same⟩ (fun i H' _ q => SqL.of ((e1.trans q.1) _ _ hl)) ?_ ?_⟩
    · rintro i x H2 hi ⟨e2, hN⟩
      obtain ⟨a, t, rfl, ht, ha⟩ := hx i x hi
      have ht2 : (ts.map (·.2))[i]? = some t.2 := by rw [List.getElem?_map, ht]; rfl
      have hi20 : i ≤ 100 := by
        have := (List.getElem?_eq_some_iff.mp ht).1
        omega
      refine ⟨rfl, ?_⟩
      unfold tYes
      refine if_t rfl ?_
      refine ⟨_, rfl, a, _, _, _, rfl, rfl, SqT.of ((e1.trans e2) _ _ ha), rfl, one, fun r hr2 => ⟨r, [t.2], rfl, upd_same, by show 1 ≤ 100; decide, fun q H3 hq e3 h3 => ?_⟩⟩
      have e4 := (Evl.Ex.new (o := .lst [.int t.2]) hr2).trans e3
      have qD : q ≠ D2 := csn_ne hN (Evl.fresh_back (Evl.Ex.new hr2) hq)
      rw [trm_one] at h3
      obtain ⟨acc, a1, a2, a3⟩ := hN.more e4 qD h3 ht2 hi20
      exact ⟨acc, a1, a2, fun c o h => Eq.trans (upd_ne (ne_of_none' h hD2)) ((e2.trans e4) _ _ h), a3⟩
    rintro H2 ⟨e2, hN⟩
    rw [hlen, show ts.length = (ts.map (·.2)).length by rw [List.length_map]] at hN
    have hC := hN.done
    refine ⟨one, fun y hy => ⟨_, rfl, three, fun t ht => ?_⟩⟩
    have e3 := Evl.Ex.new (o := .lst [.int 1]) hy
    have e4 := Evl.Ex.new (o := .tup [.ref D2, .ref y, .ref D]) ht
    exact k t D2 y D _ (((e1.trans e2).trans e3).trans e4) upd_same ((hC.ex e3).ex e4) (e4 _ _ upd_same) (((hW1.ex e2).ex e3).ex e4)
theorem ok_runL {f : Addr} {fd : FuncData} (F : Fun K "_law_wl_run" "_law_wl_run" s_l_run f fd) (mL : mg "len" = none) (mR : mg "range" = none) (mS : mg "sum" = none) (cS : Cal P w K mg base 2 "_law_wl_start" p_l_start spStart) (cAp : Cal P w K mg base 3 "_law_wl_apart" p_l_apart spApart) (cAf : Cal P w K mg base 3 "_law_wl_after" p_l_after spAftW) (cRa : Cal P w K mg base 2 "_law_wl_ratio" p_l_ratio spRatio) : FnOk P w K mg base CX0 4 f fd p_l_run spRunL := by
  refine F.ok sc_l_run (fun vs H Q E h => ?_) (fun cdv A outer s H vs Q E hr h => ?_)
  · obtain ⟨sh, g, ts, ds, u, b, rfl, _⟩ := h
    rfl
  · obtain ⟨sh, g, ts, ds, u, b, rfl, ⟨lv, ld, hsh, hT, hD⟩, hS, hg, hu, hQ, k⟩ := h
    have nd := sc_l_run.nd
    have r2 : Room 2 _ := hr.mono (by decide)
    have one : 1 ≤ sizeLine := by show 1 ≤ sizeLine; decide
    have two : 2 ≤ sizeLine := by show 2 ≤ sizeLine; decide
    have three : 3 ≤ sizeLine := by show 3 ≤ sizeLine; decide
    refine ⟨_, pss_cons (ps_asg (pe_c cS r2 (pa_cons (pe_ix ix_tup (pv 0) pe_int (fun _ _ => rfl)) pa_nil)) (pg_tup rfl (pgs_cons (pg_name (i := 2) nd rfl (Or.inl rfl)) (pgs_cons (pg_name (i := 3) nd rfl (Or.inl rfl)) (pgs_cons (pg_name (i := 4) nd rfl (Or.inl rfl)) pgs_nil)))))
      (pss_cons (ps_setLc (i := 4) (own := [("wide", 10)]) (g := (gName 10)) (tt := tYes) (te := (tIf (tTest (tOp (rI0 fun i j => .bl (decide (j < i))) (tCB (Evl.rLenS K) (tCons (tVar 10) tNil)) (tC (.int 1)))) (tLst (tCons (tOp (rIxT K) (tVar 1) (tC (.int 0))) tNil)) (tLst (tCons (tOp (rI CMulW fun i j => .int (i * j)) (tOp (rIxL K) (tVar 10) (tC (.int 0))) (tOp (rIxT K) (tVar 1) (tC (.int 1)))) tNil)))) rfl nd rfl rfl (sw_true rfl rfl rfl (by decide +kernel)) (pi_list (pv 4)) (blkOk_by (N := n_l_run) (sc := defScope s_l_run) (by decide +kernel)) (fun _ _ _ _ _ => (pg_name (i := 10) nd rfl (Or.inl rfl))) (fun _ _ _ _ _ => pts_nil) (fun _ _ _ _ _ => (pe_ifExp (pt_cmpR op_gt (pe_callB call_len_seq (by rfl) mL PySem.boot_len (pa_cons (pv 10) pa_nil)) pe_int (nomark _)) (pe_lst (pa_cons (pe_ix ix_tup (pv 1) pe_int (fun _ _ => rfl)) pa_nil)) (pe_lst (pa_cons (pe_op op_mulW (pe_ix ix_list (pv 10) pe_int (fun _ _ => rfl)) (pe_ix ix_tup (pv 1) pe_int (fun _ _ => rfl))) pa_nil)))))
      (pss_cons (ps_par (i := 5) (j := 6) rfl nd rfl rfl (by decide) rfl rfl (pa_cons (pe_tup (pa_cons (pv 2) (pa_cons (pv 3) (pa_cons (pv 4) pa_nil)))) (pa_cons pe_non pa_nil)) (by rfl))
      (pss_cons (ps_for PassesOwn.never rfl (pi_range1 (by rfl) mR (pa_cons (pe_callB call_len_seq (by rfl) mL PySem.boot_len (pa_cons (pe_ix ix_tup (pv 0) pe_int (fun _ _ => rfl)) pa_nil)) pa_nil)) (pg_name (i := 7) nd rfl (Or.inl rfl)) (pss_cons (ps_set (i := 8) nd rfl (Or.inl rfl) (pe_ix ix_list (pe_ix ix_tup (pv 0) pe_int (fun _ _ => rfl)) (pv 7) (fun _ _ => rfl)))
      (Evl.pss_cut (ps_if (PW.pt (pw_and (pt_cmp (pc_isN (pv 6))) (pw_and1 (pt_cmpR op_eq (pe_ix ix_tup (pv 8) pe_int (fun _ _ => rfl)) pe_str (nomark _))))) (pss_one (ps_if (pt_cmpR op_gt (pe_callB (cr_sum rfl) (by rfl) mS (by decide +kernel) (pa_cons (pe_c cAp hr (pa_cons (pv 5) (pa_cons (pe_ix ix_tup (pv 8) pe_int (fun _ _ => rfl)) (pa_cons (pe_ix ix_tup (pv 8) pe_int (fun _ _ => rfl)) pa_nil)))) pa_nil)) pe_int (nomark _)) (pss_one (ps_set (i := 6) nd rfl (Or.inl rfl) (pv 7))) pss_nil)) pss_nil)
      (pss_one (ps_if (pt_cmp (pc_isN (pv 6))) (pss_one (ps_set (i := 5) nd rfl (Or.inl rfl) (pe_c cAf hr (pa_cons (pv 5) (pa_cons (pv 8) pa_nil))))) pss_nil)))))
      (pss_cons (ps_set (i := 9) nd rfl (Or.inl rfl) (pe_lst pa_nil))
      (pss_cons (ps_for PassesOwn.never rfl (pi_range1 (by rfl) mR (pa_cons (pe_callB call_len_seq (by rfl) mL PySem.boot_len (pa_cons (pv 4) pa_nil)) pa_nil)) (pg_name (i := 7) nd rfl (Or.inl rfl)) (pss_one (ps_expr (pe_bm PySem.F.plainAttrs_list PySem.F.slot_list_append PySem.F.type_list_append mt_append (pv 9) (pa_cons (pe_c cRa r2 (pa_cons (pe_op op_mulW (pe_callB (cr_sum rfl) (by rfl) mS (by decide +kernel) (pa_cons (pe_ix ix_list (pe_ix ix_tup (pv 5) pe_int (fun _ _ => rfl)) (pv 7) (fun _ _ => rfl)) pa_nil)) (pe_ix ix_tup (pv 1) pe_int (fun _ _ => rfl))) (pa_cons (pe_op op_mulW (pe_ix ix_list (pe_ix ix_tup (pv 5) pe_int (fun _ _ => rfl)) pe_int (fun _ _ => rfl)) (pe_ix ix_list (pe_ix ix_list (pv 4) (pv 7) (fun _ _ => rfl)) pe_int (fun _ _ => rfl))) pa_nil))) pa_nil)))))
      (pss_one (ps_ret (pe_tup (pa_cons (pv 6) (pa_cons (pv 9) pa_nil)))))))))), ?_⟩
    obtain ⟨b0, bc, ub, bb⟩ := id hQ
    have h20 := hS.ok.1.1
    refine ⟨_, rfl, sh, _, _, _, rfl, rfl, SqT.of hsh, rfl, lv, ts, rfl, hT, h20, fun t0 lt lf lw0 H1 e1 ht0 hA1 hF1 hW1 => ?_⟩
    refine ⟨t0, _, rfl, SqT.of ht0, rfl, _, _, rfl, _, _, rfl, _, _, rfl, rfl, ?_⟩
    obtain ⟨as0, hl0, hn0, hi0⟩ := hW1
    have hV := shp_v hS hu hQ
    refine ⟨_, rfl, lw0, rfl, ⟨_, SqL.of hl0⟩, fun D hDn => lc_list (xs := as0.map V.ref) (fun i H' => Evl.Ex H1 H' ∧ CsN H' D (ts.map (wid u b)) i) ⟨Evl.Ex.new hDn, CsN.start upd_same⟩ (fun i H' _ q => SqL.of (q.1 _ _ hl0)) ?_ ?_⟩
    · rintro i x H2 hi ⟨e2, hN⟩
      rw [List.getElem?_map] at hi
      obtain ⟨a, ha, rfl⟩ := Option.map_eq_some_iff.mp hi
      have hil : i < ts.length := by
        have := (List.getElem?_eq_some_iff.mp ha).1
        omega
      have ht := List.getElem?_eq_getElem hil
      have hwa := e2 _ _ (hi0 i a _ ha ht)
      have ht2 : (ts.map (wid u b))[i]? = some (wid u b ts[i]) := by rw [List.getElem?_map, ht]; rfl
      have wpos := hV.pos _ (List.mem_of_getElem? ht2)
      have fin : ∀ r, H2 r = none → ∃ acc, upd H2 r (.lst [.int (wid u b ts[i])]) D = some (.lst acc) ∧ acc.length < sizeLine ∧ Evl.Ex H1 (upd (upd H2 r (.lst [.int (wid u b ts[i])])) D (.lst (acc ++ [.ref r]))) ∧ CsN (upd (upd H2 r (.lst [.int (wid u b ts[i])])) D (.lst (acc ++ [.ref r]))) D (ts.map (wid u b)) (i + 1) := fun r hr => by
        have f1 := Evl.Ex.new (o := .lst [.int (wid u b ts[i])]) hr
        have hc : Li (upd H2 r (.lst [.int (wid u b ts[i])])) r (cp (wid u b ts[i])) := by
          rw [cp_n (Int.ne_of_gt wpos)]
          exact upd_same
        obtain ⟨acc, q1, q2, q3⟩ := hN.more f1 (csn_ne hN hr) hc ht2 (by omega)
        exact ⟨acc, q1, q2, fun c o h => Eq.trans (upd_ne (ne_of_none' h hDn)) ((e2.trans f1) _ _ h), q3⟩
      refine ⟨rfl, ?_⟩
      unfold tYes
      refine if_t rfl ?_
      have htm := List.mem_of_getElem? ht
      generalize ts[i] = t at fin hwa wpos htm
      obtain ⟨tw, tm⟩ := t
      cases tw with
      | none => exact ⟨_, rfl, a, _, rfl, .inl (SqL.of hwa), _, _, rfl, rfl, _, rfl, if_t (decide_eq_true (show (1 : Int) < ((2 : Nat) : Int) by decide)) ⟨_, rfl, g, _, _, _, rfl, rfl, SqT.of (e2 _ _ (e1 _ _ hg)), rfl, one, fun r hr => fin r hr⟩⟩
      | some z =>
        have cz : CMulW z b := wide_mul (show Bn 10 z from by
          have h1 := (hS.w1000 _ htm).1 z rfl
          have h2 := (hS.ok.1.2.1 _ htm).1 z rfl
          exact Nat.lt_of_le_of_lt (show z.natAbs ≤ 1000 by omega) (by decide)) (show Bn 50 b from bb) (by decide) (by decide) (by decide)
        exact ⟨_, rfl, a, _, rfl, .inl (SqL.of hwa), _, _, rfl, rfl, _, rfl, if_f (decide_eq_false (show ¬ (1 : Int) < ((1 : Nat) : Int) by decide)) ⟨_, rfl, a, _, _, _, rfl, rfl, SqL.of hwa, rfl, _, rfl, g, _, _, _, rfl, rfl, SqT.of (e2 _ _ (e1 _ _ hg)), rfl, z, b, rfl, rfl, cz, one, fun r hr => fin r hr⟩⟩
    rintro H2 ⟨e2, hN⟩
    rw [List.length_map, hn0, show ts.length = (ts.map (wid u b)).length by rw [List.length_map]] at hN
    have hw2 := hN.done
    refine ⟨_, rfl, _, rfl, _, rfl, three, fun st hst => ⟨_, _, rfl, ?_⟩⟩
    have g2 := Evl.Ex.new (o := .tup [.ref lt, .ref lf, .ref D]) hst
    have hst3 : LSt (upd H2 st (.tup [.ref lt, .ref lf, .ref D])) st D (ts.map (·.2)) 1 := ⟨lt, lf, upd_same, (hA1.ex e2).ex g2, g2 _ _ (e2 _ _ hF1)⟩
    have hw3 := hw2.ex g2
    have e03 := (e1.trans e2).trans g2
    have e13 := e2.trans g2
    generalize upd H2 st (.tup [.ref lt, .ref lf, .ref D]) = H3 at g2 hst3 hw3 e03 e13
    obtain ⟨xs, hxs, hxl, hxi⟩ := ds_items (hD.ex e03)
    have hV' : ∀ i, OkV (wAt ts ds u b i).1.length (ts.map (wid u b)) := fun i => by rw [(wAt_ok hS hu hQ i).1]; exact hV
    have h20' : ∀ i, (wAt ts ds u b i).1.length ≤ 20 := fun i => by rw [(wAt_ok hS hu hQ i).1]; exact h20
    refine ⟨_, rfl, sh, _, _, _, rfl, rfl, SqT.of (e03 _ _ hsh), rfl, ld, _, rfl, .inl (SqL.of hxs), ?_⟩
    have nn : ((xs.length : Nat) : Int).toNat = ds.length := by rw [hxl]; exact Int.toNat_natCast _
    have d60 := hS.ok.2.1
    refine ⟨_, rfl, by omega, by omega, for_range (n := ((xs.length : Nat) : Int).toNat) (fun i σ H' => ∃ (st : Addr) (n : Nat) (e : V) (v7 v8 v10 : Option V), σ = [some (.ref sh), some (.ref g), some (.ref lt), some (.ref lf), some (.ref D), some (.ref st), some e, v7, v8, none, v10] ∧ Evl.Ex H3 H' ∧ LSt H' st D (wAt ts ds u b n).1 (wAt ts ds u b n).2 ∧ EN ts ds u b i n e)
      ⟨st, 0, .non, none, none, _, rfl, Evl.Ex.refl _, hst3, fun j d h => absurd h (Nat.not_lt_zero _), .inl ⟨rfl, rfl⟩⟩ ?_ ?_⟩
    · rintro i σ H4 hi ⟨st, n, e, v7, v8, v10, rfl, e4, hSt, hE⟩
      rw [Int.zero_add]
      have hid : i < ds.length := by omega
      have hx := List.getElem?_eq_getElem (show i < xs.length by omega)
      obtain ⟨a, d, hxa, hd, hDa⟩ := hxi i _ hx
      rw [hxa] at hx
      have hdm := List.mem_of_getElem? hd
      have e04 := e03.trans e4
      have hDa4 := hDa.ex e4
      have hok : okD (wAt ts ds u b i).1.length d := by rw [(wAt_ok hS hu hQ i).1]; exact hS.ok.2.2 d hdm
      refine ⟨_, rfl, sh, _, _, _, rfl, rfl, SqT.of (e04 _ _ hsh), rfl, _, rfl, ld, _, (i : Int), _, rfl, rfl, SqL.of (e4 _ _ hxs), atI_nat hx, ?_⟩
      refine ⟨fun σ H' => ∃ (n : Nat) (e : V), σ = [some (.ref sh), some (.ref g), some (.ref lt), some (.ref lf), some (.ref D), some (.ref st), some e, some (.int (i : Int)), some (.ref a), none, v10] ∧ Evl.Ex H3 H' ∧ LSt H' st D (wAt ts ds u b n).1 (wAt ts ds u b n).2 ∧ EM ts ds u b i n e d, ?_, ?_⟩
      · obtain ⟨hno, ⟨rfl, rfl⟩ | ⟨hn, d', hd', hb', rfl⟩⟩ := hE
        · have nope : endB (ts.map (wid u b)) (wAt ts ds u b n).1 d = false → ∃ (n' : Nat) (e : V), [some (V.ref sh), some (.ref g), some (.ref lt), some (.ref lf), some (.ref D), some (.ref st), some .non, some (.int (n : Int)), some (.ref a), none, v10] = [some (.ref sh), some (.ref g), some (.ref lt), some (.ref lf), some (.ref D), some (.ref st), some e, some (.int (n : Int)), some (.ref a), none, v10] ∧ Evl.Ex H3 H4 ∧ LSt H4 st D (wAt ts ds u b n').1 (wAt ts ds u b n').2 ∧ EM ts ds u b n n' e d := fun h => ⟨n, .non, rfl, e4, hSt, hno, .inl ⟨rfl, rfl, h⟩⟩
          rcases dat_unless hDa4 with ⟨k1, m1, rfl⟩ | ⟨x, r, hxr, hdec⟩
          · have ha : H4 a = some (.tup [.str "unless", .int k1, .int m1]) := hDa4
            refine ⟨_, rfl, _, rfl, if_t (decide_eq_true rfl) ?_⟩
            refine ⟨_, rfl, a, _, _, _, rfl, rfl, SqT.of ha, rfl, rfl, _, rfl, if_t (by decide) ?_⟩
            obtain ⟨⟨k0, k9⟩, ⟨m0, m9⟩, km⟩ := id hok
            refine ⟨_, rfl, _, rfl, a, _, _, _, rfl, rfl, SqT.of ha, rfl, _, rfl, a, _, _, _, rfl, rfl, SqT.of ha, rfl, st, D, _, _, _, k1, m1, rfl, hSt, hw3.ex e4, k0, k9, m0, m9, hV' _, (wAt_ok hS hu hQ _).2, fun q H5 hq e5 h5 => ⟨q, _, rfl, SqL.of h5, _, _, rfl, rfl, _, rfl, ?_⟩⟩
            rw [cp_sum]
            have hiff : decide (0 < (wAt ts ds u b n).1.getD k1.toNat 0 * (ts.map (wid u b)).getD m1.toNat 0 - (wAt ts ds u b n).1.getD m1.toNat 0 * (ts.map (wid u b)).getD k1.toNat 0) = endB (ts.map (wid u b)) (wAt ts ds u b n).1 (.un k1 m1) := by
              show _ = decide _
              exact decide_eq_decide.mpr ⟨fun h => by omega, fun h => by omega⟩
            rw [hiff]
            cases hb : endB (ts.map (wid u b)) (wAt ts ds u b n).1 (.un k1 m1) with
            | true =>
              refine if_t rfl ⟨_, rfl, n, _, rfl, e4.trans e5, hSt.ex e5, hno, .inr ⟨Nat.lt_succ_self _, _, hd, hb, rfl⟩⟩
            | false => exact if_f rfl ⟨n, .non, rfl, e4.trans e5, hSt.ex e5, hno, .inl ⟨rfl, rfl, hb⟩⟩
          · refine ⟨_, rfl, _, rfl, if_t (decide_eq_true rfl) ?_⟩
            refine ⟨_, rfl, a, _, _, _, rfl, rfl, SqT.of hxr, atI_nat (j := 0) rfl, rfl, _, rfl, if_f hdec (nope ?_)⟩
            cases d with
            | un k1 m1 =>
              have ha : H4 a = some (.tup [.str "unless", .int k1, .int m1]) := hDa4
              rw [ha] at hxr
              cases hxr
              exact absurd hdec (by decide)
            | _ => rfl
        · refine ⟨_, rfl, _, rfl, if_f (decide_eq_false fun q => by cases q) ?_⟩
          exact if_f rfl ⟨n, _, rfl, e4, hSt, hno, .inr ⟨Nat.lt_succ_of_lt hn, d', hd', hb', rfl⟩⟩
      · rintro σ H5 ⟨n, e, rfl, e5, hSt5, hno, ⟨rfl, rfl, hb⟩ | ⟨hn, d', hd', hb', rfl⟩⟩
        · refine ⟨_, rfl, _, rfl, if_t (decide_eq_true rfl) ?_⟩
          refine ⟨_, rfl, _, rfl, st, a, D, d, _, ts.map (wid u b), _, rfl, hSt5, hw3.ex e5, hDa.ex e5, hok, fun k a e => ?_, h20' _, hV' _, (wAt_ok hS hu hQ _).2, fun t' H6 e6 hS6 => ?_⟩
          · subst e
            exact hS.p1000 k a hdm
          · refine ⟨t', n + 1, .non, _, _, _, rfl, e5.trans e6, ?_, fun j d' hj hd' => ?_, .inl ⟨rfl, rfl⟩⟩
            · show LSt H6 t' D (runA _ _ (ds.take (n + 1))).1 (runA _ _ (ds.take (n + 1))).2
              rw [runA_take hd]
              exact hS6
            · rcases Nat.lt_succ_iff_lt_or_eq.mp hj with h | rfl
              · exact hno j d' h hd'
              · rw [hd] at hd'
                cases hd'
                exact hb
        · refine ⟨_, rfl, _, rfl, if_f (decide_eq_false fun q => by cases q) ?_⟩
          exact ⟨st, n, _, _, _, _, rfl, e5, hSt5, hno, .inr ⟨hn, d', hd', hb', rfl⟩⟩
    rintro σ H4 ⟨st, n, e, v7, v8, v10, rfl, e4, hSt, hE⟩
    rw [nn] at hE
    have e04 := e03.trans e4
    have hn := hE.end_
    have hWn := (wAt_ok hS hu hQ n).2
    have hln := (wAt_ok hS hu hQ n).1
    have hw4 := hw3.ex e4
    obtain ⟨asW, hDl, hDn, hDi⟩ := hw4
    rw [List.length_map] at hDn
    obtain ⟨ltn, lfn, hstn, hAn, hFn⟩ := hSt
    obtain ⟨xsA, hxA, hxAl, hxAi⟩ := cs_items hAn
    refine ⟨Nat.zero_le _, fun L hL => ?_⟩
    have g5 := Evl.Ex.new (o := .lst []) hL
    have hL5 : ObN (fun f : Int × Int => .tup [.int f.1, .int f.2]) (upd H4 L (.lst [])) L (lvsA ts ds u b n) 0 := ObN.start upd_same
    have hLH : H L = none := Evl.fresh_back e04 hL
    generalize upd H4 L (.lst []) = H5 at g5 hL5
    refine ⟨_, rfl, D, _, rfl, .inl (SqL.of (g5 _ _ hDl)), _, rfl, ?_, ?_, for_range (n := (((asW.map V.ref).length : Nat) : Int).toNat) (fun i σ H' => ∃ (v7 v8 v10 : Option V), σ = [some (.ref sh), some (.ref g), some (.ref lt), some (.ref lf), some (.ref D), some (.ref st), some e, v7, v8, some (.ref L), v10] ∧ Evl.Ex H4 H' ∧ ObN (fun f : Int × Int => .tup [.int f.1, .int f.2]) H' L (lvsA ts ds u b n) i)
      ⟨_, _, _, rfl, g5, hL5⟩ ?_ ?_⟩
    · rw [List.length_map, hDn]; omega
    · rw [List.length_map, hDn]; omega
    · rintro i σ H6 hi ⟨v7, v8, v10, rfl, e6, hL6⟩
      rw [Int.zero_add]
      rw [List.length_map, hDn, Int.toNat_natCast] at hi
      refine ⟨_, rfl, .inl ⟨rfl, _, SqL.of hL6.choose_spec.1⟩, ?_⟩
      have hil : i < (wAt ts ds u b n).1.length := by rw [hln]; exact hi
      have hxi' := List.getElem?_eq_getElem (show i < xsA.length by omega)
      obtain ⟨aA, hva, _, hLa⟩ := hxAi i _ hxi'
      rw [hva] at hxi'
      have haw := List.getElem?_eq_getElem (show i < asW.length by omega)
      have hww := List.getElem?_eq_getElem (show i < (ts.map (wid u b)).length by rw [List.length_map]; exact hi)
      have hLw := hDi i _ _ haw hww
      have hwpos := hV.pos _ (List.mem_of_getElem? hww)
      have hwbit := hV.bit _ (List.mem_of_getElem? hww)
      generalize asW[i] = aw at haw hLw
      generalize (ts.map (wid u b))[i]'(by rw [List.length_map]; exact hi) = ww at hww hLw hwpos hwbit
      have hgw : (ts.map (wid u b)).getD i 0 = ww := by rw [List.getD_eq_getElem?_getD, hww]; rfl
      rw [cp_n (Int.ne_of_gt hwpos)] at hLw
      rw [cp_n (Int.ne_of_gt hWn.pos)] at hFn
      have hst6 := e6 _ _ hstn
      have bAi := hWn.bA _ (getD_mem' hil)
      refine ⟨_, rfl, st, _, _, _, rfl, rfl, SqT.of hst6, rfl, _, rfl, ltn, xsA, (i : Int), _, rfl, rfl, SqL.of (e6 _ _ hxA), atI_nat hxi', aA, _, rfl, SqL.of (e6 _ _ hLa), ?_⟩
      rw [cp_sum]
      refine ⟨_, rfl, g, _, _, _, rfl, rfl, SqT.of ((e04.trans e6) _ _ hg), rfl, _, b, rfl, rfl, ?_, ?_⟩
      · exact wide_mul bAi (show Bn 50 b from bb) (by decide) (by decide) (by decide)
      refine ⟨_, rfl, st, _, _, _, rfl, rfl, SqT.of hst6, rfl, lfn, _, _, _, rfl, rfl, SqL.of (e6 _ _ hFn), rfl, _, rfl, _, rfl, D, _, (i : Int), _, rfl, rfl, SqL.of (e6 _ _ hDl), atI_nat (by rw [List.getElem?_map, haw]; rfl), aw, _, _, _, rfl, rfl, SqL.of (e6 _ _ hLw), rfl, _, ww, rfl, rfl, ?_, ?_⟩
      · exact wide_mul hWn.bW hwbit (by decide) (by decide) (by decide)
      refine ⟨_, _, rfl, ?_, ?_, ?_, ?_⟩
      · exact (Bn.mul bAi (show Bn 50 b from bb)).le (by decide)
      · exact (Bn.mul hWn.bW hwbit).le (by decide)
      · exact Int.mul_pos hWn.pos hwpos
      intro q H7 hq f7 hq7
      have hlv : (lvsA ts ds u b n)[i]? = some (fr ((wAt ts ds u b n).1.getD i 0 * b) ((wAt ts ds u b n).2 * ww)) := by
        unfold lvsA
        rw [List.getElem?_map, List.getElem?_range hil]
        show some (lvl _ _ _ _ _) = _
        unfold lvl
        rw [hgw]
      obtain ⟨acc, q1, q2, q3⟩ := hL6.more f7 (hL6.ne hq) hq7 hlv (by omega)
      exact ⟨L, acc, _, rfl, rfl, q1, q2, _, _, _, rfl, fun c o h => Eq.trans (upd_ne (ne_of_none' h hL)) ((e6.trans f7) _ _ h), q3⟩
    rintro σ H6 ⟨v7, v8, v10, rfl, e6, hL6⟩
    rw [List.length_map, hDn, Int.toNat_natCast] at hL6
    refine ⟨_, rfl, _, rfl, two, fun q hq => ?_⟩
    have e7 := Evl.Ex.new (o := .tup [e, .ref L]) hq
    obtain ⟨asL, q1, q2, q3⟩ := hL6
    refine k q L e n _ ((e04.trans e6).trans e7) hLH upd_same (PrAt.ex ⟨asL, q1, ?_, fun i a f x y => (q3 i a f x y).2⟩ e7) hn
    rw [q2]
    unfold lvsA
    rw [List.length_map, List.length_range, hln]
end
end V2


namespace V2
open PySem L2
open PySem.Spec PyProof.Rows
theorem cut_drop (xs : List V) (k : Nat) : cutV xs (some (k : Int)) none = xs.drop k := by
  unfold cutV
  rw [sIx_pos]
  have e : HT.sIx xs.length xs.length none = xs.length := rfl
  rw [e]
  by_cases h : k ≤ xs.length
  · rw [Nat.min_eq_left h]
    exact List.take_of_length_le (by rw [List.length_drop]; omega)
  · rw [Nat.min_eq_right (by omega), List.drop_of_length_le (by omega), List.drop_of_length_le (by omega)]
    simp
theorem ds_parts {H : Hp} {as : List Addr} {ds : List Deed} (hl : as.length = ds.length) (h : ∀ (i : Nat) (a : Addr) (d : Deed), as[i]? = some a → ds[i]? = some d → DAt H a d) (k m : Nat) :
    (as.take k ++ as.drop m).length = (ds.take k ++ ds.drop m).length ∧ ∀ (i : Nat) (a : Addr) (d : Deed), (as.take k ++ as.drop m)[i]? = some a → (ds.take k ++ ds.drop m)[i]? = some d → DAt H a d := by
  have l1 : (as.take k).length = (ds.take k).length := by rw [List.length_take, List.length_take, hl]
  refine ⟨by rw [List.length_append, List.length_append, l1, List.length_drop, List.length_drop, hl], fun i a d ha hd => ?_⟩
  by_cases c : i < (as.take k).length
  · rw [List.getElem?_append_left c] at ha
    rw [List.getElem?_append_left (by omega)] at hd
    rw [List.getElem?_take] at ha hd
    split at ha
    · rename_i c2
      rw [if_pos c2] at hd
      exact h i a d ha hd
    · cases ha
  · rw [List.getElem?_append_right (by omega), List.getElem?_drop] at ha
    rw [List.getElem?_append_right (by omega), List.getElem?_drop] at hd
    rw [← l1] at hd
    exact h _ a d ha hd
/-- a script without a step -/
def spWo (C : Addr) : Sp := fun vs H Q _ => ∃ (x : Addr) (i : Nat) (ts : List Tk) (ds : List Deed), vs = [.ref x, .int (i : Int)] ∧ ScAt H C x ts ds ∧ okS ts ds ∧ i < ds.length ∧ ∀ (y : Addr) (H' : Hp), H y = none → Evl.Ex H H' → ScAt H' C y ts (ds.take i ++ ds.drop (i + 1)) → Q (.ref y) H'
section
variable {base : Heap} {mg : Str → Option Value} {K : PySem.W.Frag} {w : World} {P : Program} {C fI fT fS pT pS : Addr}
theorem ok_Sc_without {f : Addr} {fd fdI : FuncData} (F : Fun K "without" "Script.without" s_Sc_without f fd) (mL : mg "len" = none) (mC : mg "Script" = some (.ref C)) (c : ScC K C fI fT fS pT pS) (FI : FnOk P w K mg base CX0 5 fI fdI p_Sc_init (spScI C)) (bI : Binds K fdI p_Sc_init []) (cI : Cal P w K mg base 3 "check_index" p_check_index spCi) : FnOk P w K mg base CX0 7 f fd p_Sc_without (spWo C) := by
  refine F.ok sc_Sc_without (fun vs H Q E h => ?_) (fun cdv A outer s H vs Q E hr h => ?_)
  · obtain ⟨x, i, ts, ds, rfl, _⟩ := h
    rfl
  · obtain ⟨x, i, ts, ds, rfl, ⟨dx, fs, v, y, hx, hv, hy, hdv, hdy, _⟩, hok, hi, k⟩ := h
    have r3 : Room 3 _ := hr.mono (by decide)
    obtain ⟨lt, rfl, hlt⟩ := hdv.tks
    obtain ⟨ls, rfl, hls⟩ := hdy.deeds
    obtain ⟨as, h1, h2, h3⟩ := id hls
    refine ⟨_, pss_cons (ps_expr (pe_c cI r3 (pa_cons (pv 1) (pa_cons (pe_callB call_len_seq (by rfl) mL PySem.boot_len (pa_cons (pe_fld (pv 0) rfl) pa_nil)) pa_nil))))
      (pss_one (ps_ret (pe_make c.mkI FI hr (by rfl) mC bI .nil pass0 (pa_cons (pe_fld (pv 0) rfl) (pa_cons (pe_op op_cat (pe_slice sl_list (pe_fld (pv 0) rfl) po_none (po_some (pv 1))) (pe_slice sl_list (pe_fld (pv 0) rfl) (po_some (pe_op op_add (pv 1) pe_int)) po_none)) pa_nil))))), ?_⟩
    refine ⟨_, rfl, _, rfl, x, C, dx, fs, _, rfl, hx, c.cls, c.na2, hy, ls, _, rfl, .inl (SqL.of h1), _, _, rfl, by omega, by rw [List.length_map, h2]; omega, fun H1 e1 => ?_⟩
    have hx1 := e1 _ _ hx
    have g1 := e1 _ _ h1
    refine ⟨_, rfl, x, C, dx, fs, _, rfl, hx1, c.cls, c.na1, hv, _, rfl, x, C, dx, fs, _, rfl, hx1, c.cls, c.na2, hy, ?_⟩
    have len := hok.2.1
    refine ⟨_, rfl, (i : Int), rfl, ls, _, rfl, SqL.of g1, fun p1 hp1 => ?_⟩
    have e2 := Evl.Ex.new (o := .lst (cutV (as.map V.ref) none (some (i : Int)))) hp1
    have q1 : upd H1 p1 (.lst (cutV (as.map V.ref) none (some (i : Int)))) p1 = some (.lst ((as.take i).map V.ref)) := Eq.trans upd_same (by rw [cut_min, List.map_take])
    generalize upd H1 p1 (.lst (cutV (as.map V.ref) none (some (i : Int)))) = H2 at e2 q1
    refine ⟨_, rfl, x, C, dx, fs, _, rfl, e2 _ _ hx1, c.cls, c.na2, hy, _, rfl, _, _, rfl, rfl, ((i + 1 : Nat) : Int), rfl, ls, _, rfl, SqL.of (e2 _ _ g1), fun p2 hp2 => ?_⟩
    have e3 := Evl.Ex.new (o := .lst (cutV (as.map V.ref) (some ((i + 1 : Nat) : Int)) none)) hp2
    have q2 : upd H2 p2 (.lst (cutV (as.map V.ref) (some ((i + 1 : Nat) : Int)) none)) p2 = some (.lst ((as.drop (i + 1)).map V.ref)) := Eq.trans upd_same (by rw [cut_drop, List.map_drop])
    generalize upd H2 p2 (.lst (cutV (as.map V.ref) (some ((i + 1 : Nat) : Int)) none)) = H3 at e3 q2
    refine ⟨p1, p2, _, _, rfl, rfl, e3 _ _ q1, q2, ?_, fun p3 hp3 => ?_⟩
    · rw [List.length_map, List.length_map, List.length_take, List.length_drop]
      exact Nat.le_trans (show min i as.length + (as.length - (i + 1)) ≤ 120 by omega) (by decide)
    have e4 := Evl.Ex.new (o := .lst ((as.take i).map V.ref ++ (as.drop (i + 1)).map V.ref)) hp3
    have q3 : upd H3 p3 (.lst ((as.take i).map V.ref ++ (as.drop (i + 1)).map V.ref)) p3 = some (.lst ((as.take i ++ as.drop (i + 1)).map V.ref)) := Eq.trans upd_same (by rw [List.map_append])
    generalize upd H3 p3 (.lst ((as.take i).map V.ref ++ (as.drop (i + 1)).map V.ref)) = H4 at e4 q3
    have e04 := ((e1.trans e2).trans e3).trans e4
    obtain ⟨pl, pd⟩ := ds_parts h2 h3 i (i + 1)
    have hDs : DsAt H4 p3 (ds.take i ++ ds.drop (i + 1)) := ⟨_, q3, pl, fun j a d u1 u2 => (pd j a d u1 u2).ex e04⟩
    intro y' dy hy' hdy' hne
    have e5 : Evl.Ex H4 (upd (upd H4 dy (.own y')) y' (.ins C dy [])) := fun b o h => Eq.trans (upd_ne (ne_of_none' h hy')) (Eq.trans (upd_ne (ne_of_none' h hdy')) h)
    have ok' : okS ts (ds.take i ++ ds.drop (i + 1)) := ⟨hok.1, by rw [List.length_append, List.length_take, List.length_drop]; omega, fun d hd => by
      rcases List.mem_append.mp hd with h | h
      · exact hok.2.2 d (List.mem_of_mem_take h)
      · exact hok.2.2 d (List.mem_of_mem_drop h)⟩
    refine ⟨y', dy, .ref lt, .ref p3, ts, _, rfl, upd_same, (hlt.ex (e04.trans e5)).dq, (hDs.ex e5).dq, ok', fun v' u' fs' H' b hyy g1 g2 d1 d2 g0 => ⟨rfl, ?_⟩⟩
    refine k y' H' (Evl.fresh_back e04 hy') (fun cc o h => ?_) ⟨dy, fs', v', u', hyy, g1, g2, d1.go Nw.ex, d2.go Nw.ex, g0⟩
    have h5 := e04 _ _ h
    exact b _ _ (ne_of_none' h5 hy') (e5 _ _ h5)
end
end V2


namespace V2
open PySem L2
open PySem.Spec PyProof.Rows
/-! ## a script, made by another law: what is given is changed behind it -/
def rLstOf (K : PySem.W.Frag) : List V → Hp → VK → Prop := fun xs H Q => ∃ p ys, xs = [.ref p] ∧ (SqL K H p ys ∨ SqT K H p ys) ∧ ∀ l, H l = none → Q (.ref l) (upd H l (.lst ys))
def OwD (H : Hp) (D : Addr) (m : Nat) (H' : Hp) (a : Addr) : Deed → Prop
  | .op ks => ∃ l zs, H l = none ∧ l ≠ D ∧ H' a = some (.tup [.str "open", .ref l]) ∧ H' l = some (.lst (iV zs)) ∧ zs.length ≤ ks.length + m ∧ (m = 0 → zs = ks)
  | d => DAt H' a d
def NoL (H H' : Hp) : Prop := ∀ c o, (∀ xs, o ≠ .lst xs) → H c = some o → H' c = some o
theorem DAt.noL {H H' : Hp} {a : Addr} {d : Deed} (h : DAt H a d) (e : NoL H H') (n : ∀ ks, d ≠ .op ks) : DAt H' a d := by
  cases d with
  | op ks => exact absurd rfl (n ks)
  | po k x => exact e _ _ (fun xs q => by cases q) h
  | sc k p q =>
    obtain ⟨f, h1, h2⟩ := h
    exact ⟨f, e _ _ (fun xs q => by cases q) h1, e _ _ (fun xs q => by cases q) h2⟩
  | mv k m p q =>
    obtain ⟨f, h1, h2⟩ := h
    exact ⟨f, e _ _ (fun xs q => by cases q) h1, e _ _ (fun xs q => by cases q) h2⟩
  | un k m => exact e _ _ (fun xs q => by cases q) h
theorem OwD.keep {H H' H'' : Hp} {D a : Addr} {m m' : Nat} {d : Deed} (h : OwD H D m H' a d) (e : NoL H' H'') (hm : m' = 0 → m = 0)
    (hl : ∀ l zs, l ≠ D → H l = none → H' l = some (.lst (iV zs)) → ∃ zs', H'' l = some (.lst (iV zs')) ∧ zs'.length + m ≤ zs.length + m' ∧ (m' = 0 → zs' = zs)) : OwD H D m' H'' a d := by
  cases d with
  | op ks =>
    obtain ⟨l, zs, h1, h2, h3, h4, h5, h6⟩ := h
    obtain ⟨zs', k1, k2, k3⟩ := hl l zs h2 h1 h4
    exact ⟨l, zs', h1, h2, e _ _ (fun xs q => by cases q) h3, k1, by omega, fun q => (k3 q).trans (h6 (hm q))⟩
  | po k x => exact DAt.noL (d := .po k x) h e (fun ks q => by cases q)
  | sc k p q => exact DAt.noL (d := .sc k p q) h e (fun ks q => by cases q)
  | mv k m p q => exact DAt.noL (d := .mv k m p q) h e (fun ks q => by cases q)
  | un k m => exact DAt.noL (d := .un k m) h e (fun ks q => by cases q)
theorem OwD.ex {H H' H'' : Hp} {D a : Addr} {m : Nat} {d : Deed} (h : OwD H D m H' a d) (e : Evl.Ex H' H'') : OwD H D m H'' a d :=
  h.keep (fun c o _ q => e _ _ q) id fun l zs _ _ q => ⟨zs, e _ _ q, Nat.le_refl _, fun _ => rfl⟩
theorem OwD.dat {H H' : Hp} {D a : Addr} {d : Deed} (h : OwD H D 0 H' a d) : DAt H' a d := by
  cases d with
  | op ks =>
    obtain ⟨l, zs, h1, h2, h3, h4, h5, h6⟩ := h
    rw [h6 rfl] at h4
    exact ⟨l, h3, h4⟩
  | _ => exact h
theorem noL_upd {H : Hp} {D : Addr} {xs ys : List V} (h : H D = some (.lst xs)) : NoL H (upd H D (.lst ys)) := fun c o n q => Eq.trans (upd_ne (fun z => by
  rw [z, h] at q
  cases q
  exact n _ rfl)) q
def spMade (C : Addr) : Sp := fun vs H Q _ => ∃ (sh : Addr) (ts : List Tk) (ds : List Deed), vs = [.ref sh] ∧ ShAt H sh ts ds ∧ ShW ts ds ∧ ∀ (x : Addr) (H' : Hp), H x = none → Evl.Ex H H' → ScAt (Nw H H') C x ts ds → Q (.ref x) H'
section
variable {base : Heap} {mg : Str → Option Value} {K : PySem.W.Frag} {w : World} {P : Program} {C fI fT fS pT pS : Addr}
theorem ok_made {f : Addr} {fd fdI : FuncData} (F : Fun K "_law_wl_made" "_law_wl_made" s_l_made f fd) (mLs : mg "list" = none) (mC : mg "Script" = some (.ref C)) (c : ScC K C fI fT fS pT pS) (FI : FnOk P w K mg base CX0 5 fI fdI p_Sc_init (spScI C)) (bI : Binds K fdI p_Sc_init []) : FnOk P w K mg base CX0 7 f fd p_l_made (spMade C) := by
  refine F.ok sc_l_made (fun vs H Q E h => ?_) (fun cdv A outer s H vs Q E hr h => ?_)
  · obtain ⟨sh, ts, ds, rfl, _⟩ := h
    rfl
  · obtain ⟨sh, ts, ds, rfl, ⟨lv, ld, hsh, hT, hD⟩, hS, k⟩ := h
    have nd := sc_l_made.nd
    have two : 2 ≤ sizeLine := by show 2 ≤ sizeLine; decide
    refine ⟨_, pss_cons (ps_set (i := 1) nd rfl (Or.inl rfl) (pe_callTy call_list_of (by rfl) mLs (by decide +kernel) (pa_cons (pe_ix ix_tup (pv 0) pe_int (fun _ _ => rfl)) pa_nil)))
      (pss_cons (ps_setLc (i := 2) (own := [("deed", 4)]) (g := (gName 4)) (tt := tYes) (te := (tIf (tTest (tOp rEq (tOp (rIxT K) (tVar 4) (tC (.int 0))) (tC (.str "open")))) (tTup (tCons (tC (.str "open")) (tCons (tCB (rLstOf K) (tCons (tOp (rIxT K) (tVar 4) (tC (.int 1))) tNil)) tNil))) (tVar 4))) rfl nd rfl rfl (sw_true rfl rfl rfl (by decide +kernel)) (pi_list (pe_ix ix_tup (pv 0) pe_int (fun _ _ => rfl))) (blkOk_by (N := n_l_made) (sc := defScope s_l_made) (by decide +kernel)) (fun _ _ _ _ _ => (pg_name (i := 4) nd rfl (Or.inl rfl))) (fun _ _ _ _ _ => pts_nil) (fun _ _ _ _ _ => (pe_ifExp (pt_cmpR op_eq (pe_ix ix_tup (pv 4) pe_int (fun _ _ => rfl)) pe_str (nomark _)) (pe_tup (pa_cons pe_str (pa_cons (pe_callTy call_list_of (by rfl) mLs (by decide +kernel) (pa_cons (pe_ix ix_tup (pv 4) pe_int (fun _ _ => rfl)) pa_nil)) pa_nil))) (pv 4))))
      (pss_cons (ps_set (i := 3) nd rfl (Or.inl rfl) (pe_make c.mkI FI hr (by rfl) mC bI .nil pass0 (pa_cons (pv 1) (pa_cons (pv 2) pa_nil))))
      (pss_cons (ps_for PassesOwn.never rfl (pi_list (pv 2)) (pg_name (i := 4) nd rfl (Or.inl rfl)) (pss_one (ps_if (pt_cmpR op_eq (pe_ix ix_tup (pv 4) pe_int (fun _ _ => rfl)) pe_str (nomark _)) (pss_one (ps_expr (pe_bm PySem.F.plainAttrs_list PySem.F.slot_list_append PySem.F.type_list_append mt_append (pe_ix ix_tup (pv 4) pe_int (fun _ _ => rfl)) (pa_cons pe_int pa_nil)))) pss_nil)))
      (pss_cons (ps_expr (pe_bm0 PySem.F.plainAttrs_list PySem.F.slot_list_clear PySem.F.type_list_clear mt_clear (pv 1)))
      (pss_one (ps_ret (pv 3))))))), ?_⟩
    have d60 := hS.ok.2.1
    obtain ⟨asT, hTl, hTn, hTi⟩ := id hT
    refine ⟨_, rfl, sh, _, _, _, rfl, rfl, SqT.of hsh, rfl, lv, _, rfl, .inl (SqL.of hTl), fun v hv => ?_⟩
    have e1 := Evl.Ex.new (o := .lst (asT.map V.ref)) hv
    have hT1 : TksAt (upd H v (.lst (asT.map V.ref))) v ts := ⟨asT, upd_same, hTn, fun i a t x y => e1 _ _ (hTi i a t x y)⟩
    generalize upd H v (.lst (asT.map V.ref)) = H1 at e1 hT1
    obtain ⟨xs, hxs, hxl, hxi⟩ := ds_items (hD.ex e1)
    refine ⟨_, rfl, sh, _, _, _, rfl, rfl, SqT.of (e1 _ _ hsh), rfl, ld, rfl, ⟨_, SqL.of hxs⟩, fun D hDn => lc_list (xs := xs) (fun i H' => Evl.Ex H1 H' ∧ ∃ as : List Addr, H' D = some (.lst (as.map V.ref)) ∧ as.length = i ∧ ∀ (j : Nat) (a : Addr) (d : Deed), as[j]? = some a → ds[j]? = some d → OwD H D 0 H' a d) ⟨Evl.Ex.new hDn, [], upd_same, rfl, fun j a d h => by cases h⟩ (fun i H' _ q => SqL.of (q.1 _ _ hxs)) ?_ ?_⟩
    · rintro i x H2 hi ⟨e2, as, hDa, hal, hai⟩
      obtain ⟨a, d, rfl, hd, hDat⟩ := hxi i x hi
      have hi60 : i < ds.length := (List.getElem?_eq_some_iff.mp hd).1
      have fin : ∀ (r : Addr) (H3 : Hp), Evl.Ex H2 H3 → OwD H D 0 H3 r d → ∃ acc, H3 D = some (.lst acc) ∧ acc.length < sizeLine ∧ Evl.Ex H1 (upd H3 D (.lst (acc ++ [.ref r]))) ∧ ∃ as : List Addr, upd H3 D (.lst (acc ++ [.ref r])) D = some (.lst (as.map V.ref)) ∧ as.length = i + 1 ∧ ∀ (j : Nat) (a : Addr) (d : Deed), as[j]? = some a → ds[j]? = some d → OwD H D 0 (upd H3 D (.lst (acc ++ [.ref r]))) a d := fun r H3 e3 h3 => by
        have ups : ∀ {a : Addr} {d : Deed}, OwD H D 0 H3 a d → OwD H D 0 (upd H3 D (.lst (as.map V.ref ++ [.ref r]))) a d := fun {a d} h => h.keep (noL_upd (e3 _ _ hDa)) id fun l zs n _ q => ⟨zs, Eq.trans (upd_ne n) q, Nat.le_refl _, fun _ => rfl⟩
        refine ⟨_, e3 _ _ hDa, ?_, fun c o h => Eq.trans (upd_ne (ne_of_none' h hDn)) ((e2.trans e3) _ _ h), as ++ [r], by rw [upd_same, List.map_append]; rfl, by rw [List.length_append, hal]; rfl, fun j b d' hb hd' => ?_⟩
        · rw [List.length_map, hal]
          exact Nat.lt_of_lt_of_le (show i < 100 by omega) (by decide)
        · rcases get_app hb with ⟨h5, _⟩ | ⟨h5, rfl⟩
          · exact ups ((hai j b d' h5 hd').ex e3)
          · rw [h5, hal, hd] at hd'
            cases hd'
            exact ups h3
      refine ⟨rfl, ?_⟩
      unfold tYes
      refine if_t rfl ?_
      have hDa2 := hDat.ex e2
      cases d with
      | op ks =>
        obtain ⟨l0, ha, hl0⟩ := hDa2
        refine ⟨_, rfl, a, _, _, _, rfl, rfl, SqT.of ha, rfl, rfl, _, rfl, if_t (by decide) ?_⟩
        refine ⟨_, rfl, a, _, _, _, rfl, rfl, SqT.of ha, rfl, l0, _, rfl, .inl (SqL.of hl0), fun l hl => ⟨two, fun r hr => ?_⟩⟩
        have f1 := Evl.Ex.new (o := .lst (iV ks)) hl
        have f2 := Evl.Ex.new (o := .tup [.str "open", .ref l]) hr
        refine fin r _ (f1.trans f2) ⟨l, ks, Evl.fresh_back (e1.trans e2) hl, fun z => ?_, upd_same, f2 _ _ upd_same, Nat.le_refl _, fun _ => rfl⟩
        rw [z, hDa] at hl
        cases hl
      | po k x =>
        have ha : H2 a = some (.tup [.str "pour", .int k, .int x]) := hDa2
        refine ⟨_, rfl, a, _, _, _, rfl, rfl, SqT.of ha, rfl, rfl, _, rfl, if_f (by decide) ⟨_, rfl, fin a H2 (Evl.Ex.refl _) hDa2⟩⟩
      | sc k p q =>
        obtain ⟨g, ha, _⟩ := id hDa2
        refine ⟨_, rfl, a, _, _, _, rfl, rfl, SqT.of ha, rfl, rfl, _, rfl, if_f (by decide) ⟨_, rfl, fin a H2 (Evl.Ex.refl _) hDa2⟩⟩
      | mv k m p q =>
        obtain ⟨g, ha, _⟩ := id hDa2
        refine ⟨_, rfl, a, _, _, _, rfl, rfl, SqT.of ha, rfl, rfl, _, rfl, if_f (by decide) ⟨_, rfl, fin a H2 (Evl.Ex.refl _) hDa2⟩⟩
      | un k m =>
        have ha : H2 a = some (.tup [.str "unless", .int k, .int m]) := hDa2
        refine ⟨_, rfl, a, _, _, _, rfl, rfl, SqT.of ha, rfl, rfl, _, rfl, if_f (by decide) ⟨_, rfl, fin a H2 (Evl.Ex.refl _) hDa2⟩⟩
    rintro H2 ⟨e2, as, hDa, hal, hai⟩
    rw [hxl] at hal
    have hDs : DsAt H2 D ds := ⟨as, hDa, hal, fun i a d x y => (hai i a d x y).dat⟩
    have hDH : H D = none := Evl.fresh_back e1 hDn
    have e02 := e1.trans e2
    refine ⟨_, rfl, _, rfl, ?_⟩
    intro y dy hy hdy hne
    have e5 : Evl.Ex H2 (upd (upd H2 dy (.own y)) y (.ins C dy [])) := fun b o h => Eq.trans (upd_ne (ne_of_none' h hy)) (Eq.trans (upd_ne (ne_of_none' h hdy)) h)
    refine ⟨y, dy, .ref v, .ref D, ts, ds, rfl, upd_same, ((hT1.ex e2).ex e5).dq, (hDs.ex e5).dq, hS.ok, fun v' u' fs H4 b hyy g1 g2 d1 d2 g0 => ⟨rfl, ?_⟩⟩
    have e24 : Evl.Ex H2 H4 := fun c o h => b _ _ (ne_of_none' h hy) (e5 _ _ h)
    have hDa4 := e24 _ _ hDa
    generalize hHm : upd (upd H2 dy (.own y)) y (.ins C dy []) = Hm at e5 b d1 d2
    have e04 := e02.trans e24
    obtain ⟨asv, hva, _⟩ := hT1.ex (e2.trans e24)
    have hvm : Hm v ≠ none := fun q => by
      have := (e2.trans e5) _ _ hT1.choose_spec.1
      rw [q] at this
      cases this
    refine ⟨_, rfl, D, rfl, ⟨_, SqL.of hDa4⟩, for_list (xs := as.map V.ref) (fun i σ H' => ∃ v4 : Option V, σ = [some (.ref sh), some (.ref v), some (.ref D), some (.ref y), v4] ∧ NoL H4 H' ∧ (∀ c o, Hm c = none → H4 c = some o → H' c = some o) ∧ Evl.Ex H H' ∧ (∃ xs, H' v = some (.lst xs)) ∧ H' D = some (.lst (as.map V.ref)) ∧ ∀ (j : Nat) (a : Addr) (d : Deed), as[j]? = some a → ds[j]? = some d → OwD H D i H' a d)
      ⟨_, rfl, fun _ _ _ h => h, fun _ _ _ h => h, e04, ⟨_, hva⟩, hDa4, fun j a d x y => (hai j a d x y).ex e24⟩ (fun i σ H' _ q => by
        obtain ⟨_, _, _, _, _, _, q, _⟩ := q
        exact SqL.of q) ?_ ?_⟩
    · rintro i x σ H5 hi ⟨v4, rfl, n5, m5, e5', ⟨xs5, hv5⟩, hD5, ho5⟩
      rw [List.getElem?_map] at hi
      obtain ⟨a, ha, rfl⟩ := Option.map_eq_some_iff.mp hi
      have hid : i < ds.length := by
        have := (List.getElem?_eq_some_iff.mp ha).1
        omega
      have hd := List.getElem?_eq_getElem hid
      have hO := ho5 i a _ ha hd
      have hO2 := hai i a _ ha hd
      have hok := hS.ok.2.2 _ (List.mem_of_getElem? hd)
      generalize ds[i] = d at hd hO hO2 hok
      have step : ∀ {a : Addr} {d : Deed}, OwD H D i H5 a d → OwD H D (i + 1) H5 a d := fun {a d} h => h.keep (fun c o _ q => q) (fun z => by omega) fun l zs _ _ q => ⟨zs, q, by omega, fun z => by omega⟩
      cases d with
      | op ks =>
        obtain ⟨l, zs, l0, lD, hat, hlz, hlen, _⟩ := hO
        obtain ⟨l', zs', _, _, hat2, hlz2, _⟩ := hO2
        have : H5 a = some (.tup [.str "open", .ref l']) := n5 _ _ (fun xs q => by cases q) (e24 _ _ hat2)
        rw [hat] at this
        obtain rfl : l = l' := by cases this; rfl
        refine ⟨_, rfl, a, _, _, _, rfl, rfl, SqT.of hat, rfl, rfl, _, rfl, if_t (by decide) ?_⟩
        refine ⟨_, rfl, a, _, _, _, rfl, rfl, SqT.of hat, rfl, .inl ⟨rfl, _, SqL.of hlz⟩, l, _, _, rfl, rfl, hlz, ?_, _, rfl, fun c o h1 h2 => noL_upd hlz c o h1 (n5 c o h1 h2), fun c o h1 h2 => Eq.trans (upd_ne (fun z => ?_)) (m5 c o h1 h2), fun c o h => Eq.trans (upd_ne (ne_of_none' h l0)) (e5' _ _ h), ?_, Eq.trans (upd_ne (Ne.symm lD)) hD5, fun j b d' hb hd' => ?_⟩
        · rw [iV_len]
          have := hok.2.1
          exact Nat.lt_of_lt_of_le (show zs.length < 200 by omega) (by decide)
        · rw [z] at h1
          have := e5 _ _ hlz2
          rw [h1] at this
          cases this
        · by_cases q : v = l
          · exact ⟨_, by rw [q]; exact upd_same⟩
          · exact ⟨xs5, Eq.trans (upd_ne q) hv5⟩
        · refine (ho5 j b d' hb hd').keep (noL_upd hlz) (fun z => by omega) fun l2 zs2 _ _ q2 => ?_
          by_cases q : l2 = l
          · subst q
            rw [hlz] at q2
            have h3 : (iV zs).length = (iV zs2).length := by injection q2 with q2; injection q2 with q2; rw [q2]
            rw [iV_len, iV_len] at h3
            exact ⟨zs ++ [9], by rw [upd_same]; unfold iV; rw [List.map_append]; rfl, by rw [List.length_append]; show zs.length + 1 + i ≤ _; omega, fun z => by omega⟩
          · exact ⟨zs2, Eq.trans (upd_ne q) q2, by omega, fun z => by omega⟩
      | po k x =>
        have hat : H5 a = some (.tup [.str "pour", .int k, .int x]) := hO
        exact ⟨_, rfl, a, _, _, _, rfl, rfl, SqT.of hat, rfl, rfl, _, rfl, if_f (by decide) ⟨_, rfl, n5, m5, e5', ⟨xs5, hv5⟩, hD5, fun j b d' hb hd' => step (ho5 j b d' hb hd')⟩⟩
      | sc k p q =>
        obtain ⟨g, hat, _⟩ := id hO
        exact ⟨_, rfl, a, _, _, _, rfl, rfl, SqT.of hat, rfl, rfl, _, rfl, if_f (by decide) ⟨_, rfl, n5, m5, e5', ⟨xs5, hv5⟩, hD5, fun j b d' hb hd' => step (ho5 j b d' hb hd')⟩⟩
      | mv k m p q =>
        obtain ⟨g, hat, _⟩ := id hO
        exact ⟨_, rfl, a, _, _, _, rfl, rfl, SqT.of hat, rfl, rfl, _, rfl, if_f (by decide) ⟨_, rfl, n5, m5, e5', ⟨xs5, hv5⟩, hD5, fun j b d' hb hd' => step (ho5 j b d' hb hd')⟩⟩
      | un k m =>
        have hat : H5 a = some (.tup [.str "unless", .int k, .int m]) := hO
        exact ⟨_, rfl, a, _, _, _, rfl, rfl, SqT.of hat, rfl, rfl, _, rfl, if_f (by decide) ⟨_, rfl, n5, m5, e5', ⟨xs5, hv5⟩, hD5, fun j b d' hb hd' => step (ho5 j b d' hb hd')⟩⟩
    rintro σ H5 ⟨v4, rfl, n5, m5, e5', ⟨xs5, hv5⟩, hD5, _⟩
    refine ⟨_, rfl, .inl ⟨rfl, _, SqL.of hv5⟩, v, _, rfl, rfl, hv5, _, rfl, k y _ (Evl.fresh_back e02 hy) (fun c o h => Eq.trans (upd_ne (ne_of_none' h hv)) (e5' _ _ h)) ?_⟩
    have hyH : H y = none := Evl.fresh_back e02 hy
    have em : Evl.Ex (Nw Hm H4) (Nw H (upd H5 v (.lst []))) := fun c o h => by
      have q := nw_none h
      refine nw_at (Evl.fresh_back (e02.trans e5) q) (Eq.trans (upd_ne (fun z => hvm (z ▸ q))) (m5 _ _ q (Nw.ex _ _ h)))
    exact ⟨dy, fs, v', u', nw_at hyH (noL_upd hv5 _ _ (fun xs q => by cases q) (n5 _ _ (fun xs q => by cases q) hyy)), g1, g2, d1.go em, d2.go em, g0⟩
end
end V2


namespace V2
open PySem L2
open PySem.Spec PyProof.Rows
/-! ## deeds, drawn by another law -/
def spDeedL : Sp := fun vs H Q _ => ∃ (s : Addr) (m o : Int) (x : Str) (n : Nat), vs = [.ref s, .int m, .int o, .str x] ∧ 0 < m ∧ m ≤ 20 ∧ 0 < o ∧ o ≤ 1000 ∧ Word x ∧ Sk H s n ∧ n ≤ 80000 ∧
  ∀ (t : Addr) (d : Deed) (H' : Hp), But s H H' → Sk H' s (n + 24) → DAt (Nw H H') t d → okD m d → (∀ k a, d = .po k a → a ≤ 1000) → Q (.ref t) H'
section
variable {base : Heap} {mg : Str → Option Value} {K : PySem.W.Frag} {w : World} {P : Program}
theorem ok_deedL {f : Addr} {fd : FuncData} (F : Fun K "_law_wl_deed" "_law_wl_deed" s_l_deed f fd) (mR : mg "range" = none) (cC : Cal P w K mg base 1 "_law_coin" p_l_coin spCoin) (cP : Cal P w K mg base 3 "_law_wl_part" p_l_part spPt) (cT : Cal P w K mg base 2 "_law_wl_two" p_l_two spTwo2) : FnOk P w K mg base CX0 4 f fd p_l_deed spDeedL := by
  refine F.ok sc_l_deed (fun vs H Q E h => ?_) (fun cdv A outer s H vs Q E hr h => ?_)
  · obtain ⟨s, m, o, x, n, rfl, _⟩ := h
    rfl
  · obtain ⟨sk, m, o, x, n, rfl, m0, m1, o0, o1, hWx, hS, hn, k⟩ := h
    have nd := sc_l_deed.nd
    have r1 : Room 1 _ := hr.mono (by decide)
    have r2 : Room 2 _ := hr.mono (by decide)
    have two : 2 ≤ sizeLine := by show 2 ≤ sizeLine; decide
    have three : 3 ≤ sizeLine := by show 3 ≤ sizeLine; decide
    have four : 4 ≤ sizeLine := by show 4 ≤ sizeLine; decide
    have n200 := n200e
    refine ⟨_, pss_cons (ps_if (PW.pt (pw_or (pt_cmpR op_eq (pv 3) pe_str (nomark _)) (pw_or1 (PW.pt (pw_and (pt_cmpR op_lt (pv 1) pe_int (nomark _)) (pw_and1 (pt_cmpR op_ne (pv 3) pe_str (nomark _)))))))) (pss_one (ps_ret (pe_tup (pa_cons pe_str (pa_cons (pe_c cC r1 (pa_cons (pv 0) (pa_cons (pv 1) pa_nil))) (pa_cons (pe_c cC r1 (pa_cons (pv 0) (pa_cons (pe_op op_add (pv 2) pe_int) pa_nil))) pa_nil)))))) pss_nil)
      (pss_cons (ps_if (pt_cmpR op_eq (pv 3) pe_str (nomark _)) (pss_one (ps_ret (pe_tup (pa_cons pe_str (pa_cons (pe_c cC r1 (pa_cons (pv 0) (pa_cons (pv 1) pa_nil))) (pa_cons (pe_c cP hr (pa_cons (pv 0) (pa_cons (pe_ifExp (pt_cmpR op_gt (pv 2) pe_int (nomark _)) (pv 2) pe_int) pa_nil))) pa_nil)))))) pss_nil)
      (pss_cons (ps_asg (pe_c cT r2 (pa_cons (pv 0) (pa_cons (pv 1) pa_nil))) (pg_tup rfl (pgs_cons (pg_name (i := 4) nd rfl (Or.inr rfl)) (pgs_cons (pg_name (i := 5) nd rfl (Or.inr rfl)) pgs_nil))))
      (pss_cons (ps_if (pt_cmpR op_eq (pv 3) pe_str (nomark _)) (pss_one (ps_ret (pe_tup (pa_cons pe_str (pa_cons (pv 4) (pa_cons (pv 5) pa_nil)))))) pss_nil)
      (pss_cons (ps_if (pt_cmpR op_eq (pv 3) pe_str (nomark _)) (pss_one (ps_ret (pe_tup (pa_cons pe_str (pa_cons (pv 4) (pa_cons (pv 5) (pa_cons (pe_c cP hr (pa_cons (pv 0) (pa_cons (pe_ifExp (pt_cmpR op_gt (pv 2) pe_int (nomark _)) (pv 2) pe_int) pa_nil))) pa_nil))))))) pss_nil)
      (pss_cons (ps_setLc (i := 6) (own := [("k", 7)]) (g := (gName 7)) (tt := (tOr (tTest (tOp (rIn K false) (tVar 7) (tTup (tCons (tVar 4) (tCons (tVar 5) tNil))))) (tTest (tOp rEq (tCall spCoin [] E0 (tCons (tVar 0) (tCons (tC (.int 3)) tNil))) (tC (.int 0)))))) (te := (tVar 7)) rfl nd rfl rfl (sw_true rfl rfl rfl (by decide +kernel)) (pi_range1 (by rfl) mR (pa_cons (pv 1) pa_nil)) (blkOk_by (N := n_l_deed) (sc := defScope s_l_deed) (by decide +kernel)) (fun _ _ _ _ _ => (pg_name (i := 7) nd rfl (Or.inl rfl))) (fun _ _ _ _ _ => pts_one (PW.pt (pw_or (pt_cmpR op_in_seq (pv 7) (pe_tup (pa_cons (pv 4) (pa_cons (pv 5) pa_nil))) (by rfl)) (pw_or1 (pt_cmpR op_eq (pe_c cC r1 (pa_cons (pv 0) (pa_cons pe_int pa_nil))) pe_int (nomark _)))))) (fun _ _ _ _ _ => (pv 7)))
      (pss_one (ps_ret (pe_tup (pa_cons pe_str (pa_cons (pv 6) pa_nil)))))))))), ?_⟩
    have kk : ∀ (t : Addr) (d : Deed) (H' : Hp) (i : Nat), i ≤ 24 → But sk H H' → Sk H' sk (n + i) → DAt (Nw H H') t d → okD m d → (∀ k a, d = .po k a → a ≤ 1000) → Q (.ref t) H' := fun t d H' i hi b s => k t d H' b (s.le (by omega))
    have bPo : ∀ (k1 : Int) (H1 : Hp), 0 ≤ k1 → k1 < m → But sk H H1 → Sk H1 sk (n + 1) → ∀ (a : Int) (H2 : Hp), 0 ≤ a → a < o + 1 → But sk H1 H2 → Sk H2 sk (n + 2) → ∀ t, H2 t = none → Q (.ref t) (upd H2 t (.tup [.str "pour", .int k1, .int a])) := fun k1 H1 k0 k1' b1 s1 a H2 a0 a1 b2 s2 t ht =>
      k t (.po k1 a) _ ((b1.trans b2).trans (But.of_ex (Evl.Ex.new ht))) ((s2.ex (Evl.Ex.new ht)).le (by omega)) (nw_at (but_none (b1.trans b2) s2 ht) upd_same) ⟨⟨k0, k1'⟩, a0⟩ (fun _ _ e => by cases e; omega)
    by_cases hpo : x = "pour"
    · subst hpo
      refine ⟨_, rfl, rfl, _, rfl, if_t (by decide) (if_t rfl ?_)⟩
      exact ⟨_, rfl, _, rfl, sk, m, n, rfl, hS, by omega, m0, by rw [n200]; omega, fun k1 H1 k0 k1' b1 s1 z1 => ⟨_, rfl, _, rfl, _, _, rfl, rfl, sk, o + 1, n + 1, rfl, s1, by omega, by omega, by rw [n200]; omega, fun a H2 a0 a1 b2 s2 z2 => ⟨three, fun t ht => bPo k1 H1 k0 k1' b1 s1 a H2 a0 a1 b2 s2 t ht⟩⟩⟩
    by_cases hm : m < 2 ∧ x ≠ "scoop"
    · refine ⟨_, rfl, rfl, _, rfl, if_f (decide_eq_false fun q => hpo (by injection q)) ?_⟩
      refine ⟨_, rfl, _, _, rfl, rfl, _, rfl, if_t (decide_eq_true hm.1) ?_⟩
      refine ⟨_, rfl, rfl, _, rfl, ?_⟩
      have hne : (!decide ((V.str x) = V.str "scoop")) = true := by
        rw [decide_eq_false (fun q => hm.2 (by injection q))]
        rfl
      refine if_t hne ?_
      exact ⟨_, rfl, _, rfl, sk, m, n, rfl, hS, by omega, m0, by rw [n200]; omega, fun k1 H1 k0 k1' b1 s1 z1 => ⟨_, rfl, _, rfl, _, _, rfl, rfl, sk, o + 1, n + 1, rfl, s1, by omega, by omega, by rw [n200]; omega, fun a H2 a0 a1 b2 s2 z2 => ⟨three, fun t ht => bPo k1 H1 k0 k1' b1 s1 a H2 a0 a1 b2 s2 t ht⟩⟩⟩
    by_cases hm2 : m < 2
    · have hx : x = "scoop" := Classical.byContradiction fun q => hm ⟨hm2, q⟩
      subst hx
      refine ⟨_, rfl, rfl, _, rfl, if_f (by decide) ?_⟩
      refine ⟨_, rfl, _, _, rfl, rfl, _, rfl, if_t (decide_eq_true hm2) ?_⟩
      refine ⟨_, rfl, rfl, _, rfl, if_f (by decide) ?_⟩
      refine ⟨_, rfl, rfl, _, rfl, if_t (by decide) ?_⟩
      refine ⟨_, rfl, _, rfl, sk, m, n, rfl, hS, by omega, m0, by rw [n200]; omega, fun k1 H1 k0 k1' b1 s1 z1 => ?_⟩
      refine ⟨_, rfl, _, rfl, _, _, rfl, rfl, _, rfl, ?_⟩
      by_cases h12 : 12 < o
      · refine if_t (decide_eq_true h12) ⟨_, rfl, sk, o, n + 1, rfl, o0, o1, s1, by omega, fun g p q H2 b2 s2 hg hgt hP => ⟨three, fun t ht => ?_⟩⟩
        exact k t (.sc k1 p q) _ ((b1.trans b2).trans (But.of_ex (Evl.Ex.new ht))) ((s2.ex (Evl.Ex.new ht)).le (by omega)) ⟨g, nw_at (but_none (b1.trans b2) s2 ht) upd_same, nw_at (but_none b1 s1 hg) (Eq.trans (upd_ne (ne_of_none hgt ht)) hgt)⟩ ⟨⟨k0, k1'⟩, hP⟩ (fun _ _ e => by cases e)
      · refine if_f (decide_eq_false h12) ⟨sk, 6, n + 1, rfl, by decide, by decide, s1, by omega, fun g p q H2 b2 s2 hg hgt hP => ⟨three, fun t ht => ?_⟩⟩
        exact k t (.sc k1 p q) _ ((b1.trans b2).trans (But.of_ex (Evl.Ex.new ht))) ((s2.ex (Evl.Ex.new ht)).le (by omega)) ⟨g, nw_at (but_none (b1.trans b2) s2 ht) upd_same, nw_at (but_none b1 s1 hg) (Eq.trans (upd_ne (ne_of_none hgt ht)) hgt)⟩ ⟨⟨k0, k1'⟩, hP⟩ (fun _ _ e => by cases e)
    have m2' : 2 ≤ m := Int.not_lt.mp hm2
    refine ⟨_, rfl, rfl, _, rfl, if_f (decide_eq_false fun q => hpo (by injection q)) ?_⟩
    refine ⟨_, rfl, _, _, rfl, rfl, _, rfl, if_f (decide_eq_false hm2) (if_f rfl ?_)⟩
    rcases hWx with rfl | rfl | rfl | rfl | rfl
    · exact absurd rfl hpo
    · skip
      refine ⟨_, rfl, rfl, _, rfl, if_t (by decide) ?_⟩
      refine ⟨_, rfl, _, rfl, sk, m, n, rfl, hS, by omega, m0, by rw [n200]; omega, fun k1 H1 k0 k1' b1 s1 z1 => ?_⟩
      refine ⟨_, rfl, _, rfl, _, _, rfl, rfl, _, rfl, ?_⟩
      by_cases h12 : 12 < o
      · refine if_t (decide_eq_true h12) ⟨_, rfl, sk, o, n + 1, rfl, o0, o1, s1, by omega, fun g p q H2 b2 s2 hg hgt hP => ⟨three, fun t ht => ?_⟩⟩
        exact k t (.sc k1 p q) _ ((b1.trans b2).trans (But.of_ex (Evl.Ex.new ht))) ((s2.ex (Evl.Ex.new ht)).le (by omega)) ⟨g, nw_at (but_none (b1.trans b2) s2 ht) upd_same, nw_at (but_none b1 s1 hg) (Eq.trans (upd_ne (ne_of_none hgt ht)) hgt)⟩ ⟨⟨k0, k1'⟩, hP⟩ (fun _ _ e => by cases e)
      · refine if_f (decide_eq_false h12) ⟨sk, 6, n + 1, rfl, by decide, by decide, s1, by omega, fun g p q H2 b2 s2 hg hgt hP => ⟨three, fun t ht => ?_⟩⟩
        exact k t (.sc k1 p q) _ ((b1.trans b2).trans (But.of_ex (Evl.Ex.new ht))) ((s2.ex (Evl.Ex.new ht)).le (by omega)) ⟨g, nw_at (but_none (b1.trans b2) s2 ht) upd_same, nw_at (but_none b1 s1 hg) (Eq.trans (upd_ne (ne_of_none hgt ht)) hgt)⟩ ⟨⟨k0, k1'⟩, hP⟩ (fun _ _ e => by cases e)
    · skip
      refine ⟨_, rfl, rfl, _, rfl, if_f (by decide) ?_⟩
      refine ⟨_, rfl, _, rfl, sk, m, n, rfl, m2', m1, hS, by omega, fun t1 x y H1 b1 s1 ht1 h1 x0 x1 y0 y1 xyn => ⟨t1, _, rfl, SqT.of h1, rfl, _, _, rfl, _, _, rfl, rfl, ?_⟩⟩
      have xy := xyn
      refine ⟨_, rfl, rfl, _, rfl, if_f (by decide) ?_⟩
      refine ⟨_, rfl, rfl, _, rfl, if_t (by decide) ?_⟩
      refine ⟨_, rfl, _, rfl, _, rfl, _, rfl, _, _, rfl, rfl, _, rfl, ?_⟩
      by_cases h12 : 12 < o
      · refine if_t (decide_eq_true h12) ⟨_, rfl, sk, o, n + 2, rfl, o0, o1, s1, by omega, fun g p q H2 b2 s2 hg hgt hP => ⟨four, fun t ht => ?_⟩⟩
        exact k t (.mv x y p q) _ ((b1.trans b2).trans (But.of_ex (Evl.Ex.new ht))) ((s2.ex (Evl.Ex.new ht)).le (by omega)) ⟨g, nw_at (but_none (b1.trans b2) s2 ht) upd_same, nw_at (but_none b1 s1 hg) (Eq.trans (upd_ne (ne_of_none hgt ht)) hgt)⟩ ⟨⟨x0, x1⟩, ⟨y0, y1⟩, xy, hP⟩ (fun _ _ e => by cases e)
      · refine if_f (decide_eq_false h12) ⟨sk, 6, n + 2, rfl, by decide, by decide, s1, by omega, fun g p q H2 b2 s2 hg hgt hP => ⟨four, fun t ht => ?_⟩⟩
        exact k t (.mv x y p q) _ ((b1.trans b2).trans (But.of_ex (Evl.Ex.new ht))) ((s2.ex (Evl.Ex.new ht)).le (by omega)) ⟨g, nw_at (but_none (b1.trans b2) s2 ht) upd_same, nw_at (but_none b1 s1 hg) (Eq.trans (upd_ne (ne_of_none hgt ht)) hgt)⟩ ⟨⟨x0, x1⟩, ⟨y0, y1⟩, xy, hP⟩ (fun _ _ e => by cases e)
    · skip
      refine ⟨_, rfl, rfl, _, rfl, if_f (by decide) ?_⟩
      refine ⟨_, rfl, _, rfl, sk, m, n, rfl, m2', m1, hS, by omega, fun t1 x y H1 b1 s1 ht1 h1 x0 x1 y0 y1 xyn => ⟨t1, _, rfl, SqT.of h1, rfl, _, _, rfl, _, _, rfl, rfl, ?_⟩⟩
      have xy := xyn
      refine ⟨_, rfl, rfl, _, rfl, if_f (by decide) ?_⟩
      refine ⟨_, rfl, rfl, _, rfl, if_f (by decide) ?_⟩
      refine ⟨_, rfl, m, rfl, by omega, by omega, fun D hD => lc_range (n := m.toNat) (fun i H' => ∃ ks : List Int, But sk H1 H' ∧ Sk H' sk (n + 2 + i) ∧ Li H' D ks ∧ AscI x y ks i) ⟨[], But.of_ex (Evl.Ex.new hD), s1.ex (Evl.Ex.new hD), upd_same, AscI.start x y⟩ ?_ ?_⟩
      · rintro i H2 hi ⟨ks, b2, s2, hL, hA⟩
        rw [Int.zero_add]
        have hi20 : i < 20 := by omega
        have D1 := sk_ne s1 hD
        have app : ∀ H3, But sk H2 H3 → Sk H3 sk (n + 2 + (i + 1)) → ∃ acc, H3 D = some (.lst acc) ∧ acc.length < sizeLine ∧ ∃ ks : List Int, But sk H1 (upd H3 D (.lst (acc ++ [.int (i : Int)]))) ∧ Sk (upd H3 D (.lst (acc ++ [.int (i : Int)]))) sk (n + 2 + (i + 1)) ∧ Li (upd H3 D (.lst (acc ++ [.int (i : Int)]))) D ks ∧ AscI x y ks (i + 1) := by
          intro H3 b3 s3
          refine ⟨_, b3 _ _ D1 hL, ?_, ks ++ [(i : Int)], ?_, s3.upd D1, ?_, hA.more⟩
          · rw [iV_len]
            exact Nat.lt_of_le_of_lt hA.len (Nat.lt_of_lt_of_le hi20 (by decide))
          · exact fun c o nc e => Eq.trans (upd_ne (ne_of_none' e hD)) ((b2.trans b3) c o nc e)
          · exact Eq.trans upd_same (by unfold iV; rw [List.map_append]; rfl)
        refine ⟨rfl, _, rfl, _, rfl, _, rfl, two, fun t2 ht2 => ⟨t2, _, rfl, .inr (SqT.of upd_same), rfl, rfl, _, rfl, ?_⟩⟩
        have e2 := Evl.Ex.new (o := .tup [.int x, .int y]) ht2
        by_cases hin : inV (.int (i : Int)) [.int x, .int y] = true
        · refine if_t hin (if_t rfl ⟨_, rfl, app _ (But.of_ex e2) ((s2.ex e2).le (by omega))⟩)
        · have nin : ¬ (x = (i : Int) ∨ y = (i : Int)) := fun z => hin ((inV2 _ _ _).mpr z)
          refine if_f (by simpa using hin) ⟨_, rfl, sk, 3, n + 2 + i, rfl, s2.ex e2, by omega, by decide, by decide, fun c H3 c0 c1 b3 s3 z3 => ⟨rfl, _, rfl, ?_⟩⟩
          have b23 := (But.of_ex (p := sk) e2).trans b3
          by_cases hc : c = 0
          · refine if_t (by rw [hc]; rfl) ⟨_, rfl, app _ b23 s3⟩
          · refine if_f (decide_eq_false fun q => hc (by injection q)) ⟨ks, b2.trans b23, s3, b23 _ _ D1 hL, hA.skip nin⟩
      · rintro H2 ⟨ks, b2, s2, hL, hA⟩
        have lm := hA.len
        have em : ((m.toNat : Nat) : Int) = m := by omega
        refine ⟨_, rfl, two, fun t ht => ?_⟩
        refine k t (.op ks) _ (((b1.trans b2)).trans (But.of_ex (Evl.Ex.new ht))) ((s2.ex (Evl.Ex.new ht)).le (by omega)) ⟨D, nw_at (but_none ((b1.trans b2)) s2 ht) upd_same, nw_at (but_none (b1) s1 hD) (Eq.trans (upd_ne (ne_of_none hL ht)) hL)⟩ ⟨mem2_len (hA.hf x0 (by omega)) (hA.hs y0 (by omega)) xy, by omega, hA.asc, fun z hz => by have := hA.bd z hz; omega⟩ (fun _ _ e => by cases e)
    · skip
      refine ⟨_, rfl, rfl, _, rfl, if_f (by decide) ?_⟩
      refine ⟨_, rfl, _, rfl, sk, m, n, rfl, m2', m1, hS, by omega, fun t1 x y H1 b1 s1 ht1 h1 x0 x1 y0 y1 xyn => ⟨t1, _, rfl, SqT.of h1, rfl, _, _, rfl, _, _, rfl, rfl, ?_⟩⟩
      have xy := xyn
      refine ⟨_, rfl, rfl, _, rfl, if_t (by decide) ?_⟩
      refine ⟨_, rfl, _, rfl, three, fun t ht => ?_⟩
      exact k t (.un x y) _ (b1.trans (But.of_ex (Evl.Ex.new ht))) ((s1.ex (Evl.Ex.new ht)).le (by omega)) (nw_at (but_none b1 s1 ht) upd_same) ⟨⟨x0, x1⟩, ⟨y0, y1⟩, xy⟩ (fun _ _ e => by cases e)
end
end V2


namespace V2
open PySem L2
open PySem.Spec PyProof.Rows
theorem TksAt.set {H H' : Hp} {l q : Addr} {ts : List Tk} {t : Tk} {j : Nat} (h : TksAt H l ts) (hq : H q = some (.tup [wV t.1, .int t.2])) (he : ∀ c o, c ≠ l → H c = some o → H' c = some o) (hl : ∀ as : List Addr, H l = some (.lst (as.map V.ref)) → H' l = some (.lst ((as.map V.ref).set j (.ref q)))) : TksAt H' l (ts.set j t) := by
  obtain ⟨as, h1, h2, h3⟩ := h
  refine ⟨as.set j q, by rw [hl as h1, List.map_set], by rw [List.length_set, List.length_set, h2], fun i a t' ha ht => ?_⟩
  have nl : ∀ {a : Addr} {xs : List V}, H a = some (.tup xs) → a ≠ l := fun h z => by rw [z, h1] at h; cases h
  rw [List.getElem?_set] at ha ht
  split at ha
  · rename_i c
    rw [if_pos c] at ht
    split at ha
    · split at ht
      · cases ha
        cases ht
        exact he _ _ (nl hq) hq
      · cases ht
    · cases ha
  · rename_i c
    rw [if_neg c] at ht
    have := h3 i a t' ha ht
    exact he _ _ (nl this) this
theorem TrD.new {H H' : Hp} {n : Nat} {v : V} {d : PyData} {as : List Addr} (h : TrD (Nw H H') v d as) (hc : Cp n d) : ∀ a ∈ as, H a = none := fun a ha => by
  obtain ⟨xs, z, _⟩ := h.lists hc a ha
  exact nw_none z
section
variable {base : Heap} {mg : Str → Option Value} {K : PySem.W.Frag} {w : World} {P : Program}
end
end V2


namespace V2
open PySem L2
open PySem.Spec PyProof.Rows
def Sts (H G : Hp) (l : Addr) (ts : List Tk) (es : List Deed) (u b : Int) (e : V) : Prop := ∃ qs : List Addr, H l = some (.lst (qs.map V.ref)) ∧ qs.length = es.length + 1 ∧ ∀ (j : Nat) (q : Addr), qs[j]? = some q → StAt G q (es.take j) (wAt ts es u b j).1 (wAt ts es u b j).2 (if j = es.length then e else .non)
theorem Sts.mv {H G H' G' : Hp} {l : Addr} {ts : List Tk} {es : List Deed} {u b : Int} {e : V} (h : Sts H G l ts es u b e) (k : ∀ o, H l = some o → H' l = some o) (x : Evl.Ex G G') : Sts H' G' l ts es u b e := by
  obtain ⟨qs, h1, h2, h3⟩ := h
  exact ⟨qs, k _ h1, h2, fun j q z => (h3 j q z).ex x⟩
theorem Sts.last {H G : Hp} {l : Addr} {ts : List Tk} {es : List Deed} {u b : Int} {e : V} (h : Sts H G l ts es u b e) : ∃ (ys : List V) (q : Addr), H l = some (.lst (ys ++ [.ref q])) ∧ ys.length = es.length ∧ StAt G q es (wEnd ts es u b).1 (wEnd ts es u b).2 e := by
  obtain ⟨qs, h1, h2, h3⟩ := h
  obtain ⟨ys, q, rfl⟩ : ∃ a c, qs = a ++ [c] := last_split (by omega)
  rw [List.length_append] at h2
  have h2 : ys.length = es.length := Nat.succ.inj h2
  have z := h3 es.length q (by rw [← h2, List.getElem?_append_right (Nat.le_refl _), Nat.sub_self]; rfl)
  rw [if_pos rfl, List.take_length] at z
  exact ⟨ys.map V.ref, q, by rw [h1, List.map_append]; rfl, by rw [List.length_map]; exact h2, z⟩
theorem Sts.one {H G : Hp} {l q : Addr} {ts : List Tk} {u b : Int} (hl : H l = some (.lst [.ref q])) (hq : StAt G q [] (ts.map (·.2)) 1 .non) : Sts H G l ts [] u b .non := by
  refine ⟨[q], hl, rfl, fun j p z => ?_⟩
  match j, z with
  | 0, z =>
    cases z
    exact hq
  | j + 1, z => cases z
end V2


namespace V2
open PySem L2
open PySem.Spec PyProof.Rows
/-- a bench and its states, the list of states at l -/
abbrev BLr (B sk l : Addr) (H : Hp) (x ls lt : Addr) (ts : List Tk) (es : List Deed) (u b : Int) (e : V) : Prop := BnAt B sk (woL [l] H) x ls lt ts es (hist ts es u b) (wEnd ts es u b).1 (ts.map (wid u b)) (wEnd ts es u b).2 u b e
/-- what ended is told by the last step -/
def eV (ts : List Tk) (es : List Deed) (u b : Int) : V := match es.getLast? with
  | none => .non
  | some d => if endB (ts.map (wid u b)) (wAt ts es u b (es.length - 1)).1 d = true then .int ((es.length - 1 : Nat) : Int) else .non
/-- no step but the last one ends -/
def Led (ts : List Tk) (es : List Deed) (u b : Int) : Prop := ∀ (j : Nat) (d : Deed), j + 1 < es.length → es[j]? = some d → endB (ts.map (wid u b)) (wAt ts es u b j).1 d = false
structure Bd (B sk l : Addr) (H : Hp) (x ls lt : Addr) (ts : List Tk) (es : List Deed) (u b : Int) : Prop where
  bn : BLr B sk l H x ls lt ts es u b (eV ts es u b)
  st : Sts H (woL [sk, x, ls, lt, l] H) l ts es u b (eV ts es u b)
  led : Led ts es u b
  ns : l ≠ sk
theorem Bd.ex {B sk l : Addr} {H H' : Hp} {x ls lt : Addr} {ts : List Tk} {es : List Deed} {u b : Int} (h : Bd B sk l H x ls lt ts es u b) (e : Evl.Ex H H') : Bd B sk l H' x ls lt ts es u b :=
  ⟨h.bn.go (woL_go e), h.st.mv (e _) (woL_go e), h.led, h.ns⟩
theorem Bd.coin {B sk l : Addr} {H H' : Hp} {x ls lt : Addr} {ts : List Tk} {es : List Deed} {u b : Int} (h : Bd B sk l H x ls lt ts es u b) (k : But sk H H') : Bd B sk l H' x ls lt ts es u b :=
  ⟨h.bn.sep fun p o z => woL_at (woL_ne z) (woL_at (woL_ne (woL_ex _ _ z)) (k _ _ (fun y => woL_ne z (List.mem_singleton.mpr y)) (woL_ex _ _ (woL_ex _ _ z)))), h.st.mv (k _ · h.ns) ((ButL.of_but k List.mem_cons_self).wo fun _ h => h), h.led, h.ns⟩
theorem Bd.ln {B sk l : Addr} {H : Hp} {x ls lt : Addr} {ts : List Tk} {es : List Deed} {u b : Int} (h : Bd B sk l H x ls lt ts es u b) : l ∉ [x, ls, lt] ∧ (∃ dx fs, H x = some (.ins B dx fs) ∧ fs = fs) ∧ sk ∉ [x, ls, lt, l] := by
  obtain ⟨⟨dx, lq, g, lw, tw, as, bs, hx, hls, _, hlt, _, _⟩, ⟨n1, n2, n3, n4⟩, _, _⟩ := h.bn
  have hm2 : l ∈ [l] := List.mem_singleton.mpr rfl
  refine ⟨fun hm => ?_, ⟨_, _, woL_ex _ _ hx, rfl⟩, ?_⟩
  · simp only [List.mem_cons, List.not_mem_nil, or_false] at hm
    rcases hm with h | h | h
    · rw [← h] at hx
      exact woL_ne hx hm2
    · rw [← h] at hls
      exact woL_ne hls hm2
    · rw [← h] at hlt
      exact woL_ne hlt hm2
  · simp only [List.mem_cons, List.not_mem_nil, or_false, not_or]
    exact ⟨n4.symm, n2.symm, n3.symm, h.ns.symm⟩
end V2


namespace V2
open PySem L2
open PySem.Spec PyProof.Rows
/-- an `if`, its two ways told once each -/
theorem ifS_cut {c : TT} {t u : TS} {D : Ends} {σ : L2.St} {H : Hp} (P1 P2 : Hp → Prop) (hc : ∀ T U : Hp → Prop, (∀ H1, P1 H1 → T H1) → (∀ H1, P2 H1 → U H1) → c σ H fun b H1 => if b = true then T H1 else U H1) (h1 : ∀ H1, P1 H1 → t D σ H1) (h2 : ∀ H1, P2 H1 → u D σ H1) : tIfS c t u D σ H := hc _ _ h1 h2
section
variable {base : Heap} {mg : Str → Option Value} {K : PySem.W.Frag} {w : World} {P : Program} {B gI gC gL gW gE qE gU : Addr}
end
end V2


namespace V2
open PySem L2
open PySem.Spec PyProof.Rows
/-! ## shapes and widths, drawn by another law -/
/-- deeds so far, in a list that grows -/
def DsI (H : Hp) (sk ld : Addr) (m : Int) (ds : List Deed) (H' : Hp) : Prop := But sk H H' ∧ DsAt (wo sk H') ld ds ∧ (∀ d ∈ ds, okD m d) ∧ ∀ k a, Deed.po k a ∈ ds → a ≤ 1000
theorem DsI.more {H H1 H2 : Hp} {sk ld t : Addr} {m : Int} {ds : List Deed} {d : Deed} {n i : Nat} (h : DsI H sk ld m ds H1) (lH : H ld = none) (s : Sk H1 sk n) (b : But sk H1 H2) (hd : DAt (Nw H1 H2) t d) (ok : okD m d) (hp : ∀ k a, d = .po k a → a ≤ 1000) (hl : ds.length = i) (hi : i ≤ 100) :
    ∃ acc, H2 ld = some (.lst acc) ∧ acc.length < sizeLine ∧ DsI H sk ld m (ds ++ [d]) (upd H2 ld (.lst (acc ++ [.ref t]))) := by
  obtain ⟨h1, h2, h3, h4⟩ := h
  have hD7 := h2.ex b.wo
  obtain ⟨acc, q1, q2⟩ := ds_list hD7
  have q1 := wo_ex _ _ q1
  have q3 := ds_more hD7 h3 (hd.ex (nw_wo s)) ok (wo_upd (x := .lst (acc ++ [.ref t]))) (wo_app q1)
  refine ⟨acc, q1, ?_, ?_, q3, ?_, ?_⟩
  · rw [q2, hl]
    exact Nat.lt_of_le_of_lt hi (by decide)
  · exact fun c o nc e => Eq.trans (upd_ne (ne_of_none' e lH)) ((h1.trans b) c o nc e)
  · intro d' h'
    rcases List.mem_append.mp h' with h | h
    · exact h3 _ h
    · rw [List.mem_singleton.mp h]
      exact ok
  · intro k' a' h'
    rcases List.mem_append.mp h' with h | h
    · exact h4 _ _ h
    · exact hp k' a' (List.mem_singleton.mp h).symm
section
variable {base : Heap} {mg : Str → Option Value} {K : PySem.W.Frag} {w : World} {P : Program}
theorem ok_width {f : Addr} {fd : FuncData} (F : Fun K "_law_wl_width" "_law_wl_width" s_l_width f fd) (cC : Cal P w K mg base 1 "_law_coin" p_l_coin spCoin) (cR : Cal P w K mg base 2 "_law_wl_ratio" p_l_ratio spRatio) : FnOk P w K mg base CX0 3 f fd p_l_width (spWid 90000 4) := by
  refine F.ok sc_l_width (fun vs H Q E h => ?_) (fun cdv A outer s H vs Q E hr h => ?_)
  · obtain ⟨s, n, rfl, _⟩ := h
    rfl
  · obtain ⟨sk, n, rfl, hS, hn, k⟩ := h
    have nd := sc_l_width.nd
    have n200 := n200e
    have r1 : Room 1 _ := hr.mono (by decide)
    have e15 : (10 : Int) ^ (15 : Int).toNat = 1000000000000000 := by decide
    have w15 : CPowX 10 15 := pow_ok (k := 4) (n := 15) (by decide) (by decide)
    refine ⟨_, pss_cons (ps_set (i := 1) nd rfl (Or.inl rfl) (pe_op op_add pe_int (pe_c cC r1 (pa_cons (pv 0) (pa_cons (pe_ix ix_list (pe_lst (pa_cons pe_int (pa_cons pe_int (pa_cons pe_int (pa_cons (pe_op op_powX pe_int pe_int) pa_nil))))) (pe_c cC r1 (pa_cons (pv 0) (pa_cons pe_int pa_nil))) (fun _ _ => rfl)) pa_nil)))))
      (pss_one (ps_ret (pe_c cR hr (pa_cons (pe_op op_add pe_int (pe_c cC r1 (pa_cons (pv 0) (pa_cons (pe_ix ix_list (pe_lst (pa_cons pe_int (pa_cons pe_int (pa_cons pe_int (pa_cons (pe_op op_powX pe_int pe_int) pa_nil))))) (pe_c cC r1 (pa_cons (pv 0) (pa_cons pe_int pa_nil))) (fun _ _ => rfl)) pa_nil)))) (pa_cons (pv 1) pa_nil))))), ?_⟩
    refine ⟨_, rfl, ?_⟩
    show tOp (rIxL _) (tLst _) (tCall spCoin [] E0 _) _ _ _
    refine pick_read (xs := [.int 1, .int 6, .int 40, .int ((10 : Int) ^ (15 : Int).toNat)]) rfl (by decide) (by decide) rfl hS (by omega) (fun _ _ q => ⟨_, _, rfl, rfl, w15, q⟩) fun v H1 hv b1 s1 => ?_
    obtain ⟨x, rfl, hx⟩ : ∃ x, v = .int x ∧ (0 < x ∧ x ≤ 1000000000000000) := by
      rw [e15] at hv
      simp only [List.mem_cons, List.not_mem_nil, or_false] at hv
      rcases hv with rfl | rfl | rfl | rfl <;> exact ⟨_, rfl, by decide, by decide⟩
    refine ⟨sk, x, n + 1, rfl, s1, by omega, hx.1, by rw [n200]; omega, fun y H2 y0 y1 b2 s2 z2 => ⟨_, _, rfl, rfl, ?_⟩⟩
    refine ⟨_, rfl, ?_⟩
    show tOp (rIxL _) (tLst _) (tCall spCoin [] E0 _) _ _ _
    refine pick_read (xs := [.int 4, .int 30, .int 1000, .int ((10 : Int) ^ (15 : Int).toNat)]) rfl (by decide) (by decide) rfl s2 (by omega) (fun _ _ q => ⟨_, _, rfl, rfl, w15, q⟩) fun v H3 hv b3 s3 => ?_
    obtain ⟨u, rfl, hu⟩ : ∃ x, v = .int x ∧ (0 < x ∧ x ≤ 1000000000000000) := by
      rw [e15] at hv
      simp only [List.mem_cons, List.not_mem_nil, or_false] at hv
      rcases hv with rfl | rfl | rfl | rfl <;> exact ⟨_, rfl, by decide, by decide⟩
    refine ⟨sk, u, n + 3, rfl, s3, by omega, hu.1, by rw [n200]; omega, fun z H4 z0 z1 b4 s4 z4 => ⟨_, _, rfl, rfl, _, rfl, 1 + z, 1 + y, rfl, bn15 (by omega) (by omega), bn15 (by omega) (by omega), by omega, fun t H5 ht e5 h5 => ?_⟩⟩
    have b14 := ((b1.trans b2).trans b3).trans b4
    obtain ⟨q1, q2⟩ := qn_fr y0 (by omega) z0 (by omega)
    exact k t _ _ H5 (b14.trans (But.of_ex e5)) ((s4.ex e5).le (by omega)) (but_none b14 s4 ht) (wo_at (sk_ne s4 ht) h5) q1 q2
theorem ok_great {f : Addr} {fd : FuncData} (F : Fun K "_law_wl_great" "_law_wl_great" s_l_great f fd) (mR : mg "range" = none) (cC : Cal P w K mg base 1 "_law_coin" p_l_coin spCoin) (cV : Cal P w K mg base 2 "_law_wl_vats" p_l_vats spVats) (cD : Cal P w K mg base 4 "_law_wl_deed" p_l_deed spDeedL) : FnOk P w K mg base CX0 5 f fd p_l_great spShape := by
  refine F.ok sc_l_great (fun vs H Q E h => ?_) (fun cdv A outer s H vs Q E hr h => ?_)
  · obtain ⟨s, n, rfl, _⟩ := h
    rfl
  · obtain ⟨sk, n, rfl, hS, hn, k⟩ := h
    have nd := sc_l_great.nd
    have n200 := n200e
    have two : 2 ≤ sizeLine := by show 2 ≤ sizeLine; decide
    have r1 : Room 1 _ := hr.mono (by decide)
    have r2 : Room 2 _ := hr.mono (by decide)
    refine ⟨_, pss_cons (ps_par (i := 1) (j := 2) rfl nd rfl rfl (by decide) rfl rfl (pa_cons (pe_op op_add pe_int (pe_c cC r1 (pa_cons (pv 0) (pa_cons pe_int pa_nil)))) (pa_cons (pe_lst pa_nil) pa_nil)) (by rfl))
      (pss_cons (ps_for PassesOwn.never rfl (pi_range1 (by rfl) mR (pa_cons (pe_c cC r1 (pa_cons (pv 0) (pa_cons (pe_ix ix_list (pe_lst (pa_cons pe_int (pa_cons pe_int pa_nil))) (pe_c cC r1 (pa_cons (pv 0) (pa_cons pe_int pa_nil))) (fun _ _ => rfl)) pa_nil))) pa_nil)) (pg_name (i := 3) nd rfl (Or.inl rfl)) (pss_cons (ps_set (i := 4) nd rfl (Or.inl rfl) (pe_ix ix_list (pe_lst (pa_cons pe_str (pa_cons pe_str (pa_cons pe_str (pa_cons pe_str (pa_cons pe_str pa_nil)))))) (pe_c cC r1 (pa_cons (pv 0) (pa_cons pe_int pa_nil))) (fun _ _ => rfl)))
      (pss_one (ps_expr (pe_bm PySem.F.plainAttrs_list PySem.F.slot_list_append PySem.F.type_list_append mt_append (pv 2) (pa_cons (pe_c cD hr (pa_cons (pv 0) (pa_cons (pv 1) (pa_cons pe_int (pa_cons (pv 4) pa_nil))))) pa_nil))))))
      (pss_one (ps_ret (pe_tup (pa_cons (pe_c cV r2 (pa_cons (pv 0) (pa_cons (pv 1) (pa_cons pe_int pa_nil)))) (pa_cons (pv 2) pa_nil)))))), ?_⟩
    refine ⟨_, rfl, sk, 20, n, rfl, hS, by omega, by decide, by decide, fun c H1 c0 c1 b1 s1 z1 => ⟨_, _, rfl, rfl, Nat.zero_le _, fun ld hld => ⟨_, _, rfl, ?_⟩⟩⟩
    have lH : H ld = none := but_none b1 s1 hld
    have lsk := sk_ne s1 hld
    have e2 := Evl.Ex.new (o := .lst []) hld
    have hD2 : DsI H sk ld (1 + c) [] (upd H1 ld (.lst [])) := ⟨b1.trans (But.of_ex e2), ⟨[], wo_at lsk upd_same, rfl, fun i a t h => (by cases h)⟩, (fun d h => by cases h), fun k a h => by cases h⟩
    have s2 := s1.ex e2
    generalize upd H1 ld (.lst []) = H2 at e2 hD2 s2
    refine ⟨_, rfl, ?_⟩
    show tOp (rIxL _) (tLst _) (tCall spCoin [] E0 _) _ _ _
    refine pick_read (xs := [.int 9, .int 61]) rfl (by decide) (by decide) rfl s2 (by omega) (fun _ _ q => q) fun v H3 hv b3 s3 => ?_
    obtain ⟨x, rfl, x0, x1⟩ : ∃ x, v = .int x ∧ 0 < x ∧ x ≤ 61 := by
      simp only [List.mem_cons, List.not_mem_nil, or_false] at hv
      rcases hv with rfl | rfl <;> exact ⟨_, rfl, by decide, by decide⟩
    refine ⟨sk, x, n + 2, rfl, s3, by omega, x0, by rw [n200]; omega, fun y H4 y0 y1 b4 s4 z4 => ⟨y, rfl, by omega, by omega, ?_⟩⟩
    have hD4 : DsI H sk ld (1 + c) [] H4 := ⟨(hD2.1.trans b3).trans b4, (hD2.2.1.ex b3.wo).ex b4.wo, hD2.2.2⟩
    refine for_range (n := y.toNat) (fun i σ H' => ∃ (ds : List Deed) (v3 v4 : Option V), σ = [some (.ref sk), some (.int (1 + c)), some (.ref ld), v3, v4] ∧ Sk H' sk (n + 3 + 25 * i) ∧ ds.length = i ∧ DsI H sk ld (1 + c) ds H')
      ⟨[], none, none, rfl, s4, rfl, hD4⟩ ?_ ?_
    · rintro i σ H5 hi ⟨ds, v3, v4, rfl, s5, hl, hD5⟩
      rw [Int.zero_add]
      show tOp (rIxL _) (tLst _) (tCall spCoin [] E0 _) _ _ _
      refine pick_read (xs := (["open", "pour", "scoop", "move", "unless"] : List Str).map V.str) rfl (by decide) (by decide) rfl s5 (by omega) (fun _ _ q => q) fun v H6 hv b6 s6 => ?_
      obtain ⟨x, hx, rfl⟩ := List.mem_map.mp hv
      have wx : Word x := by
        simp only [List.mem_cons, List.not_mem_nil, or_false] at hx
        rcases hx with rfl | rfl | rfl | rfl | rfl <;> (unfold Word; decide)
      have hD6 : DsI H sk ld (1 + c) ds H6 := ⟨hD5.1.trans b6, hD5.2.1.ex b6.wo, hD5.2.2⟩
      obtain ⟨acc0, p1, p2⟩ := ds_list hD6.2.1
      refine ⟨_, rfl, .inl ⟨rfl, _, SqL.of (wo_ex _ _ p1)⟩, ?_⟩
      refine ⟨_, rfl, _, rfl, _, rfl, sk, 1 + c, 1000, x, n + 3 + 25 * i + 1, rfl, by omega, by omega, by decide, by decide, wx, s6, by omega, fun t d H7 b7 s7 hd hdo hdp => ?_⟩
      obtain ⟨acc, q1, q2, q3⟩ := hD6.more lH s6 b7 hd hdo hdp hl (by omega)
      exact ⟨ld, acc, _, rfl, rfl, q1, q2, ds ++ [d], _, _, rfl, (s7.upd lsk).le (by omega), by rw [List.length_append, hl]; rfl, q3⟩
    · rintro σ H5 ⟨ds, v3, v4, rfl, s5, hl, hD5⟩
      refine ⟨_, rfl, _, rfl, sk, 1 + c, 1000, _, rfl, by omega, by omega, by decide, by decide, s5, by omega, fun lv ts H6 b6 s6 lvn hT hok2 hlen hsz => ?_⟩
      refine ⟨_, rfl, two, fun t ht => ?_⟩
      have e7 := Evl.Ex.new (o := .tup [.ref lv, .ref ld]) ht
      have b7 := But.of_ex (p := sk) e7
      refine k t ts ds _ ((hD5.1.trans b6).trans b7) ((s6.ex e7).le (by omega)) ⟨lv, ld, wo_at (sk_ne s6 ht) upd_same, hT.ex b7.wo, (hD5.2.1.ex b6.wo).ex b7.wo⟩ ⟨⟨hok2, by omega, ?_⟩, hsz, hD5.2.2.2⟩
      rw [hlen]
      exact hD5.2.2.1
end
end V2


namespace V2
open PySem L2
open PySem.Spec PyProof.Rows
/-! ## a plan, drawn by another law -/
theorem two_b {R : Bool → Hp → Prop} {H : Hp} (k : Bool) (h1 : R true H) (h2 : R false H) : R k H := by
  cases k
  · exact h2
  · exact h1
/-- a test that reads only: both answers -/
def Rd (t : TT) (σ : L2.St) (H : Hp) : Prop := ∀ R : Bool → Hp → Prop, R true H → R false H → t σ H R
theorem Rd.and {t u : TT} {σ : L2.St} {H : Hp} (ht : Rd t σ H) (hu : Rd u σ H) : Rd (tAnd t u) σ H := fun R h1 h2 => ht _ (if_t rfl (hu R h1 h2)) (if_f (by decide) h2)
theorem Rd.or {t u : TT} {σ : L2.St} {H : Hp} (ht : Rd t σ H) (hu : Rd u σ H) : Rd (tOr t u) σ H := fun R h1 h2 => ht _ (if_t rfl h1) (if_f (by decide) (hu R h1 h2))
/-- what is drawn so far -/
structure PI (H : Hp) (sk ld lv ll : Addr) (ts : List Tk) (m : Int) (ds : List Deed) (H' : Hp) : Prop where
  but : But sk H H'
  dsk : ld ≠ sk
  lsk : ll ≠ sk
  dH : H ld = none
  dv : ld ≠ lv
  dl : ld ≠ ll
  li : ∃ a b : Int, Li H' ll [a, b]
  lH : H ll = none
  da : DsAt (wo ll (wo sk H')) ld ds
  ta : TksAt (wo ll (wo sk H')) lv ts
  ok : ∀ d ∈ ds, okD m d
  po : ∀ k a, Deed.po k a ∈ ds → a ≤ 1000
theorem PI.go {H H1 H2 : Hp} {sk ld lv ll : Addr} {ts : List Tk} {m : Int} {ds : List Deed} (h : PI H sk ld lv ll ts m ds H1) (b : But sk H1 H2) : PI H sk ld lv ll ts m ds H2 := by
  obtain ⟨x, y, hl⟩ := h.li
  exact ⟨h.but.trans b, h.dsk, h.lsk, h.dH, h.dv, h.dl, ⟨x, y, b _ _ h.lsk hl⟩, h.lH, h.da.ex (ex_wo b.wo), h.ta.ex (ex_wo b.wo), h.ok, h.po⟩
theorem PI.more {H H1 H2 : Hp} {sk ld lv ll t : Addr} {ts : List Tk} {m : Int} {ds : List Deed} {d : Deed} (h : PI H sk ld lv ll ts m ds H1) (b : But sk H1 H2) (hd : DAt (wo ll (wo sk H2)) t d) (ok : okD m d) (hp : ∀ k a, d = .po k a → a ≤ 1000) (hl : ds.length ≤ 100) :
    ∃ acc, H2 ld = some (.lst acc) ∧ acc.length < sizeLine ∧ PI H sk ld lv ll ts m (ds ++ [d]) (upd H2 ld (.lst (acc ++ [.ref t]))) ∧ acc.length = ds.length ∧ DAt (upd H2 ld (.lst (acc ++ [.ref t]))) t d := by
  have h2 := h.go b
  obtain ⟨acc, q1, q2⟩ := ds_list h2.da
  have q1 := wo_ex _ _ (wo_ex _ _ q1)
  have q3 := ds_more h2.da h2.ok hd ok (wo_upd2 (x := .lst (acc ++ [.ref t]))) (wo_app2 q1)
  obtain ⟨x, y, hli⟩ := h2.li
  refine ⟨acc, q1, ?_, ⟨?_, h2.dsk, h2.lsk, h2.dH, h2.dv, h2.dl, ⟨x, y, Eq.trans (upd_ne (Ne.symm h2.dl)) hli⟩, h2.lH, q3, ?_, ?_, ?_⟩, q2, dat_keep' hd ok h2.da (fun c o nc q => Eq.trans (upd_ne nc) (wo_ex _ _ (wo_ex _ _ q)))⟩
  · rw [q2]
    exact Nat.lt_of_le_of_lt hl (by decide)
  · exact fun c o nc e => Eq.trans (upd_ne (ne_of_none' e h2.dH)) (h2.but c o nc e)
  · exact tks_keep h2.ta (wo_at h2.dl (wo_at h2.dsk q1)) (Ne.symm h2.dv) (wo_upd2 (x := .lst (acc ++ [.ref t])))
  · intro d' h'
    rcases List.mem_append.mp h' with h | h
    · exact h2.ok _ h
    · rw [List.mem_singleton.mp h]
      exact ok
  · intro k' a' h'
    rcases List.mem_append.mp h' with h | h
    · exact h2.po _ _ h
    · exact hp k' a' (List.mem_singleton.mp h).symm
theorem wo_wo_upd {q p : Addr} {H : Hp} {x : HO} : Evl.Ex (wo q (wo p H)) (wo q (wo p (upd H q x))) := fun b o h => wo_at (wo_ne h) (wo_at (wo_ne (wo_ex _ _ h)) (Eq.trans (upd_ne (wo_ne h)) (wo_ex _ _ (wo_ex _ _ h))))
theorem PI.set {H H1 : Hp} {sk ld lv ll : Addr} {ts : List Tk} {m : Int} {ds : List Deed} {a b : Int} (h : PI H sk ld lv ll ts m ds H1) : PI H sk ld lv ll ts m ds (upd H1 ll (.lst (iV [a, b]))) :=
  ⟨fun c o nc e => Eq.trans (upd_ne (ne_of_none' e h.lH)) (h.but c o nc e), h.dsk, h.lsk, h.dH, h.dv, h.dl, ⟨a, b, upd_same⟩, h.lH, h.da.ex wo_wo_upd, h.ta.ex wo_wo_upd, h.ok, h.po⟩
theorem PI.new {H H1 : Hp} {sk ld lv ll l2 : Addr} {ts : List Tk} {m : Int} {ds : List Deed} {a b : Int} {n : Nat} (h : PI H sk ld lv ll ts m ds H1) (s : Sk H1 sk n) (hl : H1 l2 = none) : PI H sk ld lv l2 ts m ds (upd H1 l2 (.lst (iV [a, b]))) := by
  have e := Evl.Ex.new (o := .lst (iV [a, b])) hl
  have ex : Evl.Ex (wo ll (wo sk H1)) (wo l2 (wo sk (upd H1 l2 (.lst (iV [a, b]))))) := fun c o q => by
    have q1 := wo_ex _ _ q
    exact wo_at (ne_of_none' (wo_ex _ _ q1) hl) (wo_at (wo_ne q1) (e _ _ (wo_ex _ _ q1)))
  obtain ⟨as, w, _⟩ := h.da
  exact ⟨h.but.trans (But.of_ex e), h.dsk, sk_ne s hl, h.dH, h.dv, ne_of_none' (wo_ex _ _ (wo_ex _ _ w)) hl, ⟨a, b, upd_same⟩, but_none h.but s hl, h.da.ex ex, h.ta.ex ex, h.ok, h.po⟩
theorem nw_wo2 {q p : Addr} {H H' : Hp} {n : Nat} {o : HO} (s : Sk H p n) (hq : H q = some o) : Evl.Ex (Nw H H') (wo q (wo p H')) := fun b o' h => wo_at (fun z => by
  rw [z] at h
  rw [nw_none h] at hq
  cases hq) (nw_wo s _ _ h)
theorem ex_wo2 {q p : Addr} {G G' : Hp} (e : Evl.Ex G G') : Evl.Ex (wo q (wo p G)) (wo q (wo p G')) := ex_wo (ex_wo e)
def spPlan : Sp := fun vs H Q _ => ∃ (s : Addr) (x y : Int) (n : Nat), vs = [.ref s, .int x, .int y] ∧ Sk H s n ∧ n ≤ 70000 ∧
  ∀ (t : Addr) (ts : List Tk) (ds : List Deed) (H' : Hp), But s H H' → Sk H' s (n + 3000) → ShAt (wo s H') t ts ds → ShW ts ds → Q (.ref t) H'
section
variable {base : Heap} {mg : Str → Option Value} {K : PySem.W.Frag} {w : World} {P : Program}
theorem ok_plan {f : Addr} {fd : FuncData} (F : Fun K "_law_wl_plan" "_law_wl_plan" s_l_plan f fd) (mL : mg "len" = none) (mI : mg "int" = none) (cC : Cal P w K mg base 1 "_law_coin" p_l_coin spCoin) (cV : Cal P w K mg base 2 "_law_wl_vats" p_l_vats spVats) (cD : Cal P w K mg base 4 "_law_wl_deed" p_l_deed spDeedL) : FnOk P w K mg base CX0 5 f fd p_l_plan spPlan := by
  refine F.ok sc_l_plan (fun vs H Q E h => ?_) (fun cdv A outer s H vs Q E hr h => ?_)
  · obtain ⟨s, x, y, n, rfl, _⟩ := h
    rfl
  · obtain ⟨sk, op, stp, n, rfl, hS, hn, k⟩ := h
    have nd := sc_l_plan.nd
    have n200 := n200e
    have two : 2 ≤ sizeLine := by show 2 ≤ sizeLine; decide
    have three : 3 ≤ sizeLine := by show 3 ≤ sizeLine; decide
    have r1 : Room 1 _ := hr.mono (by decide)
    have r2 : Room 2 _ := hr.mono (by decide)
    refine ⟨_, pss_cons (ps_par (i := 3) (j := 4) rfl nd rfl rfl (by decide) rfl rfl (pa_cons (pe_ix ix_list (pe_lst (pa_cons pe_int (pa_cons pe_int pa_nil))) (pe_c cC r1 (pa_cons (pv 0) (pa_cons pe_int pa_nil))) (fun _ _ => rfl)) (pa_cons (pe_lst (pa_cons (pv 1) (pa_cons (pv 2) pa_nil))) pa_nil)) (by rfl))
      (pss_cons (ps_par (i := 5) (j := 6) rfl nd rfl rfl (by decide) rfl rfl (pa_cons (pe_c cV r2 (pa_cons (pv 0) (pa_cons (pe_op op_add pe_int (pe_c cC r1 (pa_cons (pv 0) (pa_cons pe_int pa_nil)))) (pa_cons (pv 3) pa_nil)))) (pa_cons (pe_lst pa_nil) pa_nil)) (by rfl))
      (pss_cons (ps_set (i := 7) nd rfl (Or.inl rfl) (pe_c cC r1 (pa_cons (pv 0) (pa_cons pe_int pa_nil))))
      (pss_cons (ps_while PassesOwn.never (pt_cmpR op_lt (pe_callB call_len_seq (by rfl) mL PySem.boot_len (pa_cons (pv 6) pa_nil)) (pv 7) (nomark _)) (pss_cons (ps_set (i := 8) nd rfl (Or.inl rfl) (pe_ix ix_list (pe_lst (pa_cons pe_str (pa_cons pe_str (pa_cons pe_str (pa_cons pe_str (pa_cons pe_str (pa_cons pe_str (pa_cons pe_str pa_nil)))))))) (pe_c cC r1 (pa_cons (pv 0) (pa_cons pe_int pa_nil))) (fun _ _ => rfl)))
      (Evl.pss_cut (ps_if (PW.pt (pw_or (PW.pt (pw_and (pt_cmpR op_eq (pv 8) pe_str (nomark _)) (pw_and1 (pt_cmpR op_lt (pe_ix ix_list (pv 4) pe_int (fun _ _ => rfl)) pe_int (nomark _))))) (pw_or1 (PW.pt (pw_and (pt_cmpR op_eq (pv 8) pe_str (nomark _)) (pw_and1 (pt_cmpR op_lt (pe_ix ix_list (pv 4) pe_int (fun _ _ => rfl)) pe_int (nomark _)))))))) (pss_one (ps_set (i := 8) nd rfl (Or.inl rfl) (pe_ix ix_list (pe_lst (pa_cons pe_str (pa_cons pe_str (pa_cons pe_str pa_nil)))) (pe_c cC r1 (pa_cons (pv 0) (pa_cons pe_int pa_nil))) (fun _ _ => rfl)))) pss_nil)
      (pss_cons (ps_expr (pe_bm PySem.F.plainAttrs_list PySem.F.slot_list_append PySem.F.type_list_append mt_append (pv 6) (pa_cons (pe_c cD hr (pa_cons (pv 0) (pa_cons (pe_callB call_len_seq (by rfl) mL PySem.boot_len (pa_cons (pv 5) pa_nil)) (pa_cons (pv 3) (pa_cons (pv 8) pa_nil))))) pa_nil)))
      (Evl.pss_cut (ps_if (PW.pt (pw_and (pt_cmpR op_eq (pe_ix ix_tup (pe_ix ix_list (pv 6) (pe_un un_neg pe_int) (fun _ _ => rfl)) pe_int (fun _ _ => rfl)) pe_str (nomark _)) (pw_and (pt_cmpR op_gt (pe_ix ix_list (pv 4) pe_int (fun _ _ => rfl)) pe_int (nomark _)) (pw_and (pt_cmpR op_lt (pe_callB call_len_seq (by rfl) mL PySem.boot_len (pa_cons (pv 6) pa_nil)) (pv 7) (nomark _)) (pw_and1 (pt_cmpR op_gt (pe_c cC r1 (pa_cons (pv 0) (pa_cons pe_int pa_nil))) pe_int (nomark _))))))) (pss_cons (ps_expr (pe_bm PySem.F.plainAttrs_list PySem.F.slot_list_append PySem.F.type_list_append mt_append (pv 6) (pa_cons (pe_tup (pa_cons pe_str (pa_cons (pe_ix ix_tup (pe_ix ix_list (pv 6) (pe_un un_neg pe_int) (fun _ _ => rfl)) pe_int (fun _ _ => rfl)) (pa_cons (pe_ix ix_tup (pe_ix ix_list (pv 6) (pe_un un_neg pe_int) (fun _ _ => rfl)) pe_int (fun _ _ => rfl)) pa_nil)))) pa_nil)))
      (pss_one (ps_asg (pe_op op_sub (pe_ix ix_list (pv 4) pe_int (fun _ _ => rfl)) pe_int) (pg_sub (pv 4) pe_int set_list)))) pss_nil)
      (pss_one (ps_set (i := 4) nd rfl (Or.inl rfl) (pe_lst (pa_cons (pe_op op_sub (pe_ix ix_list (pv 4) pe_int (fun _ _ => rfl)) (pe_callTy call_int1 (by rfl) mI (by decide +kernel) (pa_cons (pe_cmpR op_eq (pv 8) pe_str (nomark _)) pa_nil))) (pa_cons (pe_op op_sub (pe_ix ix_list (pv 4) pe_int (fun _ _ => rfl)) (pe_callTy call_int1 (by rfl) mI (by decide +kernel) (pa_cons (pe_cmpR op_eq (pv 8) pe_str (nomark _)) pa_nil))) pa_nil))))))))))
      (pss_one (ps_ret (pe_tup (pa_cons (pv 5) (pa_cons (pv 6) pa_nil)))))))), ?_⟩
    show tOp (rIxL _) (tLst _) (tCall spCoin [] E0 _) _ _ _
    refine pick_read (xs := [.int 3, .int 12]) rfl (by decide) (by decide) rfl hS (by omega) (fun _ _ q => q) fun v H1 hv b1 s1 => ?_
    obtain ⟨o, rfl, o0, o1⟩ : ∃ x, v = .int x ∧ 0 < x ∧ x ≤ 12 := by
      simp only [List.mem_cons, List.not_mem_nil, or_false] at hv
      rcases hv with rfl | rfl <;> exact ⟨_, rfl, by decide, by decide⟩
    refine ⟨_, rfl, _, rfl, two, fun ll hll => ⟨_, _, rfl, ?_⟩⟩
    have lskl := sk_ne s1 hll
    have llH : H ll = none := but_none b1 s1 hll
    have e2 := Evl.Ex.new (o := .lst [.int op, .int stp]) hll
    have hL2 : Li (upd H1 ll (.lst [.int op, .int stp])) ll [op, stp] := upd_same
    have b2 := b1.trans (But.of_ex (p := sk) e2)
    have s2 := s1.ex e2
    generalize upd H1 ll (.lst [.int op, .int stp]) = H2 at e2 hL2 b2 s2
    refine ⟨_, rfl, _, rfl, sk, 4, n + 1, rfl, s2, by omega, by decide, by decide, fun c H3 c0 c1 b3 s3 z3 => ⟨_, _, rfl, rfl, _, rfl, sk, 1 + c, o, _, rfl, by omega, by omega, o0, by omega, s3, by omega, fun lv ts H4 b4 s4 hlv hT hokT hlen hsz => ?_⟩⟩
    refine ⟨Nat.zero_le _, fun ld hld => ⟨_, _, rfl, ?_⟩⟩
    have e5 := Evl.Ex.new (o := .lst []) hld
    have hL4 := b4 _ _ lskl (b3 _ _ lskl hL2)
    have b04 := (b2.trans b3).trans b4
    have lvl' : lv ≠ ll := fun z => by
      rw [z, b3 _ _ lskl hL2] at hlv
      cases hlv
    have hP : PI H sk ld lv ll ts (1 + c) [] (upd H4 ld (.lst [])) := by
      have ldl : ld ≠ ll := Ne.symm (ne_of_none' hL4 hld)
      refine ⟨b04.trans (But.of_ex e5), sk_ne s4 hld, lskl, but_none b04 s4 hld, ?_, ldl, ⟨op, stp, e5 _ _ hL4⟩, llH, ⟨[], wo_at ldl (wo_at (sk_ne s4 hld) upd_same), rfl, fun i a t h => (by cases h)⟩, ?_, (fun d h => by cases h), fun k a h => by cases h⟩
      · obtain ⟨as, w, _⟩ := hT
        exact Ne.symm (ne_of_none' (wo_ex _ _ w) hld)
      · obtain ⟨as, w1, w2, w3⟩ := hT
        refine ⟨as, wo_at lvl' ((But.of_ex e5).wo _ _ w1), w2, fun i a t x y => ?_⟩
        have w4 := w3 i a t x y
        refine wo_at (fun z => ?_) ((But.of_ex e5).wo _ _ w4)
        have w5 := wo_ex _ _ w4
        have hL4' : H4 ll = some (.lst (iV [op, stp])) := hL4
        rw [z, hL4'] at w5
        cases w5
    have s5 := s4.ex e5
    generalize upd H4 ld (.lst []) = H5 at hP s5
    refine ⟨_, rfl, sk, 7, _, rfl, s5, by omega, by decide, by decide, fun y H6 y0 y1 b6 s6 z6 => ?_⟩
    have hP6 := hP.go b6
    clear hP
    refine ⟨fun q σ H' => ∃ (ds : List Deed) (ll : Addr) (v8 : Option V), σ = [some (.ref sk), some (.int op), some (.int stp), some (.int o), some (.ref ll), some (.ref lv), some (.ref ld), some (.int y), v8] ∧ PI H sk ld lv ll ts (1 + c) ds H' ∧ Sk H' sk (n + 100 + 60 * ds.length) ∧ ds.length + q = y.toNat, ⟨y.toNat, [], ll, none, rfl, hP6, s6.le (by show _ ≤ n + 100 + 60 * 0; omega), Nat.zero_add _⟩, ?_⟩
    rintro q σ H7 ⟨ds, ll, v8, rfl, hP7, s7, hq⟩
    obtain ⟨acc7, p1, p2⟩ := ds_list hP7.da
    have p1 := wo_ex _ _ (wo_ex _ _ p1)
    refine ⟨_, rfl, ld, _, rfl, .inl (SqL.of p1), _, rfl, _, _, rfl, rfl, _, rfl, ?_⟩
    rw [p2]
    by_cases hlt : ((ds.length : Nat) : Int) < y
    · refine if_t (decide_eq_true hlt) ?_
      refine ⟨fun σ H' => ∃ (ds' : List Deed) (ll' : Addr) (v8 : Option V), σ = [some (.ref sk), some (.int op), some (.int stp), some (.int o), some (.ref ll'), some (.ref lv), some (.ref ld), some (.int y), v8] ∧ PI H sk ld lv ll' ts (1 + c) ds' H' ∧ Sk H' sk (n + 100 + 60 * ds'.length) ∧ ds'.length ≤ y.toNat ∧ ds.length < ds'.length, ?_, ?_⟩
      · rintro σ' H' ⟨ds', ll', v8', rfl, h1, h2, h3, h4⟩
        exact ⟨y.toNat - ds'.length, by omega, ds', ll', v8', rfl, h1, h2, by omega⟩
      show tOp (rIxL _) (tLst _) (tCall spCoin [] E0 _) _ _ _
      refine pick_read (xs := (["open", "unless", "open", "pour", "open", "scoop", "move"] : List Str).map V.str) rfl (by decide) (by decide) rfl s7 (by omega) (fun _ _ q => q) fun v H8 hv b8 s8 => ?_
      obtain ⟨x0, hx0, rfl⟩ := List.mem_map.mp hv
      have wx0 : Word x0 := by
        simp only [List.mem_cons, List.not_mem_nil, or_false] at hx0
        rcases hx0 with rfl | rfl | rfl | rfl | rfl | rfl | rfl <;> (unfold Word; decide)
      have hP8 := hP7.go b8
      obtain ⟨la, lb, hli⟩ := hP8.li
      refine ⟨fun σ H' => ∃ x : Str, σ = [some (.ref sk), some (.int op), some (.int stp), some (.int o), some (.ref ll), some (.ref lv), some (.ref ld), some (.int y), some (.str x)] ∧ Word x ∧ But sk H8 H' ∧ Sk H' sk (n + 100 + 60 * ds.length + 2), ?_, ?_⟩
      · refine Rd.or (Rd.and (fun R h1 h2 => ⟨_, rfl, rfl, _, rfl, two_b _ h1 h2⟩) (fun R h1 h2 => ⟨_, rfl, ll, _, _, _, rfl, rfl, SqL.of hli, rfl, _, _, rfl, rfl, _, rfl, two_b _ h1 h2⟩)) (Rd.and (fun R h1 h2 => ⟨_, rfl, rfl, _, rfl, two_b _ h1 h2⟩) (fun R h1 h2 => ⟨_, rfl, ll, _, _, _, rfl, rfl, SqL.of hli, rfl, _, _, rfl, rfl, _, rfl, two_b _ h1 h2⟩)) _ (if_t rfl ?_) (if_f (by decide) ⟨x0, rfl, wx0, But.refl _ _, s8.le (by omega)⟩)
        show tOp (rIxL _) (tLst _) (tCall spCoin [] E0 _) _ _ _
        refine pick_read (xs := (["pour", "scoop", "move"] : List Str).map V.str) rfl (by decide) (by decide) rfl s8 (by omega) (fun _ _ q => q) fun v H9 hv b9 s9 => ?_
        obtain ⟨x1, hx1, rfl⟩ := List.mem_map.mp hv
        refine ⟨x1, rfl, ?_, b9, s9⟩
        simp only [List.mem_cons, List.not_mem_nil, or_false] at hx1
        rcases hx1 with rfl | rfl | rfl <;> (unfold Word; decide)
      rintro σ H9 ⟨x, rfl, wx, b9, s9⟩
      have hP9 := hP8.go b9
      obtain ⟨acc9, t1, t2⟩ := ds_list hP9.da
      obtain ⟨accT, u1, u2⟩ := tks_list hP9.ta
      have t1 := wo_ex _ _ (wo_ex _ _ t1)
      have u1 := wo_ex _ _ (wo_ex _ _ u1)
      have hts : ((ts.length : Nat) : Int) = 1 + c := hlen
      refine ⟨_, rfl, .inl ⟨rfl, _, SqL.of t1⟩, ?_⟩
      refine ⟨_, rfl, _, rfl, lv, _, rfl, .inl (SqL.of u1), _, rfl, _, rfl, sk, ((accT.length : Nat) : Int), o, x, _, rfl, by rw [u2]; omega, by rw [u2]; omega, o0, by omega, wx, s9, by omega, fun t d H10 b10 s10 hd hdo hdp => ?_⟩
      rw [u2, hts] at hdo
      obtain ⟨la9, lb9, hli9⟩ := hP9.li
      have hd2 : DAt (wo ll (wo sk H10)) t d := hd.ex (nw_wo2 s9 hli9)
      obtain ⟨acc, a1, a2, hP11, lac, hdt⟩ := hP9.more b10 hd2 hdo hdp (by omega)
      refine ⟨ld, acc, _, rfl, rfl, a1, a2, ?_⟩
      have s11 := s10.upd (o := .lst (acc ++ [.ref t])) hP9.dsk
      have hl11 : upd H10 ld (.lst (acc ++ [.ref t])) ld = some (.lst (acc ++ [.ref t])) := upd_same
      have lacc : (acc ++ [V.ref t]).length = ds.length + 1 := by rw [List.length_append, lac]; rfl
      generalize upd H10 ld (.lst (acc ++ [.ref t])) = H11 at hP11 s11 hl11 hdt
      obtain ⟨la11, lb11, hli11⟩ := hP11.li
      -- two in a row
      refine ⟨fun σ H' => ∃ (ds' : List Deed), σ = [some (.ref sk), some (.int op), some (.int stp), some (.int o), some (.ref ll), some (.ref lv), some (.ref ld), some (.int y), some (.str x)] ∧ PI H sk ld lv ll ts (1 + c) ds' H' ∧ Sk H' sk (n + 100 + 60 * ds.length + 30) ∧ ds'.length ≤ y.toNat ∧ ds.length < ds'.length, ?_, ?_⟩
      · refine ifS_cut (fun H' => But sk H11 H' ∧ Sk H' sk (n + 100 + 60 * ds.length + 27) ∧ (∃ j m, d = .un j m) ∧ ds.length + 1 < y.toNat) (fun H' => But sk H11 H' ∧ Sk H' sk (n + 100 + 60 * ds.length + 27)) (fun T U hT hU => ?_) ?_ ?_
        · rcases dat_unless hdt with ⟨j, m, rfl⟩ | ⟨wd, r, hxr, hdec⟩
          · have ha : H11 t = some (.tup [.str "unless", .int j, .int m]) := hdt
            refine ⟨_, rfl, _, rfl, ld, _, _, _, rfl, rfl, SqL.of hl11, at_last _ _, t, _, _, _, rfl, rfl, SqT.of ha, rfl, rfl, _, rfl, if_t (by decide) ?_⟩
            refine ⟨_, rfl, ll, _, _, _, rfl, rfl, SqL.of hli11, rfl, _, _, rfl, rfl, _, rfl, ite2 (fun _ => ?_) (fun _ => if_f (by decide) (hU _ ⟨But.refl _ _, s11.le (by omega)⟩))⟩
            refine ⟨_, rfl, ld, _, rfl, .inl (SqL.of hl11), _, rfl, _, _, rfl, rfl, _, rfl, ite2 (fun hq => ?_) (fun _ => if_f (by decide) (hU _ ⟨But.refl _ _, s11.le (by omega)⟩))⟩
            have hq := of_decide_eq_true hq
            rw [lacc] at hq
            refine ⟨_, rfl, sk, 3, _, rfl, s11, by omega, by decide, by decide, fun z H12 z0 z1 b12 s12 z2 => ⟨_, _, rfl, rfl, _, rfl, ite2 (fun _ => hT _ ⟨b12, s12.le (by omega), ⟨j, m, rfl⟩, by omega⟩) (fun _ => hU _ ⟨b12, s12.le (by omega)⟩)⟩⟩
          · exact ⟨_, rfl, _, rfl, ld, _, _, _, rfl, rfl, SqL.of hl11, at_last _ _, t, _, _, _, rfl, rfl, SqT.of hxr, atI_nat (j := 0) rfl, rfl, _, rfl, if_f hdec (if_f (by decide) (hU _ ⟨But.refl _ _, s11.le (by omega)⟩))⟩
        · rintro H12 ⟨b12, s12, ⟨j, m, rfl⟩, hlt12⟩
          have hP12 := hP11.go b12
          have ha : H11 t = some (.tup [.str "unless", .int j, .int m]) := hdt
          have tsk : t ≠ sk := fun z => by
            obtain ⟨a1, a2, a3, a4, _⟩ := s11
            rw [z, a4] at ha
            cases ha
          have ha12 := b12 _ _ tsk ha
          have hl12 := b12 _ _ hP9.dsk hl11
          refine ⟨_, rfl, .inl ⟨rfl, _, SqL.of hl12⟩, ?_⟩
          refine ⟨_, rfl, _, rfl, ld, _, _, _, rfl, rfl, SqL.of hl12, at_last _ _, t, _, _, _, rfl, rfl, SqT.of ha12, rfl, _, rfl, _, rfl, ld, _, _, _, rfl, rfl, SqL.of hl12, at_last _ _, t, _, _, _, rfl, rfl, SqT.of ha12, rfl, three, fun t2 ht2 => ?_⟩
          have f13 := Evl.Ex.new (o := .tup [.str "unless", .int m, .int j]) ht2
          obtain ⟨la12, lb12, hli12⟩ := hP12.li
          obtain ⟨q1, q2, q3⟩ := hdo
          have hd13 : DAt (wo ll (wo sk (upd H12 t2 (.tup [.str "unless", .int m, .int j])))) t2 (.un m j) := wo_at (Ne.symm (ne_of_none' hli12 ht2)) (wo_at (sk_ne s12 ht2) upd_same)
          obtain ⟨acc2, w1, w2, hP13, lac2, _⟩ := hP12.more (But.of_ex f13) hd13 ⟨q2, q1, Ne.symm q3⟩ (fun _ _ e => by cases e) (by rw [List.length_append]; show ds.length + 1 ≤ 100; omega)
          have s13 := (s12.ex f13).upd (o := .lst (acc2 ++ [.ref t2])) hP9.dsk
          refine ⟨ld, acc2, _, rfl, rfl, w1, w2, ?_⟩
          generalize upd (upd H12 t2 (.tup [.str "unless", .int m, .int j])) ld (.lst (acc2 ++ [.ref t2])) = H13 at hP13 s13
          obtain ⟨la13, lb13, hli13⟩ := hP13.li
          refine ⟨_, rfl, ll, _, _, _, rfl, rfl, SqL.of hli13, rfl, _, _, rfl, rfl, _, rfl, ll, _, 1, 1, rfl, rfl, hli13, rfl, ?_⟩
          have hP14 := hP13.set (a := la13) (b := lb13 - 1)
          refine ⟨_, rfl, hP14, (s13.upd hP9.lsk).le (by omega), ?_, ?_⟩
          · rw [List.length_append, List.length_append]; show ds.length + 1 + 1 ≤ _; omega
          · rw [List.length_append, List.length_append]; show ds.length < ds.length + 1 + 1; omega
        · rintro H12 ⟨b12, s12⟩
          exact ⟨ds ++ [d], rfl, hP11.go b12, s12.le (by omega), by rw [List.length_append]; show ds.length + 1 ≤ _; omega, by rw [List.length_append]; exact Nat.lt_succ_self _⟩
      rintro σ H12 ⟨ds', rfl, hP12, s12, l1, l2'⟩
      obtain ⟨la12, lb12, hli12⟩ := hP12.li
      refine ⟨_, rfl, ll, _, _, _, rfl, rfl, SqL.of hli12, rfl, ?_⟩
      refine ⟨_, rfl, rfl, .inr ⟨_, rfl, _, _, rfl, rfl, _, rfl, ll, _, _, _, rfl, rfl, SqL.of hli12, rfl, _, rfl, rfl, .inr ⟨_, rfl, _, _, rfl, rfl, two, fun l2 hl2 => ?_⟩⟩⟩
      exact ⟨ds', l2, _, rfl, hP12.new s12 hl2, (s12.ex (Evl.Ex.new hl2)).le (by omega), l1, l2'⟩
    · refine if_f (decide_eq_false hlt) ?_
      refine ⟨_, rfl, _, rfl, two, fun t ht => ?_⟩
      have e8 := Evl.Ex.new (o := .tup [.ref lv, .ref ld]) ht
      have b8 := But.of_ex (p := sk) e8
      refine k t ts ds _ (hP7.but.trans b8) ((s7.ex e8).le (by omega)) ⟨lv, ld, wo_at (sk_ne s7 ht) upd_same, (hP7.ta.ex wo_ex).ex b8.wo, (hP7.da.ex wo_ex).ex b8.wo⟩ ⟨⟨hokT, by omega, ?_⟩, hsz, hP7.po⟩
      rw [hlen]
      exact hP7.ok
end
end V2


namespace V2
open PySem L2
open PySem.Spec PyProof.Rows
/-- two steps exchanged -/
def xch (ds : List Deed) (i : Nat) (d e : Deed) : List Deed := ds.take i ++ [e, d] ++ ds.drop (i + 2)
def spXc (C : Addr) : Sp := fun vs H Q _ => ∃ (x : Addr) (i : Nat) (ts : List Tk) (ds : List Deed) (d e : Deed), vs = [.ref x, .int (i : Int)] ∧ ScAt H C x ts ds ∧ okS ts ds ∧ ds[i]? = some d ∧ ds[i + 1]? = some e ∧ ∀ (y : Addr) (H' : Hp), H y = none → Evl.Ex H H' → ScAt H' C y ts (xch ds i d e) → Q (.ref y) H'
theorem ds_app {H : Hp} {as bs : List Addr} {ds es : List Deed} (l1 : as.length = ds.length) (h1 : ∀ (i : Nat) (a : Addr) (d : Deed), as[i]? = some a → ds[i]? = some d → DAt H a d) (h2 : ∀ (i : Nat) (a : Addr) (d : Deed), bs[i]? = some a → es[i]? = some d → DAt H a d) : ∀ (i : Nat) (a : Addr) (d : Deed), (as ++ bs)[i]? = some a → (ds ++ es)[i]? = some d → DAt H a d := by
  intro i a d ha hd
  by_cases c : i < as.length
  · rw [List.getElem?_append_left c] at ha
    rw [List.getElem?_append_left (by omega)] at hd
    exact h1 i a d ha hd
  · rw [List.getElem?_append_right (by omega)] at ha
    rw [List.getElem?_append_right (by omega), ← l1] at hd
    exact h2 _ a d ha hd
section
variable {base : Heap} {mg : Str → Option Value} {K : PySem.W.Frag} {w : World} {P : Program} {C fI fT fS pT pS : Addr}
theorem ok_Sc_exchanged {f : Addr} {fd fdI : FuncData} (F : Fun K "exchanged" "Script.exchanged" s_Sc_exchanged f fd) (mL : mg "len" = none) (mC : mg "Script" = some (.ref C)) (c : ScC K C fI fT fS pT pS) (FI : FnOk P w K mg base CX0 5 fI fdI p_Sc_init (spScI C)) (bI : Binds K fdI p_Sc_init []) (cX : Cal P w K mg base 4 "check_exchange" p_check_exchange spCx) : FnOk P w K mg base CX0 7 f fd p_Sc_exchanged (spXc C) := by
  refine F.ok sc_Sc_exchanged (fun vs H Q E h => ?_) (fun cdv A outer s H vs Q E hr h => ?_)
  · obtain ⟨x, i, ts, ds, d, e, rfl, _⟩ := h
    rfl
  · obtain ⟨x, i, ts, ds, d, e, rfl, ⟨dx, fs, v, y, hx, hv, hy, hdv, hdy, _⟩, hok, hd, he, k⟩ := h
    have nd := sc_Sc_exchanged.nd
    have r4 : Room 4 _ := hr.mono (by decide)
    have two : 2 ≤ sizeLine := by show 2 ≤ sizeLine; decide
    obtain ⟨lt, rfl, hlt⟩ := hdv.tks
    obtain ⟨ls, rfl, hls⟩ := hdy.deeds
    obtain ⟨as, h1, h2, h3⟩ := id hls
    have hi := (List.getElem?_eq_some_iff.mp he).1
    have len := hok.2.1
    obtain ⟨a0, ha0⟩ : ∃ a, as[i]? = some a := ⟨_, List.getElem?_eq_getElem (by omega)⟩
    obtain ⟨a1, ha1⟩ : ∃ a, as[i + 1]? = some a := ⟨_, List.getElem?_eq_getElem (by omega)⟩
    have g0 : (as.map V.ref)[i]? = some (.ref a0) := by rw [List.getElem?_map, ha0]; rfl
    have g1' : (as.map V.ref)[i + 1]? = some (.ref a1) := by rw [List.getElem?_map, ha1]; rfl
    have hD0 := h3 i a0 d ha0 hd
    have hD1 := h3 (i + 1) a1 e ha1 he
    refine ⟨_, pss_cons (ps_expr (pe_c cX r4 (pa_cons (pv 1) (pa_cons (pe_callB call_len_seq (by rfl) mL PySem.boot_len (pa_cons (pe_fld (pv 0) rfl) pa_nil)) pa_nil))))
      (pss_cons (ps_par (i := 2) (j := 3) rfl nd rfl rfl (by decide) rfl rfl (pa_cons (pe_ix ix_list (pe_fld (pv 0) rfl) (pv 1) (fun _ _ => rfl)) (pa_cons (pe_ix ix_list (pe_fld (pv 0) rfl) (pe_op op_add (pv 1) pe_int) (fun _ _ => rfl)) pa_nil)) (by rfl))
      (pss_one (ps_ret (pe_make c.mkI FI hr (by rfl) mC bI .nil pass0 (pa_cons (pe_fld (pv 0) rfl) (pa_cons (pe_op op_cat (pe_op op_cat (pe_slice sl_list (pe_fld (pv 0) rfl) po_none (po_some (pv 1))) (pe_lst (pa_cons (pv 3) (pa_cons (pv 2) pa_nil)))) (pe_slice sl_list (pe_fld (pv 0) rfl) (po_some (pe_op op_add (pv 1) pe_int)) po_none)) pa_nil)))))), ?_⟩
    refine ⟨_, rfl, _, rfl, x, C, dx, fs, _, rfl, hx, c.cls, c.na2, hy, ls, _, rfl, .inl (SqL.of h1), _, _, rfl, by omega, by rw [List.length_map, h2]; omega, fun H1 e1 => ?_⟩
    have hx1 := e1 _ _ hx
    have g1 := e1 _ _ h1
    refine ⟨_, rfl, x, C, dx, fs, _, rfl, hx1, c.cls, c.na2, hy, _, rfl, ls, _, _, _, rfl, rfl, SqL.of g1, atI_nat g0, ?_⟩
    refine ⟨_, rfl, x, C, dx, fs, _, rfl, hx1, c.cls, c.na2, hy, _, rfl, _, _, rfl, rfl, ls, _, ((i + 1 : Nat) : Int), _, rfl, rfl, SqL.of g1, atI_nat g1', _, _, rfl, ?_⟩
    refine ⟨_, rfl, x, C, dx, fs, _, rfl, hx1, c.cls, c.na1, hv, _, rfl, x, C, dx, fs, _, rfl, hx1, c.cls, c.na2, hy, ?_⟩
    refine ⟨_, rfl, (i : Int), rfl, ls, _, rfl, SqL.of g1, fun p1 hp1 => ?_⟩
    have e2 := Evl.Ex.new (o := .lst (cutV (as.map V.ref) none (some (i : Int)))) hp1
    have q1 : upd H1 p1 (.lst (cutV (as.map V.ref) none (some (i : Int)))) p1 = some (.lst ((as.take i).map V.ref)) := Eq.trans upd_same (by rw [cut_min, List.map_take])
    generalize upd H1 p1 (.lst (cutV (as.map V.ref) none (some (i : Int)))) = H2 at e2 q1
    refine ⟨_, rfl, _, rfl, two, fun p2 hp2 => ?_⟩
    have e3 := Evl.Ex.new (o := .lst [V.ref a1, V.ref a0]) hp2
    refine ⟨p1, p2, _, _, rfl, rfl, e3 _ _ q1, upd_same, ?_, fun p3 hp3 => ?_⟩
    · rw [List.length_map, List.length_take]
      exact Nat.le_trans (show min i as.length + 2 ≤ 120 by omega) (by decide)
    have e4 := Evl.Ex.new (o := .lst ((as.take i).map V.ref ++ [V.ref a1, V.ref a0])) hp3
    have q3 : upd (upd H2 p2 (.lst [V.ref a1, V.ref a0])) p3 (.lst ((as.take i).map V.ref ++ [V.ref a1, V.ref a0])) p3 = some (.lst ((as.take i ++ [a1, a0]).map V.ref)) := Eq.trans upd_same (by rw [List.map_append]; rfl)
    have e14 := (e2.trans e3).trans e4
    generalize upd (upd H2 p2 (.lst [V.ref a1, V.ref a0])) p3 (.lst ((as.take i).map V.ref ++ [V.ref a1, V.ref a0])) = H4 at e4 q3 e14
    have e04 := e1.trans e14
    have hx4 := e04 _ _ hx
    refine ⟨_, rfl, x, C, dx, fs, _, rfl, hx4, c.cls, c.na2, hy, _, rfl, _, _, rfl, rfl, ((i + 2 : Nat) : Int), rfl, ls, _, rfl, SqL.of (e04 _ _ h1), fun p4 hp4 => ?_⟩
    have e5 := Evl.Ex.new (o := .lst (cutV (as.map V.ref) (some ((i + 2 : Nat) : Int)) none)) hp4
    have q4 : upd H4 p4 (.lst (cutV (as.map V.ref) (some ((i + 2 : Nat) : Int)) none)) p4 = some (.lst ((as.drop (i + 2)).map V.ref)) := Eq.trans upd_same (by rw [cut_drop, List.map_drop])
    generalize upd H4 p4 (.lst (cutV (as.map V.ref) (some ((i + 2 : Nat) : Int)) none)) = H5 at e5 q4
    refine ⟨p3, p4, _, _, rfl, rfl, e5 _ _ q3, q4, ?_, fun p5 hp5 => ?_⟩
    · rw [List.length_map, List.length_map, List.length_append, List.length_take, List.length_drop]
      exact Nat.le_trans (show min i as.length + 2 + (as.length - (i + 2)) ≤ 120 by omega) (by decide)
    have e6 := Evl.Ex.new (o := .lst ((as.take i ++ [a1, a0]).map V.ref ++ (as.drop (i + 2)).map V.ref)) hp5
    have q5 : upd H5 p5 (.lst ((as.take i ++ [a1, a0]).map V.ref ++ (as.drop (i + 2)).map V.ref)) p5 = some (.lst ((as.take i ++ [a1, a0] ++ as.drop (i + 2)).map V.ref)) := Eq.trans upd_same (by rw [← List.map_append])
    generalize upd H5 p5 (.lst ((as.take i ++ [a1, a0]).map V.ref ++ (as.drop (i + 2)).map V.ref)) = H6 at e6 q5
    have e06 := (e04.trans e5).trans e6
    have t1 : ∀ (j : Nat) (a : Addr) (d : Deed), (as.take i)[j]? = some a → (ds.take i)[j]? = some d → DAt H a d := fun j a d' u1 u2 => by
      rw [List.getElem?_take] at u1 u2
      split at u1
      · rename_i c2
        rw [if_pos c2] at u2
        exact h3 j a d' u1 u2
      · cases u1
    have t2 : ∀ (j : Nat) (a : Addr) (d' : Deed), [a1, a0][j]? = some a → [e, d][j]? = some d' → DAt H a d' := fun j a d' u1 u2 => by
      match j, u1, u2 with
      | 0, u1, u2 => cases u1; cases u2; exact hD1
      | 1, u1, u2 => cases u1; cases u2; exact hD0
      | j + 2, u1, u2 => cases u1
    have t3 : ∀ (j : Nat) (a : Addr) (d : Deed), (as.drop (i + 2))[j]? = some a → (ds.drop (i + 2))[j]? = some d → DAt H a d := fun j a d' u1 u2 => by
      rw [List.getElem?_drop] at u1 u2
      exact h3 _ a d' u1 u2
    have l12 : (as.take i).length = (ds.take i).length := by rw [List.length_take, List.length_take, h2]
    have all := ds_app (as := as.take i ++ [a1, a0]) (ds := ds.take i ++ [e, d]) (by rw [List.length_append, List.length_append, l12]; rfl) (ds_app l12 t1 t2) t3
    have hDs : DsAt H6 p5 (xch ds i d e) := ⟨_, q5, by unfold xch; rw [List.length_append, List.length_append, List.length_append, List.length_append, l12, List.length_drop, List.length_drop, h2]; rfl, fun j a d' u1 u2 => (all j a d' u1 u2).ex e06⟩
    intro y' dy hy' hdy' hne
    have e7 : Evl.Ex H6 (upd (upd H6 dy (.own y')) y' (.ins C dy [])) := fun b o h => Eq.trans (upd_ne (ne_of_none' h hy')) (Eq.trans (upd_ne (ne_of_none' h hdy')) h)
    have ok' : okS ts (xch ds i d e) := by
      refine ⟨hok.1, ?_, fun d' hd' => ?_⟩
      · unfold xch
        rw [List.length_append, List.length_append, List.length_take, List.length_drop]
        show min i ds.length + 2 + (ds.length - (i + 2)) ≤ 60
        omega
      · unfold xch at hd'
        rcases List.mem_append.mp hd' with h | h
        · rcases List.mem_append.mp h with h | h
          · exact hok.2.2 d' (List.mem_of_mem_take h)
          · simp only [List.mem_cons, List.not_mem_nil, or_false] at h
            rcases h with rfl | rfl
            · exact hok.2.2 _ (List.mem_of_getElem? he)
            · exact hok.2.2 _ (List.mem_of_getElem? hd)
        · exact hok.2.2 d' (List.mem_of_mem_drop h)
    refine ⟨y', dy, .ref lt, .ref p5, ts, _, rfl, upd_same, (hlt.ex (e06.trans e7)).dq, (hDs.ex e7).dq, ok', fun v' u' fs' H' b hyy g1 g2 d1 d2 g0 => ⟨rfl, ?_⟩⟩
    refine k y' H' (Evl.fresh_back e06 hy') (fun cc o h => ?_) ⟨dy, fs', v', u', hyy, g1, g2, d1.go Nw.ex, d2.go Nw.ex, g0⟩
    have h5 := e06 _ _ h
    exact b _ _ (ne_of_none' h5 hy') (e7 _ _ h5)
end
end V2


namespace V2
open PySem L2
open PySem.Spec PyProof.Rows
/-! ## a road to a plan, by another law -/
def spWoN (C : Addr) : Sp := fun vs H Q _ => ∃ (x : Addr) (i : Nat) (ts : List Tk) (ds : List Deed), vs = [.ref x, .int (i : Int)] ∧ ScAt H C x ts ds ∧ okS ts ds ∧ i < ds.length ∧ ∀ (y : Addr) (H' : Hp), H y = none → Evl.Ex H H' → ScAt (Nw H H') C y ts (ds.take i ++ ds.drop (i + 1)) → Q (.ref y) H'
def spXcN (C : Addr) : Sp := fun vs H Q _ => ∃ (x : Addr) (i : Nat) (ts : List Tk) (ds : List Deed) (d e : Deed), vs = [.ref x, .int (i : Int)] ∧ ScAt H C x ts ds ∧ okS ts ds ∧ ds[i]? = some d ∧ ds[i + 1]? = some e ∧ ∀ (y : Addr) (H' : Hp), H y = none → Evl.Ex H H' → ScAt (Nw H H') C y ts (xch ds i d e) → Q (.ref y) H'
/-- how the first shape's steps, ds', become ds -/
def RdOk (wd : Str) (k : Int) (ds' ds : List Deed) : Prop :=
  (wd = "" ∧ ds' = ds) ∨ (wd = "without" ∧ ∃ i : Nat, k = (i : Int) ∧ i < ds'.length ∧ ds'.take i ++ ds'.drop (i + 1) = ds) ∨
  (wd = "exchanged" ∧ ∃ (i : Nat) (d e : Deed), k = (i : Int) ∧ ds'[i]? = some d ∧ ds'[i + 1]? = some e ∧ xch ds' i d e = ds)
def spRoad : Sp := fun vs H Q _ => ∃ (s sh : Addr) (n : Nat) (ts : List Tk) (ds : List Deed), vs = [.ref s, .ref sh] ∧ Sk H s n ∧ n ≤ 79000 ∧ ShAt (wo s H) sh ts ds ∧ ShW ts ds ∧
  ∀ (r sh' : Addr) (wd : Str) (k : Int) (ds' : List Deed) (H' : Hp), But s H H' → Sk H' s (n + 40) → wo s H' r = some (.tup [.ref sh', .str wd, .int k]) → ShAt (wo s H') sh' ts ds' → ShW ts ds' → RdOk wd k ds' ds → Q (.ref r) H'
def spWw : Sp := fun vs H Q _ => ∃ (s : Addr) (n : Nat), vs = [.ref s] ∧ Sk H s n ∧ n ≤ 80000 ∧
  ∀ (t : Addr) (p q : Int) (H' : Hp), But s H H' → Sk H' s (n + 3) → H t = none → Fr (wo s H') t p q → (p ≤ 0 ∨ q ≤ 0 ∨ Int.gcd p q ≠ 1) → p.natAbs ≤ 1000 → q.natAbs ≤ 1000 → Q (.ref t) H'
theorem ds_app3 {H : Hp} {as bs : List Addr} {ds es : List Deed} (l1 : as.length = ds.length) (h1 : ∀ (i : Nat) (a : Addr) (d : Deed), as[i]? = some a → ds[i]? = some d → DAt H a d) (l2 : bs.length = es.length) (h2 : ∀ (i : Nat) (a : Addr) (d : Deed), bs[i]? = some a → es[i]? = some d → DAt H a d) (i m : Nat) :
    (as.take i ++ bs ++ as.drop m).length = (ds.take i ++ es ++ ds.drop m).length ∧ ∀ (j : Nat) (a : Addr) (d : Deed), (as.take i ++ bs ++ as.drop m)[j]? = some a → (ds.take i ++ es ++ ds.drop m)[j]? = some d → DAt H a d := by
  have t1 : ∀ (j : Nat) (a : Addr) (d : Deed), (as.take i)[j]? = some a → (ds.take i)[j]? = some d → DAt H a d := fun j a d' u1 u2 => by
    rw [List.getElem?_take] at u1 u2
    split at u1
    · rename_i c2
      rw [if_pos c2] at u2
      exact h1 j a d' u1 u2
    · cases u1
  have t3 : ∀ (j : Nat) (a : Addr) (d : Deed), (as.drop m)[j]? = some a → (ds.drop m)[j]? = some d → DAt H a d := fun j a d' u1 u2 => by
    rw [List.getElem?_drop] at u1 u2
    exact h1 _ a d' u1 u2
  have l12 : (as.take i).length = (ds.take i).length := by rw [List.length_take, List.length_take, l1]
  refine ⟨?_, ds_app (as := as.take i ++ bs) (ds := ds.take i ++ es) (by rw [List.length_append, List.length_append, l12, l2]) (ds_app l12 t1 h2) t3⟩
  rw [List.length_append, List.length_append, List.length_append, List.length_append, l12, l2, List.length_drop, List.length_drop, l1]
theorem rd_without {ds : List Deed} {d : Deed} {i : Nat} (h : i ≤ ds.length) : i < (ds.take i ++ [d] ++ ds.drop i).length ∧ (ds.take i ++ [d] ++ ds.drop i).take i ++ (ds.take i ++ [d] ++ ds.drop i).drop (i + 1) = ds := by
  have l : (ds.take i).length = i := by rw [List.length_take]; omega
  refine ⟨by rw [List.length_append, List.length_append, l]; show i < i + 1 + _; omega, ?_⟩
  rw [List.append_assoc, List.take_append_of_le_length (by omega), List.take_of_length_le (by omega)]
  have : (ds.take i ++ ([d] ++ ds.drop i)).drop (i + 1) = ds.drop i := by
    rw [List.drop_append, l, List.drop_of_length_le (by omega), show i + 1 - i = 1 by omega]
    rfl
  rw [this, List.take_append_drop]
theorem xch_xch {ds : List Deed} {i : Nat} {d e : Deed} (h1 : ds[i]? = some d) (h2 : ds[i + 1]? = some e) : (xch ds i d e)[i]? = some e ∧ (xch ds i d e)[i + 1]? = some d ∧ xch (xch ds i d e) i e d = ds := by
  have hl := (List.getElem?_eq_some_iff.mp h2).1
  have l : (ds.take i).length = i := by rw [List.length_take]; omega
  have hx : xch ds i d e = ds.take i ++ ([e, d] ++ ds.drop (i + 2)) := List.append_assoc ..
  rw [hx]
  refine ⟨?_, ?_, ?_⟩
  · rw [List.getElem?_append_right (by omega), l, Nat.sub_self]
    rfl
  · rw [List.getElem?_append_right (by omega), l, show i + 1 - i = 1 by omega]
    rfl
  · unfold xch
    rw [List.take_append_of_le_length (by omega), List.take_of_length_le (by omega)]
    have h3 : (ds.take i ++ ([e, d] ++ ds.drop (i + 2))).drop (i + 2) = ds.drop (i + 2) := by
      rw [List.drop_append, l, List.drop_of_length_le (by omega), show i + 2 - i = 2 by omega]
      rfl
    rw [h3, List.append_assoc]
    have h4 : ds.drop i = [d, e] ++ ds.drop (i + 2) := by
      rw [List.drop_eq_getElem_cons (by omega), List.drop_eq_getElem_cons (by omega)]
      rw [List.getElem?_eq_getElem (by omega)] at h1
      rw [List.getElem?_eq_getElem hl] at h2
      cases h1
      cases h2
      rfl
    rw [← h4, List.take_append_drop]
section
variable {base : Heap} {mg : Str → Option Value} {K : PySem.W.Frag} {w : World} {P : Program} {C fI fT fS pT pS : Addr}
theorem ok_Sc_withoutN {f : Addr} {fd fdI : FuncData} (F : Fun K "without" "Script.without" s_Sc_without f fd) (mL : mg "len" = none) (mC : mg "Script" = some (.ref C)) (c : ScC K C fI fT fS pT pS) (FI : FnOk P w K mg base CX0 5 fI fdI p_Sc_init (spScI C)) (bI : Binds K fdI p_Sc_init []) (cI : Cal P w K mg base 3 "check_index" p_check_index spCi) : FnOk P w K mg base CX0 7 f fd p_Sc_without (spWoN C) := by
  refine F.ok sc_Sc_without (fun vs H Q E h => ?_) (fun cdv A outer s H vs Q E hr h => ?_)
  · obtain ⟨x, i, ts, ds, rfl, _⟩ := h
    rfl
  · obtain ⟨x, i, ts, ds, rfl, ⟨dx, fs, v, y, hx, hv, hy, hdv, hdy, _⟩, hok, hi, k⟩ := h
    have r3 : Room 3 _ := hr.mono (by decide)
    obtain ⟨lt, rfl, hlt⟩ := hdv.tks
    obtain ⟨ls, rfl, hls⟩ := hdy.deeds
    obtain ⟨as, h1, h2, h3⟩ := id hls
    refine ⟨_, pss_cons (ps_expr (pe_c cI r3 (pa_cons (pv 1) (pa_cons (pe_callB call_len_seq (by rfl) mL PySem.boot_len (pa_cons (pe_fld (pv 0) rfl) pa_nil)) pa_nil))))
      (pss_one (ps_ret (pe_make c.mkI FI hr (by rfl) mC bI .nil pass0 (pa_cons (pe_fld (pv 0) rfl) (pa_cons (pe_op op_cat (pe_slice sl_list (pe_fld (pv 0) rfl) po_none (po_some (pv 1))) (pe_slice sl_list (pe_fld (pv 0) rfl) (po_some (pe_op op_add (pv 1) pe_int)) po_none)) pa_nil))))), ?_⟩
    refine ⟨_, rfl, _, rfl, x, C, dx, fs, _, rfl, hx, c.cls, c.na2, hy, ls, _, rfl, .inl (SqL.of h1), _, _, rfl, by omega, by rw [List.length_map, h2]; omega, fun H1 e1 => ?_⟩
    have hx1 := e1 _ _ hx
    have g1 := e1 _ _ h1
    refine ⟨_, rfl, x, C, dx, fs, _, rfl, hx1, c.cls, c.na1, hv, _, rfl, x, C, dx, fs, _, rfl, hx1, c.cls, c.na2, hy, ?_⟩
    have len := hok.2.1
    refine ⟨_, rfl, (i : Int), rfl, ls, _, rfl, SqL.of g1, fun p1 hp1 => ?_⟩
    have e2 := Evl.Ex.new (o := .lst (cutV (as.map V.ref) none (some (i : Int)))) hp1
    have q1 : upd H1 p1 (.lst (cutV (as.map V.ref) none (some (i : Int)))) p1 = some (.lst ((as.take i).map V.ref)) := Eq.trans upd_same (by rw [cut_min, List.map_take])
    generalize upd H1 p1 (.lst (cutV (as.map V.ref) none (some (i : Int)))) = H2 at e2 q1
    refine ⟨_, rfl, x, C, dx, fs, _, rfl, e2 _ _ hx1, c.cls, c.na2, hy, _, rfl, _, _, rfl, rfl, ((i + 1 : Nat) : Int), rfl, ls, _, rfl, SqL.of (e2 _ _ g1), fun p2 hp2 => ?_⟩
    have e3 := Evl.Ex.new (o := .lst (cutV (as.map V.ref) (some ((i + 1 : Nat) : Int)) none)) hp2
    have q2 : upd H2 p2 (.lst (cutV (as.map V.ref) (some ((i + 1 : Nat) : Int)) none)) p2 = some (.lst ((as.drop (i + 1)).map V.ref)) := Eq.trans upd_same (by rw [cut_drop, List.map_drop])
    generalize upd H2 p2 (.lst (cutV (as.map V.ref) (some ((i + 1 : Nat) : Int)) none)) = H3 at e3 q2
    refine ⟨p1, p2, _, _, rfl, rfl, e3 _ _ q1, q2, ?_, fun p3 hp3 => ?_⟩
    · rw [List.length_map, List.length_map, List.length_take, List.length_drop]
      exact Nat.le_trans (show min i as.length + (as.length - (i + 1)) ≤ 120 by omega) (by decide)
    have e4 := Evl.Ex.new (o := .lst ((as.take i).map V.ref ++ (as.drop (i + 1)).map V.ref)) hp3
    have q3 : upd H3 p3 (.lst ((as.take i).map V.ref ++ (as.drop (i + 1)).map V.ref)) p3 = some (.lst ((as.take i ++ as.drop (i + 1)).map V.ref)) := Eq.trans upd_same (by rw [List.map_append])
    generalize upd H3 p3 (.lst ((as.take i).map V.ref ++ (as.drop (i + 1)).map V.ref)) = H4 at e4 q3
    have e04 := ((e1.trans e2).trans e3).trans e4
    obtain ⟨pl, pd⟩ := ds_parts h2 h3 i (i + 1)
    have hDs : DsAt H4 p3 (ds.take i ++ ds.drop (i + 1)) := ⟨_, q3, pl, fun j a d u1 u2 => (pd j a d u1 u2).ex e04⟩
    intro y' dy hy' hdy' hne
    have e5 : Evl.Ex H4 (upd (upd H4 dy (.own y')) y' (.ins C dy [])) := fun b o h => Eq.trans (upd_ne (ne_of_none' h hy')) (Eq.trans (upd_ne (ne_of_none' h hdy')) h)
    have ok' : okS ts (ds.take i ++ ds.drop (i + 1)) := ⟨hok.1, by rw [List.length_append, List.length_take, List.length_drop]; omega, fun d hd => by
      rcases List.mem_append.mp hd with h | h
      · exact hok.2.2 d (List.mem_of_mem_take h)
      · exact hok.2.2 d (List.mem_of_mem_drop h)⟩
    refine ⟨y', dy, .ref lt, .ref p3, ts, _, rfl, upd_same, (hlt.ex (e04.trans e5)).dq, (hDs.ex e5).dq, ok', fun v' u' fs' H' b hyy g1 g2 d1 d2 g0 => ⟨rfl, ?_⟩⟩
    have e06 := e04
    have hyH := Evl.fresh_back e06 hy'
    have em : Evl.Ex (Nw (upd (upd H4 dy (.own y')) y' (.ins C dy [])) H') (Nw H H') := fun c o h => nw_at (Evl.fresh_back (e06.trans e5) (nw_none h)) (Nw.ex _ _ h)
    refine k y' H' hyH (fun cc o h => ?_) ⟨dy, fs', v', u', nw_at hyH hyy, g1, g2, d1.go em, d2.go em, g0⟩
    have h5 := e06 _ _ h
    exact b _ _ (ne_of_none' h5 hy') (e5 _ _ h5)

theorem ok_Sc_exchangedN {f : Addr} {fd fdI : FuncData} (F : Fun K "exchanged" "Script.exchanged" s_Sc_exchanged f fd) (mL : mg "len" = none) (mC : mg "Script" = some (.ref C)) (c : ScC K C fI fT fS pT pS) (FI : FnOk P w K mg base CX0 5 fI fdI p_Sc_init (spScI C)) (bI : Binds K fdI p_Sc_init []) (cX : Cal P w K mg base 4 "check_exchange" p_check_exchange spCx) : FnOk P w K mg base CX0 7 f fd p_Sc_exchanged (spXcN C) := by
  refine F.ok sc_Sc_exchanged (fun vs H Q E h => ?_) (fun cdv A outer s H vs Q E hr h => ?_)
  · obtain ⟨x, i, ts, ds, d, e, rfl, _⟩ := h
    rfl
  · obtain ⟨x, i, ts, ds, d, e, rfl, ⟨dx, fs, v, y, hx, hv, hy, hdv, hdy, _⟩, hok, hd, he, k⟩ := h
    have nd := sc_Sc_exchanged.nd
    have r4 : Room 4 _ := hr.mono (by decide)
    have two : 2 ≤ sizeLine := by show 2 ≤ sizeLine; decide
    obtain ⟨lt, rfl, hlt⟩ := hdv.tks
    obtain ⟨ls, rfl, hls⟩ := hdy.deeds
    obtain ⟨as, h1, h2, h3⟩ := id hls
    have hi := (List.getElem?_eq_some_iff.mp he).1
    have len := hok.2.1
    obtain ⟨a0, ha0⟩ : ∃ a, as[i]? = some a := ⟨_, List.getElem?_eq_getElem (by omega)⟩
    obtain ⟨a1, ha1⟩ : ∃ a, as[i + 1]? = some a := ⟨_, List.getElem?_eq_getElem (by omega)⟩
    have g0 : (as.map V.ref)[i]? = some (.ref a0) := by rw [List.getElem?_map, ha0]; rfl
    have g1' : (as.map V.ref)[i + 1]? = some (.ref a1) := by rw [List.getElem?_map, ha1]; rfl
    have hD0 := h3 i a0 d ha0 hd
    have hD1 := h3 (i + 1) a1 e ha1 he
    refine ⟨_, pss_cons (ps_expr (pe_c cX r4 (pa_cons (pv 1) (pa_cons (pe_callB call_len_seq (by rfl) mL PySem.boot_len (pa_cons (pe_fld (pv 0) rfl) pa_nil)) pa_nil))))
      (pss_cons (ps_par (i := 2) (j := 3) rfl nd rfl rfl (by decide) rfl rfl (pa_cons (pe_ix ix_list (pe_fld (pv 0) rfl) (pv 1) (fun _ _ => rfl)) (pa_cons (pe_ix ix_list (pe_fld (pv 0) rfl) (pe_op op_add (pv 1) pe_int) (fun _ _ => rfl)) pa_nil)) (by rfl))
      (pss_one (ps_ret (pe_make c.mkI FI hr (by rfl) mC bI .nil pass0 (pa_cons (pe_fld (pv 0) rfl) (pa_cons (pe_op op_cat (pe_op op_cat (pe_slice sl_list (pe_fld (pv 0) rfl) po_none (po_some (pv 1))) (pe_lst (pa_cons (pv 3) (pa_cons (pv 2) pa_nil)))) (pe_slice sl_list (pe_fld (pv 0) rfl) (po_some (pe_op op_add (pv 1) pe_int)) po_none)) pa_nil)))))), ?_⟩
    refine ⟨_, rfl, _, rfl, x, C, dx, fs, _, rfl, hx, c.cls, c.na2, hy, ls, _, rfl, .inl (SqL.of h1), _, _, rfl, by omega, by rw [List.length_map, h2]; omega, fun H1 e1 => ?_⟩
    have hx1 := e1 _ _ hx
    have g1 := e1 _ _ h1
    refine ⟨_, rfl, x, C, dx, fs, _, rfl, hx1, c.cls, c.na2, hy, _, rfl, ls, _, _, _, rfl, rfl, SqL.of g1, atI_nat g0, ?_⟩
    refine ⟨_, rfl, x, C, dx, fs, _, rfl, hx1, c.cls, c.na2, hy, _, rfl, _, _, rfl, rfl, ls, _, ((i + 1 : Nat) : Int), _, rfl, rfl, SqL.of g1, atI_nat g1', _, _, rfl, ?_⟩
    refine ⟨_, rfl, x, C, dx, fs, _, rfl, hx1, c.cls, c.na1, hv, _, rfl, x, C, dx, fs, _, rfl, hx1, c.cls, c.na2, hy, ?_⟩
    refine ⟨_, rfl, (i : Int), rfl, ls, _, rfl, SqL.of g1, fun p1 hp1 => ?_⟩
    have e2 := Evl.Ex.new (o := .lst (cutV (as.map V.ref) none (some (i : Int)))) hp1
    have q1 : upd H1 p1 (.lst (cutV (as.map V.ref) none (some (i : Int)))) p1 = some (.lst ((as.take i).map V.ref)) := Eq.trans upd_same (by rw [cut_min, List.map_take])
    generalize upd H1 p1 (.lst (cutV (as.map V.ref) none (some (i : Int)))) = H2 at e2 q1
    refine ⟨_, rfl, _, rfl, two, fun p2 hp2 => ?_⟩
    have e3 := Evl.Ex.new (o := .lst [V.ref a1, V.ref a0]) hp2
    refine ⟨p1, p2, _, _, rfl, rfl, e3 _ _ q1, upd_same, ?_, fun p3 hp3 => ?_⟩
    · rw [List.length_map, List.length_take]
      exact Nat.le_trans (show min i as.length + 2 ≤ 120 by omega) (by decide)
    have e4 := Evl.Ex.new (o := .lst ((as.take i).map V.ref ++ [V.ref a1, V.ref a0])) hp3
    have q3 : upd (upd H2 p2 (.lst [V.ref a1, V.ref a0])) p3 (.lst ((as.take i).map V.ref ++ [V.ref a1, V.ref a0])) p3 = some (.lst ((as.take i ++ [a1, a0]).map V.ref)) := Eq.trans upd_same (by rw [List.map_append]; rfl)
    have e14 := (e2.trans e3).trans e4
    generalize upd (upd H2 p2 (.lst [V.ref a1, V.ref a0])) p3 (.lst ((as.take i).map V.ref ++ [V.ref a1, V.ref a0])) = H4 at e4 q3 e14
    have e04 := e1.trans e14
    have hx4 := e04 _ _ hx
    refine ⟨_, rfl, x, C, dx, fs, _, rfl, hx4, c.cls, c.na2, hy, _, rfl, _, _, rfl, rfl, ((i + 2 : Nat) : Int), rfl, ls, _, rfl, SqL.of (e04 _ _ h1), fun p4 hp4 => ?_⟩
    have e5 := Evl.Ex.new (o := .lst (cutV (as.map V.ref) (some ((i + 2 : Nat) : Int)) none)) hp4
    have q4 : upd H4 p4 (.lst (cutV (as.map V.ref) (some ((i + 2 : Nat) : Int)) none)) p4 = some (.lst ((as.drop (i + 2)).map V.ref)) := Eq.trans upd_same (by rw [cut_drop, List.map_drop])
    generalize upd H4 p4 (.lst (cutV (as.map V.ref) (some ((i + 2 : Nat) : Int)) none)) = H5 at e5 q4
    refine ⟨p3, p4, _, _, rfl, rfl, e5 _ _ q3, q4, ?_, fun p5 hp5 => ?_⟩
    · rw [List.length_map, List.length_map, List.length_append, List.length_take, List.length_drop]
      exact Nat.le_trans (show min i as.length + 2 + (as.length - (i + 2)) ≤ 120 by omega) (by decide)
    have e6 := Evl.Ex.new (o := .lst ((as.take i ++ [a1, a0]).map V.ref ++ (as.drop (i + 2)).map V.ref)) hp5
    have q5 : upd H5 p5 (.lst ((as.take i ++ [a1, a0]).map V.ref ++ (as.drop (i + 2)).map V.ref)) p5 = some (.lst ((as.take i ++ [a1, a0] ++ as.drop (i + 2)).map V.ref)) := Eq.trans upd_same (by rw [← List.map_append])
    generalize upd H5 p5 (.lst ((as.take i ++ [a1, a0]).map V.ref ++ (as.drop (i + 2)).map V.ref)) = H6 at e6 q5
    have e06 := (e04.trans e5).trans e6
    have t1 : ∀ (j : Nat) (a : Addr) (d : Deed), (as.take i)[j]? = some a → (ds.take i)[j]? = some d → DAt H a d := fun j a d' u1 u2 => by
      rw [List.getElem?_take] at u1 u2
      split at u1
      · rename_i c2
        rw [if_pos c2] at u2
        exact h3 j a d' u1 u2
      · cases u1
    have t2 : ∀ (j : Nat) (a : Addr) (d' : Deed), [a1, a0][j]? = some a → [e, d][j]? = some d' → DAt H a d' := fun j a d' u1 u2 => by
      match j, u1, u2 with
      | 0, u1, u2 => cases u1; cases u2; exact hD1
      | 1, u1, u2 => cases u1; cases u2; exact hD0
      | j + 2, u1, u2 => cases u1
    have t3 : ∀ (j : Nat) (a : Addr) (d : Deed), (as.drop (i + 2))[j]? = some a → (ds.drop (i + 2))[j]? = some d → DAt H a d := fun j a d' u1 u2 => by
      rw [List.getElem?_drop] at u1 u2
      exact h3 _ a d' u1 u2
    have l12 : (as.take i).length = (ds.take i).length := by rw [List.length_take, List.length_take, h2]
    have all := ds_app (as := as.take i ++ [a1, a0]) (ds := ds.take i ++ [e, d]) (by rw [List.length_append, List.length_append, l12]; rfl) (ds_app l12 t1 t2) t3
    have hDs : DsAt H6 p5 (xch ds i d e) := ⟨_, q5, by unfold xch; rw [List.length_append, List.length_append, List.length_append, List.length_append, l12, List.length_drop, List.length_drop, h2]; rfl, fun j a d' u1 u2 => (all j a d' u1 u2).ex e06⟩
    intro y' dy hy' hdy' hne
    have e7 : Evl.Ex H6 (upd (upd H6 dy (.own y')) y' (.ins C dy [])) := fun b o h => Eq.trans (upd_ne (ne_of_none' h hy')) (Eq.trans (upd_ne (ne_of_none' h hdy')) h)
    have ok' : okS ts (xch ds i d e) := by
      refine ⟨hok.1, ?_, fun d' hd' => ?_⟩
      · unfold xch
        rw [List.length_append, List.length_append, List.length_take, List.length_drop]
        show min i ds.length + 2 + (ds.length - (i + 2)) ≤ 60
        omega
      · unfold xch at hd'
        rcases List.mem_append.mp hd' with h | h
        · rcases List.mem_append.mp h with h | h
          · exact hok.2.2 d' (List.mem_of_mem_take h)
          · simp only [List.mem_cons, List.not_mem_nil, or_false] at h
            rcases h with rfl | rfl
            · exact hok.2.2 _ (List.mem_of_getElem? he)
            · exact hok.2.2 _ (List.mem_of_getElem? hd)
        · exact hok.2.2 d' (List.mem_of_mem_drop h)
    refine ⟨y', dy, .ref lt, .ref p5, ts, _, rfl, upd_same, (hlt.ex (e06.trans e7)).dq, (hDs.ex e7).dq, ok', fun v' u' fs' H' b hyy g1 g2 d1 d2 g0 => ⟨rfl, ?_⟩⟩
    have hyH := Evl.fresh_back e06 hy'
    have em : Evl.Ex (Nw (upd (upd H6 dy (.own y')) y' (.ins C dy [])) H') (Nw H H') := fun c o h => nw_at (Evl.fresh_back (e06.trans e7) (nw_none h)) (Nw.ex _ _ h)
    refine k y' H' hyH (fun cc o h => ?_) ⟨dy, fs', v', u', nw_at hyH hyy, g1, g2, d1.go em, d2.go em, g0⟩
    have h5 := e06 _ _ h
    exact b _ _ (ne_of_none' h5 hy') (e7 _ _ h5)

theorem ok_wrong_width {f : Addr} {fd : FuncData} (F : Fun K "_law_wl_wrong_width" "_law_wl_wrong_width" s_l_wrong_width f fd) (cC : Cal P w K mg base 1 "_law_coin" p_l_coin spCoin) : FnOk P w K mg base CX0 2 f fd p_l_wrong_width spWw := by
  refine F.ok sc_l_wrong_width (fun vs H Q E h => ?_) (fun cdv A outer s H vs Q E hr h => ?_)
  · obtain ⟨s, n, rfl, _⟩ := h
    rfl
  · obtain ⟨sk, n, rfl, hS, hn, k⟩ := h
    have nd := sc_l_wrong_width.nd
    have n200 := n200e
    have two : 2 ≤ sizeLine := by show 2 ≤ sizeLine; decide
    have six : 6 ≤ sizeLine := by show 6 ≤ sizeLine; decide
    have r1 : Room 1 _ := hr.mono (by decide)
    refine ⟨_, pss_cons (ps_par (i := 1) (j := 2) rfl nd rfl rfl (by decide) rfl rfl (pa_cons (pe_op op_add pe_int (pe_c cC r1 (pa_cons (pv 0) (pa_cons pe_int pa_nil)))) (pa_cons (pe_op op_add pe_int (pe_c cC r1 (pa_cons (pv 0) (pa_cons pe_int pa_nil)))) pa_nil)) (by rfl))
      (pss_cons (ps_set (i := 3) nd rfl (Or.inl rfl) (pe_lst (pa_cons (pe_tup (pa_cons pe_int (pa_cons pe_int pa_nil))) (pa_cons (pe_tup (pa_cons (pe_op op_sub pe_int (pv 1)) (pa_cons pe_int pa_nil))) (pa_cons (pe_tup (pa_cons (pe_op op_mul pe_int (pv 1)) (pa_cons (pe_op op_mul pe_int (pv 2)) pa_nil))) (pa_cons (pe_tup (pa_cons (pv 1) (pa_cons pe_int pa_nil))) (pa_cons (pe_tup (pa_cons pe_int (pa_cons (pe_op op_add (pv 2) pe_int) pa_nil))) (pa_cons (pe_tup (pa_cons (pv 1) (pa_cons (pe_op op_sub pe_int pe_int) pa_nil))) pa_nil))))))))
      (pss_one (ps_ret (pe_ix ix_list (pv 3) (pe_c cC r1 (pa_cons (pv 0) (pa_cons pe_int pa_nil))) (fun _ _ => rfl))))), ?_⟩
    refine ⟨_, rfl, sk, 60, n, rfl, hS, by omega, by decide, by decide, fun x H1 x0 x1 b1 s1 z1 => ⟨_, _, rfl, rfl, ?_⟩⟩
    refine ⟨_, rfl, sk, 9, n + 1, rfl, s1, by omega, by decide, by decide, fun y H2 y0 y1 b2 s2 z2 => ⟨_, _, rfl, rfl, _, _, rfl, ?_⟩⟩
    have b12 := b1.trans b2
    refine ⟨two, fun t1 h1 => ?_⟩
    have f1 := Evl.Ex.new (o := .tup [.int 0, .int 1]) h1
    have g1 := upd_same (H := H2) (a := t1) (o := .tup [.int 0, .int 1])
    generalize upd H2 t1 (.tup [.int 0, .int 1]) = G1 at f1 g1
    have m1 : CMul 2 (1 + x) := .inl (by decide)
    have m2 : CMul 2 (1 + y) := .inl (by decide)
    refine ⟨_, rfl, _, _, rfl, rfl, two, fun t2 h2 => ?_⟩
    have f2 := Evl.Ex.new (o := .tup [.int (0 - (1 + x)), .int 1]) h2
    have g2 := upd_same (H := G1) (a := t2) (o := .tup [.int (0 - (1 + x)), .int 1])
    generalize upd G1 t2 (.tup [.int (0 - (1 + x)), .int 1]) = G2 at f2 g2
    refine ⟨_, rfl, _, _, rfl, rfl, m1, _, rfl, _, _, rfl, rfl, m2, two, fun t3 h3 => ?_⟩
    have f3 := Evl.Ex.new (o := .tup [.int (2 * (1 + x)), .int (2 * (1 + y))]) h3
    have g3 := upd_same (H := G2) (a := t3) (o := .tup [.int (2 * (1 + x)), .int (2 * (1 + y))])
    generalize upd G2 t3 (.tup [.int (2 * (1 + x)), .int (2 * (1 + y))]) = G3 at f3 g3
    refine ⟨_, rfl, two, fun t4 h4 => ?_⟩
    have f4 := Evl.Ex.new (o := .tup [.int (1 + x), .int 0]) h4
    have g4 := upd_same (H := G3) (a := t4) (o := .tup [.int (1 + x), .int 0])
    generalize upd G3 t4 (.tup [.int (1 + x), .int 0]) = G4 at f4 g4
    refine ⟨_, rfl, _, _, rfl, rfl, two, fun t5 h5 => ?_⟩
    have f5 := Evl.Ex.new (o := .tup [.int 0, .int (1 + y + 1)]) h5
    have g5 := upd_same (H := G4) (a := t5) (o := .tup [.int 0, .int (1 + y + 1)])
    generalize upd G4 t5 (.tup [.int 0, .int (1 + y + 1)]) = G5 at f5 g5
    refine ⟨_, rfl, _, _, rfl, rfl, two, fun t6 h6 => ?_⟩
    have f6 := Evl.Ex.new (o := .tup [.int (1 + x), .int (0 - 1)]) h6
    have g6 := upd_same (H := G5) (a := t6) (o := .tup [.int (1 + x), .int (0 - 1)])
    generalize upd G5 t6 (.tup [.int (1 + x), .int (0 - 1)]) = G6 at f6 g6
    refine ⟨six, fun l hl => ?_⟩
    have f7 := Evl.Ex.new (o := .lst [.ref t1, .ref t2, .ref t3, .ref t4, .ref t5, .ref t6]) hl
    have g7 := upd_same (H := G6) (a := l) (o := .lst [.ref t1, .ref t2, .ref t3, .ref t4, .ref t5, .ref t6])
    generalize upd G6 l (.lst [.ref t1, .ref t2, .ref t3, .ref t4, .ref t5, .ref t6]) = G7 at f7 g7
    have s7 := ((((((s2.ex f1).ex f2).ex f3).ex f4).ex f5).ex f6).ex f7
    have e7 := (((((f1.trans f2).trans f3).trans f4).trans f5).trans f6).trans f7
    have lsk : l ≠ sk := fun z => by
      obtain ⟨a1, a2, a3, a4, _⟩ := s7
      rw [z, a4] at g7
      cases g7
    refine ⟨_, rfl, _, rfl, sk, 6, n + 2, rfl, s7, by omega, by decide, by decide, fun r H8 r0 r1' b8 s8 z8 => ?_⟩
    have g8 := b8 _ _ lsk g7
    have bt := (b12.trans (But.of_ex e7)).trans b8
    obtain ⟨t, p, q, ha, hn', ht, hbad, hp, hq⟩ : ∃ (t : Addr) (p q : Int), atI [V.ref t1, .ref t2, .ref t3, .ref t4, .ref t5, .ref t6] r = some (.ref t) ∧ H t = none ∧ G7 t = some (.tup [.int p, .int q]) ∧ (p ≤ 0 ∨ q ≤ 0 ∨ Int.gcd p q ≠ 1) ∧ p.natAbs ≤ 1000 ∧ q.natAbs ≤ 1000 := by
      rcases (show r = 0 ∨ r = 1 ∨ r = 2 ∨ r = 3 ∨ r = 4 ∨ r = 5 by omega) with rfl | rfl | rfl | rfl | rfl | rfl
      · exact ⟨t1, 0, 1, rfl, (but_none b12 s2 h1), (f7 _ _ (f6 _ _ (f5 _ _ (f4 _ _ (f3 _ _ (f2 _ _ g1)))))), .inl (by omega), by omega, by omega⟩
      · exact ⟨t2, 0 - (1 + x), 1, rfl, (but_none b12 s2 (Evl.fresh_back f1 h2)), (f7 _ _ (f6 _ _ (f5 _ _ (f4 _ _ (f3 _ _ g2))))), .inl (by omega), by omega, by omega⟩
      · exact ⟨t3, 2 * (1 + x), 2 * (1 + y), rfl, (but_none b12 s2 (Evl.fresh_back f1 (Evl.fresh_back f2 h3))), (f7 _ _ (f6 _ _ (f5 _ _ (f4 _ _ g3)))), .inr (.inr (by rw [Int.gcd_mul_left]; show 2 * _ ≠ 1; omega)), by omega, by omega⟩
      · exact ⟨t4, 1 + x, 0, rfl, (but_none b12 s2 (Evl.fresh_back f1 (Evl.fresh_back f2 (Evl.fresh_back f3 h4)))), (f7 _ _ (f6 _ _ (f5 _ _ g4))), .inr (.inl (by omega)), by omega, by omega⟩
      · exact ⟨t5, 0, 1 + y + 1, rfl, (but_none b12 s2 (Evl.fresh_back f1 (Evl.fresh_back f2 (Evl.fresh_back f3 (Evl.fresh_back f4 h5))))), (f7 _ _ (f6 _ _ g5)), .inl (by omega), by omega, by omega⟩
      · exact ⟨t6, 1 + x, 0 - 1, rfl, (but_none b12 s2 (Evl.fresh_back f1 (Evl.fresh_back f2 (Evl.fresh_back f3 (Evl.fresh_back f4 (Evl.fresh_back f5 h6)))))), (f7 _ _ g6), .inr (.inl (by omega)), by omega, by omega⟩
    have tsk : t ≠ sk := sk_ne hS hn'
    exact ⟨l, _, r, _, rfl, rfl, SqL.of g8, ha, k t p q H8 bt (s8.le (by omega)) hn' (wo_at tsk (b8 _ _ tsk ht)) hbad hp hq⟩
theorem ok_road {f : Addr} {fd : FuncData} (F : Fun K "_law_wl_road" "_law_wl_road" s_l_road f fd) (mL : mg "len" = none) (cC : Cal P w K mg base 1 "_law_coin" p_l_coin spCoin) (cD : Cal P w K mg base 4 "_law_wl_deed" p_l_deed spDeedL) : FnOk P w K mg base CX0 5 f fd p_l_road spRoad := by
  refine F.ok sc_l_road (fun vs H Q E h => ?_) (fun cdv A outer s H vs Q E hr h => ?_)
  · obtain ⟨s, sh, n, ts, ds, rfl, _⟩ := h
    rfl
  · obtain ⟨sk, sh, n, ts, ds, rfl, hS, hn, ⟨lv, ld, hsh, hT, hD⟩, hW, k⟩ := h
    have nd := sc_l_road.nd
    have n200 := n200e
    have one : 1 ≤ sizeLine := by show 1 ≤ sizeLine; decide
    have two : 2 ≤ sizeLine := by show 2 ≤ sizeLine; decide
    have three : 3 ≤ sizeLine := by show 3 ≤ sizeLine; decide
    have r1 : Room 1 _ := hr.mono (by decide)
    refine ⟨_, pss_cons (ps_asg (pv 1) (pg_tup rfl (pgs_cons (pg_name (i := 2) nd rfl (Or.inl rfl)) (pgs_cons (pg_name (i := 3) nd rfl (Or.inl rfl)) pgs_nil))))
      (pss_cons (ps_set (i := 4) nd rfl (Or.inl rfl) (pe_c cC r1 (pa_cons (pv 0) (pa_cons pe_int pa_nil))))
      (pss_cons (ps_if (PW.pt (pw_and (pt_cmpR op_eq (pv 4) pe_int (nomark _)) (pw_and1 (pt_cmpR op_lt (pe_callB call_len_seq (by rfl) mL PySem.boot_len (pa_cons (pv 3) pa_nil)) pe_int (nomark _))))) (pss_cons (ps_set (i := 5) nd rfl (Or.inl rfl) (pe_c cC r1 (pa_cons (pv 0) (pa_cons (pe_op op_add (pe_callB call_len_seq (by rfl) mL PySem.boot_len (pa_cons (pv 3) pa_nil)) pe_int) pa_nil))))
      (pss_cons (ps_set (i := 6) nd rfl (Or.inl rfl) (pe_c cD hr (pa_cons (pv 0) (pa_cons (pe_callB call_len_seq (by rfl) mL PySem.boot_len (pa_cons (pv 2) pa_nil)) (pa_cons pe_int (pa_cons (pe_ix ix_list (pe_lst (pa_cons pe_str (pa_cons pe_str (pa_cons pe_str pa_nil)))) (pe_c cC r1 (pa_cons (pv 0) (pa_cons pe_int pa_nil))) (fun _ _ => rfl)) pa_nil))))))
      (pss_one (ps_ret (pe_tup (pa_cons (pe_tup (pa_cons (pv 2) (pa_cons (pe_op op_cat (pe_op op_cat (pe_slice sl_list (pv 3) po_none (po_some (pv 5))) (pe_lst (pa_cons (pv 6) pa_nil))) (pe_slice sl_list (pv 3) (po_some (pv 5)) po_none)) pa_nil))) (pa_cons pe_str (pa_cons (pv 5) pa_nil)))))))) pss_nil)
      (pss_cons (ps_if (PW.pt (pw_and (pt_cmpR op_eq (pv 4) pe_int (nomark _)) (pw_and1 (pt_cmpR op_gt (pe_callB call_len_seq (by rfl) mL PySem.boot_len (pa_cons (pv 3) pa_nil)) pe_int (nomark _))))) (pss_cons (ps_set (i := 5) nd rfl (Or.inl rfl) (pe_c cC r1 (pa_cons (pv 0) (pa_cons (pe_op op_sub (pe_callB call_len_seq (by rfl) mL PySem.boot_len (pa_cons (pv 3) pa_nil)) pe_int) pa_nil))))
      (pss_one (ps_ret (pe_tup (pa_cons (pe_tup (pa_cons (pv 2) (pa_cons (pe_op op_cat (pe_op op_cat (pe_slice sl_list (pv 3) po_none (po_some (pv 5))) (pe_lst (pa_cons (pe_ix ix_list (pv 3) (pe_op op_add (pv 5) pe_int) (fun _ _ => rfl)) (pa_cons (pe_ix ix_list (pv 3) (pv 5) (fun _ _ => rfl)) pa_nil)))) (pe_slice sl_list (pv 3) (po_some (pe_op op_add (pv 5) pe_int)) po_none)) pa_nil))) (pa_cons pe_str (pa_cons (pv 5) pa_nil))))))) pss_nil)
      (pss_one (ps_ret (pe_tup (pa_cons (pv 1) (pa_cons pe_str (pa_cons pe_int pa_nil))))))))), ?_⟩
    have hsh' := wo_ex _ _ hsh
    refine ⟨_, rfl, sh, _, rfl, SqT.of hsh', rfl, _, _, rfl, _, _, rfl, rfl, ?_⟩
    refine ⟨_, rfl, sk, 3, n, rfl, hS, by omega, by decide, by decide, fun way H1 w0 w1 b1 s1 z1 => ?_⟩
    obtain ⟨as, d1, d2, d3⟩ := hD.ex b1.wo
    have d1' := wo_ex _ _ d1
    have d60 := hW.ok.2.1
    obtain ⟨lT, t1, t2⟩ := tks_list (hT.ex b1.wo)
    have t1' := wo_ex _ _ t1
    have hlen := hW.ok.1.1
    have hpos : 0 < ts.length := by
      have := hW.ok.1.2.2
      have h2 := List.countP_le_length (p := fun t : Tk => t.1.isNone) (l := ts)
      omega
    -- with one more
    by_cases c1 : way = 1 ∧ ds.length < 6
    · obtain ⟨rfl, c2⟩ := c1
      refine ⟨_, rfl, rfl, _, rfl, if_t (by decide) ⟨_, rfl, ld, _, rfl, .inl (SqL.of d1'), _, _, rfl, rfl, _, rfl, ?_⟩⟩
      refine if_t (decide_eq_true (by rw [List.length_map, d2]; omega)) ?_
      refine ⟨_, rfl, _, rfl, ld, _, rfl, .inl (SqL.of d1'), _, _, rfl, rfl, sk, _, n + 1, rfl, s1, by omega, by rw [List.length_map]; omega, by rw [List.length_map, n200]; omega, fun kk H2 k0 k1 b2 s2 z2 => ?_⟩
      rw [List.length_map, d2] at k1
      obtain ⟨i, rfl⟩ : ∃ i : Nat, kk = (i : Int) := ⟨kk.toNat, by omega⟩
      have hi : i ≤ ds.length := by omega
      have b12 := b1.trans b2
      have nls : ∀ {a : Addr} {o : HO}, wo sk H1 a = some o → H2 a = some o := fun h => wo_ex _ _ (b2.wo _ _ h)
      refine ⟨_, rfl, _, rfl, lv, _, rfl, .inl (SqL.of (nls t1)), ?_⟩
      show tOp (rIxL _) (tLst _) (tCall spCoin [] E0 _) _ _ _
      refine pick_read (xs := (["pour", "scoop", "move"] : List Str).map V.str) rfl (by decide) (by decide) rfl s2 (by omega) (fun _ _ q => q) fun v H3 hv b3 s3 => ?_
      obtain ⟨x, hx, rfl⟩ := List.mem_map.mp hv
      have wx : Word x := by
        simp only [List.mem_cons, List.not_mem_nil, or_false] at hx
        rcases hx with rfl | rfl | rfl <;> (unfold Word; decide)
      refine ⟨sk, _, 12, x, n + 3, rfl, by rw [t2]; omega, by rw [t2]; omega, by decide, by decide, wx, s3, by omega, fun t d H4 b4 s4 hd hdo hdp => ?_⟩
      rw [t2] at hdo
      have b24 := (b2.trans b3).trans b4
      have nl4 : ∀ {a : Addr} {o : HO}, wo sk H1 a = some o → H4 a = some o := fun h => wo_ex _ _ (b24.wo _ _ h)
      have dW := hd.ex (nw_wo s3)
      have q0 := nl4 d1
      refine ⟨_, rfl, _, rfl, _, rfl, (i : Int), rfl, ld, _, rfl, SqL.of q0, fun p1 hp1 => ?_⟩
      have e2 := Evl.Ex.new (o := .lst (cutV (as.map V.ref) none (some (i : Int)))) hp1
      have q1 : upd H4 p1 (.lst (cutV (as.map V.ref) none (some (i : Int)))) p1 = some (.lst ((as.take i).map V.ref)) := Eq.trans upd_same (by rw [cut_min, List.map_take])
      generalize upd H4 p1 (.lst (cutV (as.map V.ref) none (some (i : Int)))) = H5 at e2 q1
      refine ⟨_, rfl, one, fun p2 hp2 => ?_⟩
      have e3 := Evl.Ex.new (o := .lst [V.ref t]) hp2
      refine ⟨p1, p2, _, _, rfl, rfl, e3 _ _ q1, upd_same, ?_, fun p3 hp3 => ?_⟩
      · rw [List.length_map, List.length_take]
        exact Nat.le_trans (show min i as.length + 1 ≤ 120 by omega) (by decide)
      have e4 := Evl.Ex.new (o := .lst ((as.take i).map V.ref ++ [V.ref t])) hp3
      have q3 : upd (upd H5 p2 (.lst [V.ref t])) p3 (.lst ((as.take i).map V.ref ++ [V.ref t])) p3 = some (.lst ((as.take i ++ [t]).map V.ref)) := Eq.trans upd_same (by rw [List.map_append]; rfl)
      have e14 := (e2.trans e3).trans e4
      generalize upd (upd H5 p2 (.lst [V.ref t])) p3 (.lst ((as.take i).map V.ref ++ [V.ref t])) = H6 at e4 q3 e14
      refine ⟨_, rfl, _, rfl, (i : Int), rfl, ld, _, rfl, SqL.of (e14 _ _ q0), fun p4 hp4 => ?_⟩
      have e5 := Evl.Ex.new (o := .lst (cutV (as.map V.ref) (some (i : Int)) none)) hp4
      have q4 : upd H6 p4 (.lst (cutV (as.map V.ref) (some (i : Int)) none)) p4 = some (.lst ((as.drop i).map V.ref)) := Eq.trans upd_same (by rw [cut_drop, List.map_drop])
      generalize upd H6 p4 (.lst (cutV (as.map V.ref) (some (i : Int)) none)) = H7 at e5 q4
      refine ⟨p3, p4, _, _, rfl, rfl, e5 _ _ q3, q4, ?_, fun p5 hp5 => ?_⟩
      · rw [List.length_map, List.length_map, List.length_append, List.length_take, List.length_drop]
        exact Nat.le_trans (show min i as.length + 1 + (as.length - i) ≤ 120 by omega) (by decide)
      have e6 := Evl.Ex.new (o := .lst ((as.take i ++ [t]).map V.ref ++ (as.drop i).map V.ref)) hp5
      have q5 : upd H7 p5 (.lst ((as.take i ++ [t]).map V.ref ++ (as.drop i).map V.ref)) p5 = some (.lst ((as.take i ++ [t] ++ as.drop i).map V.ref)) := Eq.trans upd_same (by rw [← List.map_append])
      generalize upd H7 p5 (.lst ((as.take i ++ [t]).map V.ref ++ (as.drop i).map V.ref)) = H8 at e6 q5
      have e48 := (e14.trans e5).trans e6
      have s8 := s4.ex e48
      have p5sk : p5 ≠ sk := sk_ne ((s4.ex e14).ex e5) hp5
      refine ⟨two, fun u hu => ?_⟩
      have e9 := Evl.Ex.new (o := .tup [.ref lv, .ref p5]) hu
      have g9 := upd_same (H := H8) (a := u) (o := .tup [.ref lv, .ref p5])
      have usk := sk_ne s8 hu
      generalize upd H8 u (.tup [.ref lv, .ref p5]) = H9 at e9 g9
      refine ⟨_, rfl, three, fun r hr => ?_⟩
      have eA := Evl.Ex.new (o := .tup [.ref u, .str "without", .int (i : Int)]) hr
      have gA := upd_same (H := H9) (a := r) (o := .tup [.ref u, .str "without", .int (i : Int)])
      have rsk := sk_ne (s8.ex e9) hr
      generalize upd H9 r (.tup [.ref u, .str "without", .int (i : Int)]) = HA at eA gA
      have e4A := (e48.trans e9).trans eA
      have b1A := b24.trans (But.of_ex (p := sk) e4A)
      have wA := (But.of_ex (p := sk) e4A).wo
      obtain ⟨pl, pd⟩ := ds_app3 (H := wo sk H4) (bs := [t]) (es := [d]) d2 (fun j a d' u1 u2 => (d3 j a d' u1 u2).ex b24.wo) rfl (fun j a d' u1 u2 => by
        match j, u1, u2 with
        | 0, u1, u2 => cases u1; cases u2; exact dW
        | j + 1, u1, u2 => cases u1) i i
      have hDs : DsAt (wo sk HA) p5 (ds.take i ++ [d] ++ ds.drop i) := ⟨_, wo_at p5sk (eA _ _ (e9 _ _ q5)), pl, fun j a d' u1 u2 => (pd j a d' u1 u2).ex wA⟩
      obtain ⟨w1, w2⟩ := rd_without (d := d) hi
      refine k r u "without" (i : Int) _ HA (b1.trans b1A) ((s8.ex (e9.trans eA)).le (by omega)) (wo_at rsk gA) ⟨lv, p5, wo_at usk (eA _ _ g9), (hT.ex b1.wo).ex b1A.wo, hDs⟩ ⟨⟨hW.ok.1, ?_, fun d' hd' => ?_⟩, hW.w1000, fun k' a' hd' => ?_⟩ (.inr (.inl ⟨rfl, i, rfl, w1, w2⟩))
      · rw [List.length_append, List.length_append, List.length_take, List.length_drop]
        show min i ds.length + 1 + (ds.length - i) ≤ 60
        omega
      · rcases List.mem_append.mp hd' with h | h
        · rcases List.mem_append.mp h with h | h
          · exact hW.ok.2.2 d' (List.mem_of_mem_take h)
          · rw [List.mem_singleton.mp h]
            exact hdo
        · exact hW.ok.2.2 d' (List.mem_of_mem_drop h)
      · rcases List.mem_append.mp hd' with h | h
        · rcases List.mem_append.mp h with h | h
          · exact hW.p1000 _ _ (List.mem_of_mem_take h)
          · exact hdp k' a' (List.mem_singleton.mp h).symm
        · exact hW.p1000 _ _ (List.mem_of_mem_drop h)
    have dflt : ∀ r, H1 r = none → Q (.ref r) (upd H1 r (.tup [.ref sh, .str "", .int 0])) := fun r hr => by
      have e := Evl.Ex.new (o := .tup [.ref sh, .str "", .int 0]) hr
      have b := But.of_ex (p := sk) e
      exact k r sh "" 0 ds _ (b1.trans b) ((s1.ex e).le (by omega)) (wo_at (sk_ne s1 hr) upd_same) ⟨lv, ld, (b1.trans b).wo _ _ hsh, hT.ex (b1.trans b).wo, hD.ex (b1.trans b).wo⟩ hW (.inl ⟨rfl, rfl⟩)
    by_cases y1 : way = 1
    · subst y1
      have c2 : ¬ (((as.map V.ref).length : Nat) : Int) < 6 := by
        rw [List.length_map, d2]
        exact fun q => c1 ⟨rfl, by omega⟩
      refine ⟨_, rfl, rfl, _, rfl, if_t (by decide) ⟨_, rfl, ld, _, rfl, .inl (SqL.of d1'), _, _, rfl, rfl, _, rfl, if_f (decide_eq_false c2) ?_⟩⟩
      exact ⟨_, rfl, rfl, _, rfl, if_f (by decide) (if_f (by decide) ⟨_, rfl, three, dflt⟩)⟩
    refine ⟨_, rfl, rfl, _, rfl, if_f (decide_eq_false fun q => y1 (by injection q)) (if_f (by decide) ?_)⟩
    by_cases y2 : way = 2
    rotate_left
    · exact ⟨_, rfl, rfl, _, rfl, if_f (decide_eq_false fun q => y2 (by injection q)) (if_f (by decide) ⟨_, rfl, three, dflt⟩)⟩
    subst y2
    refine ⟨_, rfl, rfl, _, rfl, if_t (by decide) ⟨_, rfl, ld, _, rfl, .inl (SqL.of d1'), _, _, rfl, rfl, _, rfl, ?_⟩⟩
    by_cases y3 : 1 < ds.length
    rotate_left
    · exact if_f (decide_eq_false (by rw [List.length_map, d2]; omega)) ⟨_, rfl, three, dflt⟩
    refine if_t (decide_eq_true (by rw [List.length_map, d2]; omega)) ?_
    refine ⟨_, rfl, _, rfl, ld, _, rfl, .inl (SqL.of d1'), _, _, rfl, rfl, sk, _, n + 1, rfl, s1, by omega, by rw [List.length_map]; omega, by rw [List.length_map, n200]; omega, fun kk H2 k0 k1 b2 s2 z2 => ?_⟩
    rw [List.length_map, d2] at k1
    obtain ⟨i, rfl⟩ : ∃ i : Nat, kk = (i : Int) := ⟨kk.toNat, by omega⟩
    have hi : i + 1 < ds.length := by omega
    have q0 : H2 ld = some (.lst (as.map V.ref)) := wo_ex _ _ (b2.wo _ _ d1)
    obtain ⟨a0, ha0⟩ : ∃ a, as[i]? = some a := ⟨_, List.getElem?_eq_getElem (by omega)⟩
    obtain ⟨a1, ha1⟩ : ∃ a, as[i + 1]? = some a := ⟨_, List.getElem?_eq_getElem (by omega)⟩
    obtain ⟨dA, hd0⟩ : ∃ d, ds[i]? = some d := ⟨_, List.getElem?_eq_getElem (by omega)⟩
    obtain ⟨dB, hd1⟩ : ∃ d, ds[i + 1]? = some d := ⟨_, List.getElem?_eq_getElem (by omega)⟩
    have g0 : (as.map V.ref)[i]? = some (.ref a0) := by rw [List.getElem?_map, ha0]; rfl
    have g1' : (as.map V.ref)[i + 1]? = some (.ref a1) := by rw [List.getElem?_map, ha1]; rfl
    refine ⟨_, rfl, _, rfl, _, rfl, (i : Int), rfl, ld, _, rfl, SqL.of q0, fun p1 hp1 => ?_⟩
    have e2 := Evl.Ex.new (o := .lst (cutV (as.map V.ref) none (some (i : Int)))) hp1
    have q1 : upd H2 p1 (.lst (cutV (as.map V.ref) none (some (i : Int)))) p1 = some (.lst ((as.take i).map V.ref)) := Eq.trans upd_same (by rw [cut_min, List.map_take])
    generalize upd H2 p1 (.lst (cutV (as.map V.ref) none (some (i : Int)))) = H5 at e2 q1
    refine ⟨_, rfl, _, rfl, _, _, rfl, rfl, ld, _, ((i + 1 : Nat) : Int), _, rfl, rfl, SqL.of (e2 _ _ q0), atI_nat g1', _, rfl, _, rfl, ld, _, (i : Int), _, rfl, rfl, SqL.of (e2 _ _ q0), atI_nat g0, two, fun p2 hp2 => ?_⟩
    have e3 := Evl.Ex.new (o := .lst [V.ref a1, V.ref a0]) hp2
    refine ⟨p1, p2, _, _, rfl, rfl, e3 _ _ q1, upd_same, ?_, fun p3 hp3 => ?_⟩
    · rw [List.length_map, List.length_take]
      exact Nat.le_trans (show min i as.length + 2 ≤ 120 by omega) (by decide)
    have e4 := Evl.Ex.new (o := .lst ((as.take i).map V.ref ++ [V.ref a1, V.ref a0])) hp3
    have q3 : upd (upd H5 p2 (.lst [V.ref a1, V.ref a0])) p3 (.lst ((as.take i).map V.ref ++ [V.ref a1, V.ref a0])) p3 = some (.lst ((as.take i ++ [a1, a0]).map V.ref)) := Eq.trans upd_same (by rw [List.map_append]; rfl)
    have e14 := (e2.trans e3).trans e4
    generalize upd (upd H5 p2 (.lst [V.ref a1, V.ref a0])) p3 (.lst ((as.take i).map V.ref ++ [V.ref a1, V.ref a0])) = H6 at e4 q3 e14
    refine ⟨_, rfl, _, rfl, _, _, rfl, rfl, ((i + 2 : Nat) : Int), rfl, ld, _, rfl, SqL.of (e14 _ _ q0), fun p4 hp4 => ?_⟩
    have e5 := Evl.Ex.new (o := .lst (cutV (as.map V.ref) (some ((i + 2 : Nat) : Int)) none)) hp4
    have q4 : upd H6 p4 (.lst (cutV (as.map V.ref) (some ((i + 2 : Nat) : Int)) none)) p4 = some (.lst ((as.drop (i + 2)).map V.ref)) := Eq.trans upd_same (by rw [cut_drop, List.map_drop])
    generalize upd H6 p4 (.lst (cutV (as.map V.ref) (some ((i + 2 : Nat) : Int)) none)) = H7 at e5 q4
    refine ⟨p3, p4, _, _, rfl, rfl, e5 _ _ q3, q4, ?_, fun p5 hp5 => ?_⟩
    · rw [List.length_map, List.length_map, List.length_append, List.length_take, List.length_drop]
      exact Nat.le_trans (show min i as.length + 2 + (as.length - (i + 2)) ≤ 120 by omega) (by decide)
    have e6 := Evl.Ex.new (o := .lst ((as.take i ++ [a1, a0]).map V.ref ++ (as.drop (i + 2)).map V.ref)) hp5
    have q5 : upd H7 p5 (.lst ((as.take i ++ [a1, a0]).map V.ref ++ (as.drop (i + 2)).map V.ref)) p5 = some (.lst ((as.take i ++ [a1, a0] ++ as.drop (i + 2)).map V.ref)) := Eq.trans upd_same (by rw [← List.map_append])
    generalize upd H7 p5 (.lst ((as.take i ++ [a1, a0]).map V.ref ++ (as.drop (i + 2)).map V.ref)) = H8 at e6 q5
    have e48 := (e14.trans e5).trans e6
    have s8 := s2.ex e48
    have p5sk : p5 ≠ sk := sk_ne ((s2.ex e14).ex e5) hp5
    refine ⟨two, fun u hu => ?_⟩
    have e9 := Evl.Ex.new (o := .tup [.ref lv, .ref p5]) hu
    have g9 := upd_same (H := H8) (a := u) (o := .tup [.ref lv, .ref p5])
    have usk := sk_ne s8 hu
    generalize upd H8 u (.tup [.ref lv, .ref p5]) = H9 at e9 g9
    refine ⟨_, rfl, three, fun r hr => ?_⟩
    have eA := Evl.Ex.new (o := .tup [.ref u, .str "exchanged", .int (i : Int)]) hr
    have gA := upd_same (H := H9) (a := r) (o := .tup [.ref u, .str "exchanged", .int (i : Int)])
    have rsk := sk_ne (s8.ex e9) hr
    generalize upd H9 r (.tup [.ref u, .str "exchanged", .int (i : Int)]) = HA at eA gA
    have e4A := (e48.trans e9).trans eA
    have b1A := b2.trans (But.of_ex (p := sk) e4A)
    have wA := (But.of_ex (p := sk) e4A).wo
    obtain ⟨pl, pd⟩ := ds_app3 (H := wo sk H2) (bs := [a1, a0]) (es := [dB, dA]) d2 (fun j a d' u1 u2 => (d3 j a d' u1 u2).ex b2.wo) rfl (fun j a d' u1 u2 => by
      match j, u1, u2 with
      | 0, u1, u2 => cases u1; cases u2; exact (d3 _ _ _ ha1 hd1).ex b2.wo
      | 1, u1, u2 => cases u1; cases u2; exact (d3 _ _ _ ha0 hd0).ex b2.wo
      | j + 2, u1, u2 => cases u1) i (i + 2)
    have hDs : DsAt (wo sk HA) p5 (xch ds i dA dB) := ⟨_, wo_at p5sk (eA _ _ (e9 _ _ q5)), pl, fun j a d' u1 u2 => (pd j a d' u1 u2).ex wA⟩
    obtain ⟨w1, w2, w3⟩ := xch_xch hd0 hd1
    have mem : ∀ d' ∈ xch ds i dA dB, d' ∈ ds := fun d' hd' => by
      unfold xch at hd'
      rcases List.mem_append.mp hd' with h | h
      · rcases List.mem_append.mp h with h | h
        · exact List.mem_of_mem_take h
        · simp only [List.mem_cons, List.not_mem_nil, or_false] at h
          rcases h with rfl | rfl
          · exact List.mem_of_getElem? hd1
          · exact List.mem_of_getElem? hd0
      · exact List.mem_of_mem_drop h
    refine k r u "exchanged" (i : Int) _ HA (b1.trans b1A) ((s8.ex (e9.trans eA)).le (by omega)) (wo_at rsk gA) ⟨lv, p5, wo_at usk (eA _ _ g9), (hT.ex b1.wo).ex b1A.wo, hDs⟩ ⟨⟨hW.ok.1, ?_, fun d' hd' => hW.ok.2.2 d' (mem d' hd')⟩, hW.w1000, fun k' a' hd' => hW.p1000 _ _ (mem _ hd')⟩ (.inr (.inr ⟨rfl, i, _, _, rfl, w1, w2, w3⟩))
    unfold xch
    rw [List.length_append, List.length_append, List.length_take, List.length_drop]
    show min i ds.length + 2 + (ds.length - (i + 2)) ≤ 60
    omega
end
end V2


namespace V2
open PySem L2
open PySem.Spec PyProof.Rows
/-! ## a width that is refused, by another law -/
/-- isinstance(e, D), e the error that is handled, of the known class C -/
def tI1O (C : Addr) (a : Addr) (cls : Value) (d : Option Addr) (n : Nat) (b : Bool) : TE := fun σ H Q => ∃ (dd : Addr) (fs : List (Str × V)), σ[n]? = some (some (.ref a)) ∧ cls = .ref C ∧ d = some dd ∧ H dd = some (.xd fs) ∧ Q (.bl b) H
section
variable {X : Cx} {C D fI a : Addr} {oe : Obj} {cls : Value} {d : Option Addr} {pn : List (Addr × Obj)} {n : Nat} {x y : Str} {p1 p2 p3 pos : Pos} {b : Bool}
theorem pe_i1O {K : PySem.W.Frag} {mg : Str → Option Value} (hK : X.K = K) (hmg : X.mg = mg) (T : EC K C fI) (G : EG K fI) (mI : mg "isinstance" = none) (mD : mg y = some (.ref D)) (kv : PySem.W.kitOne K (.ref C) (.ref D) = some b) (hz : Zc cls d oe) (hf : ∃ vs, oe.data = .fields vs) (he : PE (X.suite a ((a, oe) :: pn)) (.Name x p1) (tVar n))
    (hg : Gl (X.suite a ((a, oe) :: pn)) "isinstance" := by rfl) (hg2 : Gl (X.suite a ((a, oe) :: pn)) y := by rfl) (hdb : (y == ("__debug__" : Str)) = false := by decide) :
    PE (X.suite a ((a, oe) :: pn)) (.Call (.Name "isinstance" p2) [.Name x p1, .Name y p3] [] pos) (tI1O C a cls d n b) := by
  subst hK hmg
  refine ⟨fun pins s σ H Q I h => ?_⟩
  obtain ⟨dd, fs, h3, e1, e2, hx, q⟩ := h
  have hc : (a, oe).2.cls = .ref C := hz.1.trans e1
  have z := pe_callB (X := X.suite a ((a, oe) :: pn)) (p := p2) (pos := pos) (call_isP (p := (a, oe)) (C := C) G List.mem_cons_self hc hf) hg mI (by decide +kernel) (pa_cons he (pa_cons (pe_glob (pos := p3) (v := .ref D) hg2 mD rfl hdb) pa_nil))
  exact z.run pins s σ H Q I ⟨_, h3, dd, fs, .ref D, .ref D, b, rfl, hz.2.trans e2, hx, T, fun u h => h, kv, q⟩
end
def spRunX (CF : Addr) : Sp := fun vs H Q E => ∃ (v : V) (g : Addr) (p q : Int), vs = [v, .ref g] ∧ Fr H g p q ∧ ¬ (frB p q = true ∧ 0 < p) ∧ ∀ (y : V) (H1 : Hp), Evl.Ex H H1 → TrD (Nw H H1) y (frD (p, q)) [] → Rz CF H1 y E
def spRoaded (C : Addr) : Sp := fun vs H Q _ => ∃ (x : Addr) (wd : Str) (k : Int) (ts : List Tk) (ds' ds : List Deed), vs = [.ref x, .str wd, .int k] ∧ ScAt H C x ts ds' ∧ okS ts ds' ∧ RdOk wd k ds' ds ∧
  ∀ (y : Addr) (H' : Hp), Evl.Ex H H' → (ScAt (Nw H H') C y ts ds ∨ (y = x ∧ ds' = ds)) → Q (.ref y) H'
def spRefR : Sp := fun vs H Q _ => ∃ (v : V) (s : Addr) (n : Nat), vs = [v, .ref s] ∧ Sk H s n ∧ n ≤ 80000 ∧ ∀ H', But s H H' → Sk H' s (n + 3) → Q (.bl true) H'
section
variable {base : Heap} {mg : Str → Option Value} {K : PySem.W.Frag} {w : World} {P : Program} {C fI fT fS pT pS fW fX CF CT CR gI : Addr}
theorem ok_roaded {f : Addr} {fd fdW fdX : FuncData} (F : Fun K "_law_wl_roaded" "_law_wl_roaded" s_l_roaded f fd) (c : ScC K C fI fT fS pT pS) (meW : Meth K C "without" fW) (FW : FnOk P w K mg base CX0 7 fW fdW p_Sc_without (spWoN C)) (bW : Binds K fdW p_Sc_without []) (meX : Meth K C "exchanged" fX) (FX : FnOk P w K mg base CX0 7 fX fdX p_Sc_exchanged (spXcN C)) (bX : Binds K fdX p_Sc_exchanged []) : FnOk P w K mg base CX0 8 f fd p_l_roaded (spRoaded C) := by
  refine F.ok sc_l_roaded (fun vs H Q E h => ?_) (fun cdv A outer s H vs Q E hr h => ?_)
  · obtain ⟨x, wd, k, ts, ds', ds, rfl, _⟩ := h
    rfl
  · obtain ⟨x, wd, kk, ts, ds', ds, rfl, hS, hok, hrd, k⟩ := h
    have nd := sc_l_roaded.nd
    refine ⟨_, pss_cons (ps_if (pt_cmpR op_eq (pv 1) pe_str (nomark _)) (pss_one (ps_ret (pv 0))) pss_nil)
      (pss_one (ps_ret (pe_ifExp (pt_cmpR op_eq (pv 1) pe_str (nomark _)) (pe_meth (pv 0) c.cls meW FW hr bW .nil pass0 (pa_cons (pv 2) pa_nil)) (pe_meth (pv 0) c.cls meX FX hr bX .nil pass0 (pa_cons (pv 2) pa_nil))))), ?_⟩
    obtain ⟨dx, fs, v, u, hx, hv, hu, hdv, hdu, g0⟩ := id hS
    rcases hrd with ⟨rfl, rfl⟩ | ⟨rfl, i, rfl, hi, rfl⟩ | ⟨rfl, i, d, e, rfl, h1, h2, rfl⟩
    · exact ⟨_, rfl, rfl, _, rfl, if_t (by decide) ⟨_, rfl, k x H (Evl.Ex.refl _) (.inr ⟨rfl, rfl⟩)⟩⟩
    · refine ⟨_, rfl, rfl, _, rfl, if_f (by decide) ⟨_, rfl, rfl, _, rfl, if_t (by decide) ?_⟩⟩
      subst g0
      exact ⟨_, rfl, x, dx, _, rfl, hx, rfl, _, rfl, x, i, ts, ds', rfl, hS, hok, hi, fun y H' hy e h => k y H' e (.inl h)⟩
    · refine ⟨_, rfl, rfl, _, rfl, if_f (by decide) ⟨_, rfl, rfl, _, rfl, if_f (by decide) ?_⟩⟩
      subst g0
      exact ⟨_, rfl, x, dx, _, rfl, hx, rfl, _, rfl, x, i, ts, ds', d, e, rfl, hS, hok, h1, h2, fun y H' hy e h => k y H' e (.inl h)⟩
theorem ok_runX {f : Addr} {fd : FuncData} (F : Fun K "run" "run" s_run f fd) (cW : CalX P w K mg base 3 "check_width" p_check_width (spWidX CF)) : FnOk P w K mg base (L2.CX P w) 4 f fd p_run (spRunX CF) := by
  refine F.okX sc_run (fun vs H Q E h => ?_) (fun cdv A outer s H vs Q E hr h => ?_)
  · obtain ⟨v, g, p, q, rfl, _⟩ := h
    rfl
  · obtain ⟨v, g, p, q, rfl, hg, hno, k⟩ := h
    refine ⟨_, pss_cons (ps_expr (pe_cx (E := E) cW hr (takes_of rfl rfl rfl rfl) (fun _ _ _ _ h => h) (pa_cons (pv 1) pa_nil))) (pss_one ps_never), ?_⟩
    exact ⟨_, rfl, g, p, q, rfl, hg, fun h1 h2 => absurd ⟨h1, h2⟩ hno, fun _ => k⟩
theorem sx_ref {p q : Int} (hp : p.natAbs ≤ 1000) (hq : q.natAbs ≤ 1000) : ShX (.list [frD (p, q), .bool true, .bool true, .bool false]) := by
  have hF : Sx 2 140 (frD (p, q)) := (sx_tup (xs := [.int p, .int q]) (n := 1) (B := 60) fun d hd => by
    simp only [List.mem_cons, List.not_mem_nil, or_false] at hd
    rcases hd with rfl | rfl
    · exact sx_i50 (Nat.lt_of_le_of_lt hp (by decide))
    · exact sx_i50 (Nat.lt_of_le_of_lt hq (by decide))).le (by decide) (by show 2 * 60 + 2 * 2 + 3 ≤ 140; decide)
  have := sx_list (xs := [frD (p, q), .bool true, .bool true, .bool false]) (n := 2) (B := 140) fun d hd => by
    simp only [List.mem_cons, List.not_mem_nil, or_false] at hd
    rcases hd with rfl | rfl | rfl | rfl
    · exact hF
    · exact (sx_bool true).le (by decide) (by decide)
    · exact (sx_bool true).le (by decide) (by decide)
    · exact (sx_bool false).le (by decide) (by decide)
  exact this.sh (by decide) (by show 4 * 140 + 2 * 4 + 3 ≤ 10000000; decide)
theorem ok_refused_right {f fR : Addr} {fd fdR : FuncData} (F : Fun K "_law_refused_right" "_law_refused_right" s_l_refused_right f fd) (hN : NoDig K) (mRe : mg "repr" = none) (cW : Cal P w K mg base 2 "_law_wl_wrong_width" p_l_wrong_width spWw)
    (FR : FnOk P w K mg base (L2.CX P w) 4 fR fdR p_run (spRunX CF)) (mRun : mg "run" = some (.ref fR)) (kR : PySem.W.keepIn K (.ref fR) = true) (bR : Binds K fdR p_run [])
    (T : EC K CF gI) (G : EG K gI) (mF : mg "InvalidFraction" = some (.ref CF)) (mT : mg "TankError" = some (.ref CT)) (mR : mg "InvalidRange" = some (.ref CR)) (mI : mg "isinstance" = none) (mV : mg "ValueError" = none)
    (sb : PySem.W.subIn K (.ref CF) (.ref CF) = some true) (kt : PySem.W.kitOne K (.ref CF) (.ref CT) = some true) (kv : PySem.W.kitOne K (.ref CF) (.type "ValueError") = some true) (kr : PySem.W.kitOne K (.ref CF) (.ref CR) = some false) : FnG P w K mg base 5 f fd p_l_refused_right spRefR := by
  refine Fun.okG F sc_l_refused_right (fun vs H Q E h => ?_) (fun cdv A outer s H vs Q E hg hr h => ?_)
  · obtain ⟨v, s, n, rfl, _⟩ := h
    rfl
  · obtain ⟨v, sk, n, rfl, hS, hn, k⟩ := h
    have nd := sc_l_refused_right.nd
    have four : 4 ≤ sizeLine := by show 4 ≤ sizeLine; decide
    have r2 : Room 2 _ := hr.mono (by decide)
    refine ⟨_, pss_cons (ps_par (i := 2) (j := 3) rfl nd rfl rfl (by decide) rfl rfl (pa_cons (pe_c cW r2 (pa_cons (pv 1) pa_nil)) (pa_cons (pe_lst pa_nil) pa_nil)) (by rfl))
      (pss_cons (ps_try_as (i := 4) (tb := fun W => tDrop (tCallS (spRunX CF) (WE W) (tCons (tVar 0) (tCons (tVar 2) tNil)))) (ts := fun a cls d => tAsg (tLst (tCons (tV1E CF a cls d 4) (tCons (tI1O CF a cls d 4 true) (tCons (tI1E CF a cls d 4) (tCons (tI1O CF a cls d 4 false) tNil))))) (gName 3)) (Wout := fun _ _ _ _ => False) rfl rfl nd rfl rfl ⟨rfl, by decide, Or.inl mF⟩ takes0
          (fun W pn xe tk _ => pss_one (ps_expr (by exact (pe_callS FR hr (by rfl) mRun kR bR (fun σ => passAt tk σ) (by exact (pa_cons (pv 0) (pa_cons (pv 2) pa_nil)))))))
          (fun a oe cls d pn hz hf => pss_one (ps_set (i := 3) nd rfl (Or.inl rfl) (pe_lst (pa_cons (pe_v1E rfl T hz hf (pv 4)) (pa_cons (pe_i1O rfl rfl T G mI mT kt hz hf (pv 4)) (pa_cons (pe_i1E rfl rfl T G mI mV kv hz hf (pv 4)) (pa_cons (pe_i1O rfl rfl T G mI mR kr hz hf (pv 4)) pa_nil))))))))
      (pss_one (ps_ret (pe_cmpR op_eq (pe_callB (call_showW hN hg hr.units) (by rfl) mRe (by decide +kernel) (pa_cons (pv 3) pa_nil)) (pe_callB (call_showW hN hg hr.units) (by rfl) mRe (by decide +kernel) (pa_cons (pe_lst (pa_cons (pv 2) (pa_cons pe_bl (pa_cons pe_bl (pa_cons pe_bl pa_nil))))) pa_nil)) (nomark _))))), ?_⟩
    refine ⟨_, rfl, sk, n, rfl, hS, hn, fun t p q H1 b1 s1 ht hf hbad hp hq => ⟨Nat.zero_le _, fun l0 hl0 => ⟨_, _, rfl, ?_⟩⟩⟩
    have e2 := Evl.Ex.new (o := .lst []) hl0
    generalize upd H1 l0 (.lst []) = H2 at e2
    have hf2 := e2 _ _ (wo_ex _ _ hf)
    have hno : ¬ (frB p q = true ∧ 0 < p) := fun z => by
      obtain ⟨z1, z2⟩ := z
      unfold frB at z1
      rw [Bool.and_eq_true] at z1
      have q1 := of_decide_eq_true z1.1
      have q2 := of_decide_eq_true z1.2
      rcases hbad with h | h | h
      · omega
      · omega
      · exact h q2
    have tsk : t ≠ sk := sk_ne hS ht
    refine ⟨_, rfl, _, rfl, v, t, p, q, rfl, hf2, hno, fun y H3 e3 hy e H4 he e4 hx => ⟨true, PySem.W.exm_ref T.xf.exC T.xf.hdC T.ox.tyC sb, fun _ a ha => ?_, fun z => Bool.noConfusion z⟩⟩
    have e34 := e3.trans e4
    have hy4 := (hy.dq.go Nw.ex).go e4
    refine ⟨e, _, y, rfl, rfl, rfl, hx, rfl, e, _, rfl, rfl, rfl, hx, e, _, rfl, rfl, rfl, hx, e, _, rfl, rfl, rfl, hx, four, fun q5 hq5 => ?_⟩
    have e5 := Evl.Ex.new (o := .lst [y, .bl true, .bl true, .bl false]) hq5
    have g5 := upd_same (H := H4) (a := q5) (o := .lst [y, .bl true, .bl true, .bl false])
    generalize upd H4 q5 (.lst [y, .bl true, .bl true, .bl false]) = H5 at e5 g5
    obtain ⟨w1, w2, w3⟩ := sx_ref hp hq
    refine ⟨_, rfl, q5, _, rfl, .lst g5 (.cons (hy4.go e5) (.cons (.bl true) (.cons (.bl true) (.cons (.bl false) .nil)))), w1, w2, w3, _, rfl, four, fun q6 hq6 => ?_⟩
    have e6 := Evl.Ex.new (o := .lst [.ref t, .bl true, .bl true, .bl false]) hq6
    have g6 := upd_same (H := H5) (a := q6) (o := .lst [.ref t, .bl true, .bl true, .bl false])
    generalize upd H5 q6 (.lst [.ref t, .bl true, .bl true, .bl false]) = H6 at e6 g6
    have e26 := (e34.trans e5).trans e6
    have hft : Dq H6 (.ref t) (frD (p, q)) := .tup (e26 _ _ hf2) (.cons (.int p) (.cons (.int q) .nil))
    refine ⟨q6, _, rfl, .lst g6 (.cons hft (.cons (.bl true) (.cons (.bl true) (.cons (.bl false) .nil)))), w1, w2, w3, rfl, ?_⟩
    show Q (.bl (decide (V.str (PyData.list _).shown = V.str (PyData.list _).shown))) H6
    rw [decide_eq_true rfl]
    exact k H6 (b1.trans (But.of_ex (e2.trans e26))) (s1.ex (e2.trans e26))
end
end V2


namespace V2
open PySem L2
open PySem.Spec PyProof.Rows
/-! ## a run is right, by another law -/
theorem dqa_frs {H : Hp} : ∀ (as : List Addr) (fs : List (Int × Int)), as.length = fs.length → (∀ (i : Nat) (a : Addr) (f : Int × Int), as[i]? = some a → fs[i]? = some f → Fr H a f.1 f.2) → DqAll H (as.map V.ref) (fs.map frD)
  | [], [], _, _ => .nil
  | [], _ :: _, h, _ => by cases h
  | _ :: _, [], h, _ => by cases h
  | a :: as, f :: fs, h, g => .cons (.tup (g 0 a f rfl rfl) (.cons (.int _) (.cons (.int _) .nil))) (dqa_frs as fs (Nat.succ.inj h) fun i b e x y => g (i + 1) b e x y)
def dueW (e : V) (fs : List (Int × Int)) : PyData := .tuple [eD e, .list (fs.map frD)]
theorem dq_due {H : Hp} {t D : Addr} {e : V} {fs : List (Int × Int)} (he : IxV e) (ht : H t = some (.tup [e, .ref D])) (hD : PrAt H D fs) : Dq H (.ref t) (dueW e fs) := by
  obtain ⟨as, h1, h2, h3⟩ := hD
  have h0 : Dq H e (eD e) := by
    rcases he with rfl | ⟨i, rfl, _⟩
    · exact .non
    · exact .int _
  exact .tup ht (.cons h0 (.cons (.lst h1 (dqa_frs as fs h2 h3)) .nil))
theorem lvs_wide {ts : List Tk} {ds : List Deed} {u b : Int} (h : ShW ts ds) (hu : 0 < u) (hQ : Qn u b) (i : Nat) : (lvsA ts ds u b i).length ≤ 20 ∧ ∀ f ∈ lvsA ts ds u b i, Fb 4300 f := by
  have hAl := (wAt_ok h hu hQ i).1
  refine ⟨?_, fun f hf => ?_⟩
  · unfold lvsA
    rw [List.length_map, List.length_range, hAl]
    exact h.ok.1.1
  · have hV := shp_v h hu hQ
    obtain ⟨h1, h2, h3⟩ := lvl_bits hAl (wAt_ok h hu hQ i).2 hV hQ.1 hQ.2.2.2 f hf
    exact ⟨h1, h2.le (by omega), h3.le (by omega)⟩
theorem ends_ixW {ts : List Tk} {ds : List Deed} {u b : Int} {n : Nat} {e : V} (h : EndsAt ts ds u b n e) (hl : ds.length ≤ 1000) : IxV e := by
  rcases h.at_ with ⟨_, rfl⟩ | ⟨d, h1, h2, rfl⟩
  · exact .inl rfl
  · exact .inr ⟨n, rfl, Nat.le_trans h.le hl⟩
theorem sh_dueW {e : V} {fs : List (Int × Int)} (he : IxV e) (hl : fs.length ≤ 20) (h : ∀ f ∈ fs, Fb 4300 f) : ShX (dueW e fs) := by
  have h1 := sx_frs (xs := []) (by decide : 0 < 4300) (by decide) hl h (.inl rfl)
  rw [List.append_nil] at h1
  have h3 := sx_tup (xs := [eD e, .list (fs.map frD)]) (n := 3) (B := 600000) fun d hd => by
    simp only [List.mem_cons, List.not_mem_nil, or_false] at hd
    rcases hd with rfl | rfl
    · exact (sx_ix he).le (by decide) (by decide)
    · exact h1
  exact h3.sh (by decide) (by show 2 * 600000 + 2 * 2 + 3 ≤ 10000000; decide)
/-- what a run tells -/
theorem due_sh {ts : List Tk} {ds : List Deed} {u b : Int} {n : Nat} {e : V} (h : ShW ts ds) (hu : 0 < u) (hQ : Qn u b) (hE : EndsAt ts ds u b n e) : IxV e ∧ ShX (dueW e (lvsA ts ds u b n)) := by
  obtain ⟨h1, h2⟩ := lvs_wide h hu hQ n
  have h3 := ends_ixW hE (Nat.le_trans h.ok.2.1 (by decide))
  exact ⟨h3, sh_dueW h3 h1 h2⟩
/-- a list of told widths -/
def WdsAt (H : Hp) (l : Addr) (as : List Addr) : Prop := H l = some (.lst (as.map V.ref)) ∧ ∀ a ∈ as, ∃ u b : Int, Fr H a u b ∧ Qn u b ∧ 0 < u
theorem WdsAt.ex {H H' : Hp} {l : Addr} {as : List Addr} (h : WdsAt H l as) (e : Evl.Ex H H') : WdsAt H' l as := ⟨e _ _ h.1, fun a ha => by
  obtain ⟨u, b, h1, h2⟩ := h.2 a ha
  exact ⟨u, b, e _ _ h1, h2⟩⟩
def gWR {α : Type} : List α → List α
  | [p, q] => [p, q]
  | _ => []
def spRightL : Sp := fun vs H Q _ => ∃ (p : Addr) (m : Nat), vs = [.ref p] ∧ Sk H p m ∧ m ≤ 1000 ∧ ∀ H', But p H H' → Q (.bl true) H'
section
variable {base : Heap} {mg : Str → Option Value} {K : PySem.W.Frag} {w : World} {P : Program} {C fI fT fS pT pS : Addr}
theorem ok_right15 {f : Addr} {fd fdT fdS : FuncData} (F : Fun K "_law_right" "_law_right" s_l_right f fd) (hN : NoDig K) (mRe : mg "repr" = none) (mR : mg "range" = none) (mI : mg "isinstance" = none) (mLs : mg "list" = none) (c : ScC K C fI fT fS pT pS)
    (FT : FnOk P w K mg base CX0 4 fT fdT p_Sc_tanks (spGet C 2 "_tanks")) (bT : Binds K fdT p_Sc_tanks []) (FS : FnOk P w K mg base CX0 5 fS fdS p_Sc_steps (spGet C 3 "_steps")) (bS : Binds K fdS p_Sc_steps [])
    (cC : Cal P w K mg base 1 "_law_coin" p_l_coin spCoin) (cG : Cal P w K mg base 5 "_law_wl_great" p_l_great spShape) (cP : Cal P w K mg base 5 "_law_wl_plan" p_l_plan spPlan) (cRo : Cal P w K mg base 5 "_law_wl_road" p_l_road spRoad) (cM : Cal P w K mg base 7 "_law_wl_made" p_l_made (spMade C)) (cWi : Cal P w K mg base 3 "_law_wl_width" p_l_width (spWid 90000 4))
    (cRun : Cal P w K mg base 10 "run" p_run (spRun C)) (cRunK : CalK P w K mg base 10 "run" p_run ["plan", "width"] gWR (spRun C)) (cRL : Cal P w K mg base 4 "_law_wl_run" p_l_run spRunL) (cRd : Cal P w K mg base 8 "_law_wl_roaded" p_l_roaded (spRoaded C)) (cRf : CalG P w K mg base 5 "_law_refused_right" p_l_refused_right spRefR) : FnG P w K mg base 11 f fd p_l_right spRightL := by
  refine Fun.okG F sc_l_right (fun vs H Q E h => ?_) (fun cdv A outer s H vs Q E hg hr h => ?_)
  · obtain ⟨p, m, rfl, _⟩ := h
    rfl
  · obtain ⟨sk, m, rfl, hS, hm, kk⟩ := h
    have nd := sc_l_right.nd
    have n200 := n200e
    have two : 2 ≤ sizeLine := by show 2 ≤ sizeLine; decide
    have r1 : Room 1 _ := hr.mono (by decide)
    have r3 : Room 3 _ := hr.mono (by decide)
    have r4 : Room 4 _ := hr.mono (by decide)
    have r5 : Room 5 _ := hr.mono (by decide)
    have r6 : Room 6 _ := hr.mono (by decide)
    have r7 : Room 7 _ := hr.mono (by decide)
    have r8 : Room 8 _ := hr.mono (by decide)
    refine ⟨_, pss_cons (ps_set (i := 1) nd rfl (Or.inl rfl) (pe_ifExp (pt_cmpR op_eq (pe_c cC r1 (pa_cons (pv 0) (pa_cons pe_int pa_nil))) pe_int (nomark _)) (pe_c cG r5 (pa_cons (pv 0) pa_nil)) (pe_c cP r5 (pa_cons (pv 0) (pa_cons pe_int (pa_cons pe_int pa_nil))))))
      (pss_cons (ps_asg (pe_c cRo r5 (pa_cons (pv 0) (pa_cons (pv 1) pa_nil))) (pg_tup rfl (pgs_cons (pg_name (i := 2) nd rfl (Or.inl rfl)) (pgs_cons (pg_name (i := 3) nd rfl (Or.inl rfl)) (pgs_cons (pg_name (i := 4) nd rfl (Or.inl rfl)) pgs_nil)))))
      (pss_cons (ps_par (i := 5) (j := 6) rfl nd rfl rfl (by decide) rfl rfl (pa_cons (pe_c cM r7 (pa_cons (pv 2) pa_nil)) (pa_cons (pe_lc (own := [("turn", 11)]) (g := (gName 11)) (tt := tYes) (te := (tCall (spWid 90000 4) [] E0 (tCons (tVar 0) tNil))) rfl nd (pi_range1 (by rfl) mR (pa_cons pe_int pa_nil)) (blkOk_by (N := n_l_right) (sc := defScope s_l_right) (by decide +kernel)) (fun _ _ _ _ _ => (pg_name (i := 11) nd rfl (Or.inl rfl))) (fun _ _ _ _ _ => pts_nil) (fun _ _ _ _ _ => (pe_c cWi r3 (pa_cons (pv 0) pa_nil)))) pa_nil)) (by rfl))
      (pss_cons (ps_if (pt_cmpR op_ne (pe_callB (call_showW hN hg hr.units) (by rfl) mRe (by decide +kernel) (pa_cons (pe_c cRun hr (pa_cons (pv 5) (pa_cons (pe_ix ix_list (pv 6) pe_int (fun _ _ => rfl)) pa_nil))) pa_nil)) (pe_callB (call_showW hN hg hr.units) (by rfl) mRe (by decide +kernel) (pa_cons (pe_c cRL r4 (pa_cons (pv 2) (pa_cons (pe_ix ix_list (pv 6) pe_int (fun _ _ => rfl)) pa_nil))) pa_nil)) (nomark _)) (pss_one (ps_ret pe_bl)) pss_nil)
      (pss_cons (ps_par (i := 7) (j := 8) rfl nd rfl rfl (by decide) rfl rfl (pa_cons (pe_c cRd r8 (pa_cons (pv 5) (pa_cons (pv 3) (pa_cons (pv 4) pa_nil)))) (pa_cons (pe_lst pa_nil) pa_nil)) (by rfl))
      (pss_cons (ps_for PassesOwn.never rfl (pi_list (pe_op op_cat (pv 6) (pe_slice sl_list (pv 6) po_none (po_some pe_int)))) (pg_name (i := 9) nd rfl (Or.inl rfl)) (pss_cons (ps_set (i := 10) nd rfl (Or.inl rfl) (pe_c cRun hr (pa_cons (pv 7) (pa_cons (pv 9) pa_nil))))
      (pss_cons (ps_if (PW.pt (pw_or (pt_cmpR op_ne (pe_callB (call_showW hN hg hr.units) (by rfl) mRe (by decide +kernel) (pa_cons (pv 10) pa_nil)) (pe_callB (call_showW hN hg hr.units) (by rfl) mRe (by decide +kernel) (pa_cons (pe_c cRL r4 (pa_cons (pv 1) (pa_cons (pv 9) pa_nil))) pa_nil)) (nomark _)) (pw_or1 (pt_not (pt_val (pe_callB call_isi (by rfl) mI (by decide +kernel) (pa_cons (pe_ix ix_tup (pv 10) pe_int (fun _ _ => rfl)) (pa_cons (pe_bltn (v := .ty "list") (by rfl) mLs (by decide +kernel) rfl) pa_nil)))))))) (pss_one (ps_ret pe_bl)) pss_nil)
      (pss_cons (ps_expr (pe_bm PySem.F.plainAttrs_list PySem.F.slot_list_append PySem.F.type_list_append mt_append (pe_ix ix_tup (pv 10) pe_int (fun _ _ => rfl)) (pa_cons (pe_tup (pa_cons pe_int (pa_cons pe_int pa_nil))) pa_nil)))
      (pss_one (ps_if (pt_not (pt_val (pe_cg cRf hg r5 (pa_cons (pv 7) (pa_cons (pv 0) pa_nil))))) (pss_one (ps_ret pe_bl)) pss_nil))))))
      (pss_cons (ps_if (pt_cmpR op_ne (pe_callB (call_showW hN hg hr.units) (by rfl) mRe (by decide +kernel) (pa_cons (pe_ck cRunK hr (pk_cons (pv 7) (pk_cons (pe_ix ix_list (pv 6) pe_int (fun _ _ => rfl)) pk_nil))) pa_nil)) (pe_callB (call_showW hN hg hr.units) (by rfl) mRe (by decide +kernel) (pa_cons (pe_c cRL r4 (pa_cons (pv 1) (pa_cons (pe_ix ix_list (pv 6) pe_int (fun _ _ => rfl)) pa_nil))) pa_nil)) (nomark _)) (pss_one (ps_ret pe_bl)) pss_nil)
      (pss_one (ps_ret (pe_and (pe_cmpR (op_eqD hr.units) (pe_prop (pv 7) c.cls c.prS FS r6 bS .nil pass0 rfl) (pe_ix ix_tup (pv 1) pe_int (fun _ _ => rfl)) (nomark _)) (pe_one (pe_cmpR (op_eqD hr.units) (pe_prop (pv 7) c.cls c.prT FT r5 bT .nil pass0 rfl) (pe_ix ix_tup (pv 1) pe_int (fun _ _ => rfl)) (nomark _)))))))))))), ?_⟩
    refine ⟨_, rfl, sk, 2, m, rfl, hS, by omega, by decide, by decide, fun c0 H1 c00 c01 b1 s1 z1 => ⟨rfl, _, rfl, ?_⟩⟩
    have both : ∀ {R : VK}, (∀ (t : Addr) (ts : List Tk) (ds : List Deed) (H' : Hp), But sk H1 H' → Sk H' sk (m + 1 + 3000) → ShAt (wo sk H') t ts ds → ShW ts ds → R (.ref t) H') → (if decide (V.int c0 = V.int 0) = true then tCall spShape [] E0 (tCons (tVar 0) tNil) [some (.ref sk), none, none, none, none, none, none, none, none, none, none, none] H1 R else tCall spPlan [] E0 (tCons (tVar 0) (tCons (tC (.int 4)) (tCons (tC (.int 2)) tNil))) [some (.ref sk), none, none, none, none, none, none, none, none, none, none, none] H1 R) := fun {R} h => by
      split
      · exact ⟨_, rfl, sk, m + 1, rfl, s1, by omega, h⟩
      · exact ⟨_, rfl, sk, 4, 2, m + 1, rfl, s1, by omega, fun t ts ds H' q1 q2 q3 q4 => h t ts ds H' q1 q2 q3 q4⟩
    refine both fun sh ts ds H2 b2 s2 hSh hW => ?_
    clear both
    refine ⟨_, rfl, _, rfl, sk, sh, _, ts, ds, rfl, s2, by omega, hSh, hW, fun r sh' wd k ds' H3 b3 s3 hr3 hSh' hW' hrd => ?_⟩
    refine ⟨r, _, rfl, SqT.of (wo_ex _ _ hr3), rfl, _, _, rfl, _, _, rfl, _, _, rfl, rfl, ?_⟩
    obtain ⟨lv', ld', hsh', hT', hD'⟩ := id hSh'
    refine ⟨_, rfl, sh', ts, ds', rfl, ⟨lv', ld', wo_ex _ _ hsh', hT'.ex wo_ex, hD'.ex wo_ex⟩, hW', fun el H4 hel e4 hEl => ?_⟩
    have s4 := s3.ex e4
    have b4 := But.of_ex (p := sk) e4
    have hElw : ScAt (wo sk H4) C el ts ds' := hEl.ex (nw_wo s3)
    refine ⟨3, rfl, by decide, by decide, fun ld hld => ?_⟩
    have ldsk := sk_ne s4 hld
    refine lc_range (n := 3) (fun i H' => ∃ as : List Addr, But sk H4 H' ∧ Sk H' sk (m + 1 + 3000 + 40 + 4 * i) ∧ WdsAt (wo sk H') ld as ∧ as.length = i)
      ⟨[], But.of_ex (Evl.Ex.new hld), (s4.ex (Evl.Ex.new hld)).le (by omega), ⟨wo_at ldsk upd_same, fun a h => (by cases h)⟩, rfl⟩ ?_ ?_
    · rintro i H5 hi ⟨as, b5, s5, hw5, hl5⟩
      rw [Int.zero_add]
      refine ⟨rfl, ?_⟩
      unfold tYes
      refine if_t rfl ?_
      show tCall (spWid 90000 4) [] E0 _ _ _ _
      refine ⟨_, rfl, sk, _, rfl, s5, by omega, fun t u b H6 b6 s6 ht hf hq hu => ?_⟩
      have hw6 := hw5.ex b6.wo
      have hl6 := wo_ex _ _ hw6.1
      have up : ∀ (c : Addr) (o : HO), c ≠ ld → wo sk H6 c = some o → wo sk (upd H6 ld (.lst (as.map V.ref ++ [.ref t]))) c = some o := wo_upd (x := .lst (as.map V.ref ++ [.ref t]))
      have frk : ∀ {a : Addr} {u b : Int}, Fr (wo sk H6) a u b → Fr (wo sk (upd H6 ld (.lst (as.map V.ref ++ [.ref t])))) a u b := fun {a u b} h => up _ _ (fun z => by
        have h2 := wo_ex _ _ h
        rw [z, hl6] at h2
        cases h2) h
      refine ⟨as.map V.ref, hl6, ?_, as ++ [t], ?_, (s6.upd ldsk).le (by omega), ⟨wo_at ldsk (Eq.trans upd_same (by rw [List.map_append]; rfl)), fun a ha => ?_⟩, by rw [List.length_append, hl5]; rfl⟩
      · rw [List.length_map, hl5]
        exact Nat.lt_of_lt_of_le (show i < 100 by omega) (by decide)
      · exact fun c o nc e => Eq.trans (upd_ne (ne_of_none' e hld)) ((b5.trans b6) c o nc e)
      · rcases List.mem_append.mp ha with h | h
        · obtain ⟨u', b', h1, h2⟩ := hw6.2 a h
          exact ⟨u', b', frk h1, h2⟩
        · rw [List.mem_singleton.mp h]
          exact ⟨u, b, frk hf, hq, hu⟩
    rintro H5 ⟨as, b5, s5, hw5, hl5⟩
    obtain ⟨a0, a1, a2, rfl⟩ : ∃ a0 a1 a2, as = [a0, a1, a2] := by
      match as, hl5 with
      | [a, b, c], _ => exact ⟨a, b, c, rfl⟩
    -- the first run
    obtain ⟨u0, q0, f0, hq0, hu0⟩ := hw5.2 a0 (by simp)
    obtain ⟨u1, q1, f1, hq1, hu1⟩ := hw5.2 a1 (by simp)
    have hld5 := wo_ex _ _ hw5.1
    have hEl5 : ScAt (wo sk H5) C el ts ds' := hElw.ex b5.wo
    have hSh5 : ShAt (wo sk H5) sh' ts ds' := ⟨lv', ld', (b4.trans b5).wo _ _ hsh', hT'.ex (b4.trans b5).wo, hD'.ex (b4.trans b5).wo⟩
    refine ⟨_, _, rfl, _, rfl, _, rfl, ld, _, 0, _, rfl, rfl, SqL.of hld5, rfl, el, a0, ts, ds', u0, q0, rfl, hEl5.ex wo_ex, hW', wo_ex _ _ f0, hu0, hq0, fun r6 D6 en n6 H6 e6 hD6 hr6 hP6 hE6 => ?_⟩
    obtain ⟨ix6, w61, w62, w63⟩ := due_sh hW' hu0 hq0 hE6
    refine ⟨r6, _, rfl, dq_due ix6 hr6 hP6, w61, w62, w63, ?_⟩
    have b6 := But.of_ex (p := sk) e6
    have s6 := s5.ex e6
    refine ⟨_, rfl, _, rfl, ld, _, 0, _, rfl, rfl, SqL.of (e6 _ _ hld5), rfl, sh', a0, ts, ds', u0, q0, rfl, ?_, hW', e6 _ _ (wo_ex _ _ f0), hu0, hq0, fun r7 D7 en7 n7 H7 e7 hD7 hr7 hP7 hE7 => ?_⟩
    · obtain ⟨lv2, ld2, z1, z2, z3⟩ := hSh5
      exact ⟨lv2, ld2, e6 _ _ (wo_ex _ _ z1), (z2.ex wo_ex).ex e6, (z3.ex wo_ex).ex e6⟩
    obtain ⟨rfl, rfl⟩ := hE6.uniq hE7
    refine ⟨r7, _, rfl, dq_due ix6 hr7 hP7, w61, w62, w63, rfl, _, rfl, if_f (by simp) ?_⟩
    have b57 := b6.trans (But.of_ex (p := sk) e7)
    have s7 := s6.ex e7
    have hEl7 := hEl5.ex b57.wo
    -- the script that is asked
    refine ⟨_, rfl, _, rfl, _, rfl, el, wd, k, ts, ds', ds, rfl, hEl7.ex wo_ex, hW'.ok, hrd, fun y H8 e8 hy => ⟨Nat.zero_le _, fun l0 hl0 => ⟨_, _, rfl, ?_⟩⟩⟩
    have b8 := But.of_ex (p := sk) e8
    have s8 := s7.ex e8
    have hY8 : ScAt (wo sk H8) C y ts ds := by
      rcases hy with h | ⟨rfl, rfl⟩
      · exact h.ex (nw_wo s7)
      · exact hEl7.ex b8.wo
    have e9 := Evl.Ex.new (o := .lst []) hl0
    generalize upd H8 l0 (.lst []) = H9 at e9
    have b9 := But.of_ex (p := sk) e9
    have s9 := s8.ex e9
    have b59 := (b57.trans b8).trans b9
    have hY9 := hY8.ex b9.wo
    have hw9 := hw5.ex b59.wo
    have hld9 := wo_ex _ _ hw9.1
    obtain ⟨lv, lst, hsh, hT, hD⟩ := id hSh
    have b29 := ((b3.trans b4).trans b5).trans b59
    have hsh9 := b29.wo _ _ hsh
    have hT9 := hT.ex b29.wo
    have hD9 := hD.ex b29.wo
    -- all widths
    refine ⟨_, rfl, _, rfl, 1, rfl, ld, _, rfl, SqL.of hld9, fun p4 hp4 => ?_⟩
    have eA := Evl.Ex.new (o := .lst (cutV ([a0, a1, a2].map V.ref) none (some 1))) hp4
    have gA : upd H9 p4 (.lst (cutV ([a0, a1, a2].map V.ref) none (some 1))) p4 = some (.lst [V.ref a0]) := upd_same
    generalize upd H9 p4 (.lst (cutV ([a0, a1, a2].map V.ref) none (some 1))) = HA at eA gA
    refine ⟨ld, p4, _, _, rfl, rfl, eA _ _ hld9, gA, by show 3 + 1 ≤ _; decide, fun p5 hp5 => ?_⟩
    have eB := Evl.Ex.new (o := .lst ([a0, a1, a2].map V.ref ++ [V.ref a0])) hp5
    have gB : upd HA p5 (.lst ([a0, a1, a2].map V.ref ++ [V.ref a0])) p5 = some (.lst ([a0, a1, a2, a0].map V.ref)) := upd_same
    generalize upd HA p5 (.lst ([a0, a1, a2].map V.ref ++ [V.ref a0])) = HB at eB gB
    have e9B := eA.trans eB
    have b9B := But.of_ex (p := sk) e9B
    have sB := s9.ex e9B
    have p5sk : p5 ≠ sk := sk_ne (s9.ex eA) hp5
    have hYB := hY9.ex b9B.wo
    have hwB := hw9.ex b9B.wo
    have hshB := b9B.wo _ _ hsh9
    have hTB := hT9.ex b9B.wo
    have hDB := hD9.ex b9B.wo
    have shk : ∀ {G : Hp}, But sk HB G → ShAt G sh ts ds := fun {G} g => ⟨lv, lst, g _ _ (wo_ne hshB) (wo_ex _ _ hshB), (hTB.ex g.wo).ex wo_ex, (hDB.ex g.wo).ex wo_ex⟩
    refine ⟨p5, rfl, ⟨_, SqL.of gB⟩, for_list (xs := [a0, a1, a2, a0].map V.ref) (fun i σ H' => ∃ v9 v10, σ = [some (.ref sk), some (.ref sh), some (.ref sh'), some (.str wd), some (.int k), some (.ref el), some (.ref ld), some (.ref y), some (.ref l0), v9, v10, none] ∧ But sk HB H' ∧ Sk H' sk (m + 1 + 3000 + 40 + 4 * 3 + 3 * i))
      ⟨_, _, rfl, But.refl _ _, sB.le (by omega)⟩ (fun i σ H' _ q => by
        obtain ⟨_, _, _, q, _⟩ := q
        exact SqL.of (q _ _ p5sk gB)) ?_ ?_⟩
    · rintro i x σ HC hi ⟨v9, v10, rfl, bC, sC⟩
      have i4 : i < 4 := (List.getElem?_eq_some_iff.mp hi).1
      obtain ⟨a, rfl, ha⟩ : ∃ a, x = .ref a ∧ a ∈ [a0, a1, a2] := by
        match i, i4, hi with
        | 0, _, hi => cases hi; exact ⟨_, rfl, by simp⟩
        | 1, _, hi => cases hi; exact ⟨_, rfl, by simp⟩
        | 2, _, hi => cases hi; exact ⟨_, rfl, by simp⟩
        | 3, _, hi => cases hi; exact ⟨_, rfl, by simp⟩
      obtain ⟨u, b, hf, hq, hu⟩ := (hwB.ex bC.wo).2 a ha
      have hYC := (hYB.ex bC.wo).ex wo_ex
      refine ⟨_, rfl, _, rfl, y, a, ts, ds, u, b, rfl, hYC, hW, wo_ex _ _ hf, hu, hq, fun rD DD eD nD HD eD' hDD hrD hPD hED => ?_⟩
      obtain ⟨ixD, w1, w2, w3⟩ := due_sh hW hu hq hED
      have bD := But.of_ex (p := sk) eD'
      have sD := sC.ex eD'
      refine ⟨_, rfl, rD, _, rfl, dq_due ixD hrD hPD, w1, w2, w3, ?_⟩
      refine ⟨_, rfl, _, rfl, sh, a, ts, ds, u, b, rfl, shk (bC.trans bD), hW, eD' _ _ (wo_ex _ _ hf), hu, hq, fun rE DE eE nE HE eE' hDE hrE hPE hEE => ?_⟩
      obtain ⟨rfl, rfl⟩ := hED.uniq hEE
      refine ⟨rE, _, rfl, dq_due ixD hrE hPE, w1, w2, w3, rfl, _, rfl, ?_⟩
      have hrE' := eE' _ _ hrD
      obtain ⟨aD, hDl, hDn, hDi⟩ := hPD.ex eE'
      refine if_f (by simp) ?_
      refine ⟨_, rfl, rD, _, _, _, rfl, rfl, SqT.of hrE', rfl, _, _, _, _, true, rfl, .ty "list", .base (.lst hDl), kit_ty (by decide +kernel), true, rfl, ?_⟩
      refine if_f rfl ?_
      have hlD : aD.length ≤ 100 := by
        rw [hDn]
        have := (lvs_wide hW hu hq nD).1
        omega
      have sE := sD.ex eE'
      have DDsk : DD ≠ sk := sk_ne sC hDD
      refine ⟨_, rfl, rD, _, _, _, rfl, rfl, SqT.of hrE', rfl, .inl ⟨rfl, _, SqL.of hDl⟩, two, fun t9 ht9 => ⟨DD, _, _, rfl, rfl, Eq.trans (upd_ne (ne_of_none' hDl ht9)) hDl, ?_, ?_⟩⟩
      · rw [List.length_map]
        exact Nat.lt_of_le_of_lt hlD (by decide)
      have e9' := Evl.Ex.new (o := .tup [.int 9, .int 1]) ht9
      have bF : But sk HC (upd (upd HE t9 (.tup [.int 9, .int 1])) DD (.lst (aD.map V.ref ++ [.ref t9]))) := fun c o n h => Eq.trans (upd_ne (ne_of_none' h hDD)) (e9' _ _ (eE' _ _ (eD' _ _ h)))
      have sF : Sk (upd (upd HE t9 (.tup [.int 9, .int 1])) DD (.lst (aD.map V.ref ++ [.ref t9]))) sk _ := (sE.ex e9').upd DDsk
      refine ⟨_, rfl, _, rfl, .ref y, sk, _, rfl, sF, by omega, fun HG bG sG => ⟨true, rfl, if_f rfl ⟨_, _, rfl, (bC.trans bF).trans bG, sG.le (by omega)⟩⟩⟩
    rintro σ HC ⟨v9, v10, rfl, bC, sC⟩
    have hYC := (hYB.ex bC.wo).ex wo_ex
    have hwC := hwB.ex bC.wo
    have hldC := wo_ex _ _ hwC.1
    obtain ⟨u1, q1, f1, hq1, hu1⟩ := hwC.2 a1 (by simp)
    refine ⟨_, rfl, _, rfl, ld, _, 1, _, rfl, rfl, SqL.of hldC, rfl, rfl, y, a1, ts, ds, u1, q1, rfl, hYC, hW, wo_ex _ _ f1, hu1, hq1, fun rD DD eD nD HD eD' hDD hrD hPD hED => ?_⟩
    obtain ⟨ixD, w1, w2, w3⟩ := due_sh hW hu1 hq1 hED
    have bD := But.of_ex (p := sk) eD'
    refine ⟨rD, _, rfl, dq_due ixD hrD hPD, w1, w2, w3, ?_⟩
    refine ⟨_, rfl, _, rfl, ld, _, 1, _, rfl, rfl, SqL.of (eD' _ _ hldC), rfl, sh, a1, ts, ds, u1, q1, rfl, shk (bC.trans bD), hW, eD' _ _ (wo_ex _ _ f1), hu1, hq1, fun rE DE eE nE HE eE' hDE hrE hPE hEE => ?_⟩
    obtain ⟨rfl, rfl⟩ := hED.uniq hEE
    refine ⟨rE, _, rfl, dq_due ixD hrE hPE, w1, w2, w3, rfl, _, rfl, if_f (by simp) ?_⟩
    have eDE := eD'.trans eE'
    have bE := bC.trans (But.of_ex (p := sk) eDE)
    obtain ⟨lvE, ldE, hshE, hTE, hDE⟩ := shk bE
    obtain ⟨dy, fs, v, u, hyy, g1, g2, d1, d2, g0⟩ := hYC.ex eDE
    refine ⟨_, rfl, y, dy, fs, rfl, hyy, y, dy, fs, u, _, rfl, hyy, g2, d2, cp_deeds hW.ok.2.2 (Nat.le_trans hW.ok.2.1 (by decide)), fun v1 HF eF hv1 => ?_⟩
    obtain ⟨l1, rfl, hl1⟩ := (hv1.go Nw.ex).deeds
    refine ⟨_, rfl, sh, _, _, _, rfl, rfl, SqT.of (eF _ _ hshE), rfl, _, _, dp_ds hl1, dp_ds (hDE.ex eF), shp_ds _, shp_ds _, ?_⟩
    rw [eqv_same (shp_ds _)]
    refine ⟨_, rfl, if_t rfl ?_⟩
    refine ⟨_, rfl, y, dy, fs, rfl, eF _ _ hyy, y, dy, fs, v, _, rfl, eF _ _ hyy, g1, d1.go eF, cp_tks (Nat.le_trans hW.ok.1.1 (by decide)), fun v2 HG eG hv2 => ?_⟩
    obtain ⟨l2, rfl, hl2⟩ := (hv2.go Nw.ex).tks
    refine ⟨_, rfl, sh, _, _, _, rfl, rfl, SqT.of (eG _ _ (eF _ _ hshE)), rfl, _, _, dp_tks hl2, dp_tks (hTE.ex (eF.trans eG)), shp_tks _, shp_tks _, ?_⟩
    rw [eqv_same (shp_tks _)]
    refine kk HG ?_
    refine ((b1.trans b2).trans b29).trans ((b9B.trans bE).trans (But.of_ex (eF.trans eG)))
end
end V2


namespace V2
open PySem L2
open PySem.Spec PyProof.Rows
theorem sq_ex_but {K : PySem.W.Frag} {H H1 H2 : Hp} {a q : Addr} {xs : List V} (h : SqL K H a xs) (hq : H q = none) (e : Evl.Ex H H1) (b : But q H1 H2) : SqL K H2 a xs := by
  rcases h with h | h
  · left
    have go : ∀ o, H a = some o → H2 a = some o := fun o ho => b a o (ne_of_none ho hq) (e a o ho)
    rcases h with h | ⟨o, h⟩
    · exact .inl (go _ h)
    · exact .inr ⟨o, go _ h⟩
  · exact .inr h
def spLaw (K : PySem.W.Frag) : Sp := fun vs H Q _ => ∃ (a : Addr) (ns : List Int), vs = [.ref a] ∧ SqL K H a (iV ns) ∧ ns.length ≤ 63 ∧ ∀ H', Q (.bl true) H'
structure T6 (mg : Str → Option Value) : Prop where
  rng : mg "range" = none
  len : mg "len" = none
  max : mg "max" = none
  min : mg "min" = none
def Lay (K : PySem.W.Frag) (mg : Str → Option Value) (x : Str) (st : Stmt) (ps : List Str) : Prop := ∃ (f : Addr) (fd : FuncData), Fun K x x st f fd ∧ mg x = some (.ref f) ∧ PySem.W.keepIn K (.ref f) = true ∧ Binds K fd ps []
theorem lay_of {h : Heap} {mg : Str → Option Value} {K : PySem.W.Frag} {w : World} {L : Lk} (X : K.In h) (G : h.Ns mainGlobals mg) (c : L.seen K = L.due w) (i j : Nat) {x : Str} {st : Stmt} {ps : List Str}
    (hi : L.ds[i]? = some ⟨fun K => He.ga K x, x, x, st⟩) (hj : L.fb[j]? = some (bGlo x))
    (hb : ∀ (kV doc pm : Value) (an : Option Addr) (cdv ct : Value) (us : List Value), us.length = ps.length → bindArgs (PySem.W.fnOf x x (defArgs st) (defBody st) (defScope st) .none kV doc pm an cdv ct) ⟨us, []⟩ = pure (ps.zip us)) : Lay K mg x st ps := by
  obtain ⟨fd, F⟩ := Lk.df c i hi
  exact ⟨_, fd, F, He.glo_ok X G (Lk.fact c j hj), F.kp, Fun.binds F hb⟩
/-- a method, a getter -/
def LayM (K : PySem.W.Frag) (x y : Str) (st : Stmt) (f : Addr) (ps : List Str) : Prop := ∃ fd : FuncData, Fun K x y st f fd ∧ Binds K fd ps []
theorem laym_of {K : PySem.W.Frag} {w : World} {L : Lk} (c : L.seen K = L.due w) (i : Nat) {x y : Str} {st : Stmt} {a : PySem.W.Frag → Addr} {ps : List Str} (hi : L.ds[i]? = some ⟨a, x, y, st⟩)
    (hb : ∀ (kV doc pm : Value) (an : Option Addr) (cdv ct : Value) (us : List Value), us.length = ps.length → bindArgs (PySem.W.fnOf x y (defArgs st) (defBody st) (defScope st) .none kV doc pm an cdv ct) ⟨us, []⟩ = pure (ps.zip us)) : LayM K x y st (a K) ps := by
  obtain ⟨fd, F⟩ := Lk.df c i hi
  exact ⟨fd, F, Fun.binds F hb⟩
section
variable {base : Heap} {mg : Str → Option Value} {K : PySem.W.Frag} {w : World} {P : Program}
theorem Lay.cal {x : Str} {st : Stmt} {ps : List Str} {k : Nat} {sp : Sp} (L : Lay K mg x st ps) (h : ∀ f fd, Fun K x x st f fd → FnOk P w K mg base CX0 k f fd ps sp) : Cal P w K mg base k x ps sp := by
  obtain ⟨f, fd, F, m, kp, b⟩ := L
  exact ⟨f, fd, h f fd F, m, kp, b⟩
theorem Lay.calG {x : Str} {st : Stmt} {ps : List Str} {k : Nat} {sp : Sp} (L : Lay K mg x st ps) (h : ∀ f fd, Fun K x x st f fd → FnG P w K mg base k f fd ps sp) : CalG P w K mg base k x ps sp := by
  obtain ⟨f, fd, F, m, kp, b⟩ := L
  exact ⟨f, fd, h f fd F, m, kp, b⟩
end
end V2


namespace V2
open PySem L2
open PySem.Spec PyProof.Rows
theorem nodig_ok {K : PySem.W.Frag} (c : bNoDig K = true) : NoDig K := He.eqO_ok c
theorem rel_gWR {zs : List V} {ws : List Value} (r2 : Vals zs ws) : Vals (gWR zs) (gWR ws) := by
  cases r2 with
  | nil => exact .nil
  | cons b r2 =>
    cases r2 with
    | nil => exact .nil
    | cons c r2 =>
      cases r2 with
      | nil => exact .cons b (.cons c .nil)
      | cons d r2 => exact .nil
section
variable {base : Heap} {mg : Str → Option Value} {K : PySem.W.Frag} {w : World} {P : Program}
theorem Lay.calX {x : Str} {st : Stmt} {ps : List Str} {k : Nat} {sp : Sp} (L : Lay K mg x st ps) (h : ∀ f fd, Fun K x x st f fd → FnOk P w K mg base (L2.CX P w) k f fd ps sp) : CalX P w K mg base k x ps sp := by
  obtain ⟨f, fd, F, m, kp, b⟩ := L
  exact ⟨f, fd, h f fd F, m, kp, b⟩
theorem ok_law15 {f : Addr} {fd : FuncData} (F : Fun K "law" "law" s_law f fd) (T : T6 mg) (cP : Cal P w K mg base 1 "_law_purse" p_l_purse (spSack K)) (cR : CalG P w K mg base 11 "_law_right" p_l_right spRightL) : FnG P w K mg base 12 f fd p_law (spLaw K) := by
  refine Fun.okG F sc_law (fun vs H Q E h => ?_) (fun cdv A outer s H vs Q E hg hr h => ?_)
  · obtain ⟨a, ns, rfl, _⟩ := h
    rfl
  · obtain ⟨a, ns, rfl, hS, hl, k⟩ := h
    have nd := sc_law.nd
    have r1 : Room 1 _ := hr.mono (by decide)
    refine ⟨_, pss_cons (ps_for PassesOwn.never rfl (pi_range1 (by rfl) T.rng (pa_cons (pe_callB (call_max2 rfl) (by rfl) T.max (by decide +kernel) (pa_cons pe_int (pa_cons (pe_callB (call_min2 rfl) (by rfl) T.min (by decide +kernel) (pa_cons pe_int (pa_cons (pe_callB call_len_seq (by rfl) T.len PySem.boot_len (pa_cons (pv 0) pa_nil)) pa_nil))) pa_nil))) pa_nil)) (pg_name (i := 1) nd rfl (Or.inl rfl)) (pss_cons (ps_set (i := 2) nd rfl (Or.inl rfl) (pe_c cP r1 (pa_cons (pv 0) (pa_cons (pv 1) pa_nil))))
      (pss_one (ps_if (pt_not (pt_val (pe_cg cR hg hr (pa_cons (pv 2) pa_nil)))) (pss_one (ps_ret pe_bl)) pss_nil))))
      (pss_one (ps_ret pe_bl)), ?_⟩
    refine ⟨_, rfl, a, _, rfl, .inl hS, _, _, rfl, _, _, rfl, _, rfl, ?_, ?_, ?_⟩
    · split <;> split <;> omega
    · split <;> split <;> omega
    have hb : (if (if ((iV ns).length : Int) < 6 then ((iV ns).length : Int) else 6) > 1 then (if ((iV ns).length : Int) < 6 then ((iV ns).length : Int) else 6) else 1 : Int) ≤ 6 := by split <;> split <;> omega
    generalize (if (if ((iV ns).length : Int) < 6 then ((iV ns).length : Int) else 6) > 1 then (if ((iV ns).length : Int) < 6 then ((iV ns).length : Int) else 6) else 1 : Int) = n at hb
    refine for_range (n := n.toNat) (fun i σ H' => ∃ v1 v2, σ = [some (.ref a), v1, v2] ∧ SqL K H' a (iV ns)) ⟨none, none, rfl, hS⟩ ?_ ?_
    · rintro i σ H1 hi ⟨v1, v2, rfl, hS1⟩
      refine ⟨_, rfl, _, rfl, a, ns, i, ?_, hS1, hl, by omega, fun q H2 hq e2 h2 => ?_⟩
      · rw [Int.zero_add]
        rfl
      exact ⟨_, rfl, q, 0, rfl, h2, by omega, fun H3 b3 => ⟨true, rfl, if_f rfl ⟨_, _, rfl, sq_ex_but hS1 hq e2 b3⟩⟩⟩
    · rintro σ H1 ⟨v1, v2, rfl, hS1⟩
      exact k H1
end
theorem whole {P : Program} {w : World} {K : PySem.W.Frag} {h : Heap} {mg : Str → Option Value} {fa : Addr} (X : K.In h) (G : h.Ns mainGlobals mg) (hfa : mg ("law" : Str) = some (.ref fa)) (c : lk.seen K = lk.due w) :
    ∃ fd : FuncData, (∀ (s : Shared) (v : Value), BindsTo s fd ⟨[v], []⟩ [("script", v)]) ∧ ∀ base : Heap, K.In base → base.Ns mainGlobals mg → FnG P w K mg base 12 fa fd p_law (spLaw K) := by
  have z_len : mg "len" = none := (He.free_ok X G (Lk.fact c 102 (f := bFree "len") rfl))
  have z_max : mg "max" = none := (He.free_ok X G (Lk.fact c 104 (f := bFree "max") rfl))
  have z_min : mg "min" = none := (He.free_ok X G (Lk.fact c 105 (f := bFree "min") rfl))
  have z_abs : mg "abs" = none := (He.free_ok X G (Lk.fact c 96 (f := bFree "abs") rfl))
  have z_int : mg "int" = none := (He.free_ok X G (Lk.fact c 100 (f := bFree "int") rfl))
  have z_range : mg "range" = none := (He.free_ok X G (Lk.fact c 106 (f := bFree "range") rfl))
  have z_list : mg "list" = none := (He.free_ok X G (Lk.fact c 103 (f := bFree "list") rfl))
  have z_isinstance : mg "isinstance" = none := (He.free_ok X G (Lk.fact c 101 (f := bFree "isinstance") rfl))
  have z_bool : mg "bool" = none := (He.free_ok X G (Lk.fact c 98 (f := bFree "bool") rfl))
  have z_tuple : mg "tuple" = none := (He.free_ok X G (Lk.fact c 110 (f := bFree "tuple") rfl))
  have z_all : mg "all" = none := (He.free_ok X G (Lk.fact c 97 (f := bFree "all") rfl))
  have z_str : mg "str" = none := (He.free_ok X G (Lk.fact c 108 (f := bFree "str") rfl))
  have z_repr : mg "repr" = none := (He.free_ok X G (Lk.fact c 107 (f := bFree "repr") rfl))
  have z_sum : mg "sum" = none := (He.free_ok X G (Lk.fact c 109 (f := bFree "sum") rfl))
  have z_enumerate : mg "enumerate" = none := (He.free_ok X G (Lk.fact c 99 (f := bFree "enumerate") rfl))
  have z_ValueError : mg "ValueError" = none := (He.free_ok X G (Lk.fact c 95 (f := bFree "ValueError") rfl))
  have z_gcd : mg "gcd" = some (.builtin "math.gcd") := (blt_ok X G (Lk.fact c 111 (f := bBlt "gcd" "math.gcd") rfl))
  have t0 : T0 mg := ⟨z_len, z_max, z_abs, z_int⟩
  have t2 : T2 mg := ⟨z_len, z_max, z_range, z_enumerate⟩
  have t7 : T7 mg := ⟨z_len, z_abs, z_enumerate, z_gcd⟩
  have t3 : T3 mg := ⟨z_isinstance, z_int, z_bool, z_list, z_tuple, z_len, z_all, z_gcd⟩
  have t5 : T5 mg := ⟨z_isinstance, z_list, z_tuple⟩
  have hND : NoDig K := nodig_ok (Lk.fact c 112 (f := bNoDig) rfl)
  obtain ⟨es, nT, D⟩ := Lk.tab c 0 rfl
  obtain ⟨t_0, d_0⟩ := dint_ok (Lk.fact c 90 (f := bInt "THINGS" "open" 2) rfl)
  obtain ⟨t_1, d_1⟩ := dint_ok (Lk.fact c 91 (f := bInt "THINGS" "pour" 3) rfl)
  obtain ⟨t_2, d_2⟩ := dint_ok (Lk.fact c 92 (f := bInt "THINGS" "scoop" 3) rfl)
  obtain ⟨t_3, d_3⟩ := dint_ok (Lk.fact c 93 (f := bInt "THINGS" "move" 4) rfl)
  obtain ⟨t_4, d_4⟩ := dint_ok (Lk.fact c 94 (f := bInt "THINGS" "unless" 3) rfl)
  have th : Th K w mg (He.ga K "THINGS") es nT t_0 t_1 t_2 t_3 t_4 := ⟨(He.glo_ok X G (Lk.fact c 89 (f := bGlo "THINGS") rfl)), D, d_0, d_1, d_2, d_3, d_4⟩
  have L_order_of_fractions : Lay K mg "order_of_fractions" s_order_of_fractions p_order_of_fractions := lay_of X G c 0 0 rfl rfl (fun _ _ _ _ _ _ us hl => match us, hl with | [_, _], _ => rfl)
  have L_sign_of : Lay K mg "sign_of" s_sign_of p_sign_of := lay_of X G c 1 1 rfl rfl (fun _ _ _ _ _ _ us hl => match us, hl with | [_], _ => rfl)
  have L_cut : Lay K mg "cut" s_cut p_cut := lay_of X G c 2 2 rfl rfl (fun _ _ _ _ _ _ us hl => match us, hl with | [_], _ => rfl)
  have L_negated : Lay K mg "negated" s_negated p_negated := lay_of X G c 3 3 rfl rfl (fun _ _ _ _ _ _ us hl => match us, hl with | [_], _ => rfl)
  have L_added : Lay K mg "added" s_added p_added := lay_of X G c 4 4 rfl rfl (fun _ _ _ _ _ _ us hl => match us, hl with | [_, _], _ => rfl)
  have L_multiplied : Lay K mg "multiplied" s_multiplied p_multiplied := lay_of X G c 5 5 rfl rfl (fun _ _ _ _ _ _ us hl => match us, hl with | [_, _], _ => rfl)
  have L_scaled_value : Lay K mg "scaled_value" s_scaled_value p_scaled_value := lay_of X G c 6 6 rfl rfl (fun _ _ _ _ _ _ us hl => match us, hl with | [_, _], _ => rfl)
  have L_sign_at_fraction : Lay K mg "sign_at_fraction" s_sign_at_fraction p_sign_at_fraction := lay_of X G c 7 7 rfl rfl (fun _ _ _ _ _ _ us hl => match us, hl with | [_, _], _ => rfl)
  have L_content : Lay K mg "content" s_content p_content := lay_of X G c 8 8 rfl rfl (fun _ _ _ _ _ _ us hl => match us, hl with | [_], _ => rfl)
  have L_primitive : Lay K mg "primitive" s_primitive p_primitive := lay_of X G c 9 9 rfl rfl (fun _ _ _ _ _ _ us hl => match us, hl with | [_], _ => rfl)
  have L_upright : Lay K mg "upright" s_upright p_upright := lay_of X G c 10 10 rfl rfl (fun _ _ _ _ _ _ us hl => match us, hl with | [_], _ => rfl)
  have L_remainder : Lay K mg "remainder" s_remainder p_remainder := lay_of X G c 11 11 rfl rfl (fun _ _ _ _ _ _ us hl => match us, hl with | [_, _], _ => rfl)
  have L_quotient : Lay K mg "quotient" s_quotient p_quotient := lay_of X G c 12 12 rfl rfl (fun _ _ _ _ _ _ us hl => match us, hl with | [_, _], _ => rfl)
  have L_common_factor : Lay K mg "common_factor" s_common_factor p_common_factor := lay_of X G c 13 13 rfl rfl (fun _ _ _ _ _ _ us hl => match us, hl with | [_, _], _ => rfl)
  have L_copied : Lay K mg "copied" s_copied p_copied := lay_of X G c 14 14 rfl rfl (fun _ _ _ _ _ _ us hl => match us, hl with | [_], _ => rfl)
  have L_is_integer : Lay K mg "is_integer" s_is_integer p_is_integer := lay_of X G c 15 15 rfl rfl (fun _ _ _ _ _ _ us hl => match us, hl with | [_], _ => rfl)
  have L_is_fraction : Lay K mg "is_fraction" s_is_fraction p_is_fraction := lay_of X G c 16 16 rfl rfl (fun _ _ _ _ _ _ us hl => match us, hl with | [_], _ => rfl)
  have L_check_width : Lay K mg "check_width" s_check_width p_check_width := lay_of X G c 17 17 rfl rfl (fun _ _ _ _ _ _ us hl => match us, hl with | [_], _ => rfl)
  have L_reduced : Lay K mg "reduced" s_reduced p_reduced := lay_of X G c 18 18 rfl rfl (fun _ _ _ _ _ _ us hl => match us, hl with | [_, _], _ => rfl)
  have L_told_widths : Lay K mg "told_widths" s_told_widths p_told_widths := lay_of X G c 19 19 rfl rfl (fun _ _ _ _ _ _ us hl => match us, hl with | [_, _], _ => rfl)
  have L_first_water : Lay K mg "first_water" s_first_water p_first_water := lay_of X G c 20 20 rfl rfl (fun _ _ _ _ _ _ us hl => match us, hl with | [_], _ => rfl)
  have L_sum_of : Lay K mg "sum_of" s_sum_of p_sum_of := lay_of X G c 21 21 rfl rfl (fun _ _ _ _ _ _ us hl => match us, hl with | [_], _ => rfl)
  have L_together : Lay K mg "together" s_together p_together := lay_of X G c 22 22 rfl rfl (fun _ _ _ _ _ _ us hl => match us, hl with | [_, _, _], _ => rfl)
  have L_after : Lay K mg "after" s_after p_after := lay_of X G c 23 23 rfl rfl (fun _ _ _ _ _ _ us hl => match us, hl with | [_, _, _], _ => rfl)
  have L_opened : Lay K mg "opened" s_opened p_opened := lay_of X G c 24 24 rfl rfl (fun _ _ _ _ _ _ us hl => match us, hl with | [_, _, _], _ => rfl)
  have L_poured : Lay K mg "poured" s_poured p_poured := lay_of X G c 25 25 rfl rfl (fun _ _ _ _ _ _ us hl => match us, hl with | [_, _, _], _ => rfl)
  have L_taken : Lay K mg "taken" s_taken p_taken := lay_of X G c 26 26 rfl rfl (fun _ _ _ _ _ _ us hl => match us, hl with | [_, _, _, _], _ => rfl)
  have L_lead : Lay K mg "lead" s_lead p_lead := lay_of X G c 27 27 rfl rfl (fun _ _ _ _ _ _ us hl => match us, hl with | [_, _, _, _, _], _ => rfl)
  have L_ahead : Lay K mg "ahead" s_ahead p_ahead := lay_of X G c 28 28 rfl rfl (fun _ _ _ _ _ _ us hl => match us, hl with | [_, _, _], _ => rfl)
  have L_levels : Lay K mg "levels" s_levels p_levels := lay_of X G c 29 29 rfl rfl (fun _ _ _ _ _ _ us hl => match us, hl with | [_, _, _], _ => rfl)
  have L_number_of : Lay K mg "number_of" s_number_of p_number_of := lay_of X G c 30 30 rfl rfl (fun _ _ _ _ _ _ us hl => match us, hl with | [_], _ => rfl)
  have L_is_ended : Lay K mg "is_ended" s_is_ended p_is_ended := lay_of X G c 31 31 rfl rfl (fun _ _ _ _ _ _ us hl => match us, hl with | [_, _, _], _ => rfl)
  have L_told_levels : Lay K mg "told_levels" s_told_levels p_told_levels := lay_of X G c 32 32 rfl rfl (fun _ _ _ _ _ _ us hl => match us, hl with | [_, _, _], _ => rfl)
  have L_run_of : Lay K mg "run_of" s_run_of p_run_of := lay_of X G c 33 33 rfl rfl (fun _ _ _ _ _ _ us hl => match us, hl with | [_, _, _], _ => rfl)
  have L_run : Lay K mg "run" s_run p_run := lay_of X G c 34 34 rfl rfl (fun _ _ _ _ _ _ us hl => match us, hl with | [_, _], _ => rfl)
  have L_is_amount : Lay K mg "is_amount" s_is_amount p_is_amount := lay_of X G c 35 35 rfl rfl (fun _ _ _ _ _ _ us hl => match us, hl with | [_], _ => rfl)
  have L_is_tank : Lay K mg "is_tank" s_is_tank p_is_tank := lay_of X G c 36 36 rfl rfl (fun _ _ _ _ _ _ us hl => match us, hl with | [_], _ => rfl)
  have L_check_tanks : Lay K mg "check_tanks" s_check_tanks p_check_tanks := lay_of X G c 37 37 rfl rfl (fun _ _ _ _ _ _ us hl => match us, hl with | [_], _ => rfl)
  have L_is_ascending : Lay K mg "is_ascending" s_is_ascending p_is_ascending := lay_of X G c 38 38 rfl rfl (fun _ _ _ _ _ _ us hl => match us, hl with | [_], _ => rfl)
  have L_is_step : Lay K mg "is_step" s_is_step p_is_step := lay_of X G c 39 39 rfl rfl (fun _ _ _ _ _ _ us hl => match us, hl with | [_], _ => rfl)
  have L_tanks_of : Lay K mg "tanks_of" s_tanks_of p_tanks_of := lay_of X G c 40 40 rfl rfl (fun _ _ _ _ _ _ us hl => match us, hl with | [_], _ => rfl)
  have L_check_numbers : Lay K mg "check_numbers" s_check_numbers p_check_numbers := lay_of X G c 41 41 rfl rfl (fun _ _ _ _ _ _ us hl => match us, hl with | [_, _], _ => rfl)
  have L_check_part : Lay K mg "check_part" s_check_part p_check_part := lay_of X G c 42 42 rfl rfl (fun _ _ _ _ _ _ us hl => match us, hl with | [_], _ => rfl)
  have L_check_step : Lay K mg "check_step" s_check_step p_check_step := lay_of X G c 43 43 rfl rfl (fun _ _ _ _ _ _ us hl => match us, hl with | [_, _], _ => rfl)
  have L_check_index : Lay K mg "check_index" s_check_index p_check_index := lay_of X G c 44 44 rfl rfl (fun _ _ _ _ _ _ us hl => match us, hl with | [_, _], _ => rfl)
  have L_check_exchange : Lay K mg "check_exchange" s_check_exchange p_check_exchange := lay_of X G c 45 45 rfl rfl (fun _ _ _ _ _ _ us hl => match us, hl with | [_, _], _ => rfl)
  have L_l_purse : Lay K mg "_law_purse" s_l_purse p_l_purse := lay_of X G c 46 46 rfl rfl (fun _ _ _ _ _ _ us hl => match us, hl with | [_, _], _ => rfl)
  have L_l_coin : Lay K mg "_law_coin" s_l_coin p_l_coin := lay_of X G c 47 47 rfl rfl (fun _ _ _ _ _ _ us hl => match us, hl with | [_, _], _ => rfl)
  have L_l_divisor : Lay K mg "_law_wl_divisor" s_l_divisor p_l_divisor := lay_of X G c 48 48 rfl rfl (fun _ _ _ _ _ _ us hl => match us, hl with | [_, _], _ => rfl)
  have L_l_ratio : Lay K mg "_law_wl_ratio" s_l_ratio p_l_ratio := lay_of X G c 49 49 rfl rfl (fun _ _ _ _ _ _ us hl => match us, hl with | [_, _], _ => rfl)
  have L_l_trim : Lay K mg "_law_wl_trim" s_l_trim p_l_trim := lay_of X G c 50 50 rfl rfl (fun _ _ _ _ _ _ us hl => match us, hl with | [_], _ => rfl)
  have L_l_add : Lay K mg "_law_wl_add" s_l_add p_l_add := lay_of X G c 51 51 rfl rfl (fun _ _ _ _ _ _ us hl => match us, hl with | [_, _, _], _ => rfl)
  have L_l_mul : Lay K mg "_law_wl_mul" s_l_mul p_l_mul := lay_of X G c 52 52 rfl rfl (fun _ _ _ _ _ _ us hl => match us, hl with | [_, _], _ => rfl)
  have L_l_made : Lay K mg "_law_wl_made" s_l_made p_l_made := lay_of X G c 53 53 rfl rfl (fun _ _ _ _ _ _ us hl => match us, hl with | [_], _ => rfl)
  have L_l_start : Lay K mg "_law_wl_start" s_l_start p_l_start := lay_of X G c 54 54 rfl rfl (fun _ _ _ _ _ _ us hl => match us, hl with | [_], _ => rfl)
  have L_l_after : Lay K mg "_law_wl_after" s_l_after p_l_after := lay_of X G c 55 55 rfl rfl (fun _ _ _ _ _ _ us hl => match us, hl with | [_, _], _ => rfl)
  have L_l_apart : Lay K mg "_law_wl_apart" s_l_apart p_l_apart := lay_of X G c 56 56 rfl rfl (fun _ _ _ _ _ _ us hl => match us, hl with | [_, _, _], _ => rfl)
  have L_l_run : Lay K mg "_law_wl_run" s_l_run p_l_run := lay_of X G c 57 57 rfl rfl (fun _ _ _ _ _ _ us hl => match us, hl with | [_, _], _ => rfl)
  have L_l_part : Lay K mg "_law_wl_part" s_l_part p_l_part := lay_of X G c 58 58 rfl rfl (fun _ _ _ _ _ _ us hl => match us, hl with | [_, _], _ => rfl)
  have L_l_two : Lay K mg "_law_wl_two" s_l_two p_l_two := lay_of X G c 59 59 rfl rfl (fun _ _ _ _ _ _ us hl => match us, hl with | [_, _], _ => rfl)
  have L_l_vats : Lay K mg "_law_wl_vats" s_l_vats p_l_vats := lay_of X G c 60 60 rfl rfl (fun _ _ _ _ _ _ us hl => match us, hl with | [_, _, _], _ => rfl)
  have L_l_deed : Lay K mg "_law_wl_deed" s_l_deed p_l_deed := lay_of X G c 61 61 rfl rfl (fun _ _ _ _ _ _ us hl => match us, hl with | [_, _, _, _], _ => rfl)
  have L_l_plan : Lay K mg "_law_wl_plan" s_l_plan p_l_plan := lay_of X G c 62 62 rfl rfl (fun _ _ _ _ _ _ us hl => match us, hl with | [_, _, _], _ => rfl)
  have L_l_great : Lay K mg "_law_wl_great" s_l_great p_l_great := lay_of X G c 63 63 rfl rfl (fun _ _ _ _ _ _ us hl => match us, hl with | [_], _ => rfl)
  have L_l_width : Lay K mg "_law_wl_width" s_l_width p_l_width := lay_of X G c 64 64 rfl rfl (fun _ _ _ _ _ _ us hl => match us, hl with | [_], _ => rfl)
  have L_l_road : Lay K mg "_law_wl_road" s_l_road p_l_road := lay_of X G c 65 65 rfl rfl (fun _ _ _ _ _ _ us hl => match us, hl with | [_, _], _ => rfl)
  have L_l_roaded : Lay K mg "_law_wl_roaded" s_l_roaded p_l_roaded := lay_of X G c 66 66 rfl rfl (fun _ _ _ _ _ _ us hl => match us, hl with | [_, _, _], _ => rfl)
  have L_l_wrong_width : Lay K mg "_law_wl_wrong_width" s_l_wrong_width p_l_wrong_width := lay_of X G c 67 67 rfl rfl (fun _ _ _ _ _ _ us hl => match us, hl with | [_], _ => rfl)
  have L_l_refused_right : Lay K mg "_law_refused_right" s_l_refused_right p_l_refused_right := lay_of X G c 68 68 rfl rfl (fun _ _ _ _ _ _ us hl => match us, hl with | [_, _], _ => rfl)
  have L_l_right : Lay K mg "_law_right" s_l_right p_l_right := lay_of X G c 69 69 rfl rfl (fun _ _ _ _ _ _ us hl => match us, hl with | [_], _ => rfl)
  obtain ⟨fd_TE_init, F_TE_init, b_TE_init⟩ : LayM K "__init__" "TankError.__init__" s_TE_init _ p_TE_init := laym_of c 71 rfl (fun _ _ _ _ _ _ us hl => match us, hl with | [_, _], _ => rfl)
  obtain ⟨fd_Sc_init, F_Sc_init, b_Sc_init⟩ : LayM K "__init__" "Script.__init__" s_Sc_init _ p_Sc_init := laym_of c 72 rfl (fun _ _ _ _ _ _ us hl => match us, hl with | [_, _, _], _ => rfl)
  obtain ⟨fd_Sc_tanks, F_Sc_tanks, b_Sc_tanks⟩ : LayM K "tanks" "Script.tanks" s_Sc_tanks _ p_Sc_tanks := laym_of c 73 rfl (fun _ _ _ _ _ _ us hl => match us, hl with | [_], _ => rfl)
  obtain ⟨fd_Sc_steps, F_Sc_steps, b_Sc_steps⟩ : LayM K "steps" "Script.steps" s_Sc_steps _ p_Sc_steps := laym_of c 74 rfl (fun _ _ _ _ _ _ us hl => match us, hl with | [_], _ => rfl)
  obtain ⟨fd_Sc_without, F_Sc_without, b_Sc_without⟩ : LayM K "without" "Script.without" s_Sc_without _ p_Sc_without := laym_of c 75 rfl (fun _ _ _ _ _ _ us hl => match us, hl with | [_, _], _ => rfl)
  obtain ⟨fd_Sc_exchanged, F_Sc_exchanged, b_Sc_exchanged⟩ : LayM K "exchanged" "Script.exchanged" s_Sc_exchanged _ p_Sc_exchanged := laym_of c 76 rfl (fun _ _ _ _ _ _ us hl => match us, hl with | [_, _], _ => rfl)
  have cs : ScC K (He.ga K "Script") _ _ _ _ _ := ⟨(He.cls_ok (Lk.fact c 81 (f := bCls "Script") rfl)), (He.noat_ok (Lk.fact c 88 (f := bNo "Script" "_tanks") rfl)), (He.noat_ok (Lk.fact c 87 (f := bNo "Script" "_steps") rfl)), (He.mkr_ok (Lk.fact c 82 (f := bMk "Script") rfl)), (prop_ok (Lk.fact c 83 (f := bProp "Script" "tanks") rfl)), (prop_ok (Lk.fact c 84 (f := bProp "Script" "steps") rfl))⟩
  have hgS : mg "Script" = some (.ref (He.ga K "Script")) := (He.glo_ok X G (Lk.fact c 80 (f := bGlo "Script") rfl))
  obtain ⟨fdw, Fw⟩ := Lk.df c 70 rfl
  have efa := hfa.symm.trans (He.glo_ok X G (Lk.fact c 70 (f := bGlo "law") rfl))
  cases efa
  have main : ∀ base : Heap, K.In base → base.Ns mainGlobals mg → FnG P w K mg base 12 (He.ga K "law") fdw p_law (spLaw K) := fun base _ _ => by
    have cut : Cal P w K mg base 1 "cut" p_cut (spTrim K) := L_cut.cal fun f fd F => ok_cut F z_len
    have isint : Cal P w K mg base 1 "is_integer" p_is_integer spInt := L_is_integer.cal fun f fd F => ok_is_integer F t3
    have isfr : Cal P w K mg base 2 "is_fraction" p_is_fraction spIsFr := L_is_fraction.cal fun f fd F => ok_is_fraction F t3 isint
    have content : Cal P w K mg base 1 "content" p_content (spCont K) := L_content.cal fun f fd F => ok_content F z_gcd
    have prim_ : Cal P w K mg base 2 "primitive" p_primitive spPrim := L_primitive.cal fun f fd F => ok_primitive F content
    have rem : Cal P w K mg base 3 "remainder" p_remainder spRemW := L_remainder.cal fun f fd F => ok_remainder F t7 cut prim_
    have addW : Cal P w K mg base 2 "added" p_added (spTwoW (fun _ _ => True) fun xs ys => trm (padd xs ys)) := L_added.cal fun f fd F => ok_addedW F t2 cut
    have mulC : Cal P w K mg base 1 "multiplied" p_multiplied spMc := L_multiplied.cal fun f fd F => (ok_multipliedW F t2).imp mc_of
    have addC : Cal P w K mg base 2 "added" p_added spAc := L_added.cal fun f fd F => (ok_addedW F t2 cut).imp ac_of
    have upr : Cal P w K mg base 3 "upright" p_upright spUp1 := L_upright.cal fun f fd F => ok_upright1 F prim_
    have comm : Cal P w K mg base 4 "common_factor" p_common_factor spCf1 := L_common_factor.cal fun f fd F => ok_common1 F rem upr
    have quo : Cal P w K mg base 1 "quotient" p_quotient spQ1 := L_quotient.cal fun f fd F => ok_quotient1 F t2 z_list
    have red : Cal P w K mg base 5 "reduced" p_reduced spRed1 := L_reduced.cal fun f fd F => ok_reduced1 F z_gcd comm quo content
    have cp0 : Cal P w K mg base 1 "copied" p_copied (spCp 0) := L_copied.cal fun f fd F => ok_copied0 F t5
    have cp1 : Cal P w K mg base 2 "copied" p_copied (spCp 1) := L_copied.cal fun f fd F => ok_copiedS F t5 cp0
    have cp2 : Cal P w K mg base 3 "copied" p_copied (spCp 2) := L_copied.cal fun f fd F => ok_copiedS F t5 cp1
    have amt : Cal P w K mg base 2 "is_amount" p_is_amount spAmt := L_is_amount.cal fun f fd F => ok_is_amount F isint
    have tank : Cal P w K mg base 3 "is_tank" p_is_tank spTank := L_is_tank.cal fun f fd F => ok_is_tank F t3 isint amt
    have chkT : Cal P w K mg base 4 "check_tanks" p_check_tanks spChkT := L_check_tanks.cal fun f fd F => ok_check_tanks F z_len tank
    have asc : Cal P w K mg base 2 "is_ascending" p_is_ascending spAsc := L_is_ascending.cal fun f fd F => ok_is_ascending F t3 z_range isint
    have isstep : Cal P w K mg base 3 "is_step" p_is_step spStep := L_is_step.cal fun f fd F => ok_is_step F t3 z_str th asc amt
    have sgn_ : Cal P w K mg base 1 "sign_of" p_sign_of spSgn := L_sign_of.cal fun f fd F => ok_sign_of F
    have ord_ : Cal P w K mg base 2 "order_of_fractions" p_order_of_fractions spOrd := L_order_of_fractions.cal fun f fd F => ok_order F sgn_
    have tof : ∀ n, Cal P w K mg base 1 "tanks_of" p_tanks_of (spTof n) := fun n => L_tanks_of.cal fun f fd F => ok_tanks_of F
    have nums : Cal P w K mg base 3 "check_numbers" p_check_numbers spNums := L_check_numbers.cal fun f fd F => ok_check_numbers F amt
    have chkP : Cal P w K mg base 3 "check_part" p_check_part spPart := L_check_part.cal fun f fd F => ok_check_part F isfr ord_
    have chkS : Cal P w K mg base 4 "check_step" p_check_step spChkS := L_check_step.cal fun f fd F => ok_check_step F isstep tof nums chkP
    have told : Cal P w K mg base 1 "told_widths" p_told_widths spTold := L_told_widths.cal fun f fd F => ok_told_widths F
    have sum : Cal P w K mg base 3 "sum_of" p_sum_of spSum := L_sum_of.cal fun f fd F => ok_sum_of F addW
    have tog : Cal P w K mg base 4 "together" p_together spTog := L_together.cal fun f fd F => ok_together F sum
    have opened : Cal P w K mg base 5 "opened" p_opened spOpen := L_opened.cal fun f fd F => ok_opened F t2 tog mulC
    have poured : Cal P w K mg base 3 "poured" p_poured spPour := L_poured.cal fun f fd F => ok_poured F t2 cut mulC addC
    have taken : Cal P w K mg base 3 "taken" p_taken spTake := L_taken.cal fun f fd F => ok_taken F cut mulC addC
    have after_ : Cal P w K mg base 6 "after" p_after spAfter := L_after.cal fun f fd F => ok_after F opened poured taken
    have levels_ : Cal P w K mg base 6 "levels" p_levels spLev := L_levels.cal fun f fd F => ok_levels F t2 mulC red
    have numof : Cal P w K mg base 1 "number_of" p_number_of spNum := L_number_of.cal fun f fd F => ok_number_of F
    have tl : Cal P w K mg base 7 "told_levels" p_told_levels spTL := L_told_levels.cal fun f fd F => ok_told_levels F numof levels_
    have chkW : Cal P w K mg base 3 "check_width" p_check_width spCw := L_check_width.cal fun f fd F => ok_check_width F isfr
    have neg1 : Cal P w K mg base 1 "negated" p_negated spNeg1 := L_negated.cal fun f fd F => ok_neg1 F
    have sc1 : Cal P w K mg base 1 "scaled_value" p_scaled_value spSc1 := L_scaled_value.cal fun f fd F => ok_sc1 F t2
    have sg1 : Cal P w K mg base 2 "sign_at_fraction" p_sign_at_fraction spSg1 := L_sign_at_fraction.cal fun f fd F => ok_sg1 F sgn_ sc1
    have lead_ : Cal P w K mg base 6 "lead" p_lead spLead := L_lead.cal fun f fd F => ok_lead F addC mulC neg1 red
    have ahead_ : Cal P w K mg base 7 "ahead" p_ahead spAhead := L_ahead.cal fun f fd F => ok_ahead F lead_
    have ended : Cal P w K mg base 8 "is_ended" p_is_ended spEnd := L_is_ended.cal fun f fd F => ok_is_ended F sg1 ahead_
    have cp3 : Cal P w K mg base 4 "copied" p_copied (spCp 3) := L_copied.cal fun f fd F => ok_copiedS F t5 cp2
    have first : Cal P w K mg base 2 "first_water" p_first_water spFirst := L_first_water.cal fun f fd F => ok_first_water F cut
    have si := ok_Sc_init (P := P) (w := w) (mg := mg) (base := base) F_Sc_init z_len cs cp2 cp3 chkT chkS
    have st := ok_Sc_tanks (P := P) (w := w) (mg := mg) (base := base) F_Sc_tanks cs cp2
    have ss := ok_Sc_steps (P := P) (w := w) (mg := mg) (base := base) F_Sc_steps cs cp3
    have runof : Cal P w K mg base 9 "run_of" p_run_of spRunOf := L_run_of.cal fun f fd F => ok_run_of F t2 told first after_ ended tl
    have okrun : ∀ f fd, Fun K "run" "run" s_run f fd → FnOk P w K mg base CX0 10 f fd p_run (spRun (He.ga K "Script")) := fun f fd F => ok_run F cs st b_Sc_tanks ss b_Sc_steps chkW runof
    have run_ : Cal P w K mg base 10 "run" p_run (spRun (He.ga K "Script")) := L_run.cal fun f fd F => okrun f fd F
    have chkI : Cal P w K mg base 3 "check_index" p_check_index spCi := L_check_index.cal fun f fd F => ok_check_index F amt
    have chkX : Cal P w K mg base 4 "check_exchange" p_check_exchange spCx := L_check_exchange.cal fun f fd F => ok_check_exchange F chkI
    have runk : CalK P w K mg base 10 "run" p_run ["plan", "width"] gWR (spRun (He.ga K "Script")) := by
      obtain ⟨f, fd, F, m, kp, b⟩ := L_run
      refine ⟨f, fd, fun _ ws => gWR ws, okrun f fd F, m, kp, ?_⟩
      obtain ⟨ow, oe, kw, dc, pn, am, cdv, cu, sl, rfl, lk, hcd⟩ := F.ex
      exact ⟨fun s us ws X h1 h2 => match us, ws, h1, h2 with | [], [_, _], _, _ => .of_eq rfl, fun r1 r2 => rel_gWR r2⟩
    have sw := ok_Sc_withoutN (P := P) (w := w) (mg := mg) (base := base) F_Sc_without z_len hgS cs si b_Sc_init chkI
    have sx := ok_Sc_exchangedN (P := P) (w := w) (mg := mg) (base := base) F_Sc_exchanged z_len hgS cs si b_Sc_init chkX
    have ec_InvalidFraction : EC K (He.ga K "InvalidFraction") (eI K) := err_ok (Lk.fact c 74 (f := bErr "InvalidFraction") rfl)
    have gl_InvalidFraction : mg "InvalidFraction" = some (.ref (He.ga K "InvalidFraction")) := (He.glo_ok X G (Lk.fact c 73 (f := bGlo "InvalidFraction") rfl))
    have gl_TankError : mg "TankError" = some (.ref (He.ga K "TankError")) := (He.glo_ok X G (Lk.fact c 72 (f := bGlo "TankError") rfl))
    have gl_InvalidRange : mg "InvalidRange" = some (.ref (He.ga K "InvalidRange")) := (He.glo_ok X G (Lk.fact c 79 (f := bGlo "InvalidRange") rfl))
    have eg : EG K (eI K) := eg_ok (Lk.fact c 71 (f := bEG) rfl)
    have ti := ok_TE_init (P := P) (w := w) (mg := mg) (base := base) F_TE_init
    have ct0 : Cal P w K mg base 1 "copied" p_copied (spCt 0) := L_copied.cal fun f fd F => ok_ct0 F t5
    have ct1 : Cal P w K mg base 2 "copied" p_copied (spCt 1) := L_copied.cal fun f fd F => ok_ctS F t5 ct0
    have isfrB : Cal P w K mg base 2 "is_fraction" p_is_fraction spIsFrB := L_is_fraction.cal fun f fd F => ok_is_fractionB F t3 isint
    have chkWX : CalX P w K mg base 3 "check_width" p_check_width (spWidX (He.ga K "InvalidFraction")) := L_check_width.calX fun f fd F => ok_check_widthX F isfrB ct1 ec_InvalidFraction eg gl_InvalidFraction ti b_TE_init
    obtain ⟨fRu, fdRu, FRu, mRu, kRu, bRu⟩ := id L_run
    have runX := ok_runX (P := P) (w := w) (mg := mg) (base := base) FRu chkWX
    have l_coin : Cal P w K mg base 1 "_law_coin" p_l_coin spCoin := L_l_coin.cal fun f fd F => ok_coinL F t0
    have l_purse : Cal P w K mg base 1 "_law_purse" p_l_purse (spSack K) := L_l_purse.cal fun f fd F => ok_purse F t0
    have l_div : Cal P w K mg base 1 "_law_wl_divisor" p_l_divisor spShared := L_l_divisor.cal fun f fd F => ok_divisor F t0
    have l_ratio : Cal P w K mg base 2 "_law_wl_ratio" p_l_ratio spRatio := L_l_ratio.cal fun f fd F => ok_ratioL F l_div
    have l_part : Cal P w K mg base 3 "_law_wl_part" p_l_part spPt := L_l_part.cal fun f fd F => ok_partL F l_coin l_ratio
    have l_two : Cal P w K mg base 2 "_law_wl_two" p_l_two spTwo2 := L_l_two.cal fun f fd F => ok_twoL F t0 l_coin
    have l_vats : Cal P w K mg base 2 "_law_wl_vats" p_l_vats spVats := L_l_vats.cal fun f fd F => ok_vats F z_range l_coin
    have l_trim : Cal P w K mg base 1 "_law_wl_trim" p_l_trim spTrimL := L_l_trim.cal fun f fd F => ok_trimL F z_list
    have l_add : Cal P w K mg base 2 "_law_wl_add" p_l_add spAddL := L_l_add.cal fun f fd F => ok_addL F z_len z_range z_max l_trim
    have l_mul : Cal P w K mg base 2 "_law_wl_mul" p_l_mul spMulL := L_l_mul.cal fun f fd F => ok_mulL F z_len z_range l_trim
    have l_apart : Cal P w K mg base 3 "_law_wl_apart" p_l_apart spApart := L_l_apart.cal fun f fd F => ok_apart F l_add l_mul
    have l_after : Cal P w K mg base 3 "_law_wl_after" p_l_after spAftW := L_l_after.cal fun f fd F => ok_afterL F z_list l_add l_mul
    have l_start : Cal P w K mg base 2 "_law_wl_start" p_l_start spStart := L_l_start.cal fun f fd F => ok_start F l_trim
    have l_run : Cal P w K mg base 4 "_law_wl_run" p_l_run spRunL := L_l_run.cal fun f fd F => ok_runL F z_len z_range z_sum l_start l_apart l_after l_ratio
    have l_made : Cal P w K mg base 7 "_law_wl_made" p_l_made (spMade (He.ga K "Script")) := L_l_made.cal fun f fd F => ok_made F z_list hgS cs si b_Sc_init
    have l_deed : Cal P w K mg base 4 "_law_wl_deed" p_l_deed spDeedL := L_l_deed.cal fun f fd F => ok_deedL F z_range l_coin l_part l_two
    have l_width : Cal P w K mg base 3 "_law_wl_width" p_l_width (spWid 90000 4) := L_l_width.cal fun f fd F => ok_width F l_coin l_ratio
    have l_great : Cal P w K mg base 5 "_law_wl_great" p_l_great spShape := L_l_great.cal fun f fd F => ok_great F z_range l_coin l_vats l_deed
    have l_plan : Cal P w K mg base 5 "_law_wl_plan" p_l_plan spPlan := L_l_plan.cal fun f fd F => ok_plan F z_len z_int l_coin l_vats l_deed
    have l_road : Cal P w K mg base 5 "_law_wl_road" p_l_road spRoad := L_l_road.cal fun f fd F => ok_road F z_len l_coin l_deed
    have l_ww : Cal P w K mg base 2 "_law_wl_wrong_width" p_l_wrong_width spWw := L_l_wrong_width.cal fun f fd F => ok_wrong_width F l_coin
    have l_roaded : Cal P w K mg base 8 "_law_wl_roaded" p_l_roaded (spRoaded (He.ga K "Script")) := L_l_roaded.cal fun f fd F => ok_roaded F cs (He.meth_ok (Lk.fact c 85 (f := bMeth "Script" "without") rfl)) sw b_Sc_without (He.meth_ok (Lk.fact c 86 (f := bMeth "Script" "exchanged") rfl)) sx b_Sc_exchanged
    have l_ref : CalG P w K mg base 5 "_law_refused_right" p_l_refused_right spRefR := L_l_refused_right.calG fun f fd F => ok_refused_right F hND z_repr l_ww runX mRu kRu bRu ec_InvalidFraction eg gl_InvalidFraction gl_TankError gl_InvalidRange z_isinstance z_ValueError (sub_ok (Lk.fact c 76 (f := bSub "InvalidFraction" "InvalidFraction" true) rfl)) (kit_ok (Lk.fact c 77 (f := bKit "InvalidFraction" "TankError" true) rfl)) (kitv_ok (Lk.fact c 75 (f := bKitV "InvalidFraction") rfl)) (kit_ok (Lk.fact c 78 (f := bKit "InvalidFraction" "InvalidRange" false) rfl))
    have l_right : CalG P w K mg base 11 "_law_right" p_l_right spRightL := L_l_right.calG fun f fd F => ok_right15 F hND z_repr z_range z_isinstance z_list cs st b_Sc_tanks ss b_Sc_steps l_coin l_great l_plan l_road l_made l_width run_ runk l_run l_roaded l_ref
    exact ok_law15 Fw ⟨z_range, z_len, z_max, z_min⟩ l_purse l_right
  obtain ⟨ow, oe, kw, dc, pn, am, cdv, cu, sl, rfl, lk, hcd⟩ := Fw.ex
  exact ⟨_, fun s v => .of_eq rfl, main⟩
end V2


open PySem PySem.W PySem.Calls PyProof.Rows in
set_option maxRecDepth 99000 in
set_option maxHeartbeats 0 in
theorem PySem.Challenge.cw_valvelevels_k15_runs_at_told_widths_holds : PySem.Challenge.rw_valvelevels_k15_runs_at_told_widths.Holds := by
  w_on
  o_law
  refine HandSHeadRun.head_imp (r := PySem.W.OpenLaw.row PySem.Challenge.rw_valvelevels_k15_runs_at_told_widths) (q := V2.vwK) (H := V2.lk.hook 900) (ob := fun s => V2.lk.off 900 (HandSHeadRun.getT s)) (M := 12000) (loose := V2.nms) (d := HandSHeadRun.topDef (PySem.W.OpenLaw.row PySem.Challenge.rw_valvelevels_k15_runs_at_told_widths).prog 89) (kwd := [])
    (fun s => V2.Lk.off_eq (HandSHeadRun.getT_eq s)) V2.runK (by kernel_rfl) (by kernel_rfl) (by kernel_rfl) (by rfl) (by first | assumption | decide +kernel) (by decide +kernel) ⟨rfl, rfl, rfl, rfl, rfl, by decide +kernel⟩ ?hw ?hc
  case hw => w_witness2
  case hc =>
    refine V2.walk_GE (l := PySem.Challenge.rw_valvelevels_k15_runs_at_told_widths) (n := 63) (k := 12) (x := "script") rfl (by decide) (by kernel_rfl) ⟨rfl, by decide, by decide⟩ ?F
    intro w mg fa h Y G hmg0
    obtain ⟨K, KX, c⟩ := Y
    have hmg : mg ("law" : PySem.Str) = some (.ref fa) := by
      have e : (HandSHeadRun.topDef (PySem.W.OpenLaw.row PySem.Challenge.rw_valvelevels_k15_runs_at_told_widths).prog 89).name = ("law" : PySem.Str) := by kernel_rfl
      rw [← e]
      exact hmg0
    obtain ⟨fd, hb, hF⟩ := V2.whole (P := (PySem.Challenge.rw_valvelevels_k15_runs_at_told_widths).prog) (w := w) KX G hmg c
    exact ⟨K, fd, V2.spLaw K, KX, hb, fun H a ns hl _ hS => ⟨a, ns, rfl, hS, hl, fun _ => rfl⟩, hF⟩


