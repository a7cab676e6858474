import PyProof.Rows.All
import Wide.All
import OpenK.AllK
import Wide.FinOn
import HandS.ForMost
import HandS.ForExc
import HandS.Wide
import HandS.Gcd
import HandS.IsInst
import HandS.Defaults
import HandS.Flow
import HandS.EndBits
import HandS.Property
import HandS.Walk
import HandS.Style
import PySem.Challenge.RW_valvelevels_k19_a_list_of_ways_at_a_widt
import HandS.Evl
import HandS.Steps
import PyProof.ReprRoads
import HandS.Head0
import HandS.Head1
import HandS.Head2
import HandS.Head3
import HandS.HeadHook1
import HandS.HeadHook2
import HandS.More
import HandS.Star
import KE.KExcIs
import HandS.TryOnly
import HandS.ExcInit
import HandS.ExcField
import HandS.ExcOwn
import HandS.ExcIs
import HandS.Iter
import HandS.Dict
import HandS.Deep
import HandS.MakeKwOnly
import HandS.Exc
import HandS.WordsExc
import HandS.OwnEq
import HandS.HotCalls
import HandS.Lambda
import PyProof.Rows.Digits
import PyProof.StrReplace2
set_option Elab.async false
set_option linter.all false
set_option maxRecDepth 100000
set_option maxHeartbeats 20000000
set_option exponentiation.threshold 100000
namespace V2
open PySem L2
/-! the text by its places -/
def topS (i : Nat) : Stmt := PySem.Challenge.pw_valvelevels_k19_a_list_of_ways_at_a_widt.main.body.getD i (.Pass ⟨0, 0, 0, 0⟩)
/-- a def in a class's body -/
def inClass (st : Stmt) (i : Nat) : Stmt := match st with
  | .ClassDef _ _ _ body _ _ _ _ _ _ _ => body.getD i (.Pass ⟨0, 0, 0, 0⟩)
  | _ => .Pass ⟨0, 0, 0, 0⟩

abbrev s_fraction : Stmt := topS 2
abbrev n_fraction : List Str := ["above", "below", "factor"]
abbrev p_fraction : List Str := ["above", "below"]
theorem sc_fraction : FnScope n_fraction p_fraction (defScope s_fraction) := ⟨rfl, rfl, rfl, by decide +kernel, rfl, by decide +kernel, by decide +kernel⟩
abbrev s_order_of_fractions : Stmt := topS 3
abbrev n_order_of_fractions : List Str := ["one", "other"]
abbrev p_order_of_fractions : List Str := ["one", "other"]
theorem sc_order_of_fractions : FnScope n_order_of_fractions p_order_of_fractions (defScope s_order_of_fractions) := ⟨rfl, rfl, rfl, by decide +kernel, rfl, by decide +kernel, by decide +kernel⟩
abbrev s_sign_of : Stmt := topS 4
abbrev n_sign_of : List Str := ["number"]
abbrev p_sign_of : List Str := ["number"]
theorem sc_sign_of : FnScope n_sign_of p_sign_of (defScope s_sign_of) := ⟨rfl, rfl, rfl, by decide +kernel, rfl, by decide +kernel, by decide +kernel⟩
abbrev s_cut : Stmt := topS 5
abbrev n_cut : List Str := ["numbers", "many"]
abbrev p_cut : List Str := ["numbers"]
theorem sc_cut : FnScope n_cut p_cut (defScope s_cut) := ⟨rfl, rfl, rfl, by decide +kernel, rfl, by decide +kernel, by decide +kernel⟩
abbrev s_negated : Stmt := topS 6
abbrev n_negated : List Str := ["one", "number"]
abbrev p_negated : List Str := ["one"]
theorem sc_negated : FnScope n_negated p_negated (defScope s_negated) := ⟨rfl, rfl, rfl, by decide +kernel, rfl, by decide +kernel, by decide +kernel⟩
abbrev s_multiplied : Stmt := topS 7
abbrev n_multiplied : List Str := ["one", "other", "numbers", "k", "number", "j", "factor"]
abbrev p_multiplied : List Str := ["one", "other"]
theorem sc_multiplied : FnScope n_multiplied p_multiplied (defScope s_multiplied) := ⟨rfl, rfl, rfl, by decide +kernel, rfl, by decide +kernel, by decide +kernel⟩
abbrev s_slope : Stmt := topS 8
abbrev n_slope : List Str := ["one", "k", "number"]
abbrev p_slope : List Str := ["one"]
theorem sc_slope : FnScope n_slope p_slope (defScope s_slope) := ⟨rfl, rfl, rfl, by decide +kernel, rfl, by decide +kernel, by decide +kernel⟩
abbrev s_scaled_value : Stmt := topS 9
abbrev n_scaled_value : List Str := ["one", "spot", "above", "below", "total", "power", "k", "number"]
abbrev p_scaled_value : List Str := ["one", "spot"]
theorem sc_scaled_value : FnScope n_scaled_value p_scaled_value (defScope s_scaled_value) := ⟨rfl, rfl, rfl, by decide +kernel, rfl, by decide +kernel, by decide +kernel⟩
abbrev s_value_at : Stmt := topS 10
abbrev n_value_at : List Str := ["one", "spot", "total", "power"]
abbrev p_value_at : List Str := ["one", "spot"]
theorem sc_value_at : FnScope n_value_at p_value_at (defScope s_value_at) := ⟨rfl, rfl, rfl, by decide +kernel, rfl, by decide +kernel, by decide +kernel⟩
abbrev s_sign_at_fraction : Stmt := topS 11
abbrev n_sign_at_fraction : List Str := ["one", "spot"]
abbrev p_sign_at_fraction : List Str := ["one", "spot"]
theorem sc_sign_at_fraction : FnScope n_sign_at_fraction p_sign_at_fraction (defScope s_sign_at_fraction) := ⟨rfl, rfl, rfl, by decide +kernel, rfl, by decide +kernel, by decide +kernel⟩
abbrev s_content : Stmt := topS 12
abbrev n_content : List Str := ["one", "factor", "number"]
abbrev p_content : List Str := ["one"]
theorem sc_content : FnScope n_content p_content (defScope s_content) := ⟨rfl, rfl, rfl, by decide +kernel, rfl, by decide +kernel, by decide +kernel⟩
abbrev s_primitive : Stmt := topS 13
abbrev n_primitive : List Str := ["one", "factor", "number"]
abbrev p_primitive : List Str := ["one"]
theorem sc_primitive : FnScope n_primitive p_primitive (defScope s_primitive) := ⟨rfl, rfl, rfl, by decide +kernel, rfl, by decide +kernel, by decide +kernel⟩
abbrev s_remainder : Stmt := topS 14
abbrev n_remainder : List Str := ["one", "other", "left", "lead", "factor", "grow", "take", "behind", "taken", "number", "k"]
abbrev p_remainder : List Str := ["one", "other"]
theorem sc_remainder : FnScope n_remainder p_remainder (defScope s_remainder) := ⟨rfl, rfl, rfl, by decide +kernel, rfl, by decide +kernel, by decide +kernel⟩
abbrev s_TE_init : Stmt := inClass (topS 16) 0
abbrev n_TE_init : List Str := ["self", "value"]
abbrev p_TE_init : List Str := ["self", "value"]
theorem sc_TE_init : FnScope n_TE_init p_TE_init (defScope s_TE_init) := ⟨rfl, rfl, rfl, by decide +kernel, rfl, by decide +kernel, by decide +kernel⟩
abbrev s_signed_rests : Stmt := topS 20
abbrev n_signed_rests : List Str := ["one", "other", "told", "following"]
abbrev p_signed_rests : List Str := ["one", "other"]
theorem sc_signed_rests : FnScope n_signed_rests p_signed_rests (defScope s_signed_rests) := ⟨rfl, rfl, rfl, by decide +kernel, rfl, by decide +kernel, by decide +kernel⟩
abbrev s_leading : Stmt := topS 21
abbrev n_leading : List Str := ["one", "spot", "number"]
abbrev p_leading : List Str := ["one", "spot"]
theorem sc_leading : FnScope n_leading p_leading (defScope s_leading) := ⟨rfl, rfl, rfl, by decide +kernel, rfl, by decide +kernel, by decide +kernel⟩
abbrev s_turns_of : Stmt := topS 22
abbrev n_turns_of : List Str := ["told", "spot", "last", "many", "one", "sign"]
abbrev p_turns_of : List Str := ["told", "spot"]
theorem sc_turns_of : FnScope n_turns_of p_turns_of (defScope s_turns_of) := ⟨rfl, rfl, rfl, by decide +kernel, rfl, by decide +kernel, by decide +kernel⟩
abbrev s_sign_over_root : Stmt := topS 23
abbrev n_sign_over_root : List Str := ["one", "told", "low", "high", "part", "signs"]
abbrev p_sign_over_root : List Str := ["one", "told", "low", "high"]
theorem sc_sign_over_root : FnScope n_sign_over_root p_sign_over_root (defScope s_sign_over_root) := ⟨rfl, rfl, rfl, by decide +kernel, rfl, by decide +kernel, by decide +kernel⟩
abbrev s_is_root : Stmt := topS 25
abbrev n_is_root : List Str := ["place"]
abbrev p_is_root : List Str := ["place"]
theorem sc_is_root : FnScope n_is_root p_is_root (defScope s_is_root) := ⟨rfl, rfl, rfl, by decide +kernel, rfl, by decide +kernel, by decide +kernel⟩
abbrev s_sign_at_place : Stmt := topS 26
abbrev n_sign_at_place : List Str := ["one", "place"]
abbrev p_sign_at_place : List Str := ["one", "place"]
theorem sc_sign_at_place : FnScope n_sign_at_place p_sign_at_place (defScope s_sign_at_place) := ⟨rfl, rfl, rfl, by decide +kernel, rfl, by decide +kernel, by decide +kernel⟩
abbrev s_order_of_places : Stmt := topS 27
abbrev n_order_of_places : List Str := ["one", "other"]
abbrev p_order_of_places : List Str := ["one", "other"]
theorem sc_order_of_places : FnScope n_order_of_places p_order_of_places (defScope s_order_of_places) := ⟨rfl, rfl, rfl, by decide +kernel, rfl, by decide +kernel, by decide +kernel⟩
abbrev s_order_by_fraction : Stmt := topS 28
abbrev n_order_by_fraction : List Str := ["root", "spot", "_", "told", "low", "high"]
abbrev p_order_by_fraction : List Str := ["root", "spot"]
theorem sc_order_by_fraction : FnScope n_order_by_fraction p_order_by_fraction (defScope s_order_by_fraction) := ⟨rfl, rfl, rfl, by decide +kernel, rfl, by decide +kernel, by decide +kernel⟩
abbrev s_order_of_roots : Stmt := topS 29
abbrev n_order_of_roots : List Str := ["one", "other", "_", "told", "low", "high", "there"]
abbrev p_order_of_roots : List Str := ["one", "other"]
theorem sc_order_of_roots : FnScope n_order_of_roots p_order_of_roots (defScope s_order_of_roots) := ⟨rfl, rfl, rfl, by decide +kernel, rfl, by decide +kernel, by decide +kernel⟩
abbrev s_copied : Stmt := topS 31
abbrev n_copied : List Str := ["thing", "part"]
abbrev p_copied : List Str := ["thing"]
theorem sc_copied : FnScope n_copied p_copied (defScope s_copied) := ⟨rfl, rfl, rfl, by decide +kernel, rfl, by decide +kernel, by decide +kernel⟩
abbrev s_is_integer : Stmt := topS 32
abbrev n_is_integer : List Str := ["thing"]
abbrev p_is_integer : List Str := ["thing"]
theorem sc_is_integer : FnScope n_is_integer p_is_integer (defScope s_is_integer) := ⟨rfl, rfl, rfl, by decide +kernel, rfl, by decide +kernel, by decide +kernel⟩
abbrev s_is_fraction : Stmt := topS 33
abbrev n_is_fraction : List Str := ["thing", "above", "below"]
abbrev p_is_fraction : List Str := ["thing"]
theorem sc_is_fraction : FnScope n_is_fraction p_is_fraction (defScope s_is_fraction) := ⟨rfl, rfl, rfl, by decide +kernel, rfl, by decide +kernel, by decide +kernel⟩
abbrev s_check_width : Stmt := topS 34
abbrev n_check_width : List Str := ["width"]
abbrev p_check_width : List Str := ["width"]
theorem sc_check_width : FnScope n_check_width p_check_width (defScope s_check_width) := ⟨rfl, rfl, rfl, by decide +kernel, rfl, by decide +kernel, by decide +kernel⟩
abbrev s_form_at : Stmt := topS 36
abbrev n_form_at : List Str := ["form", "spot", "above", "below"]
abbrev p_form_at : List Str := ["form", "spot"]
theorem sc_form_at : FnScope n_form_at p_form_at (defScope s_form_at) := ⟨rfl, rfl, rfl, by decide +kernel, rfl, by decide +kernel, by decide +kernel⟩
abbrev s_side : Stmt := topS 38
abbrev n_side : List Str := ["stretch", "place", "low", "low_in", "high", "high_in", "lower", "upper"]
abbrev p_side : List Str := ["stretch", "place"]
theorem sc_side : FnScope n_side p_side (defScope s_side) := ⟨rfl, rfl, rfl, by decide +kernel, rfl, by decide +kernel, by decide +kernel⟩
abbrev s_lies_in : Stmt := topS 39
abbrev n_lies_in : List Str := ["told", "place", "stretch"]
abbrev p_lies_in : List Str := ["told", "place"]
theorem sc_lies_in : FnScope n_lies_in p_lies_in (defScope s_lies_in) := ⟨rfl, rfl, rfl, by decide +kernel, rfl, by decide +kernel, by decide +kernel⟩
abbrev s_way_at : Stmt := topS 41
abbrev n_way_at : List Str := ["told", "width", "index", "forms", "widths", "form"]
abbrev p_way_at : List Str := ["told", "width"]
theorem sc_way_at : FnScope n_way_at p_way_at (defScope s_way_at) := ⟨rfl, rfl, rfl, by decide +kernel, rfl, by decide +kernel, by decide +kernel⟩
abbrev s_l_purse : Stmt := topS 43
abbrev n_l_purse : List Str := ["script", "place", "cell"]
abbrev p_l_purse : List Str := ["script", "place"]
theorem sc_l_purse : FnScope n_l_purse p_l_purse (defScope s_l_purse) := ⟨rfl, rfl, rfl, by decide +kernel, rfl, by decide +kernel, by decide +kernel⟩
abbrev s_l_coin : Stmt := topS 44
abbrev n_l_coin : List Str := ["purse", "many", "drawn", "stirred"]
abbrev p_l_coin : List Str := ["purse", "many"]
theorem sc_l_coin : FnScope n_l_coin p_l_coin (defScope s_l_coin) := ⟨rfl, rfl, rfl, by decide +kernel, rfl, by decide +kernel, by decide +kernel⟩
abbrev s_l_divisor : Stmt := topS 45
abbrev n_l_divisor : List Str := ["first", "second"]
abbrev p_l_divisor : List Str := ["first", "second"]
theorem sc_l_divisor : FnScope n_l_divisor p_l_divisor (defScope s_l_divisor) := ⟨rfl, rfl, rfl, by decide +kernel, rfl, by decide +kernel, by decide +kernel⟩
abbrev s_l_ratio : Stmt := topS 46
abbrev n_l_ratio : List Str := ["first", "second", "share"]
abbrev p_l_ratio : List Str := ["first", "second"]
theorem sc_l_ratio : FnScope n_l_ratio p_l_ratio (defScope s_l_ratio) := ⟨rfl, rfl, rfl, by decide +kernel, rfl, by decide +kernel, by decide +kernel⟩
abbrev s_l_plus : Stmt := topS 47
abbrev n_l_plus : List Str := ["first", "second"]
abbrev p_l_plus : List Str := ["first", "second"]
theorem sc_l_plus : FnScope n_l_plus p_l_plus (defScope s_l_plus) := ⟨rfl, rfl, rfl, by decide +kernel, rfl, by decide +kernel, by decide +kernel⟩
abbrev s_l_times : Stmt := topS 48
abbrev n_l_times : List Str := ["first", "second"]
abbrev p_l_times : List Str := ["first", "second"]
theorem sc_l_times : FnScope n_l_times p_l_times (defScope s_l_times) := ⟨rfl, rfl, rfl, by decide +kernel, rfl, by decide +kernel, by decide +kernel⟩
abbrev s_l_less : Stmt := topS 49
abbrev n_l_less : List Str := ["first", "second"]
abbrev p_l_less : List Str := ["first", "second"]
theorem sc_l_less : FnScope n_l_less p_l_less (defScope s_l_less) := ⟨rfl, rfl, rfl, by decide +kernel, rfl, by decide +kernel, by decide +kernel⟩
abbrev s_l_trim : Stmt := topS 50
abbrev n_l_trim : List Str := ["nums"]
abbrev p_l_trim : List Str := ["nums"]
theorem sc_l_trim : FnScope n_l_trim p_l_trim (defScope s_l_trim) := ⟨rfl, rfl, rfl, by decide +kernel, rfl, by decide +kernel, by decide +kernel⟩
abbrev s_l_sign_at : Stmt := topS 51
abbrev n_l_sign_at : List Str := ["nums", "spot", "found", "power", "number"]
abbrev p_l_sign_at : List Str := ["nums", "spot"]
theorem sc_l_sign_at : FnScope n_l_sign_at p_l_sign_at (defScope s_l_sign_at) := ⟨rfl, rfl, rfl, by decide +kernel, rfl, by decide +kernel, by decide +kernel⟩
abbrev s_l_value : Stmt := topS 52
abbrev n_l_value : List Str := ["nums", "spot", "found", "number"]
abbrev p_l_value : List Str := ["nums", "spot"]
theorem sc_l_value : FnScope n_l_value p_l_value (defScope s_l_value) := ⟨rfl, rfl, rfl, by decide +kernel, rfl, by decide +kernel, by decide +kernel⟩
abbrev s_l_width : Stmt := topS 53
abbrev n_l_width : List Str := ["sack", "foot"]
abbrev p_l_width : List Str := ["sack"]
theorem sc_l_width : FnScope n_l_width p_l_width (defScope s_l_width) := ⟨rfl, rfl, rfl, by decide +kernel, rfl, by decide +kernel, by decide +kernel⟩
abbrev s_l_wrong_width : Stmt := topS 54
abbrev n_l_wrong_width : List Str := ["sack", "first", "second", "wrong"]
abbrev p_l_wrong_width : List Str := ["sack"]
theorem sc_l_wrong_width : FnScope n_l_wrong_width p_l_wrong_width (defScope s_l_wrong_width) := ⟨rfl, rfl, rfl, by decide +kernel, rfl, by decide +kernel, by decide +kernel⟩
abbrev s_l_nums : Stmt := topS 55
abbrev n_l_nums : List Str := ["sack", "size", "top", "found", "k"]
abbrev p_l_nums : List Str := ["sack", "size"]
theorem sc_l_nums : FnScope n_l_nums p_l_nums (defScope s_l_nums) := ⟨rfl, rfl, rfl, by decide +kernel, rfl, by decide +kernel, by decide +kernel⟩
abbrev s_l_foot : Stmt := topS 56
abbrev n_l_foot : List Str := ["sack", "top", "size", "found", "k", "number"]
abbrev p_l_foot : List Str := ["sack"]
theorem sc_l_foot : FnScope n_l_foot p_l_foot (defScope s_l_foot) := ⟨rfl, rfl, rfl, by decide +kernel, rfl, by decide +kernel, by decide +kernel⟩
abbrev s_l_form : Stmt := topS 57
abbrev n_l_form : List Str := ["sack", "top"]
abbrev p_l_form : List Str := ["sack"]
theorem sc_l_form : FnScope n_l_form p_l_form (defScope s_l_form) := ⟨rfl, rfl, rfl, by decide +kernel, rfl, by decide +kernel, by decide +kernel⟩
abbrev s_l_ends : Stmt := topS 58
abbrev n_l_ends : List Str := ["sack", "found", "floor", "square", "more", "near", "far", "part"]
abbrev p_l_ends : List Str := ["sack"]
theorem sc_l_ends : FnScope n_l_ends p_l_ends (defScope s_l_ends) := ⟨rfl, rfl, rfl, by decide +kernel, rfl, by decide +kernel, by decide +kernel⟩
abbrev s_l_side : Stmt := topS 59
abbrev n_l_side : List Str := ["spot", "place"]
abbrev p_l_side : List Str := ["spot", "place"]
theorem sc_l_side : FnScope n_l_side p_l_side (defScope s_l_side) := ⟨rfl, rfl, rfl, by decide +kernel, rfl, by decide +kernel, by decide +kernel⟩
abbrev s_l_pieces : Stmt := topS 60
abbrev n_l_pieces : List Str := ["ends", "found", "low", "place"]
abbrev p_l_pieces : List Str := ["ends"]
theorem sc_l_pieces : FnScope n_l_pieces p_l_pieces (defScope s_l_pieces) := ⟨rfl, rfl, rfl, by decide +kernel, rfl, by decide +kernel, by decide +kernel⟩
abbrev s_l_in : Stmt := topS 61
abbrev n_l_in : List Str := ["spot", "piece", "low", "low_in", "high", "high_in", "below", "beyond"]
abbrev p_l_in : List Str := ["spot", "piece"]
theorem sc_l_in : FnScope n_l_in p_l_in (defScope s_l_in) := ⟨rfl, rfl, rfl, by decide +kernel, rfl, by decide +kernel, by decide +kernel⟩
abbrev s_l_error : Stmt := topS 62
abbrev n_l_error : List Str := ["several", "spot", "kept", "e"]
abbrev p_l_error : List Str := ["several", "spot"]
theorem sc_l_error : FnScope n_l_error p_l_error (defScope s_l_error) := ⟨rfl, rfl, rfl, by decide +kernel, rfl, by decide +kernel, by decide +kernel⟩
abbrev s_l_owed : Stmt := topS 63
abbrev n_l_owed : List Str := ["several", "spot", "rank", "forms", "ranges", "levels", "top", "foot", "upper", "lower", "piece"]
abbrev p_l_owed : List Str := ["several", "spot"]
theorem sc_l_owed : FnScope n_l_owed p_l_owed (defScope s_l_owed) := ⟨rfl, rfl, rfl, by decide +kernel, rfl, by decide +kernel, by decide +kernel⟩
abbrev s_l_right : Stmt := topS 64
abbrev n_l_right : List Str := ["sack", "ends", "several", "k", "forms", "piece", "pick", "spots", "before", "spot", "owed", "found", "wrong", "rank", "turn", "place"]
abbrev p_l_right : List Str := ["sack"]
theorem sc_l_right : FnScope n_l_right p_l_right (defScope s_l_right) := ⟨rfl, rfl, rfl, by decide +kernel, rfl, by decide +kernel, by decide +kernel⟩
abbrev s_law : Stmt := topS 65
abbrev n_law : List Str := ["script", "spot", "sack"]
abbrev p_law : List Str := ["script"]
theorem sc_law : FnScope n_law p_law (defScope s_law) := ⟨rfl, rfl, rfl, by decide +kernel, rfl, by decide +kernel, by decide +kernel⟩
end V2


namespace V2
open PySem L2
open PySem.Spec PyProof.Rows
def CPowX (i j : Int) : Prop := 0 ≤ j ∧ (Builtin.Int.intBits i : Int) * j ≤ 2 ^ 27
theorem op_powX {X : Cx} : OpR X (binaryOp .Pow) (rI CPowX fun i j => .int (i ^ j.toNat)) :=
  opI fun _ _ _ _ _ _ _ hc q => pow_int hc.1 hc.2 q
theorem pow_ok {i : Int} {k n : Nat} (hi : i.natAbs < 2 ^ k) (h : k * n ≤ 134217728) : CPowX i (n : Int) := by
  (refine ⟨Int.natCast_nonneg _, ?_⟩)
  have h1 := intBits_le hi
  have h2 : Builtin.Int.intBits i * n ≤ k * n := Nat.mul_le_mul_right n h1
  have h3 : ((Builtin.Int.intBits i * n : Nat) : Int) ≤ 134217728 := by omega
  have e : (2 : Int) ^ 27 = 134217728 := (by decide)
  rw [e, ← Int.natCast_mul]
  exact h3
/-- all but the list at p is as it was (and there may be new things) -/
def But (p : Addr) (H H' : Hp) : Prop := ∀ b o, b ≠ p → H b = some o → H' b = some o
theorem But.refl (p : Addr) (H : Hp) : But p H H := fun _ _ _ h => h
theorem But.trans {p : Addr} {H H1 H2 : Hp} (a : But p H H1) (b : But p H1 H2) : But p H H2 := fun c o n h => b c o n (a c o n h)
theorem But.of_ex {p : Addr} {H H' : Hp} (e : Evl.Ex H H') : But p H H' := fun b o _ h => e b o h
theorem But.upd {p : Addr} {H : Hp} {o : HO} : But p H (upd H p o) := fun b u n h => by
  rw [upd_ne n]; exact h
/-- the law's sack at p: three ints, at most m draws so far -/
def Sk (H : Hp) (p : Addr) (m : Nat) : Prop := ∃ a b c : Int, H p = some (.lst [.int a, .int b, .int c]) ∧ 0 ≤ a ∧ 0 ≤ b ∧ b < 2 ^ 80 ∧ 0 ≤ c ∧ c ≤ m
theorem Sk.le {H : Hp} {p : Addr} {m n : Nat} (h : Sk H p m) (l : m ≤ n) : Sk H p n := by
  obtain ⟨a, b, c, h1, h2, h3, h4, h5, h6⟩ := h
  exact ⟨a, b, c, h1, h2, h3, h4, h5, by omega⟩
theorem Sk.ex {H H' : Hp} {p : Addr} {m : Nat} (h : Sk H p m) (e : Evl.Ex H H') : Sk H' p m := by
  obtain ⟨a, b, c, h1, h2⟩ := h
  exact ⟨a, b, c, e _ _ h1, h2⟩
/-- a draw: any number below many, the sack goes on -/
def spCoin : Sp := fun vs H Q _ => ∃ (p : Addr) (many : Int) (m : Nat), vs = [.ref p, .int many] ∧ Sk H p m ∧ m ≤ 100000 ∧ 0 < many ∧ many.natAbs < 2 ^ 200 ∧
  ∀ (r : Int) (H' : Hp), 0 ≤ r → r < many → But p H H' → Sk H' p (m + 1) → (∀ q, H q = none → H' q = none) → Q (.int r) H'
structure T0 (mg : Str → Option Value) : Prop where
  len : mg "len" = none
  max : mg "max" = none
  abs : mg "abs" = none
  int : mg "int" = none
theorem at0 {a b c : V} : atI [a, b, c] 0 = some a := by rfl
theorem at1 {a b c : V} : atI [a, b, c] 1 = some b := by rfl
theorem at2 {a b c : V} : atI [a, b, c] 2 = some c := by rfl
theorem ixN3 (j : Nat) (h : j < 3) : ixN 3 (j : Int) = some j := Evl.ixN_nat h
section
variable {base : Heap} {mg : Str → Option Value} {K : PySem.W.Frag} {w : World} {P : Program}
end
end V2



namespace V2
/-- how many zeros a list begins with -/
def zer : List Int → Nat
  | [] => 0
  | x :: r => if x = 0 then zer r + 1 else 0
theorem zer_le : ∀ l : List Int, zer l ≤ l.length
  | [] => Nat.le_refl _
  | x :: r => by
    unfold zer
    split
    · have := zer_le r; simp only [List.length_cons]; omega
    · exact Nat.zero_le _
theorem zer_in : ∀ (l : List Int) (j : Nat), j < zer l → l[j]? = some 0
  | [], j, h => absurd h (Nat.not_lt_zero _)
  | x :: r, j, h => by
    unfold zer at h
    split at h
    · rename_i e
      cases j with
      | zero => simp [e]
      | succ j => simpa using zer_in r j (by omega)
    · exact absurd h (Nat.not_lt_zero _)
theorem zer_at : ∀ (l : List Int), zer l < l.length → ∃ x, l[zer l]? = some x ∧ x ≠ 0
  | [], h => absurd h (Nat.not_lt_zero _)
  | x :: r, h => by
    unfold zer at h ⊢
    split
    · rename_i e
      rw [if_pos e, List.length_cons] at h
      obtain ⟨y, h1, h2⟩ := zer_at r (by omega)
      exact ⟨y, by simpa using h1, h2⟩
    · rename_i e
      exact ⟨x, rfl, e⟩
/-- how many zeros stand at the end -/
def tz (ns : List Int) : Nat := zer ns.reverse
theorem tz_le (ns : List Int) : tz ns ≤ ns.length := by
  have := zer_le ns.reverse
  rwa [List.length_reverse] at this
theorem tz_in (ns : List Int) (j : Nat) (h : j < tz ns) : ns[ns.length - 1 - j]? = some 0 := by
  have h1 := zer_in ns.reverse j h
  have h2 := tz_le ns
  rwa [List.getElem?_reverse (by omega)] at h1
theorem tz_at (ns : List Int) (h : tz ns < ns.length) : ∃ x, ns[ns.length - 1 - tz ns]? = some x ∧ x ≠ 0 := by
  have h1 := zer_at ns.reverse (by rwa [List.length_reverse])
  obtain ⟨x, h2, h3⟩ := h1
  refine ⟨x, ?_, h3⟩
  change ns.reverse[tz ns]? = some x at h2
  rwa [List.getElem?_reverse h] at h2
/-- without the zeros at the end -/
def trm (ns : List Int) : List Int := ns.take (ns.length - tz ns)
/-- no 0 at the end -/
def Pol (ns : List Int) : Prop := ∀ x, ns[ns.length - 1]? = some x → x ≠ 0
theorem tz_pol {ns : List Int} (h : Pol ns) : tz ns = 0 := by
  cases e : tz ns with
  | zero => rfl
  | succ k =>
    exact absurd rfl (h 0 (by have := tz_in ns 0 (by omega); simpa using this))
theorem trm_pol {ns : List Int} (h : Pol ns) : trm ns = ns := by
  unfold trm
  rw [tz_pol h, Nat.sub_zero, List.take_length]
theorem pol_trm (ns : List Int) : Pol (trm ns) := by
  intro x h
  unfold trm at h
  have h2 := tz_le ns
  rw [List.length_take, Nat.min_eq_left (Nat.sub_le _ _)] at h
  by_cases h3 : tz ns < ns.length
  · obtain ⟨y, h4, h5⟩ := tz_at ns h3
    rw [List.getElem?_take, if_pos (by omega), show ns.length - tz ns - 1 = ns.length - 1 - tz ns by omega, h4] at h
    cases h; exact h5
  · rw [List.getElem?_take, if_neg (by omega)] at h
    cases h
theorem trm_len (ns : List Int) : (trm ns).length ≤ ns.length := by
  unfold trm; rw [List.length_take]; omega
theorem trm_mem {ns : List Int} {x : Int} (h : x ∈ trm ns) : x ∈ ns := List.mem_of_mem_take h
def fr (u d : Int) : Int × Int := (u / (Int.gcd u d : Int), d / (Int.gcd u d : Int))
theorem gcd_pos {u d : Int} (h : 0 < d) : (0 : Int) < (Int.gcd u d : Int) := by
  have := Int.gcd_pos_of_ne_zero_right u (show d ≠ 0 by omega)
  omega
theorem fr_mul {u d : Int} (h : 0 < d) : u = (fr u d).1 * (Int.gcd u d : Int) ∧ d = (fr u d).2 * (Int.gcd u d : Int) :=
  ⟨(Int.ediv_mul_cancel (Int.gcd_dvd_left ..)).symm, (Int.ediv_mul_cancel (Int.gcd_dvd_right ..)).symm⟩
theorem fr_pos {u d : Int} (h : 0 < d) : 0 < (fr u d).2 := by
  have g := gcd_pos (u := u) h
  have e := (fr_mul (u := u) h).2
  rcases Int.lt_or_le 0 (fr u d).2 with h1 | h1
  · exact h1
  · exfalso
    have : (fr u d).2 * (Int.gcd u d : Int) ≤ 0 := Int.mul_nonpos_of_nonpos_of_nonneg h1 (by omega)
    omega
theorem fr_cop {u d : Int} (h : 0 < d) : Int.gcd (fr u d).1 (fr u d).2 = 1 := by
  have g := gcd_pos (u := u) h
  unfold fr
  exact Int.gcd_ediv_gcd_ediv_gcd (by omega)
/-- two fractions in lowest terms that are one number are one -/
theorem cop_eq {a b c d : Int} (hb : 0 < b) (hd : 0 < d) (h1 : Int.gcd a b = 1) (h2 : Int.gcd c d = 1) (e : a * d = c * b) : a = c ∧ b = d := by
  have hbd : b ∣ d := by
    have h3 : b ∣ a * d := ⟨c, by rw [e, Int.mul_comm]⟩
    have h4 := Int.dvd_gcd_mul_iff_dvd_mul.mpr h3
    rw [Int.gcd_comm, h1] at h4
    simpa using h4
  have hdb : d ∣ b := by
    have h3 : d ∣ c * b := ⟨a, by rw [← e, Int.mul_comm]⟩
    have h4 := Int.dvd_gcd_mul_iff_dvd_mul.mpr h3
    rw [Int.gcd_comm, h2] at h4
    simpa using h4
  have ebd : b = d := Int.dvd_antisymm (by omega) (by omega) hbd hdb
  subst ebd
  exact ⟨Int.eq_of_mul_eq_mul_right (by omega) e, rfl⟩
theorem fr_eq {a b c d : Int} (hb : 0 < b) (hd : 0 < d) (e : a * d = c * b) : fr a b = fr c d := by
  have g1 := gcd_pos (u := a) hb
  have g2 := gcd_pos (u := c) hd
  obtain ⟨a1, b1⟩ := fr_mul (u := a) hb
  obtain ⟨c1, d1⟩ := fr_mul (u := c) hd
  have k : (fr a b).1 * (fr c d).2 = (fr c d).1 * (fr a b).2 := by
    have z : ((fr a b).1 * (fr c d).2) * ((Int.gcd a b : Int) * (Int.gcd c d : Int)) = ((fr c d).1 * (fr a b).2) * ((Int.gcd a b : Int) * (Int.gcd c d : Int)) := by
      calc ((fr a b).1 * (fr c d).2) * ((Int.gcd a b : Int) * (Int.gcd c d : Int)) = ((fr a b).1 * (Int.gcd a b : Int)) * ((fr c d).2 * (Int.gcd c d : Int)) := by simp only [Int.mul_assoc, Int.mul_comm, Int.mul_left_comm]
        _ = a * d := by rw [← a1, ← d1]
        _ = c * b := e
        _ = ((fr c d).1 * (Int.gcd c d : Int)) * ((fr a b).2 * (Int.gcd a b : Int)) := by rw [← c1, ← b1]
        _ = _ := by simp only [Int.mul_assoc, Int.mul_comm, Int.mul_left_comm]
    exact Int.eq_of_mul_eq_mul_right (Int.ne_of_gt (Int.mul_pos g1 g2)) z
  obtain ⟨h1, h2⟩ := cop_eq (fr_pos hb) (fr_pos hd) (fr_cop hb) (fr_cop hd) k
  exact Prod.ext h1 h2
theorem fr_same {a b : Int} (hb : 0 < b) (h : Int.gcd a b = 1) : fr a b = (a, b) := by
  unfold fr
  rw [h]
  simp
theorem fr_val {a b : Int} (hb : 0 < b) : (fr a b).1 * b = a * (fr a b).2 := by
  obtain ⟨h1, h2⟩ := fr_mul (u := a) hb
  generalize (Int.gcd a b : Int) = g at h1 h2
  calc (fr a b).1 * b = (fr a b).1 * ((fr a b).2 * g) := by rw [← h2]
    _ = ((fr a b).1 * g) * (fr a b).2 := by simp only [Int.mul_assoc, Int.mul_comm, Int.mul_left_comm]
    _ = a * (fr a b).2 := by rw [← h1]
theorem fr_abs1 {a b : Int} (hb : 0 < b) : (fr a b).1.natAbs ≤ a.natAbs := by
  obtain ⟨h1, _⟩ := fr_mul (u := a) hb
  have g := gcd_pos (u := a) hb
  generalize Int.gcd a b = n at h1 g
  have e : a.natAbs = (fr a b).1.natAbs * n := by
    have := congrArg Int.natAbs h1
    rw [Int.natAbs_mul, Int.natAbs_natCast] at this
    exact this
  rw [e]
  exact Nat.le_mul_of_pos_right _ (by omega)
theorem fr_abs2 {a b : Int} (hb : 0 < b) : (fr a b).2.natAbs ≤ b.natAbs := by
  obtain ⟨_, h1⟩ := fr_mul (u := a) hb
  have g := gcd_pos (u := a) hb
  generalize Int.gcd a b = n at h1 g
  have e : b.natAbs = (fr a b).2.natAbs * n := by
    have := congrArg Int.natAbs h1
    rw [Int.natAbs_mul, Int.natAbs_natCast] at this
    exact this
  rw [e]
  exact Nat.le_mul_of_pos_right _ (by omega)
end V2


namespace V2
open PySem L2
open PySem.Spec PyProof.Rows
def RetU (xs : List V) (H : Hp) (Q : VK) : Prop := ∀ p H2, H p = none → Evl.Ex H H2 → H2 p = some (.tup xs) → Q (.ref p) H2
def iV (ns : List Int) : List V := ns.map V.int
theorem iV_len (ns : List Int) : (iV ns).length = ns.length := List.length_map ..
theorem iV_at {ns : List Int} {j : Nat} {n : Int} (h : ns[j]? = some n) : (iV ns)[j]? = some (.int n) := by
  unfold iV; rw [List.getElem?_map, h]; rfl
theorem cut_to (xs : List V) {k : Nat} (h : k ≤ xs.length) : cutV xs none (some (k : Int)) = xs.take k := by
  unfold cutV HT.sIx
  have e1 : Int.toNat (k : Int) = k := Int.toNat_natCast k
  simp
  first
    | done
    | (split <;> simp_all <;> omega)
    | omega
/-- the script, the rank: a new sack -/
def spSack (K : PySem.W.Frag) : Sp := fun vs H Q _ => ∃ (a : Addr) (ns : List Int) (r : Nat), vs = [.ref a, .int (r : Int)] ∧ SqL K H a (iV ns) ∧ ns.length ≤ 63 ∧ r ≤ 63 ∧
  ∀ (q : Addr) (H' : Hp), H q = none → Evl.Ex H H' → Sk H' q 0 → Q (.ref q) H'
def spShared : Sp := fun vs H Q _ => ∃ x y : Int, vs = [.int x, .int y] ∧ x.natAbs < 2 ^ 9000 ∧ y.natAbs < 2 ^ 9000 ∧ Evl.RetV (.int (Int.gcd x y : Int)) H Q
def spRatio : Sp := fun vs H Q _ => ∃ x y : Int, vs = [.int x, .int y] ∧ x.natAbs < 2 ^ 9000 ∧ y.natAbs < 2 ^ 9000 ∧ 0 < y ∧ RetU [.int (fr x y).1, .int (fr x y).2] H Q
section
variable {base : Heap} {mg : Str → Option Value} {K : PySem.W.Frag} {w : World} {P : Program}
end
end V2


namespace V2
open PySem L2
open PySem.Spec PyProof.Rows
/-- a def that may be called by its name x -/
def Cal (P : Program) (w : World) (K : PySem.W.Frag) (mg : Str → Option Value) (base : Heap) (k : Nat) (x : Str) (ps : List Str) (sp : Sp) : Prop :=
  ∃ (f : Addr) (fd : FuncData), FnOk P w K mg base CX0 k f fd ps sp ∧ mg x = some (.ref f) ∧ PySem.W.keepIn K (.ref f) = true ∧ Binds K fd ps []
theorem pe_c {X : Cx} {k : Nat} {x : Str} {ps : List Str} {sp : Sp} {e : Expr} {es : List Expr} {t : TA} {p pos : Pos} (c : Cal X.prog X.w X.K X.mg X.base k x ps sp) (hr : Room k X.A) (ha : PA X (e :: es) t) (hg : Gl X x := by rfl)
    (he : starEach (e :: es) X.env = (false, eval e X.env) :: starEach es X.env := by rfl)
    (hpl : (backTo pos (starEach es X.env)).any (fun b => b.1) = false := by rfl) (hdb : (x == ("__debug__" : Str)) = false := by decide) :
    PE X (.Call (.Name x p) (e :: es) [] pos) (tCall sp [] E0 t) := by
  obtain ⟨f, fd, F, hm, hk, hb⟩ := c
  exact pe_call F hr hg hm hk hb .nil pass0 ha hdb he hpl
section
variable {base : Heap} {mg : Str → Option Value} {K : PySem.W.Frag} {w : World} {P : Program}
end
end V2


namespace V2
def vec (N : Nat) (f : Nat → Int) : List Int := (List.range N).map f
theorem vec_len (N : Nat) (f : Nat → Int) : (vec N f).length = N := by unfold vec; simp
theorem vec_get {N : Nat} {f : Nat → Int} {i : Nat} (h : i < N) : (vec N f)[i]? = some (f i) := by
  unfold vec; simp [h]
theorem getD_at {l : List Int} {k : Nat} {x : Int} (h : l[k]? = some x) : l.getD k 0 = x := by
  rw [List.getD_eq_getElem?_getD, h]; rfl
theorem getD_out {l : List Int} {k : Nat} (h : l.length ≤ k) : l.getD k 0 = 0 := by
  rw [List.getD_eq_getElem?_getD, List.getElem?_eq_none h]; rfl
end V2


namespace V2
open PySem L2
open PySem.Spec PyProof.Rows
section
variable {base : Heap} {mg : Str → Option Value} {K : PySem.W.Frag} {w : World} {P : Program}
theorem if_t {c : Bool} {A B : Prop} (hc : c = true) (h : A) : if c = true then A else B := by
  rw [if_pos hc]; exact h
theorem if_f {c : Bool} {A B : Prop} (hc : c = false) (h : B) : if c = true then A else B := by
  rw [hc, if_neg Bool.false_ne_true]; exact h
end
end V2


namespace V2
open PySem L2
open PySem.Spec PyProof.Rows
/-- a list of ints at a -/
def Li (H : Hp) (a : Addr) (ns : List Int) : Prop := H a = some (.lst (iV ns))
theorem Li.sq {K : PySem.W.Frag} {H : Hp} {a : Addr} {ns : List Int} (h : Li H a ns) : SqL K H a (iV ns) := SqL.of h
theorem iV_get {ns : List Int} {i : Nat} {x : V} (h : (iV ns)[i]? = some x) : ∃ n, ns[i]? = some n ∧ x = .int n := by
  unfold iV at h
  rw [List.getElem?_map] at h
  cases e : ns[i]? with
  | none =>
    rw [e] at h
    cases h
  | some n => rw [e] at h; exact ⟨n, rfl, (Option.some.inj h).symm⟩
/-- a polynomial that may be handed over: at most 16 numbers below 2 ^ 64 -/
def Pn (ns : List Int) : Prop := Pol ns ∧ ns.length ≤ 16 ∧ ∀ x ∈ ns, -(2 ^ 64) < x ∧ x < 2 ^ 64
section
variable {base : Heap} {mg : Str → Option Value} {K : PySem.W.Frag} {w : World} {P : Program}
end
end V2


namespace V2
def hT (p q : Int) : List Int → Int
  | [] => 0
  | a :: r => hT p q r * p + a * q ^ r.length
def hA (p q : Int) : List Int → Int
  | [] => 0
  | a :: r => a * q ^ (r.length + 1) + p * hA p q r
theorem hT_hA (p q : Int) : ∀ l : List Int, hT p q l * q = hA p q l
  | [] => by show (0 : Int) * q = 0; exact Int.zero_mul q
  | a :: r => by
    show (hT p q r * p + a * q ^ r.length) * q = a * q ^ (r.length + 1) + p * hA p q r
    rw [← hT_hA p q r, Int.pow_succ, Int.add_mul, Int.add_comm]
    congr 1
    · rw [Int.mul_assoc]
    · rw [Int.mul_comm (hT p q r) p, Int.mul_assoc]
theorem hT_drop (p q : Int) (l : List Int) (k : Nat) (x : Int) (hk : k < l.length) (h : l[l.length - 1 - k]? = some x) : hT p q (l.drop (l.length - (k + 1))) = hT p q (l.drop (l.length - k)) * p + x * q ^ k := by
  have e1 : l.drop (l.length - (k + 1)) = x :: l.drop (l.length - k) := by
    have h2 : l.length - (k + 1) < l.length := by omega
    rw [List.drop_eq_getElem_cons h2]
    have h3 : l[l.length - (k + 1)] = x := by
      have : l[l.length - (k + 1)]? = some x := by rw [show l.length - (k + 1) = l.length - 1 - k by omega]; exact h
      rw [List.getElem?_eq_getElem h2] at this
      exact Option.some.inj this
    rw [h3, show l.length - (k + 1) + 1 = l.length - k by omega]
  rw [e1]
  show hT p q (l.drop (l.length - k)) * p + x * q ^ (l.drop (l.length - k)).length = _
  rw [List.length_drop, show l.length - (l.length - k) = k by omega]
theorem npow_lt {q : Int} {n : Nat} (h : q.natAbs < 2 ^ n) : ∀ k, (q ^ k).natAbs < 2 ^ (n * k + 1)
  | 0 => by
    rw [Nat.mul_zero, Nat.zero_add, Int.pow_zero]
    decide
  | k + 1 => by
    rw [Int.pow_succ, Int.natAbs_mul, Nat.mul_succ, show n * k + n + 1 = n * k + 1 + n by omega, Nat.pow_add]
    exact Nat.mul_lt_mul'' (npow_lt h k) h
theorem qpos {q : Int} (h : 0 < q) (k : Nat) : 0 < q ^ k := Int.pow_pos h
/-- both tell one number -/
theorem val_same {p q : Int} (hq : 0 < q) (l : List Int) (h : l ≠ []) : fr (hT p q l) (q ^ (l.length - 1)) = fr (hA p q l) (q ^ l.length) := by
  refine fr_eq (qpos hq _) (qpos hq _) ?_
  obtain ⟨n, e⟩ : ∃ n, l.length = n + 1 := ⟨l.length - 1, by have := List.length_pos_iff.mpr h; omega⟩
  rw [e, Nat.add_sub_cancel, Int.pow_succ, ← hT_hA]
  simp only [Int.mul_assoc, Int.mul_comm, Int.mul_left_comm]
end V2


namespace V2
open PySem L2
open PySem.Spec PyProof.Rows
/-- a fraction's tuple at a -/
def Fr (H : Hp) (a : Addr) (p q : Int) : Prop := H a = some (.tup [.int p, .int q])
def Qn (p q : Int) : Prop := 0 < q ∧ Int.gcd p q = 1 ∧ p.natAbs < 2 ^ 50 ∧ q.natAbs < 2 ^ 50
section
variable {base : Heap} {mg : Str → Option Value} {K : PySem.W.Frag} {w : World} {P : Program}
end
end V2


namespace V2
open PySem L2
open PySem.Spec PyProof.Rows
theorem big {x : Int} {n m : Nat} (h : x.natAbs < 2 ^ n) (l : n ≤ m) : x.natAbs < 2 ^ m := Nat.lt_of_lt_of_le h (Nat.pow_le_pow_right (by decide) l)
section
variable {base : Heap} {mg : Str → Option Value} {K : PySem.W.Frag} {w : World} {P : Program}
end
end V2


namespace V2
open PySem L2
open PySem.Spec PyProof.Rows
structure T3 (mg : Str → Option Value) : Prop where
  isi : mg "isinstance" = none
  int : mg "int" = none
  bool : mg "bool" = none
  lst : mg "list" = none
  tup : mg "tuple" = none
  len : mg "len" = none
  all : mg "all" = none
  gcd : mg "gcd" = some (.builtin "math.gcd")
def spInt : Sp := fun vs H Q _ => ∃ n : Int, vs = [.int n] ∧ Evl.RetV (.bl true) H Q
def spIsFr : Sp := fun vs H Q _ => ∃ (a : Addr) (p q : Int), vs = [.ref a] ∧ Fr H a p q ∧ Qn p q ∧ Evl.RetV (.bl true) H Q
section
variable {base : Heap} {mg : Str → Option Value} {K : PySem.W.Frag} {w : World} {P : Program}
theorem ok_is_integer {f : Addr} {fd : FuncData} (F : Fun K "is_integer" "is_integer" s_is_integer f fd) (T : T3 mg) : FnOk P w K mg base CX0 1 f fd p_is_integer spInt := by
  refine F.ok sc_is_integer (fun vs H Q E h => ?_) (fun cdv A outer s H vs Q E hr h => ?_)
  · obtain ⟨n, rfl, _⟩ := h
    rfl
  · obtain ⟨n, rfl, k⟩ := h
    refine ⟨_, pss_one (ps_ret (pe_and (pe_callB call_isi (by rfl) T.isi (by decide +kernel) (pa_cons (pv 0) (pa_cons (pe_bltn (v := .ty "int") (by rfl) T.int (by decide +kernel) rfl) pa_nil)))
      (pe_one (pe_not (pe_callB call_isi (by rfl) T.isi (by decide +kernel) (pa_cons (pv 0) (pa_cons (pe_bltn (v := .ty "bool") (by rfl) T.bool (by decide +kernel) rfl) pa_nil))))))), ?_⟩
    refine ⟨_, rfl, _, _, _, _, true, rfl, .ty "int", .base (.int n), kit_ty (by decide +kernel), true, rfl, if_t rfl ?_⟩
    refine ⟨_, rfl, _, _, _, _, false, rfl, .ty "bool", .base (.int n), kit_ty (by decide +kernel), false, rfl, ?_⟩
    exact k _ (Evl.Ex.refl _)
theorem ok_is_fraction {f : Addr} {fd : FuncData} (F : Fun K "is_fraction" "is_fraction" s_is_fraction f fd) (T : T3 mg) (cI : Cal P w K mg base 1 "is_integer" p_is_integer spInt) : FnOk P w K mg base CX0 2 f fd p_is_fraction spIsFr := by
  refine F.ok sc_is_fraction (fun vs H Q E h => ?_) (fun cdv A outer s H vs Q E hr h => ?_)
  · obtain ⟨a, p, q, rfl, _⟩ := h
    rfl
  · obtain ⟨a, p, q, rfl, ha, ⟨q0, qc, pb, qb⟩, k⟩ := h
    have nd := sc_is_fraction.nd
    refine ⟨_, pss_cons (ps_if (PW.pt (pw_or (pt_not (pt_val (pe_callB call_isi (by rfl) T.isi (by decide +kernel) (pa_cons (pv 0) (pa_cons (pe_bltn (v := .ty "tuple") (by rfl) T.tup (by decide +kernel) rfl) pa_nil)))))
        (pw_or1 (pt_cmpR op_ne (pe_callB call_len_seq (by rfl) T.len PySem.boot_len (pa_cons (pv 0) pa_nil)) pe_int (nomark _))))) (pss_one (ps_ret pe_bl)) pss_nil)
      (pss_cons (ps_asg (pv 0) (pg_tup rfl (pgs_cons (pg_name (i := 1) nd rfl (Or.inl rfl)) (pgs_cons (pg_name (i := 2) nd rfl (Or.inl rfl)) pgs_nil))))
      (pss_one (ps_ret (pe_and (pe_c cI hr (pa_cons (pv 1) pa_nil)) (pe_and (pe_c cI hr (pa_cons (pv 2) pa_nil)) (pe_and (pe_cmpR op_ge (pv 2) pe_int (nomark _)) (pe_one (pe_cmpR op_eq (pe_callBfun cr_gcd (by rfl) T.gcd (pa_cons (pv 1) (pa_cons (pv 2) pa_nil))) pe_int (nomark _))))))))), ?_⟩
    refine ⟨_, rfl, _, _, _, _, true, rfl, .ty "tuple", .base (.tup ha), kit_ty (by decide +kernel), true, rfl, if_f rfl ?_⟩
    refine ⟨_, rfl, a, _, rfl, .inr (SqT.of ha), rfl, false, rfl, if_f rfl ?_⟩
    refine ⟨_, rfl, a, _, rfl, SqT.of ha, rfl, _, _, rfl, _, _, rfl, rfl, ?_⟩
    refine ⟨_, rfl, p, rfl, fun H1 e1 => ⟨_, rfl, if_t rfl ⟨_, rfl, q, rfl, fun H2 e2 => ⟨_, rfl, if_t rfl ⟨_, rfl, _, _, rfl, rfl, _, rfl, if_t (decide_eq_true (by omega)) ?_⟩⟩⟩⟩⟩
    refine ⟨_, rfl, _, rfl, p, q, rfl, rfl, ?_⟩
    have e : decide (V.int ((Nat.gcd p.natAbs q.natAbs : Nat) : Int) = V.int 1) = true := decide_eq_true (by
      have : Nat.gcd p.natAbs q.natAbs = 1 := qc
      rw [this]; rfl)
    show Q (.bl (decide (V.int ((Nat.gcd p.natAbs q.natAbs : Nat) : Int) = V.int 1))) H2
    rw [e]
    exact k _ (e1.trans e2)
end
end V2


namespace V2
open PySem L2
open PySem.Spec PyProof.Rows
/-- keywords alone -/
def CalK (P : Program) (w : World) (K : PySem.W.Frag) (mg : Str → Option Value) (base : Heap) (k : Nat) (x : Str) (ps ks : List Str) (gV : List V → List V) (sp : Sp) : Prop :=
  ∃ (f : Addr) (fd : FuncData) (g : List Value → List Value → List Value), FnOk P w K mg base CX0 k f fd ps sp ∧ mg x = some (.ref f) ∧ PySem.W.keepIn K (.ref f) = true ∧ KBn K fd ps 0 ks g (fun _ zs => gV zs)
theorem pe_ck {X : Cx} {k : Nat} {x : Str} {ps ks : List Str} {gV : List V → List V} {sp : Sp} {kws : List Keyword} {t : TA} {p pos : Pos} (c : CalK X.prog X.w X.K X.mg X.base k x ps ks gV sp) (hr : Room k X.A) (hkw : PK X kws t) (hg : Gl X x := by rfl)
    (hall : (backToKw pos (keywordEach kws X.env)).all (fun b => b.1.isSome) = true := by rfl)
    (hks : (backToKw pos (keywordEach kws X.env)).filterMap (fun b => b.1) = ks := by rfl) (hdb : (x == ("__debug__" : Str)) = false := by decide)
    (hpl : ((backTo pos (starEach [] X.env)).any (fun b => b.1) || (backToKw pos (keywordEach kws X.env)).any (fun b => b.1.isNone)) = false := by rfl) :
    PE X (.Call (.Name x p) [] kws pos) (fun σ H Q => t σ H fun zs H1 => zs.length = ks.length ∧ sp (gV zs) H1 Q E0) := by
  obtain ⟨f, fd, g, F, hm, hk, hb⟩ := c
  constructor
  intro pins s σ H Q I h
  apply wpAny_Call_Name_kw
  apply ld_glob I hg hm _ hdb
  apply PySem.W.callWith_KW0 (h₀ := X.base) I.ok.mod.kin hk hall _ hpl
  apply thn (hkw.run pos pins s σ H _ I h)
  rintro ws s2 ⟨zs, H2, I2, rz, l2, q2⟩
  rw [hks]
  exact ⟨I2.kIn, run_fnN (us := []) (vs := []) F hr hb pass0 I2 .nil rz rfl l2 q2⟩
section
variable {base : Heap} {mg : Str → Option Value} {K : PySem.W.Frag} {w : World} {P : Program}
end
end V2


namespace V2
open PySem L2
open PySem.Spec PyProof.Rows
structure FnG (P : Program) (w : World) (K : PySem.W.Frag) (mg : Str → Option Value) (base : Heap) (k : Nat) (f : Addr) (fd : FuncData) (ps : List Str) (sp : Sp) : Prop where
  len : ∀ vs H Qv Ee, sp vs H Qv Ee → vs.length = ps.length
  run : ∀ (A : Around) (outer : List Env) (s : Shared) (H : Hp) (args : Args) (us : List Value) (vs : List V) (Q : VK) (E : XK), A.guards = some [] → Room k A → Env0 P w K mg base A outer s H → BindsTo s fd args (ps.zip us) → Vals vs us → sp vs H Q E →
    codeAny (model P w) A (.call (.ref f) args) (CR CX0 outer P w H s Q E) s
/-- a def by its body, the way in told -/
theorem Fun.okG {P : Program} {w : World} {K : PySem.W.Frag} {mg : Str → Option Value} {base : Heap} {x qual : Str} {st : Stmt} {f : Addr} {fd : FuncData} {N ps : List Str} {k : Nat} {sp : Sp} (F : Fun K x qual st f fd) (S : FnScope N ps (defScope st))
    (len : ∀ vs H Qv Ee, sp vs H Qv Ee → vs.length = ps.length)
    (hbody : ∀ (cdv : Value) (A : Around) (outer : List Env) (s : Shared) (H : Hp) (vs : List V) (Q : VK) (E : XK), A.guards = some [] → Room k (A.deeper (envOfC qual (defScope st) s.heap.objs.size f cdv)) → sp vs H Q E →
      ∃ t, PSs (cxOf CX0 P w K mg base N qual (defScope st) f cdv A outer s H E).nox (defBody st) t ∧ t { nx := fun _ H' => Q .non H', rt := Q } (start N vs) H) :
    FnG P w K mg base (k + 1) f fd ps sp := by
  obtain ⟨ow, oe, kw, dc, pn, am, cdv, cu, sl, rfl, lk, hcd⟩ := F.ex
  constructor
  · exact len
  intro A outer s H args us vs Q E hg hr e0 hb r hsp
  have hl := len vs H Q E hsp
  have st1 : ∀ b o, base.get? b = some o → s.heap.get? b = some o := fun b o e => (e0.bs b o e).1
  have KX : K.In s.heap := e0.mod.kin.keeps st1
  have lim := e0.mod.nolimit.keeps st1
  have kinds : ∀ y ∈ ps.zip us, (defScope st).names.lookup y.1 = some .local ∨ ((defScope st).names.lookup y.1 = some .cell ∧ ((cellsFrom (s.heap.objs.size + 1) (defScope st).names []).lookup y.1).isSome = true) := by
    rintro ⟨n, v⟩ hy
    cases S.par n (List.of_mem_zip hy).1 with
    | inl q => exact .inl q
    | inr q => exact .inr ⟨q, PySem.W.cellsFrom_some _ _ _ (.inl q)⟩
  apply codeAny_call_function hr.depth (KX _ _ lk) rfl S.co S.gen rfl (PySem.W.codeRec_of KX hcd)
  apply hb
  apply wpAny_newFunctionEnv_cells S.kind kinds
  rintro env rfl s1 ic
  constructor
  · exact lim.keeps ic.toInCall.keep
  apply codeAny_func
  obtain ⟨t, ht, hq⟩ := hbody cdv A outer s H vs Q E hg (hr.deeper _) hsp
  have I := inv_start (CX := CX0) (E := E) (qual := qual) (f := f) (cd := cdv) S hr.hd e0 hl r ic
  apply wpAny_mono (ht.nox.run [] s1 (start N vs) H _ I hq)
  · intro fl s' hs
    cases fl with
    | ret u =>
      obtain ⟨v, σ', Hb, J, rr, q⟩ := hs
      exact ⟨v, Hb, J.os, J.bare, J.base, J.hok, rr, q⟩
    | next =>
      obtain ⟨σ', H', J, q⟩ := hs
      exact ⟨V.non, H', J.os, J.bare, J.base, J.hok, rfl, q⟩
    | brk => exact hs.elim fun _ z => z.elim fun _ z => z.2.elim
    | cont => exact hs.elim fun _ z => z.elim fun _ z => z.2.elim
  · exact fun e s' hs => hs
theorem FnOk.toG {P : Program} {w : World} {K : PySem.W.Frag} {mg : Str → Option Value} {base : Heap} {k : Nat} {f : Addr} {fd : FuncData} {ps : List Str} {sp : Sp} (F : FnOk P w K mg base CX0 k f fd ps sp) : FnG P w K mg base k f fd ps sp :=
  ⟨F.len, fun A outer s H args us vs Q E _ => F.run A outer s H args us vs Q E⟩
def CalG (P : Program) (w : World) (K : PySem.W.Frag) (mg : Str → Option Value) (base : Heap) (k : Nat) (x : Str) (ps : List Str) (sp : Sp) : Prop :=
  ∃ (f : Addr) (fd : FuncData), FnG P w K mg base k f fd ps sp ∧ mg x = some (.ref f) ∧ PySem.W.keepIn K (.ref f) = true ∧ Binds K fd ps []
theorem pe_cg {X : Cx} {k : Nat} {x : Str} {ps : List Str} {sp : Sp} {e : Expr} {es : List Expr} {t : TA} {p pos : Pos} (c : CalG X.prog X.w X.K X.mg X.base k x ps sp) (hgd : X.A.guards = some []) (hr : Room k X.A) (ha : PA X (e :: es) t) (hg : Gl X x := by rfl)
    (he : starEach (e :: es) X.env = (false, eval e X.env) :: starEach es X.env := by rfl)
    (hpl : (backTo pos (starEach es X.env)).any (fun b => b.1) = false := by rfl) (hdb : (x == ("__debug__" : Str)) = false := by decide) :
    PE X (.Call (.Name x p) (e :: es) [] pos) (tCall sp [] E0 t) := by
  obtain ⟨f, fd, F, hm, hk, hb⟩ := c
  constructor
  intro pins s σ H Q I h
  apply wpAny_Call_Name_kw
  apply ld_glob I hg hm _ hdb
  refine PySem.W.callWith_K (h₀ := X.base) I.ok.mod.kin hk ?_ he hpl
  apply thn (ha.run pos pins s σ H _ I h)
  rintro us s1 ⟨vs, H1, I1, r, q⟩
  refine ⟨I1.kIn, ?_⟩
  (show wpAny _ _ (call (.ref f) us) _ _ _)
  have q : sp (vs ++ []) H1 Q E0 := q
  rw [List.append_nil] at q
  have hl : us.length = ps.length := by rw [← Paired.length r]; exact F.len _ _ _ _ q
  have bb := hb s1 us I1.kIn (by rw [List.append_nil]; exact hl)
  rw [List.append_nil] at bb
  apply wpAny_call
  apply codeAny_mono (F.run X.A X.stack s1 H1 ⟨us, []⟩ us vs Q E0 hgd hr I1.env0 bb r q)
  intro r' s' hq
  cases r' with
  | error e => exact hq.elim
  | ok fl =>
    cases fl with
    | ret u => exact I1.after hq
    | next => exact hq.elim
    | brk => exact hq.elim
    | cont => exact hq.elim
end V2


namespace V2
open PySem L2
open PySem.Spec PyProof.Rows
/-- it says True and leaves what it found -/
def Fine (s₁ : Shared) : Result → Shared → Prop := fun r s2 =>
  r = .ok (.ret (.bool true)) ∧ OldK s₁.heap s2.heap ∧ s2.os = s₁.os ∧ AllBare s2.gens
section
variable {P : Program} {w : World} {K : PySem.W.Frag} {mg mb : Str → Option Value} {k : Nat} {fa a : Addr} {fd : FuncData} {x : Str} {sp : Sp} {s₁ : Shared} {vs : List Value} {ns : List Int}
/-- from an abstract heap that tracks the script at most -/
theorem core_G (KX : K.In s₁.heap) (hns : s₁.heap.Ns mainGlobals mg) (hb : s₁.heap.Ns builtinsNs mb) (hbb : ∀ x : Str, x ≠ "__name__" → mb x = bootBuiltins x) (hlim : s₁.heap.NoLimit) (hg : s₁.gens = #[])
    (ha : s₁.heap.get? a = some { cls := .type "list", data := .seq vs.toArray }) (hr : Room k callerA)
    (F : ∀ base : Heap, K.In base → base.Ns mainGlobals mg → FnG P w K mg base k fa fd [x] sp) (hbind : ∀ (s : Shared) (u : Value), BindsTo s fd ⟨[u], []⟩ [(x, u)])
    (H : Hp) (hO : Only H) (hq : sp [.ref a] H (fun v _ => v = .bl true) fun _ _ _ => False) (hok : HOk P w H s₁.heap) (hA : ∀ b u, H b = some u → b = a) (hK : ∀ u, H a = some u → K.lookup a = none) :
    codeAny (model P w) callerA (.call (.ref fa) ⟨[.ref a], []⟩) (Fine s₁) s₁ := by
  have dictNo : ∀ {b : Addr} {o : Obj} {es : Array DictEntry} {ep : Nat}, s₁.heap.get? b = some o → o.data = .dict es ep → H b = none := by
    intro b o es ep e d
    cases q : H b with
    | none => rfl
    | some u =>
      obtain rfl := hA b u q
      rw [ha] at e
      cases e
      cases d
  have hideNs : ∀ {b : Addr} {m : Str → Option Value}, s₁.heap.Ns b m → (hidT s₁.heap H).Ns b m := by
    rintro b m ⟨o, es, ep, e, d, r⟩
    exact ⟨o, es, ep, hidT_get e (dictNo e d), d, r⟩
  have hKb : K.In (hidT s₁.heap H) := by
    intro b o e
    apply hidT_get (KX b o e)
    cases q : H b with
    | none => rfl
    | some u =>
      obtain rfl := hA b u q
      rw [hK u q] at e
      cases e
  have hM : Mod K mg (hidT s₁.heap H) := by
    obtain ⟨mc, h1, h2⟩ := hlim
    exact ⟨hKb, hideNs hns, ⟨mb, hideNs hb, hbb⟩, ⟨mc, hideNs h1, h2⟩⟩
  have none_ : ∀ b ∈ frs [], H b = none := by
    intro b hb
    cases (show b ∈ ([] : List Addr) from hb)
  have e0 : Env0 P w K mg (hidT s₁.heap H) callerA [] s₁ H := ⟨rfl, hM, fun b o e => of_hidT e, Nat.le_of_eq (hidT_size _ _), trivial, none_, hok, .of_eq hg⟩
  apply codeAny_mono ((F _ hKb (hideNs hns)).run callerA [] s₁ H ⟨[.ref a], []⟩ [.ref a] [.ref a] _ _ rfl hr e0 (hbind s₁ (.ref a)) (.cons rfl .nil) hq)
  intro r s' h
  cases r with
  | error e => exact h.elim
  | ok fl =>
    cases fl with
    | next => exact h.elim
    | brk => exact h.elim
    | cont => exact h.elim
    | ret u =>
      obtain ⟨v, H', os, bare, un, hok', r', rfl⟩ := h
      have eu : u = Value.bool true := r'
      subst eu
      refine ⟨rfl, OldK.of_keep ?_, os, bare⟩
      intro b o e
      cases q : H b with
      | none => exact un.keep b o e q (by intro z; cases (show b ∈ ([] : List Addr) from z)) (by intro z; cases z)
      | some u =>
        (rcases hO b with z | ⟨ob, xs, z⟩)
        · rw [q] at z; cases z
        · have e1 := (hok b _ z).1
          have e2 := (hok' b _ (un.frzs b ob _ z)).1
          rw [e] at e1
          cases e1
          exact e2
theorem law_G (KX : K.In s₁.heap) (hns : s₁.heap.Ns mainGlobals mg) (hb : s₁.heap.Ns builtinsNs mb) (hbb : ∀ x : Str, x ≠ "__name__" → mb x = bootBuiltins x) (hlim : s₁.heap.NoLimit) (hg : s₁.gens = #[])
    (ha : s₁.heap.get? a = some { cls := .type "list", data := .seq vs.toArray })
    (hi : IntsAre vs ns) (hl : ns.length ≤ sizeLine) (hr : Room k callerA)
    (F : ∀ base : Heap, K.In base → base.Ns mainGlobals mg → FnG P w K mg base k fa fd [x] sp) (hbind : ∀ (s : Shared) (u : Value), BindsTo s fd ⟨[u], []⟩ [(x, u)])
    (hsp : ∀ H : Hp, Only H → SqL K H a (ns.map V.int) → sp [.ref a] H (fun v _ => v = .bl true) fun _ _ _ => False) :
    codeAny (model P w) callerA (.call (.ref fa) ⟨[.ref a], []⟩) (Fine s₁) s₁ := by
  have rv := vals_ints hi
  have lenV := hi.length
  cases hk : K.lookup a with
  | some o =>
    have e := KX a o hk
    rw [ha] at e
    cases e
    have hS : SqL K (fun _ => none) a (ns.map V.int) := .inr ⟨_, vs.toArray, _, hk, rfl, rfl, rfl, by rw [List.size_toArray, lenV]; exact hl, by simpa using rv⟩
    have hO : Only (fun _ => none) := fun _ => .inl rfl
    exact core_G KX hns hb hbb hlim hg ha hr F hbind _ hO (hsp _ hO hS) (fun b u z => by cases (show (none : Option HO) = some u from z)) (fun b u z => by cases (show (none : Option HO) = some u from z)) fun u z => by cases (show (none : Option HO) = some u from z)
  | none =>
    let H : Hp := fun b => if b = a then some (.frz { cls := .type "list", data := .seq vs.toArray } (.lst (ns.map V.int))) else none
    have at_a : H a = some (.frz { cls := .type "list", data := .seq vs.toArray } (.lst (ns.map V.int))) := if_pos rfl
    have off : ∀ b u, H b = some u → b = a := by
      intro b u z
      by_cases e : b = a
      · exact e
      · rw [show H b = none from if_neg e] at z; cases z
    have hO : Only H := by
      intro b
      by_cases e : b = a
      · exact .inr ⟨_, _, by rw [e]; exact at_a⟩
      · exact .inl (if_neg e)
    have hok : HOk P w H s₁.heap := by
      intro b u z
      obtain rfl := off b u z
      rw [at_a] at z
      cases z
      (exact ⟨ha, by rw [List.length_map]; exact hl, vs, _, rv, ha⟩)
    exact core_G KX hns hb hbb hlim hg ha hr F hbind H hO (hsp H hO (.inl (.inr ⟨_, at_a⟩))) hok off fun _ _ => hk
end
end V2


namespace V2
open PySem L2
open PySem.Spec PyProof.Rows
/-- a def, by where it stands -/
structure DfX where
  adr : PySem.W.Frag → Addr
  nm : Str
  ql : Str
  st : Stmt
abbrev RwX : Type := Option (Str × Str × Arguments × FuncBody × Scope × Addr × List (Str × Addr) × Value × Addr)
def DfX.seen (K : PySem.W.Frag) (d : DfX) : RwX := match K.lookup (d.adr K) with
  | some ⟨_, _, .func g, _⟩ => some (g.name, g.qualname, g.params, g.body, g.scope, g.globals, g.closure, g.defaults, g.builtins)
  | _ => none
def DfX.due (d : DfX) : RwX := some (d.nm, d.ql, defArgs d.st, .stmts (defBody d.st), defScope d.st, mainGlobals, [], .none, builtinsNs)
def DfX.good (K : PySem.W.Frag) (d : DfX) : Bool := PySem.W.keepIn K (.ref (d.adr K)) && (match K.lookup (d.adr K) with
  | some ⟨_, _, .func g, _⟩ => PySem.W.codeIn K g.code d.ql
  | _ => false)
theorem DfX.fun_ {K : PySem.W.Frag} {d : DfX} (e : d.seen K = d.due) (c : d.good K = true) : ∃ fd, Fun K d.nm d.ql d.st (d.adr K) fd := by
  obtain ⟨kp, c⟩ := He.ba c
  unfold DfX.seen at e
  cases q : K.lookup (d.adr K) with
  | none =>
    rw [q] at c
    cases c
  | some o =>
    obtain ⟨oc, od, dt, sl⟩ := o
    rw [q] at c e
    cases dt with
    | func g =>
      obtain ⟨g1, g2, g3, g4, g5, g6, g7, g8, g9, g10, g11, g12, g13, g14, g15⟩ := g
      have e : (some (g1, g2, g3, g4, g5, g6, g7, g8, g15) : RwX) = some (d.nm, d.ql, defArgs d.st, .stmts (defBody d.st), defScope d.st, mainGlobals, [], .none, builtinsNs) := e
      simp only [Option.some.injEq, Prod.mk.injEq] at e
      obtain ⟨rfl, rfl, rfl, rfl, rfl, rfl, rfl, rfl, rfl⟩ := e
      exact ⟨_, fun_mk q c kp⟩
    | _ => cases c
/-- the words of a dict -/
abbrev TbX : Type := Option (List (Option Str × Int) × Bool)
def wordOf : Value → Option Str
  | .str x _ => some x
  | _ => none
def tabX (K : PySem.W.Frag) (a : Addr) : TbX := match K.lookup a with
  | some ⟨.type c, none, .dict es _, sl⟩ => some (es.toList.map fun e => (wordOf e.key, e.hash), decide (c = "dict") && (sl.size == 0 && !(a == sysModules)))
  | _ => none
def tabDue (w : World) (xs : List Str) : TbX := some (xs.map fun x => (some x, PyData.keyHash w.params x), true)
def bGlo (x : Str) (K : PySem.W.Frag) : Bool := (He.Fa.glo x).ok K
def bFree (x : Str) (K : PySem.W.Frag) : Bool := (He.Fa.free x).ok K
def bBlt (x : Str) (b : String) (K : PySem.W.Frag) : Bool := He.eqO (PySem.W.nsIn K mainGlobals x) (some (some (.builtin b)))
/-- nobody has set the limit of digits -/
def bNoDig (K : PySem.W.Frag) : Bool := He.eqO (PySem.W.nsIn K cStatics "sys.int_max_str_digits") (some none)
theorem blt_ok {K : PySem.W.Frag} {h : Heap} {mg : Str → Option Value} (X : K.In h) (G : h.Ns mainGlobals mg) {x : Str} {b : String} (c : bBlt x b K = true) : mg x = some (.builtin b) := PySem.W.mg_of X G (He.eqO_ok c)
abbrev AlX : Type := Bool × Bool × List RwX × List TbX
structure Lk where
  fb : List (PySem.W.Frag → Bool)
  ds : List DfX
  tb : List (Str × List Str)
def Lk.seen (L : Lk) (K : PySem.W.Frag) : AlX := (L.fb.all fun f => f K, L.ds.all fun d => d.good K, L.ds.map (·.seen K), L.tb.map fun t => tabX K (He.ga K t.1))
def Lk.due (L : Lk) (w : World) : AlX := (true, true, L.ds.map (·.due), L.tb.map fun t => tabDue w t.2)
/-- a list of objects, its addresses read once -/
def frK {α : Type} : PySem.W.Frag → (PySem.W.Frag → α) → α
  | [], k => k []
  | (a, o) :: r, k => HandSHeadRun.frNat a fun a => frK r fun r => k ((a, o) :: r)
theorem frK_eq {α : Type} : ∀ (K : PySem.W.Frag) (k : PySem.W.Frag → α), frK K k = k K
  | [], k => rfl
  | (a, o) :: r, k => by
    show HandSHeadRun.frNat a (fun a => frK r fun r => k ((a, o) :: r)) = _
    rw [HandSHeadRun.frNat_eq, frK_eq r]
/-- the first n objects -/
def Lk.off (L : Lk) (n : Nat) (g : Addr → Option Obj) : AlX := frK (He.frG g (List.range n)) fun K => L.seen K
def Lk.hook (L : Lk) (n : Nat) : PySem.W.Hook where
  α := AlX
  obs := fun s => L.off n s.heap.get?
  val := L.due
  says := fun w h => ∃ K : PySem.W.Frag, K.In h ∧ L.seen K = L.due w
  of := fun _ _ e => ⟨_, He.frG_in, (frK_eq _ _).symm.trans e⟩
  keeps := fun _ _ _ ⟨K, hK, c⟩ k => ⟨K, PySem.W.Frag.In.keeps hK k, c⟩
theorem Lk.off_eq {L : Lk} {n : Nat} {g : Addr → Option Obj} {s : Shared} (h : ∀ a, g a = s.heap.get? a) : L.off n g = (L.hook n).obs s := by
  have e : g = s.heap.get? := funext h
  rw [e] <;> rfl
section
variable {L : Lk} {K : PySem.W.Frag} {w : World}
theorem Lk.fact (c : L.seen K = L.due w) (i : Nat) {f : PySem.W.Frag → Bool} (h : L.fb[i]? = some f := by rfl) : f K = true := List.all_eq_true.mp (congrArg (fun z : AlX => z.1) c) f (List.mem_of_getElem? h)
theorem Lk.df (c : L.seen K = L.due w) (i : Nat) {d : DfX} (h : L.ds[i]? = some d := by rfl) : ∃ fd, Fun K d.nm d.ql d.st (d.adr K) fd := by
  have c2 : (L.ds.all fun d => d.good K) = true := congrArg (fun z : AlX => z.2.1) c
  have e : L.ds.map (·.seen K) = L.ds.map (·.due) := congrArg (fun z : AlX => z.2.2.1) c
  have e2 : (L.ds.map (·.seen K))[i]? = (L.ds.map (·.due))[i]? := by rw [e]
  rw [List.getElem?_map, List.getElem?_map, h] at e2
  exact DfX.fun_ (Option.some.inj e2) (List.all_eq_true.mp c2 d (List.mem_of_getElem? h))
end
/-- the run of a program with imports at its head -/
noncomputable abbrev whK (M : Nat) (r : PySem.W.OpenRow) (w : World) : Option (Shared × PySem.W.SharedT) := HandSHeadRun.wholeF (fun p => HandSHeadRun.stepQ (HandSHeadRun.denQ HandSHeadRun.tabQ) p w) HandSHeadRun.fenceQ M r.prog
noncomputable def lk0 (r : PySem.W.OpenRow) (q : Program) (loose : List Str) (x : Shared × PySem.W.SharedT) := (HandSHeadRun.looksF r.prog x.1.heap x.2.abs, HandSHeadRun.seenQ q loose (importedModules r.prog.main.body) (fun s => PySem.W.xlAt q [] s && PySem.W.recOk r.toRowW.records s) x.2.abs)
def lk1 (L : Lk) (n : Nat) (x : Shared × PySem.W.SharedT) : Bool × List TbX := frK (He.frG (HandSHeadRun.getT x.2) (List.range n)) fun K => (L.fb.all fun f => f K, L.tb.map fun t => tabX K (He.ga K t.1))
def lk2 (L : Lk) (n : Nat) (x : Shared × PySem.W.SharedT) : Bool := frK (He.frG (HandSHeadRun.getT x.2) (List.range n)) fun K => L.ds.all fun d => d.good K
def lk3 (L : Lk) (n : Nat) (x : Shared × PySem.W.SharedT) : List RwX := frK (He.frG (HandSHeadRun.getT x.2) (List.range n)) fun K => L.ds.map (·.seen K)
theorem Lk.run_parts {L : Lk} {n M : Nat} {r : PySem.W.OpenRow} {q : Program} {loose : List Str} {w : World} (h0 : (whK M r w).map (lk0 r q loose) = some (true, PySem.W.openGood q loose))
    (h1 : (whK M r w).map (lk1 L n) = some (true, L.tb.map fun t => tabDue w t.2)) (h2 : (whK M r w).map (lk2 L n) = some true) (h3 : (whK M r w).map (lk3 L n) = some (L.ds.map (·.due))) :
    HandSHeadRun.RunEqI r q (L.hook n) (fun s => L.off n (HandSHeadRun.getT s)) M loose w := by
  unfold HandSHeadRun.RunEqI
  show (whK M r w).map _ = _
  cases e : whK M r w with
  | none =>
    rw [e] at h0
    cases h0
  | some x =>
    rw [e] at h0 h1 h2 h3
    have h0 := Option.some.inj h0
    have h1 := Option.some.inj h1
    have h2 := Option.some.inj h2
    have h3 := Option.some.inj h3
    unfold lk0 at h0
    unfold lk1 at h1
    unfold lk2 at h2
    unfold lk3 at h3
    rw [frK_eq] at h1 h2 h3
    obtain ⟨a1, a2⟩ := Prod.mk.inj h0
    obtain ⟨b1, b2⟩ := Prod.mk.inj h1
    refine congrArg some ?_
    refine Prod.ext a1 (Prod.ext a2 ?_)
    show L.off n (HandSHeadRun.getT x.2) = L.due w
    unfold Lk.off
    rw [frK_eq]
    exact Prod.ext b1 (Prod.ext h2 (Prod.ext h3 b2))
theorem walk_GE {l : PySem.W.OpenLaw} {n k : Nat} {q : Program} {loose : List Str} {XP : (Str → Option Value) → Heap → Prop} {YP : World → Heap → Prop} {d : DefRec} {x : Str}
    (hn : l.most = some n) (hn2 : n ≤ sizeLine) (hdf : d.params.defaults = []) (hr : Room k callerA)
    (F : ∀ (w : World) (mg : Str → Option Value) (fa : Addr) (h : Heap), YP w h → h.Ns mainGlobals mg → mg d.name = some (.ref fa) →
      ∃ (K : PySem.W.Frag) (fd : FuncData) (sp : Sp), K.In h ∧ (∀ (s : Shared) (u : Value), BindsTo s fd ⟨[u], []⟩ [(x, u)]) ∧
        (∀ (H : Hp) (a : Addr) (ns : List Int), ns.length ≤ n → Only H → SqL K H a (ns.map V.int) → sp [.ref a] H (fun v _ => v = .bl true) fun _ _ _ => False) ∧
        ∀ base : Heap, K.In base → base.Ns mainGlobals mg → FnG l.prog w K mg base k fa fd [x] sp) :
    PySem.W.WalkO q loose XP YP l.row.toRowW d [] (fun f us => PySem.call f us) := by
  apply Att.attach_call hn hdf
  intro w s₀ s₁ mg mb fa o pm cd doc a vs ns G Y ho hd hcd hmg hobj hints hlen hg
  obtain ⟨K, fd, sp, KX, hb, hsp, hF⟩ := F w mg fa _ Y G.T.g hmg
  exact law_G KX G.T.g G.T.b G.T.builtins G.T.nolimit hg hobj hints (Nat.le_trans hlen hn2) hr hF hb fun H hO hS => hsp H a ns hlen hO hS
end V2


namespace V2
open PySem L2
open PySem.Spec PyProof.Rows
/-- what the written part says of an own class of errors, whose __init__ is fI's -/
structure EC (K : PySem.W.Frag) (C fI : Addr) : Prop where
  ox : OexC K C
  noV : PySem.W.findIn K (.ref C) "value" = some none
  iC : PySem.W.findIn K (.ref C) "__init__" = some (some (.ref fI))
  xf : XfC K C
  hcl : (PySem.W.clsIn K C).isSome = true
  ha : PySem.W.findIn K (.ref C) "__class__" = some (some (.builtin "object.__class__"))
  hm : PySem.W.mroIn K C (.type "object") = some true
/-- what is said for all of them -/
structure EG (K : PySem.W.Frag) (fI : Addr) : Prop where
  tI : PySem.W.typeIn K (.ref fI) = some (.type "function")
  hn : PySem.W.specialIn K (.builtin "object.__class__") "__get__" = some (some (.builtin "getset_descriptor.__get__"))
  ht : PySem.W.takesIn K (.builtin "object.__class__") = some true
/-- an error of the class at C, made with v, stands at e with its dict at d -/
structure Er (H : Hp) (e C d : Addr) (v : V) : Prop where
  at_ : H e = some (exo e C (some d))
  dict : H d = some (exd d [("value", v)])
theorem Er.ex {H H' : Hp} {e C d : Addr} {v : V} (h : Er H e C d v) (x : Evl.Ex H H') : Er H' e C d v := ⟨x _ _ h.at_, x _ _ h.dict⟩
def spInit (K : PySem.W.Frag) : Sp := fun vs H Q _ => ∃ (a C : Addr) (y : V), vs = [.ref a, y] ∧ OexC K C ∧ PySem.W.findIn K (.ref C) "value" = some none ∧ H a = some (exo a C none) ∧
  ∀ dx, H dx = none → dx ≠ a → Q .non (upd (upd H dx (exd dx [("value", y)])) a (exo a C (some dx)))
section
variable {base : Heap} {mg : Str → Option Value} {K : PySem.W.Frag} {w : World} {P : Program}
theorem ok_TE_init {f : Addr} {fd : FuncData} (F : Fun K "__init__" "TankError.__init__" s_TE_init f fd) : FnOk P w K mg base CX0 1 f fd p_TE_init (spInit K) := by
  refine F.ok sc_TE_init (fun vs H Q E h => ?_) (fun cdv A outer s H vs Q E hr h => ?_)
  · obtain ⟨a, C, y, rfl, _⟩ := h
    rfl
  · obtain ⟨a, C, y, rfl, T, hno, ha, k⟩ := h
    have nd := sc_TE_init.nd
    refine ⟨_, pss_one (ps_ost (pv 0) (pv 1)), ?_⟩
    exact ⟨_, rfl, _, rfl, a, C, rfl, T, hno, .inl ⟨ha, fun dx hd hn => k dx hd hn⟩⟩
end
section
variable {X : Cx} {x : Str} {C fI : Addr} {k : Nat} {fd : FuncData} {e : Expr} {ta : TA} {p pos : Pos}
end
end V2


namespace V2
open PySem L2
open PySem.Spec PyProof.Rows
abbrev eI (K : PySem.W.Frag) : Addr := He.ma K (He.ga K "TankError") "__init__"
def bObj (K : PySem.W.Frag) (C : Addr) : Bool := match K.lookup C with
  | some ⟨.type "type", _, .cls cd, sl⟩ => (match cd.mro, sl.toList with
    | .ref C' :: bm, [_, _, _, _, some (.builtin n), _] => C' == C && n == "ValueError.__new__" && !cd.hasDel && cd.hasDict && PySem.HandSPX.refsVE bm
    | _, _ => false)
  | _ => false
theorem obj_ok {K : PySem.W.Frag} {C : Addr} (q : bObj K C = true) : ∃ nm qn N bs bm sn sub ab col dd k0 k1 k2 k3 k5, K.lookup C = some (excClassObj nm qn C N bs bm true sn sub ab col dd k0 k1 k2 k3 k5 "ValueError.__new__") ∧ PySem.HandSPX.refsVE bm = true := by
  unfold bObj at q
  split at q
  · rename_i dd cd sl ho
    split at q
    · rename_i C' bm k0 k1 k2 k3 n k5 hm hs
      simp only [Bool.and_eq_true, beq_iff_eq, Bool.not_eq_true'] at q
      obtain ⟨⟨⟨⟨rfl, rfl⟩, hdel⟩, hdi⟩, hbm⟩ := q
      obtain ⟨nm, bs, mro, ns, qn, hd, sn, sub, ab, col, del⟩ := cd
      dsimp only at hm hdel hdi
      subst hm hdel hdi
      have hsl : sl = #[k0, k1, k2, k3, some (.builtin "ValueError.__new__"), k5] := by
        obtain ⟨l⟩ := sl
        simp only at hs
        rw [hs]
      subst hsl
      exact ⟨nm, qn, ns, bs, bm, sn, sub, ab, col, dd, k0, k1, k2, k3, k5, ho, hbm⟩
    · cases q
  · cases q
def bErr (x : Str) (K : PySem.W.Frag) : Bool := bObj K (He.ga K x) && (He.eqO (PySem.W.findIn K (.ref (He.ga K x)) "__setattr__") (some (some (.builtin "object.__setattr__"))) && (decide (PySem.W.typeIn K (.ref (He.ga K x)) = some (.type "type")) && (PySem.W.keepIn K (.ref (He.ga K x)) &&
  (He.eqO (PySem.W.findIn K (.ref (He.ga K x)) "value") (some none) && (He.eqO (PySem.W.findIn K (.ref (He.ga K x)) "__init__") (some (some (.ref (eI K)))) && (xfB K (He.ga K x) && ((PySem.W.clsIn K (He.ga K x)).isSome &&
  (He.eqO (PySem.W.findIn K (.ref (He.ga K x)) "__class__") (some (some (.builtin "object.__class__"))) && decide (PySem.W.mroIn K (He.ga K x) (.type "object") = some true)))))))))
theorem err_ok {K : PySem.W.Frag} {x : Str} (c : bErr x K = true) : EC K (He.ga K x) (eI K) := by
  obtain ⟨c1, c⟩ := He.ba c
  obtain ⟨c2, c⟩ := He.ba c
  obtain ⟨c3, c⟩ := He.ba c
  obtain ⟨c4, c⟩ := He.ba c
  obtain ⟨c5, c⟩ := He.ba c
  obtain ⟨c6, c⟩ := He.ba c
  obtain ⟨c7, c⟩ := He.ba c
  obtain ⟨c8, c⟩ := He.ba c
  obtain ⟨c9, c10⟩ := He.ba c
  have xf := xfB_ok c7
  exact ⟨⟨obj_ok c1, He.eqO_ok c2, xf.exC, of_decide_eq_true c3, c4⟩, He.eqO_ok c5, He.eqO_ok c6, xf, c8, He.eqO_ok c9, of_decide_eq_true c10⟩
def bEG (K : PySem.W.Frag) : Bool := decide (PySem.W.typeIn K (.ref (eI K)) = some (.type "function")) && (He.eqO (PySem.W.specialIn K (.builtin "object.__class__") "__get__") (some (some (.builtin "getset_descriptor.__get__"))) && decide (PySem.W.takesIn K (.builtin "object.__class__") = some true))
theorem eg_ok {K : PySem.W.Frag} (c : bEG K = true) : EG K (eI K) := by
  obtain ⟨c1, c⟩ := He.ba c
  obtain ⟨c2, c3⟩ := He.ba c
  exact ⟨of_decide_eq_true c1, He.eqO_ok c2, of_decide_eq_true c3⟩
def bSub (x y : Str) (b : Bool) (K : PySem.W.Frag) : Bool := decide (PySem.W.subIn K (.ref (He.ga K x)) (.ref (He.ga K y)) = some b)
theorem sub_ok {K : PySem.W.Frag} {x y : Str} {b : Bool} (c : bSub x y b K = true) : PySem.W.subIn K (.ref (He.ga K x)) (.ref (He.ga K y)) = some b := of_decide_eq_true c
def bKit (x y : Str) (b : Bool) (K : PySem.W.Frag) : Bool := decide (PySem.W.kitOne K (.ref (He.ga K x)) (.ref (He.ga K y)) = some b)
theorem kit_ok {K : PySem.W.Frag} {x y : Str} {b : Bool} (c : bKit x y b K = true) : PySem.W.kitOne K (.ref (He.ga K x)) (.ref (He.ga K y)) = some b := of_decide_eq_true c
def bKitV (x : Str) (K : PySem.W.Frag) : Bool := decide (PySem.W.kitOne K (.ref (He.ga K x)) (.type "ValueError") = some true)
end V2


namespace V2
open PySem L2
open PySem.Spec PyProof.Rows
def nm0 : List Str := ["gcd", "fraction", "order_of_fractions", "sign_of", "cut", "negated", "multiplied", "slope", "scaled_value", "value_at", "sign_at_fraction", "content", "primitive", "remainder", "TankError", "InvalidFraction", "InvalidRange", "signed_rests", "leading", "turns_of"]
def nm1 : List Str := ["sign_over_root", "is_root", "sign_at_place", "order_of_places", "order_by_fraction", "order_of_roots", "copied", "is_integer", "is_fraction", "check_width", "form_at", "side", "lies_in", "way_at", "_law_purse", "_law_coin", "_law_wl_divisor", "_law_wl_ratio", "_law_wl_plus", "_law_wl_times"]
def nm2 : List Str := ["_law_wl_less", "_law_wl_trim", "_law_wl_sign_at", "_law_wl_value", "_law_wl_width", "_law_wl_wrong_width", "_law_nums", "_law_foot", "_law_form", "_law_ends", "_law_side", "_law_pieces", "_law_in", "_law_error", "_law_owed", "_law_right"]
def nms : List Str := nm0 ++ nm1 ++ nm2
def dfs0 : List DfX := [⟨(fun K => He.ga K "fraction"), "fraction", "fraction", s_fraction⟩, ⟨(fun K => He.ga K "order_of_fractions"), "order_of_fractions", "order_of_fractions", s_order_of_fractions⟩, ⟨(fun K => He.ga K "sign_of"), "sign_of", "sign_of", s_sign_of⟩, ⟨(fun K => He.ga K "scaled_value"), "scaled_value", "scaled_value", s_scaled_value⟩, ⟨(fun K => He.ga K "value_at"), "value_at", "value_at", s_value_at⟩, ⟨(fun K => He.ga K "sign_at_fraction"), "sign_at_fraction", "sign_at_fraction", s_sign_at_fraction⟩, ⟨(fun K => He.ga K "is_root"), "is_root", "is_root", s_is_root⟩, ⟨(fun K => He.ga K "order_of_places"), "order_of_places", "order_of_places", s_order_of_places⟩, ⟨(fun K => He.ga K "order_by_fraction"), "order_by_fraction", "order_by_fraction", s_order_by_fraction⟩, ⟨(fun K => He.ga K "order_of_roots"), "order_of_roots", "order_of_roots", s_order_of_roots⟩, ⟨(fun K => He.ga K "copied"), "copied", "copied", s_copied⟩, ⟨(fun K => He.ga K "is_integer"), "is_integer", "is_integer", s_is_integer⟩, ⟨(fun K => He.ga K "is_fraction"), "is_fraction", "is_fraction", s_is_fraction⟩, ⟨(fun K => He.ga K "check_width"), "check_width", "check_width", s_check_width⟩, ⟨(fun K => He.ga K "form_at"), "form_at", "form_at", s_form_at⟩, ⟨(fun K => He.ga K "side"), "side", "side", s_side⟩, ⟨(fun K => He.ga K "lies_in"), "lies_in", "lies_in", s_lies_in⟩, ⟨(fun K => He.ga K "way_at"), "way_at", "way_at", s_way_at⟩, ⟨(fun K => He.ga K "_law_purse"), "_law_purse", "_law_purse", s_l_purse⟩, ⟨(fun K => He.ga K "_law_coin"), "_law_coin", "_law_coin", s_l_coin⟩]
def dfs1 : List DfX := [⟨(fun K => He.ga K "_law_wl_divisor"), "_law_wl_divisor", "_law_wl_divisor", s_l_divisor⟩, ⟨(fun K => He.ga K "_law_wl_ratio"), "_law_wl_ratio", "_law_wl_ratio", s_l_ratio⟩, ⟨(fun K => He.ga K "_law_wl_plus"), "_law_wl_plus", "_law_wl_plus", s_l_plus⟩, ⟨(fun K => He.ga K "_law_wl_times"), "_law_wl_times", "_law_wl_times", s_l_times⟩, ⟨(fun K => He.ga K "_law_wl_less"), "_law_wl_less", "_law_wl_less", s_l_less⟩, ⟨(fun K => He.ga K "_law_wl_trim"), "_law_wl_trim", "_law_wl_trim", s_l_trim⟩, ⟨(fun K => He.ga K "_law_wl_sign_at"), "_law_wl_sign_at", "_law_wl_sign_at", s_l_sign_at⟩, ⟨(fun K => He.ga K "_law_wl_value"), "_law_wl_value", "_law_wl_value", s_l_value⟩, ⟨(fun K => He.ga K "_law_wl_width"), "_law_wl_width", "_law_wl_width", s_l_width⟩, ⟨(fun K => He.ga K "_law_wl_wrong_width"), "_law_wl_wrong_width", "_law_wl_wrong_width", s_l_wrong_width⟩, ⟨(fun K => He.ga K "_law_nums"), "_law_nums", "_law_nums", s_l_nums⟩, ⟨(fun K => He.ga K "_law_foot"), "_law_foot", "_law_foot", s_l_foot⟩, ⟨(fun K => He.ga K "_law_form"), "_law_form", "_law_form", s_l_form⟩, ⟨(fun K => He.ga K "_law_ends"), "_law_ends", "_law_ends", s_l_ends⟩, ⟨(fun K => He.ga K "_law_side"), "_law_side", "_law_side", s_l_side⟩, ⟨(fun K => He.ga K "_law_pieces"), "_law_pieces", "_law_pieces", s_l_pieces⟩, ⟨(fun K => He.ga K "_law_in"), "_law_in", "_law_in", s_l_in⟩, ⟨(fun K => He.ga K "_law_error"), "_law_error", "_law_error", s_l_error⟩, ⟨(fun K => He.ga K "_law_owed"), "_law_owed", "_law_owed", s_l_owed⟩, ⟨(fun K => He.ga K "_law_right"), "_law_right", "_law_right", s_l_right⟩]
def dfs2 : List DfX := [⟨(fun K => He.ga K "law"), "law", "law", s_law⟩, ⟨(fun K => He.ma K (He.ga K "TankError") "__init__"), "__init__", "TankError.__init__", s_TE_init⟩]
def fbs0 : List (PySem.W.Frag → Bool) := [bGlo "fraction", bGlo "order_of_fractions", bGlo "sign_of", bGlo "scaled_value", bGlo "value_at", bGlo "sign_at_fraction", bGlo "is_root", bGlo "order_of_places", bGlo "order_by_fraction", bGlo "order_of_roots", bGlo "copied", bGlo "is_integer", bGlo "is_fraction", bGlo "check_width", bGlo "form_at", bGlo "side", bGlo "lies_in", bGlo "way_at", bGlo "_law_purse", bGlo "_law_coin"]
def fbs1 : List (PySem.W.Frag → Bool) := [bGlo "_law_wl_divisor", bGlo "_law_wl_ratio", bGlo "_law_wl_plus", bGlo "_law_wl_times", bGlo "_law_wl_less", bGlo "_law_wl_trim", bGlo "_law_wl_sign_at", bGlo "_law_wl_value", bGlo "_law_wl_width", bGlo "_law_wl_wrong_width", bGlo "_law_nums", bGlo "_law_foot", bGlo "_law_form", bGlo "_law_ends", bGlo "_law_side", bGlo "_law_pieces", bGlo "_law_in", bGlo "_law_error", bGlo "_law_owed", bGlo "_law_right"]
def fbs2 : List (PySem.W.Frag → Bool) := [bGlo "law", bEG, bGlo "TankError", bErr "TankError", bKitV "TankError", bSub "TankError" "InvalidRange" false, bSub "TankError" "InvalidFraction" false, bKit "TankError" "TankError" true, bKit "TankError" "InvalidFraction" false, bKit "TankError" "InvalidRange" false, bGlo "InvalidFraction", bErr "InvalidFraction", bKitV "InvalidFraction", bSub "InvalidFraction" "InvalidRange" false, bSub "InvalidFraction" "InvalidFraction" true, bKit "InvalidFraction" "TankError" true, bKit "InvalidFraction" "InvalidFraction" true, bKit "InvalidFraction" "InvalidRange" false, bGlo "InvalidRange", bErr "InvalidRange"]
def fbs3 : List (PySem.W.Frag → Bool) := [bKitV "InvalidRange", bSub "InvalidRange" "InvalidRange" true, bSub "InvalidRange" "InvalidFraction" false, bKit "InvalidRange" "TankError" true, bKit "InvalidRange" "InvalidFraction" false, bKit "InvalidRange" "InvalidRange" true, bFree "ValueError", bFree "abs", bFree "any", bFree "bool", bFree "enumerate", bFree "int", bFree "isinstance", bFree "len", bFree "list", bFree "max", bFree "min", bFree "range", bFree "repr", bFree "tuple"]
def fbs4 : List (PySem.W.Frag → Bool) := [bBlt "gcd" "math.gcd", bNoDig, bFree "all"]
def lk : Lk := ⟨fbs0 ++ fbs1 ++ fbs2 ++ fbs3 ++ fbs4, dfs0 ++ dfs1 ++ dfs2, []⟩
abbrev rwK : PySem.W.OpenRow := PySem.W.OpenLaw.row PySem.Challenge.rw_valvelevels_k19_a_list_of_ways_at_a_widt
abbrev vwK : Program := PySem.W.view rwK.prog [0, 65]
theorem run0F (w : World) : (whK 12000 rwK (w.withFollow "special-get-raises" false)).map (lk0 rwK vwK nms) = some (true, PySem.W.openGood vwK nms) := by
  kernel_rfl
theorem run0T (w : World) : (whK 12000 rwK (w.withFollow "special-get-raises" true)).map (lk0 rwK vwK nms) = some (true, PySem.W.openGood vwK nms) := by
  kernel_rfl
theorem run1F (w : World) : (whK 12000 rwK (w.withFollow "special-get-raises" false)).map (lk1 lk 900) = some (true, lk.tb.map fun t => tabDue (w.withFollow "special-get-raises" false) t.2) := by
  kernel_rfl
theorem run1T (w : World) : (whK 12000 rwK (w.withFollow "special-get-raises" true)).map (lk1 lk 900) = some (true, lk.tb.map fun t => tabDue (w.withFollow "special-get-raises" true) t.2) := by
  kernel_rfl
theorem run2F (w : World) : (whK 12000 rwK (w.withFollow "special-get-raises" false)).map (lk2 lk 900) = some true := by
  kernel_rfl
theorem run2T (w : World) : (whK 12000 rwK (w.withFollow "special-get-raises" true)).map (lk2 lk 900) = some true := by
  kernel_rfl
theorem run3F (w : World) : (whK 12000 rwK (w.withFollow "special-get-raises" false)).map (lk3 lk 900) = some (lk.ds.map (·.due)) := by
  kernel_rfl
theorem run3T (w : World) : (whK 12000 rwK (w.withFollow "special-get-raises" true)).map (lk3 lk 900) = some (lk.ds.map (·.due)) := by
  kernel_rfl
theorem runK (w : World) : HandSHeadRun.RunEqI rwK vwK (lk.hook 900) (fun s => lk.off 900 (HandSHeadRun.getT s)) 12000 nms w :=
  PySem.W.byRow2 "special-get-raises" (P := fun w => HandSHeadRun.RunEqI rwK vwK (lk.hook 900) (fun s => lk.off 900 (HandSHeadRun.getT s)) 12000 nms w) (fun w => Lk.run_parts (run0F w) (run1F w) (run2F w) (run3F w)) (fun w => Lk.run_parts (run0T w) (run1T w) (run2T w) (run3T w)) w
end V2


namespace V2
/-! ## values at fractions, places -/
theorem hT_ltN {p q : Int} {N : Nat} (hp : p.natAbs < 2 ^ 50) (hq : q.natAbs < 2 ^ 50) : ∀ (l : List Int), (∀ x ∈ l, x.natAbs < 2 ^ N) → (hT p q l).natAbs < 2 ^ (N + 1 + 51 * l.length)
  | [], _ => by show (0 : Int).natAbs < _; exact Nat.pow_pos (by decide)
  | a :: r, h => by
    have h1 := hT_ltN hp hq r fun x hx => h x (List.mem_cons_of_mem _ hx)
    have h2 := npow_lt hq r.length
    have ha := h a List.mem_cons_self
    have m1 : (hT p q r * p).natAbs < 2 ^ (N + 1 + 51 * r.length + 50) := by
      (rw [Int.natAbs_mul, Nat.pow_add])
      exact Nat.mul_lt_mul'' h1 hp
    have m2 : (a * q ^ r.length).natAbs < 2 ^ (N + (50 * r.length + 1)) := by
      (rw [Int.natAbs_mul, Nat.pow_add])
      exact Nat.mul_lt_mul'' ha h2
    have m3 : (2 : Nat) ^ (N + (50 * r.length + 1)) ≤ 2 ^ (N + 1 + 51 * r.length + 50) := Nat.pow_le_pow_right (by decide) (by omega)
    have m4 : (2 : Nat) ^ (N + 1 + 51 * (r.length + 1)) = 2 ^ (N + 1 + 51 * r.length + 50) * 2 := by
      rw [← Nat.pow_succ]; congr 1
    show (hT p q r * p + a * q ^ r.length).natAbs < 2 ^ (N + 1 + 51 * (r.length + 1))
    rw [m4]
    omega
theorem hA_ltN {p q : Int} {N : Nat} (hp : p.natAbs < 2 ^ 50) (hq : q.natAbs < 2 ^ 50) {l : List Int} (h : ∀ x ∈ l, x.natAbs < 2 ^ N) : (hA p q l).natAbs < 2 ^ (N + 51 + 51 * l.length) := by
  rw [← hT_hA, Int.natAbs_mul, show N + 51 + 51 * l.length = N + 1 + 51 * l.length + 50 by omega, Nat.pow_add]
  exact Nat.mul_lt_mul'' (hT_ltN hp hq l h) hq
/-- one step of a sum from the top -/
theorem hor_step {p q : Int} (hq : 0 < q) (r : List Int) (n : Int) :
    let F := fr (hA p q r) (q ^ r.length)
    let M := fr (F.1 * p) (F.2 * q)
    fr (M.1 * 1 + n * M.2) (M.2 * 1) = fr (hA p q (n :: r)) (q ^ (r.length + 1)) := by
  intro F M
  have qk := qpos hq r.length
  have f2 : 0 < F.2 := fr_pos qk
  have m2' : 0 < F.2 * q := Int.mul_pos f2 hq
  have m2 : 0 < M.2 := fr_pos m2'
  have e1 : F.1 * q ^ r.length = hA p q r * F.2 := fr_val qk
  have e2 : M.1 * (F.2 * q) = F.1 * p * M.2 := fr_val m2'
  refine fr_eq (by omega) (qpos hq _) ?_
  show _ = (n * q ^ (r.length + 1) + p * hA p q r) * _
  rw [Int.pow_succ, Int.mul_one, Int.mul_one]
  generalize F.1 = x1 at *
  generalize F.2 = x2 at *
  generalize M.1 = y1 at *
  generalize M.2 = y2 at *
  generalize hA p q r = A at *
  generalize q ^ r.length = Qk at *
  have e4 : y1 * (Qk * q) = A * p * y2 := by
    refine Int.eq_of_mul_eq_mul_right (Int.ne_of_gt f2) ?_
    calc y1 * (Qk * q) * x2 = (y1 * (x2 * q)) * Qk := by simp only [Int.mul_assoc, Int.mul_comm, Int.mul_left_comm]
      _ = x1 * p * y2 * Qk := by rw [e2]
      _ = (x1 * Qk) * (p * y2) := by simp only [Int.mul_assoc, Int.mul_comm, Int.mul_left_comm]
      _ = A * x2 * (p * y2) := by rw [e1]
      _ = A * p * y2 * x2 := by simp only [Int.mul_assoc, Int.mul_comm, Int.mul_left_comm]
  calc (y1 + n * y2) * (Qk * q) = y1 * (Qk * q) + n * y2 * (Qk * q) := by rw [Int.add_mul]
    _ = A * p * y2 + n * y2 * (Qk * q) := by rw [e4]
    _ = (n * (Qk * q) + p * A) * y2 := by rw [Int.add_mul, Int.add_comm]; congr 1 <;> simp only [Int.mul_assoc, Int.mul_comm, Int.mul_left_comm]
/-- a quotient in lowest terms, the lower number of any sign -/
def ratN (x y : Int) : Int × Int := if y < 0 then fr (-x) (-y) else fr x y
theorem ratN_div {x y : Int} (h : y < 0) : ratN x y = (x / (0 - (Int.gcd x y : Int)), y / (0 - (Int.gcd x y : Int))) := by
  unfold ratN fr
  rw [if_pos h, Int.gcd_neg, Int.neg_gcd, Int.zero_sub, Int.ediv_neg, Int.ediv_neg]
  rw [Int.neg_ediv_of_dvd (Int.gcd_dvd_left ..), Int.neg_ediv_of_dvd (Int.gcd_dvd_right ..)]
/-- a polynomial of numbers of one sign has no value 0 -/
theorem hA_pos {p q : Int} (hp : 0 < p) (hq : 0 < q) : ∀ l : List Int, (∀ x ∈ l, 0 ≤ x) → 0 ≤ hA p q l
  | [], _ => by show (0 : Int) ≤ 0; decide
  | a :: r, h => by
    have h1 := hA_pos hp hq r fun x hx => h x (List.mem_cons_of_mem _ hx)
    have h2 := h a List.mem_cons_self
    have m1 : 0 ≤ a * q ^ (r.length + 1) := Int.mul_nonneg h2 (Int.le_of_lt (qpos hq _))
    have m2 : 0 ≤ p * hA p q r := Int.mul_nonneg (Int.le_of_lt hp) h1
    show 0 ≤ a * q ^ (r.length + 1) + p * hA p q r
    omega
theorem hA_one {p q : Int} (hp : 0 < p) (hq : 0 < q) {a : Int} {l : List Int} (h0 : 0 < a) (h : ∀ x ∈ l, 0 ≤ x) : 0 < hA p q (a :: l) := by
  have m1 : 0 < a * q ^ (l.length + 1) := Int.mul_pos h0 (qpos hq _)
  have m2 : 0 ≤ p * hA p q l := Int.mul_nonneg (Int.le_of_lt hp) (hA_pos hp hq l h)
  show 0 < a * q ^ (l.length + 1) + p * hA p q l
  omega
theorem hA_neg (p q : Int) : ∀ l : List Int, hA p q (l.map fun x => 0 - x) = - hA p q l
  | [] => by show (0 : Int) = -0; rfl
  | a :: r => by
    show (0 - a) * q ^ ((r.map fun x => 0 - x).length + 1) + p * hA p q (r.map fun x => 0 - x) = -(a * q ^ (r.length + 1) + p * hA p q r)
    rw [hA_neg p q r, List.length_map, Int.zero_sub, Int.neg_mul, Int.mul_neg, Int.neg_add]
/-! ### roots of w w - m -/
def sg (x : Int) : Int := if x = 0 then 0 else if x > 0 then 1 else -1
theorem sg_pos {x : Int} (h : 0 < x) : sg x = 1 := by unfold sg; rw [if_neg (by omega), if_pos h]
theorem sg_neg {x : Int} (h : x < 0) : sg x = -1 := by unfold sg; rw [if_neg (by omega), if_neg (by omega)]
theorem sg_cases (x : Int) : (x = 0 ∧ sg x = 0) ∨ (0 < x ∧ sg x = 1) ∨ (x < 0 ∧ sg x = -1) := by
  rcases Int.lt_trichotomy x 0 with h | h | h
  · exact .inr (.inr ⟨h, sg_neg h⟩)
  · exact .inl ⟨h, by rw [h]; rfl⟩
  · exact .inr (.inl ⟨h, sg_pos h⟩)
def OkRt (n f m : Int) : Prop := 0 ≤ n ∧ n * n < m ∧ m < f * f ∧ 0 < f ∧ n ≤ 1000 ∧ f ≤ 1000 ∧ m ≤ 1000000 ∧ ∃ s : Int, 0 ≤ s ∧ s * s < m ∧ m < (s + 1) * (s + 1)
def rtL (m : Int) : List Int := [0 - m, 0, 1]
theorem hT_rt (p q m : Int) : hT p q (rtL m) = p * p - m * (q * q) := by
  show ((0 * p + 1 * q ^ 0) * p + 0 * q ^ 1) * p + (0 - m) * q ^ 2 = _
  rw [Int.pow_zero, Int.zero_mul, Int.zero_mul, Int.zero_add, Int.one_mul, Int.add_zero, Int.one_mul, Int.zero_sub, Int.neg_mul, show q ^ 2 = q * q by rw [Int.pow_succ, Int.pow_succ, Int.pow_zero, Int.one_mul]]
  rfl
theorem no_root {p q m s : Int} (hp : 0 < p) (hq : 0 < q) (hg : Int.gcd p q = 1) (s0 : 0 ≤ s) (h1 : s * s < m) (h2 : m < (s + 1) * (s + 1)) : p * p - m * (q * q) ≠ 0 := by
  intro h
  have e : p * p = m * (q * q) := by omega
  have d : q ∣ p * p := ⟨m * q, by rw [e]; simp only [Int.mul_assoc, Int.mul_comm, Int.mul_left_comm]⟩
  have d1 : q.natAbs ∣ p.natAbs * p.natAbs := by
    rw [← Int.natAbs_mul]
    exact Int.natAbs_dvd_natAbs.mpr d
  have cp : Nat.Coprime q.natAbs p.natAbs := by
    rw [Nat.coprime_comm]
    exact hg
  have d2 : q.natAbs ∣ p.natAbs := cp.dvd_of_dvd_mul_right d1
  have q1 : q = 1 := by
    have := Nat.Coprime.eq_one_of_dvd cp d2
    omega
  subst q1
  rw [Int.one_mul, Int.mul_one] at e
  rcases Int.lt_or_le s p with h3 | h3
  · have := Int.mul_le_mul (show s + 1 ≤ p by omega) (show s + 1 ≤ p by omega) (by omega) (by omega)
    omega
  · have := Int.mul_le_mul h3 h3 (by omega) (by omega)
    omega
def obf (n f m p q : Int) : Int := if sg (p * 1 - n * q) ≤ 0 then 1 else if 0 ≤ sg (p * 1 - f * q) then -1 else if sg (hT p q (rtL m)) = sg (hT n 1 (rtL m)) then 1 else -1
theorem obf_eq {n f m p q : Int} (ok : OkRt n f m) (hp : 0 < p) (hq : 0 < q) (hg : Int.gcd p q = 1) : -(obf n f m p q) = sg (p * p - m * (q * q)) ∧ sg (p * p - m * (q * q)) ≠ 0 := by
  obtain ⟨n0, n1, f1, f0, _, _, _, s, s0, s1, s2⟩ := ok
  have hne := no_root hp hq hg s0 s1 s2
  have hqq : 0 < q * q := Int.mul_pos hq hq
  have h0 : sg (p * p - m * (q * q)) ≠ 0 := by
    rcases sg_cases (p * p - m * (q * q)) with h | h | h
    · exact absurd h.1 hne
    · rw [h.2]; decide
    · rw [h.2]; decide
  refine ⟨?_, h0⟩
  unfold obf
  rw [hT_rt, hT_rt]
  split
  · rename_i c
    have c1 : p ≤ n * q := by
      rcases sg_cases (p * 1 - n * q) with h | h | h
      · omega
      · rw [h.2] at c; omega
      · omega
    have m1 := Int.mul_le_mul c1 c1 (by omega) (by omega)
    have m2 : n * q * (n * q) = n * n * (q * q) := by simp only [Int.mul_assoc, Int.mul_comm, Int.mul_left_comm]
    have m3 := Int.mul_lt_mul_of_pos_right n1 hqq
    rw [sg_neg (by omega)]
  · split
    · rename_i _ c
      have c1 : f * q ≤ p := by
        rcases sg_cases (p * 1 - f * q) with h | h | h
        · omega
        · omega
        · rw [h.2] at c; omega
      have m1 := Int.mul_le_mul c1 c1 (Int.le_of_lt (Int.mul_pos f0 hq)) (by omega)
      have m2 : f * q * (f * q) = f * f * (q * q) := by simp only [Int.mul_assoc, Int.mul_comm, Int.mul_left_comm]
      have m3 := Int.mul_lt_mul_of_pos_right f1 hqq
      rw [sg_pos (by omega)]
      rfl
    · have e : sg (n * n - m * (1 * 1)) = -1 := sg_neg (by omega)
      rw [e]
      rcases sg_cases (p * p - m * (q * q)) with h | h | h
      · exact absurd h.1 hne
      · rw [h.2]; rfl
      · rw [h.2]; rfl
end V2


namespace V2
def cont : List Int → Nat
  | [] => 0
  | x :: r => Nat.gcd x.natAbs (cont r)
def prim (ns : List Int) : List Int := ns.map fun x => x / (cont ns : Int)
theorem cont_dvd : ∀ {ns : List Int} {x : Int}, x ∈ ns → (cont ns : Int) ∣ x
  | y :: r, x, h => by
    rcases (List.mem_cons.mp h) with e | h
    · subst e
      exact Int.ofNat_dvd_left.mpr (Nat.gcd_dvd_left _ _)
    · exact Int.dvd_trans (Int.natCast_dvd_natCast.mpr (Nat.gcd_dvd_right _ _)) (cont_dvd h)
theorem cont_scale (a : Nat) : ∀ ns : List Int, cont (ns.map fun x => (a : Int) * x) = a * cont ns
  | [] => rfl
  | x :: r => by
    show Nat.gcd ((a : Int) * x).natAbs (cont (r.map fun x => (a : Int) * x)) = a * Nat.gcd x.natAbs (cont r)
    rw [cont_scale a r, Int.natAbs_mul, Int.natAbs_natCast, Nat.gcd_mul_left]
theorem cont_zero : ∀ {ns : List Int}, cont ns = 0 → ∀ x ∈ ns, x = 0 := by
  intro ns h x hx
  have := cont_dvd hx
  rw [h] at this
  exact Int.zero_dvd.mp this
theorem prim_eq {xs ys : List Int} {a b : Nat} (ha : 0 < a) (hb : 0 < b) (h : (xs.map fun x => (a : Int) * x) = ys.map fun x => (b : Int) * x) : prim xs = prim ys := by
  have hc : a * cont xs = b * cont ys := by rw [← cont_scale, ← cont_scale, h]
  have hl : xs.length = ys.length := by
    have := (congrArg List.length h)
    rwa [List.length_map, List.length_map] at this
  refine List.ext_getElem (by unfold prim; rw [List.length_map, List.length_map, hl]) fun i h1 h2 => ?_
  unfold prim at h1 h2 ⊢
  rw [List.length_map] at h1 h2
  rw [List.getElem_map, List.getElem_map]
  have e : (a : Int) * xs[i] = (b : Int) * ys[i] := by
    have e1 : (xs.map fun x => (a : Int) * x)[i]'(by rw [List.length_map]; exact h1) = (ys.map fun x => (b : Int) * x)[i]'(by rw [List.length_map]; exact h2) := by
      simp only [h]
    rwa [List.getElem_map, List.getElem_map] at e1
  obtain ⟨p, hp⟩ := cont_dvd (List.getElem_mem h1)
  obtain ⟨q, hq⟩ := cont_dvd (List.getElem_mem h2)
  rcases Nat.eq_zero_or_pos (cont xs) with z | z
  · have z2 : cont ys = 0 := by
      rw [z, Nat.mul_zero] at hc
      rcases Nat.mul_eq_zero.mp hc.symm with c | c
      · omega
      · exact c
    rw [cont_zero z _ (List.getElem_mem h1), cont_zero z2 _ (List.getElem_mem h2), Int.zero_ediv, Int.zero_ediv]
  · have z2 : 0 < cont ys := by
      rcases Nat.eq_zero_or_pos (cont ys) with c | c
      · rw [c, Nat.mul_zero] at hc
        have := Nat.mul_pos ha z
        omega
      · exact c
    rw [hp, hq, Int.mul_ediv_cancel_left _ (by omega), Int.mul_ediv_cancel_left _ (by omega)]
    rw [hp, hq, ← Int.mul_assoc, ← Int.mul_assoc] at e
    have hcz : (a : Int) * (cont xs : Int) = (b : Int) * (cont ys : Int) := by
      rw [← Int.natCast_mul, ← Int.natCast_mul, hc]
    rw [hcz] at e
    exact Int.eq_of_mul_eq_mul_left (Int.ne_of_gt (Int.mul_pos (by omega) (by omega))) e
def cfF (f g : Nat → Int) : Nat → Nat → Int
  | 0, _ => 0
  | k + 1, i => cfF f g k i + (if k ≤ i then f k * g (i - k) else 0)
theorem cfF_lin (f g h : Nat → Int) (a b : Int) : ∀ k i, cfF f (fun j => a * g j + b * h j) k i = a * cfF f g k i + b * cfF f h k i
  | 0, _ => by show (0 : Int) = a * 0 + b * 0; rw [Int.mul_zero, Int.mul_zero, Int.add_zero]
  | k + 1, i => by
    show cfF f (fun j => a * g j + b * h j) k i + (if k ≤ i then f k * (a * g (i - k) + b * h (i - k)) else 0) = a * (cfF f g k i + (if k ≤ i then f k * g (i - k) else 0)) + b * (cfF f h k i + (if k ≤ i then f k * h (i - k) else 0))
    rw [cfF_lin f g h a b k i]
    split
    · simp only [Int.mul_add, Int.mul_left_comm (f k)]
      omega
    · simp only [Int.add_zero]
theorem cfF_zero (f g : Nat → Int) : ∀ k i, (∀ j, j < k → j ≤ i → f j * g (i - j) = 0) → cfF f g k i = 0
  | 0, _, _ => rfl
  | k + 1, i, h => by
    show cfF f g k i + (if k ≤ i then f k * g (i - k) else 0) = 0
    rw [cfF_zero f g k i fun j h1 h2 => h j (by omega) h2]
    split
    · rename_i c
      rw [h k (by omega) c]
      rfl
    · rfl
/-- one number alone, at place n -/
def dlt (n : Nat) : Nat → Int := fun i => if i = n then 1 else 0
theorem cfF_dlt (f : Nat → Int) (n : Nat) : ∀ k i, cfF f (dlt n) k i = if n ≤ i ∧ i - n < k then f (i - n) else 0
  | 0, i => by show (0 : Int) = _; rw [if_neg (by omega)]
  | k + 1, i => by
    show cfF f (dlt n) k i + (if k ≤ i then f k * dlt n (i - k) else 0) = _
    rw [cfF_dlt f n k i]
    unfold dlt
    by_cases h1 : n ≤ i ∧ i - n < k
    · rw [if_pos h1, if_pos (c := n ≤ i ∧ i - n < k + 1) (by omega)]
      by_cases h3 : k ≤ i
      · rw [if_pos h3, if_neg (by omega), Int.mul_zero, Int.add_zero]
      · rw [if_neg h3, Int.add_zero]
    · rw [if_neg h1, Int.zero_add]
      by_cases h2 : n ≤ i ∧ i - n = k
      · rw [if_pos (c := k ≤ i) (by omega), if_pos (c := i - k = n) (by omega), if_pos (c := n ≤ i ∧ i - n < k + 1) (by omega), Int.mul_one, h2.2]
      · rw [if_neg (c := n ≤ i ∧ i - n < k + 1) (by omega)]
        by_cases h3 : k ≤ i
        · rw [if_pos h3, if_neg (by omega), Int.mul_zero]
        · rw [if_neg h3]
/-- the top of a product -/
theorem cfF_top (f g : Nat → Int) (m n : Nat) (h : ∀ i, n < i → g i = 0) : cfF f g (m + 1) (n + m) = f m * g n := by
  show cfF f g m (n + m) + (if m ≤ n + m then f m * g (n + m - m) else 0) = _
  rw [cfF_zero f g m (n + m) fun j h1 h2 => by rw [h _ (by omega), Int.mul_zero], if_pos (by omega), Nat.add_sub_cancel, Int.zero_add]
theorem cfF_null {f g : Nat → Int} {m : Nat} (hf : f m ≠ 0) (hz : ∀ i, m ≤ i → cfF f g (m + 1) i = 0) : ∀ n, (∀ i, n ≤ i → g i = 0) → ∀ i, g i = 0
  | 0, h, i => h i (Nat.zero_le _)
  | n + 1, h, i => by
    refine cfF_null hf hz n (fun j hj => ?_) i
    rcases Nat.lt_or_ge n j with c | c
    · exact h j c
    · have e : j = n := by omega
      subst e
      have h1 := cfF_top f g m j fun i hi => h i hi
      rw [hz (j + m) (by omega)] at h1
      rcases Int.mul_eq_zero.mp h1.symm with z | z
      · exact absurd z hf
      · exact z
/-- L is what is left of P by B, up to a factor above 0 -/
def Rm (P B L : List Int) : Prop := Pol L ∧ L.length < B.length ∧ ∃ (g : Int) (q : Nat → Int) (N : Nat), 0 < g ∧ (∀ i, N ≤ i → q i = 0) ∧ ∀ i, g * P.getD i 0 = cfF (fun j => B.getD j 0) q B.length i + L.getD i 0
theorem getD_pol {L : List Int} (h : Pol L) {n : Nat} (hn : L.length = n + 1) : L.getD n 0 ≠ 0 := by
  have e : L[n]? = some L[n] := List.getElem?_eq_getElem (by omega)
  rw [getD_at e]
  refine h _ ?_
  have e2 : L.length - 1 = n := by omega
  rw [e2]
  exact e
theorem pol_len {L M : List Int} (hL : Pol L) (hM : Pol M) {a b : Int} (ha : 0 < a) (hb : 0 < b) (h : ∀ i, a * L.getD i 0 = b * M.getD i 0) : L.length ≤ M.length := by
  rcases Nat.lt_or_ge M.length L.length with c | c
  · exfalso
    obtain ⟨n, hn⟩ : ∃ n, L.length = n + 1 := ⟨L.length - 1, by omega⟩
    have h1 := h n
    rw [getD_out (l := M) (by omega), Int.mul_zero] at h1
    rcases Int.mul_eq_zero.mp h1 with z | z
    · omega
    · exact getD_pol hL hn z
  · exact c
theorem Rm.uniq {P B L M : List Int} (hB : Pol B) (h : Rm P B L) (k : Rm P B M) : prim L = prim M := by
  obtain ⟨l1, l2, g, q, N, g0, qz, qe⟩ := h
  obtain ⟨m1, m2, c, r, R, c0, rz, re⟩ := k
  obtain ⟨m, hm⟩ : ∃ m, B.length = m + 1 := ⟨B.length - 1, by omega⟩
  rw [hm] at qe re l2 m2
  have hw : ∀ i, cfF (fun j => B.getD j 0) (fun j => c * q j + (-g) * r j) (m + 1) i = g * M.getD i 0 - c * L.getD i 0 := by
    intro i
    rw [cfF_lin]
    have h1 := qe i
    have h2 := re i
    have h3 : c * (g * P.getD i 0) = g * (c * P.getD i 0) := Int.mul_left_comm _ _ _
    rw [h1, h2, Int.mul_add, Int.mul_add] at h3
    rw [Int.neg_mul]
    omega
  have hz : ∀ i, c * q i + (-g) * r i = 0 := by
    refine cfF_null (f := fun j => B.getD j 0) (g := fun j => c * q j + (-g) * r j) (m := m) (getD_pol hB hm) (fun i hi => ?_) (max N R) (fun i hi => ?_)
    · rw [hw i, getD_out (l := M) (by omega), getD_out (l := L) (by omega), Int.mul_zero, Int.mul_zero]
      rfl
    · show c * q i + (-g) * r i = 0
      rw [qz i (by omega), rz i (by omega), Int.mul_zero, Int.mul_zero]
      rfl
  have he : ∀ i, g * M.getD i 0 = c * L.getD i 0 := by
    intro i
    have := hw i
    rw [cfF_zero _ _ _ _ fun j _ _ => by rw [hz]; exact Int.mul_zero _] at this
    omega
  have hlen : L.length = M.length := Nat.le_antisymm (pol_len l1 m1 c0 g0 fun i => (he i).symm) (pol_len m1 l1 g0 c0 he)
  refine prim_eq (a := c.toNat) (b := g.toNat) (by omega) (by omega) ?_
  refine List.ext_getElem (by rw [List.length_map, List.length_map, hlen]) fun i h1 h2 => ?_
  rw [List.length_map] at h1 h2
  rw [List.getElem_map, List.getElem_map]
  have t := he i
  rw [getD_at (List.getElem?_eq_getElem h1), getD_at (List.getElem?_eq_getElem h2)] at t
  have ec : ((c.toNat : Nat) : Int) = c := Int.toNat_of_nonneg (by omega)
  have eg : ((g.toNat : Nat) : Int) = g := Int.toNat_of_nonneg (by omega)
  exact Eq.trans (congrArg (fun z => z * L[i]) ec) (Eq.trans t.symm (congrArg (fun z => z * M[i]) eg.symm))
theorem trm_getD (ns : List Int) (i : Nat) : (trm ns).getD i 0 = ns.getD i 0 := by
  unfold trm
  by_cases h : i < ns.length - tz ns
  · rw [List.getD_eq_getElem?_getD, List.getD_eq_getElem?_getD, List.getElem?_take, if_pos h]
  · rw [getD_out (by rw [List.length_take]; omega)]
    by_cases h2 : i < ns.length
    · have := tz_in ns (ns.length - 1 - i) (by omega)
      rw [show ns.length - 1 - (ns.length - 1 - i) = i by omega] at this
      rw [getD_at this]
    · rw [getD_out (by omega)]
end V2


namespace V2
def Rs (P B L : List Int) : Prop := ∃ (g : Int) (q : Nat → Int) (N : Nat), 0 < g ∧ (∀ i, N ≤ i → q i = 0) ∧ ∀ i, g * P.getD i 0 = cfF (fun j => B.getD j 0) q B.length i + L.getD i 0
theorem Rs.self (P B : List Int) : Rs P B P := ⟨1, fun _ => 0, 0, by decide, fun _ _ => rfl, fun i => by
  rw [cfF_zero _ _ _ _ fun _ _ _ => Int.mul_zero _, Int.one_mul, Int.zero_add]⟩
def tkn (B : List Int) (off : Nat) (t : Int) : List Int := List.replicate off 0 ++ B.map fun x => t * x
theorem tkn_getD (B : List Int) (off : Nat) (t : Int) (k : Nat) : (tkn B off t).getD k 0 = if off ≤ k then t * B.getD (k - off) 0 else 0 := by
  unfold tkn
  rw [(List.getD_eq_getElem?_getD)]
  by_cases h : off ≤ k
  · rw [if_pos h, List.getElem?_append_right (by rw [List.length_replicate]; exact h), List.length_replicate, List.getElem?_map, List.getD_eq_getElem?_getD]
    cases B[k - off]? with
    | none => show (0 : Int) = t * 0; rw [Int.mul_zero]
    | some x => rfl
  · rw [if_neg h, List.getElem?_append_left (by rw [List.length_replicate]; omega), List.getElem?_replicate, if_pos (by omega)]
    rfl
/-- one step of the program -/
def stepL (B L : List Int) (g t : Int) : List Int := vec L.length fun k => g * L.getD k 0 - (tkn B (L.length - B.length) t).getD k 0
theorem vec_getD (N : Nat) (f : Nat → Int) (i : Nat) : (vec N f).getD i 0 = if i < N then f i else 0 := by
  by_cases h : i < N
  · rw [if_pos h, getD_at (vec_get h)]
  · rw [if_neg h, getD_out (by rw [vec_len]; omega)]
theorem trm_short {ns : List Int} {n : Nat} (hn : ns.length = n + 1) (h : ns.getD n 0 = 0) : (trm ns).length < ns.length := by
  rcases Nat.eq_zero_or_pos (tz ns) with z | z
  · exfalso
    obtain ⟨x, h1, h2⟩ := tz_at ns (by omega)
    rw [z, hn] at h1
    have h1 : ns[n]? = some x := h1
    rw [getD_at h1] at h
    exact h2 h
  · unfold trm
    rw [List.length_take]
    omega
theorem rs_step {P B L : List Int} (h0 : B ≠ []) (h : Rs P B L) (hl : B.length ≤ L.length) {g t : Int} (hg : 0 < g) (ht : g * L.getD (L.length - 1) 0 = t * B.getD (B.length - 1) 0) : Rs P B (trm (stepL B L g t)) ∧ (trm (stepL B L g t)).length < L.length := by
  have lb : 0 < B.length := List.length_pos_iff.mpr h0
  constructor
  · obtain ⟨c, q, N, c0, qz, qe⟩ := h
    refine ⟨g * c, fun j => g * q j + t * dlt (L.length - B.length) j, max N (L.length - B.length + 1), Int.mul_pos hg c0, fun i hi => ?_, fun i => ?_⟩
    · show g * q i + t * dlt (L.length - B.length) i = 0
      unfold dlt
      rw [qz i (by omega), if_neg (by omega), Int.mul_zero, Int.mul_zero]
      rfl
    · rw [Int.mul_assoc, qe i, cfF_lin, cfF_dlt, trm_getD, Int.mul_add]
      unfold stepL
      rw [vec_getD, tkn_getD]
      have hb : (if L.length - B.length ≤ i ∧ i - (L.length - B.length) < B.length then B.getD (i - (L.length - B.length)) 0 else 0) = if L.length - B.length ≤ i then B.getD (i - (L.length - B.length)) 0 else 0 := by
        by_cases h1 : L.length - B.length ≤ i
        · rw [if_pos h1]
          by_cases h2 : i - (L.length - B.length) < B.length
          · rw [if_pos ⟨h1, h2⟩]
          · rw [if_neg (by omega), getD_out (by omega)]
        · rw [if_neg h1, if_neg (by omega)]
      rw [hb]
      by_cases h3 : i < L.length
      · rw [if_pos h3]
        by_cases h1 : L.length - B.length ≤ i
        · rw [if_pos h1, if_pos h1]; omega
        · rw [if_neg h1, if_neg h1, Int.mul_zero]; omega
      · rw [if_neg h3, getD_out (l := L) (by omega), if_pos (by omega), getD_out (l := B) (by omega), Int.mul_zero, Int.mul_zero]
        omega
  · have := trm_short (ns := stepL B L g t) (n := L.length - 1) (by unfold stepL; rw [vec_len]; omega) (by
      unfold stepL
      rw [vec_getD, if_pos (by omega), tkn_getD, if_pos (by omega), ht, show L.length - 1 - (L.length - B.length) = B.length - 1 by omega]
      omega)
    unfold stepL at this ⊢
    rw [vec_len] at this
    exact this
/-- grow and take -/
theorem grow_take {t d : Int} (hd : d ≠ 0) : ∃ f : Int, ((Nat.gcd t.natAbs d.natAbs : Nat) : Int) = f ∧ 0 < f ∧ f.natAbs ≤ d.natAbs ∧ 0 < (if d < 0 then -d else d) / f ∧ ((if d < 0 then -d else d) / f).natAbs ≤ d.natAbs ∧ (t / f).natAbs ≤ t.natAbs ∧
    (if d < 0 then -d else d) / f * t = (if d < 0 then -(t / f) else t / f) * d := by
  refine ⟨_, rfl, ?_⟩
  have g0 : 0 < Nat.gcd t.natAbs d.natAbs := Nat.gcd_pos_of_pos_right _ (by omega)
  obtain ⟨p, hp⟩ : ((Nat.gcd t.natAbs d.natAbs : Nat) : Int) ∣ t := Int.ofNat_dvd_left.mpr (Nat.gcd_dvd_left _ _)
  obtain ⟨r, hr⟩ : ((Nat.gcd t.natAbs d.natAbs : Nat) : Int) ∣ d := Int.ofNat_dvd_left.mpr (Nat.gcd_dvd_right _ _)
  have gl : Nat.gcd t.natAbs d.natAbs ≤ d.natAbs := Nat.gcd_le_right _ (by omega)
  generalize Nat.gcd t.natAbs d.natAbs = f at *
  have f0 : (0 : Int) < (f : Int) := by omega
  have e1 : t / (f : Int) = p := by rw [hp, Int.mul_ediv_cancel_left _ (by omega)]
  have e2 : (if d < 0 then -d else d) / (f : Int) = if d < 0 then -r else r := by
    split
    · rw [hr, ← Int.mul_neg, Int.mul_ediv_cancel_left _ (by omega)]
    · rw [hr, Int.mul_ediv_cancel_left _ (by omega)]
  have ab : ∀ x : Int, x.natAbs ≤ ((f : Int) * x).natAbs := fun x => by
    rw [Int.natAbs_mul, Int.natAbs_natCast]
    exact Nat.le_mul_of_pos_left _ g0
  have r1 : d < 0 → r < 0 := fun c => by
    rcases Int.lt_or_le r 0 with z | z
    · exact z
    · have := Int.mul_nonneg (Int.le_of_lt f0) z
      omega
  have r2 : ¬ d < 0 → 0 < r := fun c => by
    rcases Int.lt_or_le 0 r with z | z
    · exact z
    · have := Int.mul_nonpos_of_nonneg_of_nonpos (Int.le_of_lt f0) z
      omega
  rw [e1, e2]
  refine ⟨f0, by omega, ?_, ?_, ?_, ?_⟩
  · split
    · have := r1 ‹_›; omega
    · exact r2 ‹_›
  · have := ab r
    rw [← hr] at this
    split <;> omega
  · have := ab p
    rw [← hp] at this
    exact this
  · split
    · conv => lhs; rw [hp]
      conv => rhs; rw [hr]
      rw [Int.neg_mul, Int.neg_mul, Int.mul_left_comm, Int.mul_left_comm p, Int.mul_comm r p]
    · conv => lhs; rw [hp]
      conv => rhs; rw [hr]
      rw [Int.mul_left_comm, Int.mul_left_comm p, Int.mul_comm r p]
end V2


namespace V2
open PySem L2
open PySem.Spec PyProof.Rows
theorem sk_some {H : Hp} {p : Addr} {m : Nat} (h : Sk H p m) : ∃ o, H p = some o := by
  obtain ⟨a, b, c, h1, _⟩ := h
  exact ⟨_, h1⟩
theorem sk_ne {H : Hp} {p q : Addr} {m : Nat} (h : Sk H p m) (hq : H q = none) : q ≠ p := by
  intro z
  obtain ⟨o, h2⟩ := sk_some h
  rw [← z, hq] at h2
  cases h2
/-- small polynomials as the law draws them -/
def Sp6 (ns : List Int) : Prop := Pol ns ∧ ns.length ≤ 8 ∧ ∀ x ∈ ns, -1000000 ≤ x ∧ x ≤ 1000000
theorem Sp6.pn {ns : List Int} (h : Sp6 ns) : Pn ns := by
  refine ⟨h.1, by have := h.2.1; omega, fun x hx => ?_⟩
  have e : (2 : Int) ^ 64 = 18446744073709551616 := by decide
  have := h.2.2 x hx
  rw [e]
  omega
theorem shaped_ints (ns : List Int) : SeqAt.shaped (.list (ns.map .int)) = true := by
  have h1 : ∀ l : List Int, PyData.canLayAll0 (l.map .int) = true := by
    intro l
    induction l with
    | nil => rfl
    | cons n r ih => simp [PyData.canLayAll0, PyData.canLay0, ih]
  have h2 : ∀ l : List Int, PyData.depthAll (l.map .int) ≤ 1 := by
    intro l
    induction l with
    | nil => simp [PyData.depthAll]
    | cons n r ih => simp [PyData.depthAll, PyData.depth]; omega
  unfold SeqAt.shaped
  have h3 := h2 ns
  simp [PyData.canLay0, PyData.depth, h1 ns]
  omega
section
variable {base : Heap} {mg : Str → Option Value} {K : PySem.W.Frag} {w : World} {P : Program}
end
end V2


namespace V2
open PySem L2
open PySem.Spec PyProof.Rows
theorem Sp6.b20 {ns : List Int} (h : Sp6 ns) : ∀ x ∈ ns, x.natAbs < 2 ^ 20 := fun x hx => by
  have := h.2.2 x hx
  have e : (2 : Nat) ^ 20 = 1048576 := (by decide)
  rw [e]; omega
theorem more {ns : List Int} {A B : Nat} (h : ∀ x ∈ ns, x.natAbs < 2 ^ A) (hl : A ≤ B) : ∀ x ∈ ns, x.natAbs < 2 ^ B := fun x hx => big (h x hx) hl
section
variable {base : Heap} {mg : Str → Option Value} {K : PySem.W.Frag} {w : World} {P : Program}
end
end V2


namespace V2
def Bs (n : Nat) (ns : List Int) : Prop := ∀ x ∈ ns, x.natAbs < 2 ^ n
theorem Bs.le {n m : Nat} {ns : List Int} (h : Bs n ns) (l : n ≤ m) : Bs m ns := fun x hx => Nat.lt_of_lt_of_le (h x hx) (Nat.pow_le_pow_right (by decide) l)
theorem Bs.at_ {n : Nat} {ns : List Int} (h : Bs n ns) (i : Nat) : (ns.getD i 0).natAbs < 2 ^ n := by
  rw [List.getD_eq_getElem?_getD]
  cases e : ns[i]? with
  | none => exact Nat.pow_pos (by decide)
  | some x => exact h x (List.mem_of_getElem? e)
theorem bs_mul {i j : Int} {n m : Nat} (h1 : i.natAbs < 2 ^ n) (h2 : j.natAbs < 2 ^ m) : (i * j).natAbs < 2 ^ (n + m) := by
  rw [Int.natAbs_mul, Nat.pow_add]
  exact Nat.mul_lt_mul'' h1 h2
theorem vec_in {N : Nat} {f : Nat → Int} {x : Int} (h : x ∈ vec N f) : ∃ i, i < N ∧ x = f i := by
  unfold vec at h
  obtain ⟨i, hi, e⟩ := List.mem_map.mp h
  exact ⟨i, List.mem_range.mp hi, e.symm⟩
theorem bs_trm {n : Nat} {ns : List Int} (h : Bs n ns) : Bs n (trm ns) := fun x hx => h x (trm_mem hx)
theorem bs_step {B L : List Int} {g t : Int} {b c : Nat} (hL : Bs c L) (hg : g.natAbs < 2 ^ b) (ht : t.natAbs < 2 ^ c) (hB : Bs b B) : Bs (c + (b + 1)) (trm (stepL B L g t)) := by
  intro x hx
  obtain ⟨i, _, rfl⟩ := vec_in (trm_mem hx)
  have h2 := bs_mul hg (hL.at_ i)
  have h1 : ((tkn B (L.length - B.length) t).getD i 0).natAbs < 2 ^ (c + b) := by
    rw [tkn_getD]
    split
    · exact bs_mul ht (hB.at_ _)
    · exact Nat.pow_pos (by decide)
  have e : (2 : Nat) ^ (c + (b + 1)) = 2 ^ (c + b) + 2 ^ (c + b) := by
    rw [show c + (b + 1) = c + b + 1 from rfl, Nat.pow_succ]; omega
  rw [Nat.add_comm b c] at h2
  rw [e]
  omega
theorem last_at {ns : List Int} (h : ns ≠ []) : ∃ x, ns[ns.length - 1]? = some x ∧ x ∈ ns := by
  have l := List.length_pos_iff.mpr h
  exact ⟨ns[ns.length - 1]'(by omega), List.getElem?_eq_getElem (by omega), List.getElem_mem _⟩
theorem rem_loop {P B : List Int} {b : Nat} (hB : Pol B) (h0 : B ≠ []) (bb : Bs b B) : ∀ (n : Nat) (L : List Int) (c : Nat), L.length ≤ n → Pol L → Rs P B L → Bs c L → ∃ M, Rm P B M ∧ Bs (c + (L.length + 1 - B.length) * (b + 1)) M := by
  intro n
  have lb := List.length_pos_iff.mpr h0
  induction n with
  | zero =>
    intro L c hl hp hR hb
    exact ⟨L, ⟨hp, by omega, hR⟩, hb.le (by omega)⟩
  | succ n ih =>
    intro L c hl hp hR hb
    by_cases h : L.length < B.length
    · exact ⟨L, ⟨hp, h, hR⟩, hb.le (by omega)⟩
    · have L0 : L ≠ [] := fun z => by
        rw [z] at h
        exact h lb
      obtain ⟨tp, htp, htm⟩ := last_at L0
      obtain ⟨ld, hld, hlm⟩ := last_at h0
      have ld0 := hB ld hld
      obtain ⟨f, hf, f0, fb, g0, gb, tb, ge⟩ := grow_take (t := tp) (d := ld) ld0
      have ge' : (if ld < 0 then -ld else ld) / f * L.getD (L.length - 1) 0 = (if ld < 0 then -(tp / f) else tp / f) * B.getD (B.length - 1) 0 := by
        rw [getD_at htp, getD_at hld]
        exact ge
      obtain ⟨r1, r2⟩ := rs_step h0 hR (by omega) g0 ge'
      have hg : ((if ld < 0 then -ld else ld) / f).natAbs < 2 ^ b := Nat.lt_of_le_of_lt gb (bb ld hlm)
      have ht : (if ld < 0 then -(tp / f) else tp / f).natAbs < 2 ^ c := by
        have h1 := hb tp htm
        have h2 : (if ld < 0 then -(tp / f) else tp / f).natAbs = (tp / f).natAbs := by split <;> omega
        omega
      have hs := bs_step hb hg ht bb
      obtain ⟨M, hM, bM⟩ := ih _ (c + (b + 1)) (by omega) (pol_trm _) r1 hs
      refine ⟨M, hM, bM.le ?_⟩
      generalize (trm (stepL B L ((if ld < 0 then -ld else ld) / f) (if ld < 0 then -(tp / f) else tp / f))).length = k at r2
      have e1 : (k + 1 - B.length) + 1 ≤ L.length + 1 - B.length := by omega
      have e2 := Nat.mul_le_mul_right (b + 1) e1
      rw [Nat.succ_mul] at e2
      omega
theorem rem_ex {A B : List Int} {a b : Nat} (hA : Pol A) (hB : Pol B) (h0 : B ≠ []) (ba : Bs a A) (bb : Bs b B) : ∃ M, Rm A B M ∧ Bs (a + (A.length + 1 - B.length) * (b + 1)) M :=
  rem_loop hB h0 bb A.length A a (Nat.le_refl _) hA (Rs.self _ _) ba
open Classical in
/-- some rest, if there is one -/
noncomputable def remF (A B : List Int) : List Int := if h : ∃ L, Rm A B L then h.choose else []
theorem remF_rm {A B L : List Int} (h : Rm A B L) : Rm A B (remF A B) := by
  have hx : ∃ L, Rm A B L := ⟨L, h⟩
  unfold remF
  rw [dif_pos hx]
  exact hx.choose_spec
def negL (ns : List Int) : List Int := ns.map fun x => -x
/-- the next one of a row -/
noncomputable def nx (A B : List Int) : List Int := negL (prim (remF A B))
theorem nx_eq {A B L : List Int} (hB : Pol B) (h : Rm A B L) : nx A B = negL (prim L) := by
  unfold nx
  rw [(remF_rm h).uniq hB h]
theorem prim_length (ns : List Int) : (prim ns).length = ns.length := by unfold prim; rw [List.length_map]
theorem negL_length (ns : List Int) : (negL ns).length = ns.length := by unfold negL; rw [List.length_map]
theorem nx_len {A B : List Int} (h : B ≠ []) : (nx A B).length < B.length := by
  unfold nx
  rw [negL_length, prim_length]
  by_cases hx : ∃ L, Rm A B L
  · obtain ⟨L, hL⟩ := hx
    exact (remF_rm hL).2.1
  · unfold remF
    rw [dif_neg hx]
    exact List.length_pos_iff.mpr h
theorem bs_prim {L : List Int} {B : Nat} (h : Bs B L) : Bs B (prim L) := by
  intro y hy
  unfold prim at hy
  obtain ⟨x, hx, rfl⟩ := List.mem_map.mp hy
  obtain ⟨p, hp⟩ := cont_dvd hx
  rcases Nat.eq_zero_or_pos (cont L) with z | z
  · rw [z]
    show (x / 0).natAbs < 2 ^ B
    rw [Int.ediv_zero]
    exact Nat.pow_pos (by decide)
  · have e : x / (cont L : Int) = p := by
      conv => lhs; rw [hp]
      rw [Int.mul_ediv_cancel_left _ (by omega)]
    rw [e]
    have h1 := h x hx
    rw [hp, Int.natAbs_mul, Int.natAbs_natCast] at h1
    exact Nat.lt_of_le_of_lt (Nat.le_mul_of_pos_left _ z) h1
theorem bs_neg {L : List Int} {B : Nat} (h : Bs B L) : Bs B (negL L) := by
  intro y hy
  unfold negL at hy
  obtain ⟨x, hx, rfl⟩ := List.mem_map.mp hy
  rw [Int.natAbs_neg]
  exact h x hx
theorem pol_negL {L : List Int} (h : Pol L) : Pol (negL L) := by
  intro y hy
  unfold negL at hy
  rw [List.length_map, List.getElem?_map] at hy
  cases e : L[L.length - 1]? with
  | none => rw [e] at hy; cases hy
  | some x =>
    rw [e] at hy
    have := h x e
    have hy : -x = y := Option.some.inj hy
    omega
theorem pol_prim {L : List Int} (h : Pol L) : Pol (prim L) := by
  intro y hy
  unfold prim at hy
  rw [List.length_map, List.getElem?_map] at hy
  cases e : L[L.length - 1]? with
  | none => rw [e] at hy; cases hy
  | some x =>
    rw [e] at hy
    have hx := h x e
    have hy : x / (cont L : Int) = y := Option.some.inj hy
    have hm : x ∈ L := List.mem_of_getElem? e
    obtain ⟨p, hp⟩ := cont_dvd hm
    intro y0
    have c0 : (cont L : Int) ≠ 0 := fun z => by
      rw [z, Int.zero_mul] at hp
      exact hx hp
    have : x / (cont L : Int) = p := by
      conv => lhs; rw [hp]
      rw [Int.mul_ediv_cancel_left _ c0]
    rw [this, y0] at hy
    rw [hy, Int.mul_zero] at hp
    exact hx hp
theorem prim_one {x : Int} (h : x ≠ 0) : Bs 1 (prim [x]) := by
  intro y hy
  have e : prim [x] = [x / (x.natAbs : Int)] := by
    unfold prim cont cont
    rw [Nat.gcd_zero_right]
    rfl
  rw [e] at hy
  obtain rfl := List.mem_singleton.mp hy
  rcases Int.lt_or_gt_of_ne h with c | c
  · have e1 : (x.natAbs : Int) = -x := by omega
    rw [e1, Int.ediv_neg, Int.ediv_self h]
    decide
  · have e1 : (x.natAbs : Int) = x := by omega
    rw [e1, Int.ediv_self h]
    decide
def slopeL (p : List Int) : List Int := vec (p.length - 1) fun k => ((k + 1 : Nat) : Int) * p.getD (k + 1) 0
theorem slopeL_len (p : List Int) : (slopeL p).length = p.length - 1 := vec_len _ _
theorem slopeL_getD (p : List Int) (i : Nat) : (slopeL p).getD i 0 = ((i + 1 : Nat) : Int) * p.getD (i + 1) 0 := by
  unfold slopeL
  rw [vec_getD]
  split
  · rfl
  · rw [getD_out (l := p) (by omega), Int.mul_zero]
theorem pol_slope {p : List Int} (h : Pol p) : Pol (slopeL p) := by
  intro x hx
  rw [slopeL_len] at hx
  have hl : p.length - 1 - 1 < p.length - 1 := by
    have := (List.getElem?_eq_some_iff.mp hx).1
    rwa [slopeL_len] at this
  unfold slopeL at hx
  rw [vec_get hl] at hx
  have hx := Option.some.inj hx
  have e : p[p.length - 1]? = some (p[p.length - 1]'(by omega)) := List.getElem?_eq_getElem (by omega)
  rw [show p.length - 1 - 1 + 1 = p.length - 1 by omega, getD_at e] at hx
  rw [← hx]
  exact Int.mul_ne_zero (by omega) (h _ e)
/-- a polynomial that may be passed: at most eight numbers to 10 ** 6 -/
def P6 (p : List Int) : Prop := Pol p ∧ p.length ≤ 8 ∧ ∀ x ∈ p, -1000000 ≤ x ∧ x ≤ 1000000
theorem P6.at_ {p : List Int} (h : P6 p) (i : Nat) : -1000000 ≤ p.getD i 0 ∧ p.getD i 0 ≤ 1000000 := by
  rw [List.getD_eq_getElem?_getD]
  cases e : p[i]? with
  | none => exact ⟨by decide, by decide⟩
  | some x => exact h.2.2 x (List.mem_of_getElem? e)
theorem small_mul {k : Nat} {x : Int} (hk : k ≤ 7) (h : -1000000 ≤ x ∧ x ≤ 1000000) : (((k : Nat) : Int) * x).natAbs < 2 ^ 23 := by
  rw [Int.natAbs_mul, Int.natAbs_natCast]
  have : k * x.natAbs ≤ 7 * 1000000 := Nat.mul_le_mul hk (by omega)
  have e : (2 : Nat) ^ 23 = 8388608 := by decide
  omega
theorem P6.slope {p : List Int} (h : P6 p) : Bs 23 (slopeL p) := by
  intro x hx
  obtain ⟨i, hi, rfl⟩ := vec_in hx
  have := h.2.1
  exact small_mul (by omega) (h.at_ _)
theorem P6.b20 {p : List Int} (h : P6 p) : Bs 20 p := fun x hx => by
  have := h.2.2 x hx
  have e : (2 : Nat) ^ 20 = 1048576 := (by decide)
  rw [e]; omega
/-- a first step for the rest by the slope -/
def firstL (p : List Int) : List Int := vec (p.length - 1) fun k => (((p.length - 1 - k : Nat) : Int)) * p.getD k 0
theorem first_rs {p : List Int} (h2 : 2 ≤ p.length) : Rs p (slopeL p) (firstL p) := by
  refine ⟨((p.length - 1 : Nat) : Int), dlt 1, 2, by omega, fun i hi => by unfold dlt; rw [if_neg (by omega)], fun i => ?_⟩
  rw [cfF_dlt, slopeL_len]
  unfold firstL
  rw [vec_getD]
  by_cases h1 : 1 ≤ i ∧ i - 1 < p.length - 1
  · rw [if_pos h1, slopeL_getD, show i - 1 + 1 = i by omega]
    by_cases h3 : i < p.length - 1
    · rw [if_pos h3, ← Int.add_mul]
      congr 1
      omega
    · rw [if_neg h3, Int.add_zero]
      congr 2
      omega
  · rw [if_neg h1]
    by_cases h3 : i < p.length - 1
    · rw [if_pos h3, Int.zero_add]
      congr 2
      omega
    · rw [if_neg h3, getD_out (l := p) (by omega), Int.mul_zero]
      rfl
theorem rs_trm {P B L : List Int} (h : Rs P B L) : Rs P B (trm L) := by
  obtain ⟨g, q, N, h1, h2, h3⟩ := h
  exact ⟨g, q, N, h1, h2, fun i => by rw [trm_getD]; exact h3 i⟩
theorem rem_first {p : List Int} (h : P6 p) (h2 : 2 ≤ p.length) : ∃ M, Rm p (slopeL p) M ∧ Bs 47 M := by
  have s0 : slopeL p ≠ [] := fun z => by
    have := slopeL_len p
    rw [z, List.length_nil] at this
    omega
  have fb : Bs 23 (trm (firstL p)) := bs_trm (by
    intro x hx
    obtain ⟨i, hi, rfl⟩ := vec_in hx
    have := h.2.1
    exact small_mul (by omega) (h.at_ _))
  obtain ⟨M, hM, bM⟩ := rem_loop (pol_slope h.1) s0 h.slope _ _ 23 (Nat.le_refl _) (pol_trm _) (rs_trm (first_rs h2)) fb
  refine ⟨M, hM, bM.le ?_⟩
  have l1 := trm_len (firstL p)
  have l2 : (firstL p).length = p.length - 1 := vec_len _ _
  rw [slopeL_len]
  have : (trm (firstL p)).length + 1 - (p.length - 1) ≤ 1 := by omega
  have := Nat.mul_le_mul_right (23 + 1) this
  omega
noncomputable def rowF : Nat → List Int → List Int → List (List Int)
  | 0, _, _ => []
  | n + 1, A, B => if B = [] then [] else B :: rowF n B (nx A B)
theorem rowF_ext : ∀ (n m : Nat) (A B : List Int), B.length ≤ n → B.length ≤ m → rowF n A B = rowF m A B
  | 0, 0, _, _, _, _ => rfl
  | 0, m + 1, A, B, h, _ => by
    have : B = [] := List.eq_nil_of_length_eq_zero (by omega)
    subst this
    rfl
  | n + 1, 0, A, B, _, h => by
    have : B = [] := List.eq_nil_of_length_eq_zero (by omega)
    subst this
    rfl
  | n + 1, m + 1, A, B, h1, h2 => by
    unfold rowF
    by_cases e : B = []
    · rw [if_pos e, if_pos e]
    · rw [if_neg e, if_neg e]
      have := nx_len (A := A) e
      rw [rowF_ext n m B (nx A B) (by omega) (by omega)]
noncomputable def rowT (A B : List Int) : List (List Int) := rowF B.length A B
theorem rowT_nil (A : List Int) : rowT A [] = [] := rfl
theorem rowT_cons {A B : List Int} (h : B ≠ []) : rowT A B = B :: rowT B (nx A B) := by
  have l := List.length_pos_iff.mpr h
  unfold rowT
  obtain ⟨n, hn⟩ : ∃ n, B.length = n + 1 := ⟨B.length - 1, by omega⟩
  rw [hn]
  show (if B = [] then [] else B :: rowF n B (nx A B)) = _
  rw [if_neg h]
  have := nx_len (A := A) h
  rw [rowF_ext n _ B (nx A B) (by omega) (Nat.le_refl _)]
noncomputable def rowL (p : List Int) : List (List Int) := p :: rowT p (slopeL p)
/-- how many bits -/
def gam : Nat → Nat
  | 0 => 20
  | 1 => 23
  | 2 => 47
  | 3 => 119
  | 4 => 287
  | 5 => 695
  | 6 => 1679
  | _ => 4055
/-- two neighbours in a row -/
structure Nb (A B : List Int) : Prop where
  pa : Pol A
  pb : Pol B
  la : A.length ≤ 8
  lt : B.length < A.length
  ba : Bs (gam (8 - A.length)) A
  bb : Bs (gam (9 - A.length)) B
  b1 : B.length = 1 → Bs 23 B
  sm : Bs 1700 A
theorem gam_mono : ∀ i j : Nat, i ≤ j → gam i ≤ gam j := by
  have h1 : ∀ i, i < 9 → gam i ≤ 4055 := by decide
  have h2 : ∀ j, j < 8 → ∀ i, i ≤ j → gam i ≤ gam j := by decide
  intro i j h
  by_cases c : j < 8
  · exact h2 j c i h
  · have e : gam j = 4055 := by
      match j, c with
      | 0, c => exact absurd (by decide) c
      | 1, c => exact absurd (by decide) c
      | 2, c => exact absurd (by decide) c
      | 3, c => exact absurd (by decide) c
      | 4, c => exact absurd (by decide) c
      | 5, c => exact absurd (by decide) c
      | 6, c => exact absurd (by decide) c
      | n + 7, _ => rfl
    rw [e]
    by_cases c2 : i < 9
    · exact h1 i c2
    · have : gam i = 4055 := by
        match i, c2 with
        | n + 7, _ => rfl
        | 0, c => exact absurd (by decide) c
        | 1, c => exact absurd (by decide) c
        | 2, c => exact absurd (by decide) c
        | 3, c => exact absurd (by decide) c
        | 4, c => exact absurd (by decide) c
        | 5, c => exact absurd (by decide) c
        | 6, c => exact absurd (by decide) c
      omega
theorem gam_step : ∀ a, a < 8 → ∀ b, b < a → 2 ≤ b → gam (8 - a) + (a + 1 - b) * (gam (9 - a) + 1) ≤ gam (9 - b) := by decide
theorem Nb.smb {A B : List Int} (h : Nb A B) : Bs 1700 B := by
  by_cases c : B.length = 1
  · exact (h.b1 c).le (by decide)
  · by_cases c2 : B.length = 0
    · have : B = [] := List.eq_nil_of_length_eq_zero c2
      subst this
      intro x hx
      cases hx
    · refine h.bb.le ?_
      have := h.lt
      have := gam_mono (9 - A.length) 6 (by omega)
      have : gam 6 = 1679 := rfl
      omega
theorem pol_one {L : List Int} (h : Pol L) (hl : L.length = 1) : ∃ x, L = [x] ∧ x ≠ 0 := by
  match L, hl with
  | [x], _ => exact ⟨x, rfl, h x rfl⟩
theorem nx_small {A B M : List Int} {m : Nat} (hB : Pol B) (hM : Rm A B M) (bM : Bs m M) : Pol (nx A B) ∧ Bs m (nx A B) ∧ ((nx A B).length = 1 → Bs 23 (nx A B)) := by
  rw [nx_eq hB hM]
  refine ⟨pol_negL (pol_prim hM.1), bs_neg (bs_prim bM), fun h => ?_⟩
  rw [negL_length, prim_length] at h
  obtain ⟨x, rfl, hx⟩ := pol_one hM.1 h
  exact (bs_neg (prim_one hx)).le (by decide)
theorem nb_first {p : List Int} (h : P6 p) (h0 : p ≠ []) : Nb p (slopeL p) where
  pa := h.1
  pb := pol_slope h.1
  la := h.2.1
  lt := by
    have := List.length_pos_iff.mpr h0
    rw [slopeL_len]
    omega
  ba := h.b20.le (gam_mono 0 _ (Nat.zero_le _))
  bb := h.slope.le (gam_mono 1 _ (by have := h.2.1; omega))
  b1 := fun _ => h.slope
  sm := h.b20.le (by decide)
theorem nb_second {p : List Int} (h : P6 p) (s0 : slopeL p ≠ []) : Nb (slopeL p) (nx p (slopeL p)) := by
  have l := List.length_pos_iff.mpr s0
  have sl := slopeL_len p
  obtain ⟨M, hM, bM⟩ := rem_first h (by omega)
  obtain ⟨n1, n2, n3⟩ := nx_small (pol_slope h.1) hM bM
  have h8 := h.2.1
  exact {
    pa := pol_slope h.1
    pb := n1
    la := by omega
    lt := nx_len s0
    ba := h.slope.le (gam_mono 1 _ (by omega))
    bb := n2.le (gam_mono 2 _ (by omega))
    b1 := n3
    sm := h.slope.le (by decide) }
theorem nb_next {A B : List Int} (h : Nb A B) (h7 : A.length ≤ 7) (h0 : B ≠ []) : Nb B (nx A B) := by
  have l := List.length_pos_iff.mpr h0
  have hl := h.lt
  obtain ⟨M, hM, bM⟩ := rem_ex h.pa h.pb h0 h.ba h.bb
  obtain ⟨n1, n2, n3⟩ := nx_small h.pb hM bM
  refine { pa := h.pb, pb := n1, la := by omega, lt := nx_len h0, ba := h.bb.le (gam_mono _ _ (by omega)), bb := ?_, b1 := n3, sm := h.smb }
  by_cases c : B.length = 1
  · have := nx_len (A := A) h0
    have : nx A B = [] := List.eq_nil_of_length_eq_zero (by omega)
    rw [this]
    intro x hx
    cases hx
  · exact n2.le (gam_step A.length (by omega) B.length (by omega) (by omega))
/-- where a row of p stands -/
structure Wr (p : List Int) (pre : List (List Int)) (A B : List Int) : Prop where
  nb : Nb A B
  hd : (A = p ∧ B = slopeL p) ∨ A.length ≤ 7
  all : pre ++ A :: rowT A B = rowL p
theorem Wr.start {p : List Int} (h : P6 p) (h0 : p ≠ []) : Wr p [] p (slopeL p) := ⟨nb_first h h0, .inl ⟨rfl, rfl⟩, rfl⟩
theorem Wr.next {p : List Int} {pre : List (List Int)} {A B : List Int} (hp : P6 p) (h : Wr p pre A B) (h0 : B ≠ []) : Wr p (pre ++ [A]) B (nx A B) := by
  obtain ⟨h1, h2, h3⟩ := h
  refine ⟨?_, .inr (by have := h1.la; have := h1.lt; omega), ?_⟩
  · rcases h2 with ⟨rfl, rfl⟩ | h2
    · exact nb_second hp h0
    · exact nb_next h1 h2 h0
  · rw [← h3, rowT_cons h0, List.append_assoc]
    rfl
theorem Wr.done {p : List Int} {pre : List (List Int)} {A : List Int} (h : Wr p pre A []) : pre ++ [A] = rowL p := by
  rw [← h.all, rowT_nil]
theorem Wr.one {p : List Int} {pre : List (List Int)} {A B : List Int} (h : Wr p pre A B) (h1 : B.length = 1) : pre ++ [A] ++ [B] = rowL p := by
  have h0 : B ≠ [] := fun z => by rw [z] at h1; cases h1
  have : nx A B = [] := List.eq_nil_of_length_eq_zero (by have := nx_len (A := A) h0; omega)
  rw [← h.all, rowT_cons h0, this, rowT_nil, List.append_assoc]
  rfl
end V2


namespace V2
open PySem L2
open PySem.Spec PyProof.Rows
/-- the constant n -/
def cp (n : Int) : List Int := if n = 0 then [] else [n]
section
variable {base : Heap} {mg : Str → Option Value} {K : PySem.W.Frag} {w : World} {P : Program}
end
end V2


namespace V2
open PySem L2
open PySem.Spec PyProof.Rows
def B26 (n : Int) : Prop := n.natAbs < 2 ^ 4400
section
variable {base : Heap} {mg : Str → Option Value} {K : PySem.W.Frag} {w : World} {P : Program}
theorem B26.g {t m : Int} (hm : 0 < m) (h : B26 m) : 0 < ((Int.gcd t m : Nat) : Int) ∧ B26 ((Int.gcd t m : Nat) : Int) := by
  have h0 : 0 < Int.gcd t m := Int.gcd_pos_of_ne_zero_right _ (by omega)
  refine ⟨by omega, ?_⟩
  unfold B26
  rw [Int.natAbs_natCast]
  refine Nat.lt_of_le_of_lt (Nat.le_of_dvd (by omega) ?_) h
  exact Int.natAbs_dvd_natAbs.mpr (Int.gcd_dvd_right _ _) |> (by simpa using ·)
end
end V2


namespace PySem
mutual
inductive ReadsS (h : Heap) : Value → PyData → Prop
  | none : ReadsS h .none .none
  | bool (b : Bool) : ReadsS h (.bool b) (.bool b)
  | int (i : Int) (t : Tok) : ReadsS h (.int i t) (.int i)
  | str (x : Str) (t : Tok) : ReadsS h (.str x t) (.str x)
  | list {a : Addr} {o : Obj} {vs : Array Value} {n : Nat} {xs : List PyData} : h.get? a = some o → o.cls = .type "list" → o.data = .seq vs n → ReadsAllS h vs.toList xs → ReadsS h (.ref a) (.list xs)
  | tuple {a : Addr} {o : Obj} {vs : Array Value} {n : Nat} {xs : List PyData} : h.get? a = some o → o.cls = .type "tuple" → o.data = .seq vs n → ReadsAllS h vs.toList xs → ReadsS h (.ref a) (.tuple xs)
  | dict {a : Addr} {o : Obj} {es : Array DictEntry} {n : Nat} {kvs : List (PyData × PyData)} : h.get? a = some o → o.cls = .type "dict" → o.data = .dict es n → (a == sysModules) = false → ReadsAllS h (es.toList.map (·.key)) (kvs.map (·.1)) →
      ReadsAllS h (es.toList.map (·.val)) (kvs.map (·.2)) → ReadsS h (.ref a) (.dict kvs)
inductive ReadsAllS (h : Heap) : List Value → List PyData → Prop
  | nil : ReadsAllS h [] []
  | cons {v : Value} {vs : List Value} {d : PyData} {ds : List PyData} : ReadsS h v d → ReadsAllS h vs ds → ReadsAllS h (v :: vs) (d :: ds)
end
section
variable {h : Heap}
mutual
theorem ReadsS.reads : ∀ {v : Value} {d : PyData}, ReadsS h v d → ∃ as, Reads h v d as
  | _, _, .none => ⟨_, .none⟩
  | _, _, .bool b => ⟨_, .bool b⟩
  | _, _, .int i t => ⟨_, .int i t⟩
  | _, _, .str x t => ⟨_, .str x t⟩
  | _, _, .list h1 h2 h3 h4 => let ⟨_, r⟩ := ReadsAllS.reads h4; ⟨_, .list h1 h2 h3 r⟩
  | _, _, .tuple h1 h2 h3 h4 => let ⟨_, r⟩ := ReadsAllS.reads h4; ⟨_, .tuple h1 h2 h3 r⟩
  | _, _, .dict h1 h2 h3 _ h4 h5 => let ⟨_, r⟩ := ReadsAllS.reads h4; let ⟨_, q⟩ := ReadsAllS.reads h5; ⟨_, .dict h1 h2 h3 r q⟩
theorem ReadsAllS.reads : ∀ {vs : List Value} {ds : List PyData}, ReadsAllS h vs ds → ∃ as, ReadsAll h vs ds as
  | _, _, .nil => ⟨_, .nil⟩
  | _, _, .cons r q => let ⟨_, a⟩ := ReadsS.reads r; let ⟨_, b⟩ := ReadsAllS.reads q; ⟨_, .cons a b⟩
end
end
section
variable {prog : Program} {w : World} {h₀ : Heap}
end
end PySem
namespace V2
open PySem L2
open PySem.Spec PyProof.Rows
mutual
/-- v is the data d, where the abstract heap is H -/
inductive Dq (H : Hp) : V → PyData → Prop
  | non : Dq H .non .none
  | bl (b : Bool) : Dq H (.bl b) (.bool b)
  | int (i : Int) : Dq H (.int i) (.int i)
  | str (x : Str) : Dq H (.str x) (.str x)
  | lst {a : Addr} {xs : List V} {ds : List PyData} : H a = some (.lst xs) → DqAll H xs ds → Dq H (.ref a) (.list ds)
  | tup {a : Addr} {xs : List V} {ds : List PyData} : H a = some (.tup xs) → DqAll H xs ds → Dq H (.ref a) (.tuple ds)
  | dct {a : Addr} {x : Str} {w : V} {d : PyData} : H a = some (.dK [(.inr x, w)]) → Dq H w d → Dq H (.ref a) (.dict [(.str x, d)])
inductive DqAll (H : Hp) : List V → List PyData → Prop
  | nil : DqAll H [] []
  | cons {v : V} {vs : List V} {d : PyData} {ds : List PyData} : Dq H v d → DqAll H vs ds → DqAll H (v :: vs) (d :: ds)
end
mutual
theorem Dq.go {H H' : Hp} : ∀ {d : PyData} {v : V}, Dq H v d → Evl.Ex H H' → Dq H' v d
  | _, _, .non, _ => .non
  | _, _, .bl b, _ => .bl b
  | _, _, .int i, _ => .int i
  | _, _, .str x, _ => .str x
  | _, _, .lst h r, e => .lst (e _ _ h) (DqAll.go r e)
  | _, _, .tup h r, e => .tup (e _ _ h) (DqAll.go r e)
  | _, _, .dct h r, e => .dct (e _ _ h) (Dq.go r e)
theorem DqAll.go {H H' : Hp} : ∀ {ds : List PyData} {vs : List V}, DqAll H vs ds → Evl.Ex H H' → DqAll H' vs ds
  | _, _, .nil, _ => .nil
  | _, _, .cons a b, e => .cons (Dq.go a e) (DqAll.go b e)
end
section
variable {X : Cx} {pins : List (Addr × Obj)} {σ : L2.St} {H : Hp} {s : Shared}
mutual
theorem Dq.reads (I : Inv X pins σ H s) : ∀ {d : PyData} {v : V}, Dq H v d → ∀ {u : Value}, RelV v u → ReadsS s.heap u d
  | _, _, .non, _, r => by
    cases r
    exact .none
  | _, _, .bl b, _, r => by
    cases r
    exact .bool b
  | _, _, .int i, _, r => by
    obtain ⟨t, rfl⟩ := r
    exact .int i t
  | _, _, .str x, _, r => by
    obtain ⟨t, rfl⟩ := r
    exact .str x t
  | _, _, .lst h q, _, r => by
    cases r
    obtain ⟨_, its, n, rv, ho⟩ := I.hok _ _ h
    exact .list ho rfl rfl (by simpa using DqAll.reads I q rv)
  | _, _, .tup h q, _, r => by
    cases r
    obtain ⟨_, its, rv, o, ho, hc, n, hd⟩ := I.hok _ _ h
    exact .tuple ho hc hd (by simpa using DqAll.reads I q rv)
  | _, _, .dct h q, _, r => by
    cases r
    obtain ⟨_, hsys, vs, kv, o, es, ep, ho, ⟨hc, _, _⟩, hd, _, hp, _⟩ := dk_of I.hok h
    obtain ⟨p1, p2, rfl, e1, e2⟩ : ∃ p1 p2, vs = [(p1, p2)] ∧ Sum.inr _ = p1 ∧ RelV _ p2 := by
      cases kv with
      | cons r1 r2 =>
        cases r2
        exact ⟨_, _, rfl, r1.1, r1.2⟩
    · subst e1
      refine .dict ho hc hd hsys ?_ ?_
      · generalize es.toList = l at hp
        cases hp with
        | cons a1 a2 a3 =>
          cases a3
          have z1 := a1
          rw [mixKind_is] at z1
          rcases keyIs_shape z1 with ⟨_, _, z, _⟩ | ⟨x', t, z, ht⟩
          · cases z
          cases z
          rw [List.map_cons, List.map_nil, ht]
          exact .cons (.str _ _) .nil
      · generalize es.toList = l at hp
        cases hp with
        | cons a1 a2 a3 =>
          cases a3
          rw [List.map_cons, List.map_nil, a2]
          exact .cons (Dq.reads I q e2) .nil
theorem DqAll.reads (I : Inv X pins σ H s) : ∀ {ds : List PyData} {vs : List V}, DqAll H vs ds → ∀ {us : List Value}, Vals vs us → ReadsAllS s.heap us ds
  | _, _, .nil, _, r => by
    cases r
    exact .nil
  | _, _, .cons a b, _, r => by
    cases r with
    | cons r1 r2 => exact .cons (Dq.reads I a r1) (DqAll.reads I b r2)
end
end
end V2


namespace V2
open PySem L2
open PySem.Spec PyProof.Rows
/-- what is new -/
def Nw (H H' : Hp) : Hp := fun b => if (H b).isSome = true then none else H' b
theorem Nw.ex {H H' : Hp} : Evl.Ex (Nw H H') H' := fun b o h => by
  unfold Nw at h
  split at h
  · cases h
  · exact h
theorem nw_at {H H' : Hp} {b : Addr} {o : HO} (n : H b = none) (h : H' b = some o) : Nw H H' b = some o := by
  unfold Nw
  rw [n]
  exact h
theorem nw_none {H H' : Hp} {b : Addr} {o : HO} (h : Nw H H' b = some o) : H b = none := by
  unfold Nw at h
  split at h
  · cases h
  · rename_i z
    cases e : H b with
    | none => rfl
    | some x =>
      rw [e] at z
      exact absurd rfl z
/-- data of lists and tuples, n deep at most -/
inductive Cp : Nat → PyData → Prop
  | non {n : Nat} : Cp n .none
  | bl {n : Nat} (b : Bool) : Cp n (.bool b)
  | int {n : Nat} (i : Int) : Cp n (.int i)
  | str {n : Nat} (x : Str) : Cp n (.str x)
  | lst {n : Nat} {ds : List PyData} : ds.length ≤ 100 → (∀ d ∈ ds, Cp n d) → Cp (n + 1) (.list ds)
  | tup {n : Nat} {ds : List PyData} : ds.length ≤ 100 → (∀ d ∈ ds, Cp n d) → Cp (n + 1) (.tuple ds)
theorem DqAll.len {H : Hp} : ∀ {ds : List PyData} {vs : List V}, DqAll H vs ds → vs.length = ds.length
  | _, _, .nil => rfl
  | _, _, .cons _ b => congrArg Nat.succ b.len
theorem DqAll.get {H : Hp} : ∀ {ds : List PyData} {vs : List V} {i : Nat} {v : V}, DqAll H vs ds → vs[i]? = some v → ∃ d, ds[i]? = some d ∧ Dq H v d
  | _, _, _, _, .nil, h => by cases h
  | _, _, 0, _, .cons a _, h => by
    cases h
    exact ⟨_, rfl, a⟩
  | _, _, i + 1, _, .cons _ b, h => b.get (i := i) h
theorem DqAll.snoc {H : Hp} : ∀ {ds : List PyData} {vs : List V} {v : V} {d : PyData}, DqAll H vs ds → Dq H v d → DqAll H (vs ++ [v]) (ds ++ [d])
  | _, _, _, _, .nil, h => .cons h .nil
  | _, _, _, _, .cons a b, h => .cons a (b.snoc h)
theorem ds_take {ds : List PyData} {i : Nat} {d : PyData} (h : ds[i]? = some d) : ds.take (i + 1) = ds.take i ++ [d] := by
  rw [List.take_add_one, h]
  rfl
structure T5 (mg : Str → Option Value) : Prop where
  isi : mg "isinstance" = none
  lst : mg "list" = none
  tup : mg "tuple" = none
section
variable {base : Heap} {mg : Str → Option Value} {K : PySem.W.Frag} {w : World} {P : Program}
end
end V2


namespace V2
open PySem L2
open PySem.Spec PyProof.Rows
abbrev Tk := Option Int × Int
def wV : Option Int → V
  | none => .non
  | some z => .int z
def wD : Option Int → PyData
  | none => .none
  | some z => .int z
def tkD (t : Tk) : PyData := .tuple [wD t.1, .int t.2]
def okT (ts : List Tk) : Prop := ts.length ≤ 20 ∧ (∀ t ∈ ts, (∀ z, t.1 = some z → 1 ≤ z) ∧ 0 ≤ t.2) ∧ ts.countP (fun t => t.1.isNone) = 1
def TksAt (H : Hp) (l : Addr) (ts : List Tk) : Prop := ∃ as : List Addr, H l = some (.lst (as.map V.ref)) ∧ as.length = ts.length ∧ ∀ (i : Nat) (a : Addr) (t : Tk), as[i]? = some a → ts[i]? = some t → H a = some (.tup [wV t.1, .int t.2])
theorem TksAt.ex {H H' : Hp} {l : Addr} {ts : List Tk} (h : TksAt H l ts) (e : Evl.Ex H H') : TksAt H' l ts := by
  obtain ⟨as, h1, h2, h3⟩ := h
  exact ⟨as, e _ _ h1, h2, fun i a t x y => e _ _ (h3 i a t x y)⟩
theorem dq_w {H : Hp} {v : V} {w : Option Int} (h : Dq H v (wD w)) : v = wV w := by
  cases w with
  | none => cases h; rfl
  | some z => cases h; rfl
section
variable {base : Heap} {mg : Str → Option Value} {K : PySem.W.Frag} {w : World} {P : Program}
end
end V2


namespace V2
open PySem L2
open PySem.Spec PyProof.Rows
inductive Deed
  | op (ks : List Int)
  | po (k a : Int)
  | sc (k p q : Int)
  | mv (k m p q : Int)
  | un (k m : Int)
def dD : Deed → PyData
  | .op ks => .tuple [.str "open", .list (ks.map .int)]
  | .po k a => .tuple [.str "pour", .int k, .int a]
  | .sc k p q => .tuple [.str "scoop", .int k, .tuple [.int p, .int q]]
  | .mv k m p q => .tuple [.str "move", .int k, .int m, .tuple [.int p, .int q]]
  | .un k m => .tuple [.str "unless", .int k, .int m]
def DAt (H : Hp) (a : Addr) : Deed → Prop
  | .op ks => ∃ l, H a = some (.tup [.str "open", .ref l]) ∧ Li H l ks
  | .po k x => H a = some (.tup [.str "pour", .int k, .int x])
  | .sc k p q => ∃ f, H a = some (.tup [.str "scoop", .int k, .ref f]) ∧ Fr H f p q
  | .mv k m p q => ∃ f, H a = some (.tup [.str "move", .int k, .int m, .ref f]) ∧ Fr H f p q
  | .un k m => H a = some (.tup [.str "unless", .int k, .int m])
theorem DAt.ex {H H' : Hp} {a : Addr} {d : Deed} (h : DAt H a d) (e : Evl.Ex H H') : DAt H' a d := by
  cases d with
  | op ks =>
    obtain ⟨l, h1, h2⟩ := h
    exact ⟨l, e _ _ h1, e _ _ h2⟩
  | po k x => exact e _ _ h
  | sc k p q =>
    obtain ⟨f, h1, h2⟩ := h
    exact ⟨f, e _ _ h1, e _ _ h2⟩
  | mv k m p q =>
    obtain ⟨f, h1, h2⟩ := h
    exact ⟨f, e _ _ h1, e _ _ h2⟩
  | un k m => exact e _ _ h
def Pt (p q : Int) : Prop := 0 ≤ p ∧ p ≤ q ∧ Qn p q
/-- a step that is right, for n tanks -/
def okD (n : Int) : Deed → Prop
  | .op ks => 2 ≤ ks.length ∧ ks.length ≤ 20 ∧ (∀ (i : Nat) (x y : Int), ks[i]? = some x → ks[i + 1]? = some y → x < y) ∧ ∀ k ∈ ks, 0 ≤ k ∧ k < n
  | .po k a => (0 ≤ k ∧ k < n) ∧ 0 ≤ a
  | .sc k p q => (0 ≤ k ∧ k < n) ∧ Pt p q
  | .mv k m p q => (0 ≤ k ∧ k < n) ∧ (0 ≤ m ∧ m < n) ∧ k ≠ m ∧ Pt p q
  | .un k m => (0 ≤ k ∧ k < n) ∧ (0 ≤ m ∧ m < n) ∧ k ≠ m
section
variable {base : Heap} {mg : Str → Option Value} {K : PySem.W.Frag} {w : World} {P : Program} {aT : Addr} {es : Array DictEntry} {nT : Nat} {t1 t2 t3 t4 t5 : Tok}
end
end V2


namespace V2
open PySem L2
open PySem.Spec PyProof.Rows
def sgn (x : Int) : Int := if x = 0 then 0 else if x > 0 then 1 else -1
def spSgn : Sp := fun vs H Q _ => ∃ x : Int, vs = [.int x] ∧ Evl.RetV (.int (sgn x)) H Q
def spOrd : Sp := fun vs H Q _ => ∃ (a b : Addr) (p q x y : Int), vs = [.ref a, .ref b] ∧ Fr H a p q ∧ Fr H b x y ∧ p.natAbs < 2 ^ 50 ∧ q.natAbs < 2 ^ 50 ∧ x.natAbs < 2 ^ 50 ∧ y.natAbs < 2 ^ 50 ∧ Evl.RetV (.int (sgn (p * y - x * q))) H Q
section
variable {base : Heap} {mg : Str → Option Value} {K : PySem.W.Frag} {w : World} {P : Program} {aT : Addr} {es : Array DictEntry} {nT : Nat} {t1 t2 t3 t4 t5 : Tok}
theorem ok_sign_of {f : Addr} {fd : FuncData} (F : Fun K "sign_of" "sign_of" s_sign_of f fd) : FnOk P w K mg base CX0 1 f fd p_sign_of spSgn := by
  refine F.ok sc_sign_of (fun vs H Q E h => ?_) (fun cdv A outer s H vs Q E hr h => ?_)
  · obtain ⟨x, rfl, _⟩ := h
    rfl
  · obtain ⟨x, rfl, k⟩ := h
    refine ⟨_, pss_cons (ps_if (pt_cmpR op_eq (pv 0) pe_int (nomark _)) (pss_one (ps_ret pe_int)) pss_nil) (pss_one (ps_ret (pe_ifExp (pt_cmpR op_gt (pv 0) pe_int (nomark _)) pe_int (pe_un un_neg pe_int)))), ?_⟩
    refine ⟨_, rfl, rfl, _, rfl, ?_⟩
    unfold sgn at k
    by_cases h0 : x = 0
    · refine if_t (decide_eq_true (by rw [h0])) ?_
      rw [if_pos h0] at k
      exact k _ (Evl.Ex.refl _)
    · refine if_f (decide_eq_false (fun z => h0 (by injection z))) ?_
      rw [if_neg h0] at k
      by_cases h1 : x > 0
      · rw [if_pos h1] at k
        exact ⟨_, rfl, _, _, rfl, rfl, _, rfl, if_t (decide_eq_true h1) (k _ (Evl.Ex.refl _))⟩
      · rw [if_neg h1] at k
        exact ⟨_, rfl, _, _, rfl, rfl, _, rfl, if_f (decide_eq_false h1) ⟨_, rfl, k _ (Evl.Ex.refl _)⟩⟩
theorem ok_order {f : Addr} {fd : FuncData} (F : Fun K "order_of_fractions" "order_of_fractions" s_order_of_fractions f fd) (cS : Cal P w K mg base 1 "sign_of" p_sign_of spSgn) : FnOk P w K mg base CX0 2 f fd p_order_of_fractions spOrd := by
  refine F.ok sc_order_of_fractions (fun vs H Q E h => ?_) (fun cdv A outer s H vs Q E hr h => ?_)
  · obtain ⟨a, b, p, q, x, y, rfl, _⟩ := h
    rfl
  · obtain ⟨a, b, p, q, x, y, rfl, ha, hb, h1, h2, h3, h4, k⟩ := h
    refine ⟨_, pss_one (ps_ret (pe_c cS hr (pa_cons (pe_op op_sub (pe_op op_mulW (pe_ix ix_tup (pv 0) pe_int (fun _ _ => rfl)) (pe_ix ix_tup (pv 1) pe_int (fun _ _ => rfl))) (pe_op op_mulW (pe_ix ix_tup (pv 1) pe_int (fun _ _ => rfl)) (pe_ix ix_tup (pv 0) pe_int (fun _ _ => rfl)))) pa_nil))), ?_⟩
    refine ⟨_, rfl, a, _, _, _, rfl, rfl, SqT.of ha, rfl, _, rfl, b, _, _, _, rfl, rfl, SqT.of hb, rfl, p, y, rfl, rfl, wide_mul (a := 50) (b := 50) h1 h4 (by decide) (by decide) (by decide), ?_⟩
    refine ⟨_, rfl, b, _, _, _, rfl, rfl, SqT.of hb, rfl, _, rfl, a, _, _, _, rfl, rfl, SqT.of ha, rfl, x, q, rfl, rfl, wide_mul (a := 50) (b := 50) h3 h2 (by decide) (by decide) (by decide), _, _, rfl, rfl, ?_⟩
    exact ⟨_, rfl, k⟩
end
end V2


namespace V2
open PySem L2
open PySem.Spec PyProof.Rows
def DObj : HO → Prop
  | .lst _ => True
  | .tup _ => True
  | .dK _ => True
  | _ => False
mutual
theorem Dq.keep {H H' : Hp} (e : ∀ b o, DObj o → H b = some o → H' b = some o) : ∀ {d : PyData} {v : V}, Dq H v d → Dq H' v d
  | _, _, .non => .non
  | _, _, .bl b => .bl b
  | _, _, .int i => .int i
  | _, _, .str x => .str x
  | _, _, .lst h r => .lst (e _ _ trivial h) (DqAll.keep e r)
  | _, _, .tup h r => .tup (e _ _ trivial h) (DqAll.keep e r)
  | _, _, .dct h r => .dct (e _ _ trivial h) (Dq.keep e r)
theorem DqAll.keep {H H' : Hp} (e : ∀ b o, DObj o → H b = some o → H' b = some o) : ∀ {ds : List PyData} {vs : List V}, DqAll H vs ds → DqAll H' vs ds
  | _, _, .nil => .nil
  | _, _, .cons a b => .cons (Dq.keep e a) (DqAll.keep e b)
end
theorem keep_ins {H H' : Hp} {x C dx : Addr} {fs : List (Str × V)} (hx : H x = some (.ins C dx fs)) (b : But x H H') : ∀ c o, DObj o → H c = some o → H' c = some o := fun c o d h => b c o (fun z => by
  rw [z, hx] at h
  cases h
  exact d) h
theorem dq_ints {H : Hp} : ∀ {ks : List Int} {vs : List V}, DqAll H vs (ks.map .int) → vs = iV ks
  | [], _, .nil => rfl
  | k :: ks, _, .cons a b => by
    cases a
    rw [dq_ints b]
    rfl
theorem dq_deed {H : Hp} {v : V} {d : Deed} (h : Dq H v (dD d)) : ∃ a, v = .ref a ∧ DAt H a d := by
  cases d with
  | op ks =>
    cases h with
    | tup h1 h2 =>
      cases h2 with
      | cons a b =>
        cases a
        cases b with
        | cons b c =>
          cases c
          cases b with
          | lst h3 h4 =>
            rw [dq_ints h4] at h3
            exact ⟨_, rfl, _, h1, h3⟩
  | po k x =>
    cases h with
    | tup h1 h2 =>
      cases h2 with
      | cons a b =>
        cases a
        cases b with
        | cons b c =>
          cases b
          cases c with
          | cons c e =>
            cases c
            cases e
            exact ⟨_, rfl, h1⟩
  | sc k p q =>
    cases h with
    | tup h1 h2 =>
      cases h2 with
      | cons a b =>
        cases a
        cases b with
        | cons b c =>
          cases b
          cases c with
          | cons c e =>
            cases e
            cases c with
            | tup h3 h4 =>
              rw [dq_ints (ks := [p, q]) h4] at h3
              exact ⟨_, rfl, _, h1, h3⟩
  | mv k m p q =>
    cases h with
    | tup h1 h2 =>
      cases h2 with
      | cons a b =>
        cases a
        cases b with
        | cons b c =>
          cases b
          cases c with
          | cons c e =>
            cases c
            cases e with
            | cons e g =>
              cases g
              cases e with
              | tup h3 h4 =>
                rw [dq_ints (ks := [p, q]) h4] at h3
                exact ⟨_, rfl, _, h1, h3⟩
  | un k m =>
    cases h with
    | tup h1 h2 =>
      cases h2 with
      | cons a b =>
        cases a
        cases b with
        | cons b c =>
          cases b
          cases c with
          | cons c e =>
            cases c
            cases e
            exact ⟨_, rfl, h1⟩
/-- the steps that stand in a list -/
def DsAt (H : Hp) (l : Addr) (ds : List Deed) : Prop := ∃ as : List Addr, H l = some (.lst (as.map V.ref)) ∧ as.length = ds.length ∧ ∀ (i : Nat) (a : Addr) (d : Deed), as[i]? = some a → ds[i]? = some d → DAt H a d
theorem DsAt.ex {H H' : Hp} {l : Addr} {ds : List Deed} (h : DsAt H l ds) (e : Evl.Ex H H') : DsAt H' l ds := by
  obtain ⟨as, h1, h2, h3⟩ := h
  exact ⟨as, e _ _ h1, h2, fun i a t x y => (h3 i a t x y).ex e⟩
theorem dq_deeds {H : Hp} : ∀ {ds : List Deed} {vs : List V}, DqAll H vs (ds.map dD) → ∃ as : List Addr, vs = as.map V.ref ∧ as.length = ds.length ∧ ∀ (i : Nat) (a : Addr) (d : Deed), as[i]? = some a → ds[i]? = some d → DAt H a d
  | [], _, .nil => ⟨[], rfl, rfl, fun i a t h => (by cases h)⟩
  | t :: ts, _, .cons a b => by
    obtain ⟨x, rfl, hx⟩ := dq_deed a
    obtain ⟨as, rfl, h2, h3⟩ := dq_deeds b
    refine ⟨x :: as, rfl, congrArg Nat.succ h2, fun i a t' h1 h2 => ?_⟩
    cases i with
    | zero =>
      cases h1
      cases h2
      exact hx
    | succ i => exact h3 i a t' h1 h2
theorem Dq.deeds {H : Hp} {v : V} {ds : List Deed} (h : Dq H v (.list (ds.map dD))) : ∃ l, v = .ref l ∧ DsAt H l ds := by
  cases h with
  | lst h1 h2 =>
    obtain ⟨as, rfl, h3, h4⟩ := dq_deeds h2
    exact ⟨_, rfl, as, h1, h3, h4⟩
/-- a script's shape that is right -/
def okS (ts : List Tk) (ds : List Deed) : Prop := okT ts ∧ ds.length ≤ 60 ∧ ∀ d ∈ ds, okD ts.length d
def scF (v u : V) : List (Str × V) := [("_tanks", v), ("_steps", u)]
section
variable {base : Heap} {mg : Str → Option Value} {K : PySem.W.Frag} {w : World} {P : Program} {C fI fT fS pT pS : Addr}
end
end V2


namespace V2
open PySem L2
open PySem.Spec PyProof.Rows
def CsAt (H : Hp) (l : Addr) (ns : List Int) : Prop := ∃ as : List Addr, H l = some (.lst (as.map V.ref)) ∧ as.length = ns.length ∧ ∀ (i : Nat) (a : Addr) (n : Int), as[i]? = some a → ns[i]? = some n → Li H a (cp n)
theorem CsAt.ex {H H' : Hp} {l : Addr} {ns : List Int} (h : CsAt H l ns) (e : Evl.Ex H H') : CsAt H' l ns := by
  obtain ⟨as, h1, h2, h3⟩ := h
  exact ⟨as, e _ _ h1, h2, fun i a t x y => e _ _ (h3 i a t x y)⟩
theorem CsAt.get {H : Hp} {l : Addr} {ns : List Int} (h : CsAt H l ns) {i : Nat} {n : Int} (hn : ns[i]? = some n) : ∃ (xs : List V) (a : Addr), H l = some (.lst xs) ∧ xs[i]? = some (.ref a) ∧ Li H a (cp n) := by
  obtain ⟨as, h1, h2, h3⟩ := h
  have hi : i < as.length := by
    have := (List.getElem?_eq_some_iff.mp hn).1
    omega
  have ha : as[i]? = some as[i] := List.getElem?_eq_getElem hi
  exact ⟨_, as[i], h1, by rw [List.getElem?_map, ha]; rfl, h3 i _ n ha hn⟩
/-- while the list at D is being made: i of them are there -/
def CsN (H : Hp) (D : Addr) (ns : List Int) (i : Nat) : Prop := ∃ as : List Addr, H D = some (.lst (as.map V.ref)) ∧ as.length = i ∧ ∀ (j : Nat) (a : Addr) (n : Int), as[j]? = some a → ns[j]? = some n → a ≠ D ∧ Li H a (cp n)
theorem CsN.start {H : Hp} {D : Addr} {ns : List Int} (h : H D = some (.lst [])) : CsN H D ns 0 := ⟨[], h, rfl, fun j a n h => by cases h⟩
theorem get_app {α : Type} {as : List α} {r a : α} {j : Nat} (h : (as ++ [r])[j]? = some a) : (as[j]? = some a ∧ j < as.length) ∨ (j = as.length ∧ a = r) := by
  by_cases hj : j < as.length
  · rw [List.getElem?_append_left hj] at h
    exact .inl ⟨h, hj⟩
  · rw [List.getElem?_append_right (by omega)] at h
    have h1 : j - as.length < 1 := (List.getElem?_eq_some_iff.mp h).1
    have h2 : j = as.length := by omega
    subst h2
    rw [Nat.sub_self] at h
    exact .inr ⟨rfl, (Option.some.inj h).symm⟩
/-- one more: r, which is no part of the list -/
theorem CsN.more {H2 H3 : Hp} {D r : Addr} {ns : List Int} {i : Nat} {n : Int} (h : CsN H2 D ns i) (e : Evl.Ex H2 H3) (hr : r ≠ D) (h3 : Li H3 r (cp n)) (hn : ns[i]? = some n) (hi : i ≤ 100) :
    ∃ acc, H3 D = some (.lst acc) ∧ acc.length < sizeLine ∧ CsN (upd H3 D (.lst (acc ++ [.ref r]))) D ns (i + 1) := by
  obtain ⟨as, h1, h2, h4⟩ := h
  refine ⟨_, e _ _ h1, ?_, as ++ [r], ?_, ?_, fun j a m ha hm => ?_⟩
  · rw [List.length_map, h2]
    exact Nat.lt_of_le_of_lt hi (by decide)
  · rw [upd_same, List.map_append]
    rfl
  · rw [List.length_append, h2]
    rfl
  · rcases get_app ha with ⟨h5, _⟩ | ⟨h5, rfl⟩
    · obtain ⟨n1, n2⟩ := h4 j a m h5 hm
      exact ⟨n1, Eq.trans (upd_ne n1) (e _ _ n2)⟩
    · rw [h5, h2, hn] at hm
      cases hm
      exact ⟨hr, Eq.trans (upd_ne hr) h3⟩
theorem CsN.done {H : Hp} {D : Addr} {ns : List Int} (h : CsN H D ns ns.length) : CsAt H D ns := by
  obtain ⟨as, h1, h2, h3⟩ := h
  exact ⟨as, h1, h2, fun i a n x y => (h3 i a n x y).2⟩
/-- the widths, times what is below in the told one -/
def wid (u b : Int) (t : Tk) : Int := match t.1 with
  | none => u
  | some z => z * b
section
variable {base : Heap} {mg : Str → Option Value} {K : PySem.W.Frag} {w : World} {P : Program}
end
end V2


namespace V2
open PySem L2
open PySem.Spec PyProof.Rows
def pick (ns : List Int) (ks : List Int) : List Int := ks.map fun k => ns.getD k.toNat 0
/-- numbers of less than n bits -/
def Bn (n : Nat) (x : Int) : Prop := x.natAbs < 2 ^ n
theorem Bn.le {n m : Nat} {x : Int} (h : Bn n x) (l : n ≤ m) : Bn m x := Nat.lt_of_lt_of_le h (Nat.pow_le_pow_right (by decide) l)
theorem Bn.mul {n m : Nat} {x y : Int} (h : Bn n x) (k : Bn m y) : Bn (n + m) (x * y) := wide_lt h k
theorem Bn.add {n : Nat} {x y : Int} (h : Bn n x) (k : Bn n y) : Bn (n + 1) (x + y) := by
  unfold Bn at *
  rw [Nat.pow_succ]
  omega
/-- water: the amounts A by W -/
structure Wat (H : Hp) (t : Addr) (A : List Int) (W : Int) : Prop where
  at_ : ∃ la lw, H t = some (.tup [.ref la, .ref lw]) ∧ CsAt H la A ∧ Li H lw [W]
  pos : 0 < W
theorem Wat.ex {H H' : Hp} {t : Addr} {A : List Int} {W : Int} (h : Wat H t A W) (e : Evl.Ex H H') : Wat H' t A W := by
  obtain ⟨⟨la, lw, h1, h2, h3⟩, p⟩ := h
  exact ⟨⟨la, lw, e _ _ h1, h2.ex e, e _ _ h3⟩, p⟩
section
variable {base : Heap} {mg : Str → Option Value} {K : PySem.W.Frag} {w : World} {P : Program}
end
end V2


namespace V2
open PySem L2
open PySem.Spec PyProof.Rows
/-- the amounts behind a valve -/
def openA (A ws ks : List Int) : List Int := (List.range A.length).map fun (k : Nat) => if (k : Int) ∈ ks then (pick A ks).sum * ws.getD k 0 else A.getD k 0 * (pick ws ks).sum
section
variable {base : Heap} {mg : Str → Option Value} {K : PySem.W.Frag} {w : World} {P : Program}
end
end V2


namespace V2
open PySem L2
open PySem.Spec PyProof.Rows
def pourA (A : List Int) (W k a : Int) : List Int := (List.range A.length).map fun (j : Nat) => if (j : Int) = k then A.getD j 0 + a * W else A.getD j 0
/-- an element of a list of constants is not the list -/
theorem cs_ne {H : Hp} {l a : Addr} {as : List Addr} {i : Nat} {n : Int} (hl : H l = some (.lst (as.map V.ref))) (ha : as[i]? = some a) (h : Li H a (cp n)) : a ≠ l := by
  intro z
  have h : H a = some (.lst (iV (cp n))) := h
  rw [z, hl] at h
  injection h with h
  injection h with h
  have h2 := congrArg (fun x => x[i]?) h
  simp only [List.getElem?_map, ha] at h2
  have h2 : some (V.ref a) = (iV (cp n))[i]? := h2
  unfold iV at h2
  rw [List.getElem?_map] at h2
  cases e : (cp n)[i]? with
  | none =>
    rw [e] at h2
    cases h2
  | some x =>
    rw [e] at h2
    cases h2
section
variable {base : Heap} {mg : Str → Option Value} {K : PySem.W.Frag} {w : World} {P : Program}
end
end V2


namespace V2
open PySem L2
open PySem.Spec PyProof.Rows
/-- the amounts when p of q of tank k are taken, put into the tank o -/
def takeA (A : List Int) (k p q : Int) (o : Option Int) : List Int :=
  let B := (A.map (· * q)).set k.toNat (A.getD k.toNat 0 * (q - p))
  match o with
  | none => B
  | some m => B.set m.toNat (B.getD m.toNat 0 + A.getD k.toNat 0 * p)
section
variable {base : Heap} {mg : Str → Option Value} {K : PySem.W.Frag} {w : World} {P : Program}
end
end V2


namespace V2
open PySem L2
open PySem.Spec PyProof.Rows
/-- what a step does -/
def stepA (ws : List Int) (S : List Int × Int) : Deed → List Int × Int
  | .op ks => (openA S.1 ws ks, S.2 * (pick ws ks).sum)
  | .po k a => (pourA S.1 S.2 k a, S.2)
  | .sc k p q => (takeA S.1 k p q none, S.2 * q)
  | .mv k m p q => (takeA S.1 k p q (some m), S.2 * q)
  | .un _ _ => S
/-- the state of the water: amounts from 0 on, of at most N bits -/
structure OkW (N : Nat) (A : List Int) (W : Int) : Prop where
  nn : ∀ x ∈ A, 0 ≤ x
  bA : ∀ x ∈ A, Bn N x
  bW : Bn N W
  pos : 0 < W
def FmAt (H : Hp) (l : Addr) (fs : List (Int × Int)) : Prop := ∃ as : List Addr, H l = some (.lst (as.map V.ref)) ∧ as.length = fs.length ∧ ∀ (i : Nat) (a : Addr) (f : Int × Int), as[i]? = some a → fs[i]? = some f → ∃ x y, H a = some (.tup [.ref x, .ref y]) ∧ Li H x (cp f.1) ∧ Li H y [f.2]
section
variable {base : Heap} {mg : Str → Option Value} {K : PySem.W.Frag} {w : World} {P : Program}
end
end V2


namespace V2
open PySem L2
open PySem.Spec PyProof.Rows
/-- while the list of forms at D is being made -/
def FmN (H : Hp) (D : Addr) (fs : List (Int × Int)) (i : Nat) : Prop := ∃ as : List Addr, H D = some (.lst (as.map V.ref)) ∧ as.length = i ∧ ∀ (j : Nat) (a : Addr) (f : Int × Int), as[j]? = some a → fs[j]? = some f → ∃ x y, a ≠ D ∧ x ≠ D ∧ y ≠ D ∧ H a = some (.tup [.ref x, .ref y]) ∧ Li H x (cp f.1) ∧ Li H y [f.2]
theorem FmN.start {H : Hp} {D : Addr} {fs : List (Int × Int)} (h : H D = some (.lst [])) : FmN H D fs 0 := ⟨[], h, rfl, fun j a n h => by cases h⟩
theorem FmN.more {H2 H3 : Hp} {D r x y : Addr} {fs : List (Int × Int)} {i : Nat} {f : Int × Int} (h : FmN H2 D fs i) (e : Evl.Ex H2 H3) (hx : x ≠ D) (hy : y ≠ D) (hr : H3 r = some (.tup [.ref x, .ref y])) (h3 : Li H3 x (cp f.1)) (h4 : Li H3 y [f.2]) (hn : fs[i]? = some f) (hi : i ≤ 100) :
    ∃ acc, H3 D = some (.lst acc) ∧ acc.length < sizeLine ∧ FmN (upd H3 D (.lst (acc ++ [.ref r]))) D fs (i + 1) := by
  obtain ⟨as, h1, h2, h5⟩ := h
  have h1' := e _ _ h1
  have rD : r ≠ D := ne_of hr h1' (fun z => by cases z)
  refine ⟨_, h1', ?_, as ++ [r], ?_, ?_, fun j a m ha hm => ?_⟩
  · rw [List.length_map, h2]
    exact Nat.lt_of_le_of_lt hi (by decide)
  · rw [upd_same, List.map_append]
    rfl
  · rw [List.length_append, h2]
    rfl
  · rcases get_app ha with ⟨h6, _⟩ | ⟨h6, rfl⟩
    · obtain ⟨x', y', n1, n2, n3, g1, g2, g3⟩ := h5 j a m h6 hm
      exact ⟨x', y', n1, n2, n3, by rw [upd_ne n1]; exact e _ _ g1, Eq.trans (upd_ne n2) (e _ _ g2), Eq.trans (upd_ne n3) (e _ _ g3)⟩
    · rw [h6, h2, hn] at hm
      cases hm
      exact ⟨x, y, rD, hx, hy, by rw [upd_ne rD]; exact hr, Eq.trans (upd_ne hx) h3, Eq.trans (upd_ne hy) h4⟩
theorem FmN.done {H : Hp} {D : Addr} {fs : List (Int × Int)} (h : FmN H D fs fs.length) : FmAt H D fs := by
  obtain ⟨as, h1, h2, h3⟩ := h
  exact ⟨as, h1, h2, fun i a f x y => let ⟨u, v, _, _, _, g⟩ := h3 i a f x y; ⟨u, v, g⟩⟩
section
variable {base : Heap} {mg : Str → Option Value} {K : PySem.W.Frag} {w : World} {P : Program}
end
end V2


namespace V2
open PySem L2
/-- behind all steps -/
def runA (ws : List Int) (S : List Int × Int) (ds : List Deed) : List Int × Int := ds.foldl (stepA ws) S
end V2


namespace V2
open PySem L2
open PySem.Spec PyProof.Rows
/-- pairs of ints that stand in a list, as tuples -/
def PrAt (H : Hp) (l : Addr) (fs : List (Int × Int)) : Prop := ∃ as : List Addr, H l = some (.lst (as.map V.ref)) ∧ as.length = fs.length ∧ ∀ (i : Nat) (a : Addr) (f : Int × Int), as[i]? = some a → fs[i]? = some f → Fr H a f.1 f.2
theorem PrAt.ex {H H' : Hp} {l : Addr} {fs : List (Int × Int)} (h : PrAt H l fs) (e : Evl.Ex H H') : PrAt H' l fs := by
  obtain ⟨as, h1, h2, h3⟩ := h
  exact ⟨as, e _ _ h1, h2, fun i a t x y => e _ _ (h3 i a t x y)⟩
/-- whether a step ends the script -/
def endB (ws : List Int) (A : List Int) : Deed → Bool
  | .un j m => decide (A.getD m.toNat 0 * ws.getD j.toNat 0 < A.getD j.toNat 0 * ws.getD m.toNat 0)
  | _ => false
section
variable {base : Heap} {mg : Str → Option Value} {K : PySem.W.Frag} {w : World} {P : Program}
end
end V2


namespace V2
open PySem L2
open PySem.Spec PyProof.Rows
/-- all but what stands at ps -/
def woL (ps : List Addr) (H : Hp) : Hp := fun b => if b ∈ ps then none else H b
theorem woL_ex {ps : List Addr} {H : Hp} : Evl.Ex (woL ps H) H := fun b o h => by
  unfold woL at h
  split at h
  · cases h
  · exact h
theorem woL_at {ps : List Addr} {b : Addr} {H : Hp} {o : HO} (n : b ∉ ps) (h : H b = some o) : woL ps H b = some o := by
  unfold woL
  rw [if_neg n]
  exact h
theorem woL_ne {ps : List Addr} {b : Addr} {H : Hp} {o : HO} (h : woL ps H b = some o) : b ∉ ps := fun z => by
  unfold woL at h
  rw [if_pos z] at h
  cases h
def ButL (ps : List Addr) (H H' : Hp) : Prop := ∀ b o, b ∉ ps → H b = some o → H' b = some o
theorem ButL.wo {ps qs : List Addr} {H H' : Hp} (h : ButL ps H H') (s : ∀ p ∈ ps, p ∈ qs) : Evl.Ex (woL qs H) (woL qs H') := fun b o z => woL_at (woL_ne z) (h b o (fun q => woL_ne z (s b q)) (woL_ex _ _ z))
theorem ButL.trans {ps : List Addr} {H H1 H2 : Hp} (a : ButL ps H H1) (b : ButL ps H1 H2) : ButL ps H H2 := fun c o n h => b c o n (a c o n h)
theorem ButL.of_ex {ps : List Addr} {H H' : Hp} (e : Evl.Ex H H') : ButL ps H H' := fun b o _ h => e b o h
theorem ButL.of_but {ps : List Addr} {p : Addr} {H H' : Hp} (h : But p H H') (m : p ∈ ps) : ButL ps H H' := fun b o n z => h b o (fun q => n (q ▸ m)) z
theorem ButL.mono {ps qs : List Addr} {H H' : Hp} (h : ButL ps H H') (s : ∀ p ∈ ps, p ∈ qs) : ButL qs H H' := fun b o n z => h b o (fun q => n (s b q)) z
/-- objects that are no part of water, widths or told widths -/
def Odd (H : Hp) (p : Addr) : Prop := (∃ ns : List Int, 2 ≤ ns.length ∧ H p = some (.lst (iV ns))) ∨ (∃ C dx fs, H p = some (.ins C dx fs)) ∨ ∃ ys c zs, H p = some (.lst (ys ++ [.ref c])) ∧ H c = some (.tup zs)
theorem Odd.get {H : Hp} {p : Addr} (k : Odd H p) : ∃ o, H p = some o := by
  rcases k with ⟨ns, n2, k⟩ | ⟨C, dx, fs, k⟩ | ⟨ys, c, zs, k, _⟩
  · exact ⟨_, k⟩
  · exact ⟨_, k⟩
  · exact ⟨_, k⟩
theorem Odd.ex {H H' : Hp} {p : Addr} (k : Odd H p) (e : Evl.Ex H H') : Odd H' p := by
  rcases k with ⟨ns, n2, k⟩ | ⟨C, dx, fs, k⟩ | ⟨ys, c, zs, k, k2⟩
  · exact .inl ⟨ns, n2, e _ _ k⟩
  · exact .inr (.inl ⟨_, _, _, e _ _ k⟩)
  · exact .inr (.inr ⟨_, _, _, e _ _ k, e _ _ k2⟩)
theorem Odd.but {H H' : Hp} {p x C dx : Addr} {fs : List (Str × V)} (k : Odd H p) (hx : H x = some (.ins C dx fs)) (b : But x H H') (n : p ≠ x) : Odd H' p := by
  rcases k with ⟨ns, n2, k⟩ | ⟨C, dx, fs, k⟩ | ⟨ys, c, zs, k, k2⟩
  · exact .inl ⟨ns, n2, b _ _ n k⟩
  · exact .inr (.inl ⟨_, _, _, b _ _ n k⟩)
  · exact .inr (.inr ⟨_, _, _, b _ _ n k, b _ _ (fun z => by rw [z, hx] at k2; cases k2) k2⟩)
theorem Odd.tup {H : Hp} {p q : Addr} {xs : List V} (k : Odd H p) (h : H q = some (.tup xs)) : q ≠ p := fun z => by
  rcases k with ⟨ns', n2, k⟩ | ⟨C, dx, fs, k⟩ | ⟨ys, c, zs, k, _⟩
  · rw [z, k] at h; cases h
  · rw [z, k] at h; cases h
  · rw [z, k] at h; cases h
theorem Odd.ints {H : Hp} {p q : Addr} {ns : List Int} (k : Odd H p) (h : Li H q ns) (l : ns.length ≤ 1) : q ≠ p := fun z => by
  have h : H q = some (.lst (iV ns)) := h
  rcases k with ⟨ns', n2, k⟩ | ⟨C, dx, fs, k⟩ | ⟨ys, c, zs, k, _⟩
  · rw [z, k] at h
    injection h with h
    injection h with h
    have := congrArg List.length h
    rw [iV_len, iV_len] at this
    omega
  · rw [z, k] at h; cases h
  · rw [z, k] at h
    injection h with h
    injection h with h
    have m : V.ref c ∈ iV ns := h ▸ List.mem_append_right _ (List.mem_singleton.mpr rfl)
    unfold iV at m
    obtain ⟨n, _, e⟩ := List.mem_map.mp m
    cases e
theorem Odd.cs {H : Hp} {p l : Addr} {ns : List Int} (k : Odd H p) (h : CsAt H l ns) : l ≠ p := fun z => by
  obtain ⟨as, h1, h2, h3⟩ := h
  rcases k with ⟨ns', n2, k⟩ | ⟨C, dx, fs, k⟩ | ⟨ys, c, zs, k, k2⟩
  · rw [z, k] at h1
    injection h1 with h1
    injection h1 with h1
    cases ns' with
    | nil => exact absurd n2 (by decide)
    | cons n r =>
      cases as with
      | nil => cases h1
      | cons x r => cases h1
  · rw [z, k] at h1; cases h1
  · rw [z, k] at h1
    injection h1 with h1
    injection h1 with h1
    have e : as.length = ys.length + 1 := by
      have := congrArg List.length h1
      rw [List.length_append, List.length_map] at this
      exact this.symm
    have ha : as[ys.length]? = some c := by
      have q : (as.map V.ref)[ys.length]? = some (.ref c) := by
        rw [← h1, List.getElem?_append_right (Nat.le_refl _), Nat.sub_self]
        rfl
      rw [List.getElem?_map] at q
      cases e2 : as[ys.length]? with
      | none =>
        rw [e2] at q
        cases q
      | some a =>
        rw [e2] at q
        injection q with q
        injection q with q
        rw [q]
    have hl : ys.length < ns.length := by omega
    have := h3 ys.length c _ ha (List.getElem?_eq_getElem hl)
    have this : H c = some (.lst _) := this
    rw [k2] at this
    cases this
def spCw : Sp := fun vs H Q _ => ∃ (a : Addr) (u b : Int), vs = [.ref a] ∧ Fr H a u b ∧ Qn u b ∧ 0 < u ∧ Evl.RetV .non H Q
def bnF (lq g lw ls lt : Addr) (v : V) : List (Str × V) := [("_tanks", .ref lq), ("_width", .ref g), ("_widths", .ref lw), ("_steps", .ref ls), ("_waters", .ref lt), ("_ended", v)]
/-- the parts of a bench that stay as they are: tanks, widths, the water (now and ahead of each step), the steps -/
structure BnP (H : Hp) (lq g lw t : Addr) (ts : List Tk) (A ws : List Int) (W u b : Int) (as bs : List Addr) (ds : List Deed) (S : List (List Int × Int)) : Prop where
  q : TksAt H lq ts
  f : Fr H g u b
  c : CsAt H lw ws
  w : Wat H t A W
  d : ∀ (i : Nat) (a : Addr) (d : Deed), as[i]? = some a → ds[i]? = some d → DAt H a d
  ww : ∀ (i : Nat) (a : Addr) (s : List Int × Int), bs[i]? = some a → S[i]? = some s → Wat H a s.1 s.2
theorem BnP.ex {H H' : Hp} {lq g lw t : Addr} {ts : List Tk} {A ws : List Int} {W u b : Int} {as bs : List Addr} {ds : List Deed} {S : List (List Int × Int)} (h : BnP H lq g lw t ts A ws W u b as bs ds S) (e : Evl.Ex H H') : BnP H' lq g lw t ts A ws W u b as bs ds S :=
  ⟨h.q.ex e, e _ _ h.f, h.c.ex e, h.w.ex e, fun i a d x y => (h.d i a d x y).ex e, fun i a s x y => (h.ww i a s x y).ex e⟩
/-- a bench with the lists that it changes; s: the sack; ds: its steps; S: the water ahead of each; A by W: the water now -/
structure BnAt (C s : Addr) (H : Hp) (x ls lt : Addr) (ts : List Tk) (ds : List Deed) (S : List (List Int × Int)) (A ws : List Int) (W u b : Int) (v : V) : Prop where
  ex : ∃ (dx lq g lw t : Addr) (as bs : List Addr), H x = some (.ins C dx (bnF lq g lw ls lt v)) ∧ H ls = some (.lst (as.map V.ref)) ∧ as.length = ds.length ∧ H lt = some (.lst (bs.map V.ref ++ [.ref t])) ∧ bs.length = S.length ∧ BnP (woL [s, x, ls, lt] H) lq g lw t ts A ws W u b as bs ds S
  ne : ls ≠ lt ∧ ls ≠ s ∧ lt ≠ s ∧ x ≠ s
  nv : v = .non ∨ ∃ i, v = .int i
  len : S.length = ds.length
theorem BnAt.sep {C s : Addr} {H : Hp} {x ls lt : Addr} {ts : List Tk} {ds : List Deed} {S : List (List Int × Int)} {A ws : List Int} {W u b : Int} {v : V} (h : BnAt C s H x ls lt ts ds S A ws W u b v) {H' : Hp} (e : Evl.Ex (woL [s] H) (woL [s] H')) : BnAt C s H' x ls lt ts ds S A ws W u b v := by
  obtain ⟨⟨dx, lq, g, lw, t, as, bs, h1, h2, h3, h4, h5, h6⟩, ⟨n1, n2, n3, n4⟩, nv, ln⟩ := h
  have w : ∀ {p : Addr} {o : HO}, p ≠ s → H p = some o → H' p = some o := fun hn hp => woL_ex _ _ (e _ _ (woL_at (fun z => hn (List.mem_singleton.mp z)) hp))
  refine ⟨⟨dx, lq, g, lw, t, as, bs, w n4 h1, w n2 h2, h3, w n3 h4, h5, h6.ex fun p o z => ?_⟩, ⟨n1, n2, n3, n4⟩, nv, ln⟩
  have nm := woL_ne z
  exact woL_at nm (w (fun q => nm (q ▸ List.mem_cons_self)) (woL_ex _ _ z))
theorem BnAt.go {C s : Addr} {H : Hp} {x ls lt : Addr} {ts : List Tk} {ds : List Deed} {S : List (List Int × Int)} {A ws : List Int} {W u b : Int} {v : V} (h : BnAt C s H x ls lt ts ds S A ws W u b v) {H' : Hp} (e : Evl.Ex H H') : BnAt C s H' x ls lt ts ds S A ws W u b v := h.sep fun p o z => woL_at (woL_ne z) (e _ _ (woL_ex _ _ z))
theorem TksAt.dq {H : Hp} {l : Addr} {ts : List Tk} (h : TksAt H l ts) : Dq H (.ref l) (.list (ts.map tkD)) := by
  obtain ⟨as, h1, h2, h3⟩ := h
  refine .lst h1 ?_
  have go : ∀ (as : List Addr) (ts : List Tk), as.length = ts.length → (∀ (i : Nat) (a : Addr) (t : Tk), as[i]? = some a → ts[i]? = some t → H a = some (.tup [wV t.1, .int t.2])) → DqAll H (as.map V.ref) (ts.map tkD) := by
    intro as
    induction as with
    | nil =>
      intro ts hl _
      cases ts with
      | nil => exact .nil
      | cons t r => cases hl
    | cons a r ih =>
      intro ts hl hi
      cases ts with
      | nil => cases hl
      | cons t q =>
        refine .cons (.tup (hi 0 a t rfl rfl) (.cons ?_ (.cons (.int _) .nil))) (ih q (by simpa using hl) fun i a' t' h1 h2 => hi (i + 1) a' t' h1 h2)
        cases t.1 with
        | none => exact .non
        | some z => exact .int z
  exact go as ts h2 h3
theorem TksAt.but {H H' : Hp} {x l : Addr} {ts : List Tk} {C dx : Addr} {fs : List (Str × V)} (h : TksAt H l ts) (hx : H x = some (.ins C dx fs)) (b : But x H H') : TksAt H' l ts := by
  obtain ⟨as, h1, h2, h3⟩ := h
  have w : ∀ {p : Addr} {o : HO}, H p = some o → DObj o → H' p = some o := fun hp hd => keep_ins hx b _ _ hd hp
  exact ⟨as, w h1 trivial, h2, fun i a t y z => w (h3 i a t y z) trivial⟩
theorem OkW.le {N M : Nat} {A : List Int} {W : Int} (h : OkW N A W) (l : N ≤ M) : OkW M A W := ⟨h.nn, fun x hx => (h.bA x hx).le l, h.bW.le l, h.pos⟩
theorem dqi {H : Hp} : ∀ ns : List Int, DqAll H (iV ns) (ns.map .int)
  | [] => .nil
  | n :: ns => .cons (.int _) (dqi ns)
theorem dat_dq {H : Hp} {a : Addr} {d : Deed} (h : DAt H a d) : Dq H (.ref a) (dD d) := by
  cases d with
  | op ks =>
    obtain ⟨l, h1, h2⟩ := h
    exact .tup h1 (.cons (.str _) (.cons (.lst h2 (dqi ks)) .nil))
  | po k x => exact .tup h (.cons (.str _) (.cons (.int _) (.cons (.int _) .nil)))
  | sc k p q =>
    obtain ⟨l, h1, h2⟩ := h
    exact .tup h1 (.cons (.str _) (.cons (.int _) (.cons (.tup h2 (.cons (.int _) (.cons (.int _) .nil))) .nil)))
  | mv k m p q =>
    obtain ⟨l, h1, h2⟩ := h
    exact .tup h1 (.cons (.str _) (.cons (.int _) (.cons (.int _) (.cons (.tup h2 (.cons (.int _) (.cons (.int _) .nil))) .nil))))
  | un k m => exact .tup h (.cons (.str _) (.cons (.int _) (.cons (.int _) .nil)))
theorem at_last (ys : List V) (t : V) : atI (ys ++ [t]) (-1) = some t := by
  unfold atI ixN
  rw [if_neg (by decide), if_pos (by rw [List.length_append]; show -(((ys.length + 1 : Nat)) : Int) ≤ -1; omega)]
  show (ys ++ [t])[(-1 + ((ys ++ [t]).length : Int)).toNat]? = some t
  rw [List.length_append, show (-1 + ((ys.length + [t].length : Nat) : Int)).toNat = ys.length by show (-1 + ((ys.length + 1 : Nat) : Int)).toNat = ys.length; omega, List.getElem?_append_right (Nat.le_refl _), Nat.sub_self]
  rfl
section
variable {base : Heap} {mg : Str → Option Value} {K : PySem.W.Frag} {w : World} {P : Program} {C fI fC fL fW fE pE : Addr}
theorem ok_check_width {f : Addr} {fd : FuncData} (F : Fun K "check_width" "check_width" s_check_width f fd) (cF : Cal P w K mg base 2 "is_fraction" p_is_fraction spIsFr) : FnOk P w K mg base CX0 3 f fd p_check_width spCw := by
  refine F.ok sc_check_width (fun vs H Q E h => ?_) (fun cdv A outer s H vs Q E hr h => ?_)
  · obtain ⟨a, u, b, rfl, _⟩ := h
    rfl
  · obtain ⟨a, u, b, rfl, ha, hQ, hu, k⟩ := h
    refine ⟨_, pss_one (ps_if (PW.pt (pw_or (pt_not (pt_val (pe_c cF hr (pa_cons (pv 0) pa_nil)))) (pw_or1 (pt_cmpR op_le (pe_ix ix_tup (pv 0) pe_int (fun _ _ => rfl)) pe_int (nomark _))))) (pss_one ps_never) pss_nil), ?_⟩
    refine ⟨_, rfl, a, u, b, rfl, ha, hQ, fun H1 e1 => ⟨true, rfl, if_f rfl ?_⟩⟩
    exact ⟨_, rfl, a, _, _, _, rfl, rfl, SqT.of (e1 _ _ ha), rfl, _, _, rfl, rfl, _, rfl, if_f (decide_eq_false (by omega)) (k _ e1)⟩
end
end V2


namespace V2
open PySem L2
open PySem.Spec PyProof.Rows
def spFp (g : Int → Int → Int → Int → Int × Int) : Sp := fun vs H Q _ => ∃ (a b : Addr) (p q x y : Int), vs = [.ref a, .ref b] ∧ Fr H a p q ∧ Fr H b x y ∧ 0 < q ∧ 0 < y ∧ Bn 4400 p ∧ Bn 4400 q ∧ Bn 4400 x ∧ Bn 4400 y ∧ RetU [.int (g p q x y).1, .int (g p q x y).2] H Q
theorem n200e : (2 : Nat) ^ 200 = 1606938044258990275541962092341162602522202993782792835301376 := by decide
/-- all but the object at p -/
def wo (p : Addr) (H : Hp) : Hp := fun b => if b = p then none else H b
theorem wo_ex {p : Addr} {H : Hp} : Evl.Ex (wo p H) H := fun b o h => by
  unfold wo at h
  split at h
  · cases h
  · exact h
theorem wo_at {p b : Addr} {H : Hp} {o : HO} (n : b ≠ p) (h : H b = some o) : wo p H b = some o := by
  unfold wo
  rw [if_neg n]
  exact h
theorem wo_ne {p b : Addr} {H : Hp} {o : HO} (h : wo p H b = some o) : b ≠ p := fun z => by
  unfold wo at h
  rw [if_pos z] at h
  cases h
theorem But.wo {p : Addr} {H H' : Hp} (h : But p H H') : Evl.Ex (wo p H) (V2.wo p H') := fun b o z => wo_at (wo_ne z) (h b o (wo_ne z) (wo_ex _ _ z))
theorem but_none {p q : Addr} {H H' : Hp} {n : Nat} (b : But p H H') (s : Sk H' p n) (h : H' q = none) : H q = none := by
  cases e : H q with
  | none => rfl
  | some o =>
    have h1 := b q o (sk_ne s h) e
    rw [h] at h1
    cases h1
theorem Sk.upd {H : Hp} {p l : Addr} {n : Nat} {o : HO} (s : Sk H p n) (h : l ≠ p) : Sk (L2.upd H l o) p n := by
  obtain ⟨a, b, c, h1, h2⟩ := s
  exact ⟨a, b, c, by rw [upd_ne h.symm]; exact h1, h2⟩
theorem ne_of_none' {H : Hp} {c l : Addr} {o : HO} (h : H c = some o) (hl : H l = none) : c ≠ l := fun z => by
  rw [z, hl] at h
  cases h
section
variable {base : Heap} {mg : Str → Option Value} {K : PySem.W.Frag} {w : World} {P : Program}
end
end V2


namespace V2
open PySem L2
open PySem.Spec PyProof.Rows
/-- numbers below i that are drawn: f and s are among them -/
structure AscI (f s : Int) (ks : List Int) (i : Nat) : Prop where
  asc : ∀ (j : Nat) (x y : Int), ks[j]? = some x → ks[j + 1]? = some y → x < y
  bd : ∀ x ∈ ks, 0 ≤ x ∧ x < (i : Int)
  hf : 0 ≤ f → f < (i : Int) → f ∈ ks
  hs : 0 ≤ s → s < (i : Int) → s ∈ ks
  len : ks.length ≤ i
theorem AscI.start (f s : Int) : AscI f s [] 0 := ⟨fun _ _ _ h => (by cases h), fun _ h => (by cases h), fun h h' => by omega, fun h h' => by omega, Nat.le_refl _⟩
theorem AscI.more {f s : Int} {ks : List Int} {i : Nat} (h : AscI f s ks i) : AscI f s (ks ++ [(i : Int)]) (i + 1) := by
  refine ⟨fun j x y hx hy => ?_, fun x hx => ?_, fun h0 h1 => ?_, fun h0 h1 => ?_, by rw [List.length_append]; exact Nat.succ_le_succ h.len⟩
  · rcases get_app hy with ⟨h1, h2⟩ | ⟨h1, rfl⟩
    · rcases get_app hx with ⟨h3, _⟩ | ⟨h3, _⟩
      · exact h.asc j x y h3 h1
      · omega
    · rcases get_app hx with ⟨h3, _⟩ | ⟨h3, _⟩
      · exact (h.bd x (List.mem_of_getElem? h3)).2
      · omega
  · rcases List.mem_append.mp hx with h1 | h1
    · have := h.bd x h1
      omega
    · have := List.mem_singleton.mp h1
      omega
  · by_cases c : f < (i : Int)
    · exact List.mem_append_left _ (h.hf h0 c)
    · exact List.mem_append_right _ (List.mem_singleton.mpr (by omega))
  · by_cases c : s < (i : Int)
    · exact List.mem_append_left _ (h.hs h0 c)
    · exact List.mem_append_right _ (List.mem_singleton.mpr (by omega))
section
variable {base : Heap} {mg : Str → Option Value} {K : PySem.W.Frag} {w : World} {P : Program}
end
end V2


namespace V2
open PySem L2
open PySem.Spec PyProof.Rows
theorem atI_mem {xs : List V} {r : Int} (h0 : 0 ≤ r) (h1 : r < xs.length) : ∃ v, v ∈ xs ∧ atI xs r = some v := by
  obtain ⟨j, rfl⟩ : ∃ j : Nat, r = (j : Int) := ⟨r.toNat, by omega⟩
  have hj : j < xs.length := by omega
  exact ⟨xs[j], List.getElem_mem hj, atI_nat (List.getElem?_eq_getElem hj)⟩
/-- [a, b, ..][coin(sack, many)] -/
theorem pick_read {K : PySem.W.Frag} {σ : L2.St} {H : Hp} {Q : VK} {t : TA} {xs : List V} {s : Addr} {n : Nat} {m : Int} (hm : m = (xs.length : Int)) (h0 : 0 < xs.length) (hl : xs.length ≤ 100) (i0 : σ[0]? = some (some (.ref s))) (hS : Sk H s n) (hn : n ≤ 99990)
    (ht : ∀ (H' : Hp) (Q' : List V → Hp → Prop), Q' xs H' → t σ H' Q') (k : ∀ (v : V) (H' : Hp), v ∈ xs → But s H H' → Sk H' s (n + 1) → Q v H') :
    tOp (rIxL K) (tLst t) (tCall spCoin [] E0 (tCons (tVar 0) (tCons (tC (.int m)) tNil))) σ H Q := by
  refine ht _ _ ⟨Nat.le_trans hl (by decide), fun p hp => ⟨_, i0, s, m, n, rfl, hS.ex (Evl.Ex.new hp), by omega, by omega, ?_, fun r H' r0 r1 b s' z => ?_⟩⟩
  · rw [n200e]
    omega
  · obtain ⟨v, hv, e⟩ := atI_mem (xs := xs) r0 (by omega)
    exact ⟨p, xs, r, v, rfl, rfl, SqL.of (b _ _ (sk_ne hS hp) upd_same), e, k v H' hv ((But.of_ex (Evl.Ex.new hp)).trans b) s'⟩
theorem dat_keep {H H' : Hp} {a l : Addr} {d : Deed} {n : Int} {as : List Addr} (h : DAt H a d) (hd : okD n d) (hl : H l = some (.lst (as.map V.ref))) (e : ∀ b o, b ≠ l → H b = some o → H' b = some o) : DAt H' a d := by
  have ne : ∀ {a : Addr} {xs : List V}, H a = some (.tup xs) → a ≠ l := fun h z => by
    rw [z, hl] at h
    cases h
  cases d with
  | op ks =>
    obtain ⟨q, h1, h2⟩ := h
    refine ⟨q, e _ _ (ne h1) h1, e _ _ (fun z => ?_) h2⟩
    have h2 : H q = some (.lst (iV ks)) := h2
    rw [z, hl] at h2
    have h3 : as.map V.ref = iV ks := by
      injection h2 with h2
      injection h2
    have h4 : 2 ≤ ks.length := hd.1
    match ks, as, h3, h4 with
    | k :: ks, a :: as, h3, _ =>
      unfold iV at h3
      rw [List.map_cons, List.map_cons] at h3
      injection h3 with h3 _
      cases h3
    | k :: ks, [], h3, _ => cases h3
    | [], _, _, h4 => exact absurd h4 (by decide)
  | po k x => exact e _ _ (ne h) h
  | sc k p q =>
    obtain ⟨f, h1, h2⟩ := h
    exact ⟨f, e _ _ (ne h1) h1, e _ _ (ne h2) h2⟩
  | mv k m p q =>
    obtain ⟨f, h1, h2⟩ := h
    exact ⟨f, e _ _ (ne h1) h1, e _ _ (ne h2) h2⟩
  | un k m => exact e _ _ (ne h) h
theorem ds_more {G G' : Hp} {l t : Addr} {ds : List Deed} {d : Deed} {n : Int} (h : DsAt G l ds) (hds : ∀ d ∈ ds, okD n d) (ht : DAt G t d) (hd : okD n d) (e : ∀ b o, b ≠ l → G b = some o → G' b = some o) (e' : ∀ acc, G l = some (.lst acc) → G' l = some (.lst (acc ++ [.ref t]))) : DsAt G' l (ds ++ [d]) := by
  obtain ⟨as, h1, h2, h3⟩ := h
  refine ⟨as ++ [t], ?_, by rw [List.length_append, List.length_append, h2]; rfl, fun i a y ha hy => ?_⟩
  · rw [List.map_append]
    exact e' _ h1
  · rcases get_app ha with ⟨h4, h5⟩ | ⟨h4, rfl⟩
    · rcases get_app hy with ⟨h6, _⟩ | ⟨h6, _⟩
      · exact dat_keep (h3 i a y h4 h6) (hds y (List.mem_of_getElem? h6)) h1 e
      · omega
    · rcases get_app hy with ⟨h6, h7⟩ | ⟨_, rfl⟩
      · omega
      · exact dat_keep ht hd h1 e
theorem ds_list {G : Hp} {l : Addr} {ds : List Deed} (h : DsAt G l ds) : ∃ acc, G l = some (.lst acc) ∧ acc.length = ds.length := by
  obtain ⟨as, h1, h2, h3⟩ := h
  exact ⟨_, h1, by rw [List.length_map]; exact h2⟩
theorem wo_upd {p l : Addr} {H : Hp} {x : HO} : ∀ b o, b ≠ l → wo p H b = some o → wo p (upd H l x) b = some o := fun b o nb h => wo_at (wo_ne h) (Eq.trans (upd_ne nb) (wo_ex _ _ h))
theorem wo_app {p l t : Addr} {H : Hp} {acc0 : List V} (h : H l = some (.lst acc0)) : ∀ acc, wo p H l = some (.lst acc) → wo p (upd H l (.lst (acc0 ++ [.ref t]))) l = some (.lst (acc ++ [.ref t])) := fun acc h' => by
  have e := wo_ex _ _ h'
  rw [h] at e
  injection e with e
  injection e with e
  rw [← e]
  exact wo_at (wo_ne h') upd_same
theorem nw_wo {p : Addr} {H H' : Hp} {n : Nat} (s : Sk H p n) : Evl.Ex (Nw H H') (wo p H') := fun b o h => wo_at (fun z => by
  rw [z] at h
  obtain ⟨o', h'⟩ := sk_some s
  rw [nw_none h] at h'
  cases h') (Nw.ex _ _ h)
theorem tks_keep {H H' : Hp} {l v : Addr} {ts : List Tk} {xs : List V} (h : TksAt H v ts) (hl : H l = some (.lst xs)) (n : v ≠ l) (e : ∀ b o, b ≠ l → H b = some o → H' b = some o) : TksAt H' v ts := by
  obtain ⟨as, h1, h2, h3⟩ := h
  exact ⟨as, e _ _ n h1, h2, fun i a t x y => e _ _ (fun z => by rw [← z, h3 i a t x y] at hl; cases hl) (h3 i a t x y)⟩
theorem ex_wo {p : Addr} {G G' : Hp} (e : Evl.Ex G G') : Evl.Ex (wo p G) (wo p G') := fun b o h => wo_at (wo_ne h) (e _ _ (wo_ex _ _ h))
theorem wo_upd2 {q p l : Addr} {H : Hp} {x : HO} : ∀ b o, b ≠ l → wo q (wo p H) b = some o → wo q (wo p (upd H l x)) b = some o := fun b o nb h => wo_at (wo_ne h) (wo_upd b o nb (wo_ex _ _ h))
theorem wo_app2 {q p l t : Addr} {H : Hp} {acc0 : List V} (h : H l = some (.lst acc0)) : ∀ acc, wo q (wo p H) l = some (.lst acc) → wo q (wo p (upd H l (.lst (acc0 ++ [.ref t])))) l = some (.lst (acc ++ [.ref t])) := fun acc h' => wo_at (wo_ne h') (wo_app h acc (wo_ex _ _ h'))
theorem dat_keep' {G G' : Hp} {t l : Addr} {d : Deed} {ds : List Deed} {n : Int} (h : DAt G t d) (hd : okD n d) (hl : DsAt G l ds) (e : ∀ b o, b ≠ l → G b = some o → G' b = some o) : DAt G' t d := by
  obtain ⟨as, h1, _⟩ := hl
  exact dat_keep h hd h1 e
theorem sIx_pos {n d k : Nat} : HT.sIx n d (some (k : Int)) = min k n := by
  unfold HT.sIx
  simp
  first
    | done
    | omega
    | (split <;> omega)
theorem cut_min (xs : List V) (k : Nat) : cutV xs none (some (k : Int)) = xs.take k := by
  by_cases h : k ≤ xs.length
  · exact cut_to xs h
  · rw [List.take_of_length_le (by omega)]
    unfold cutV
    rw [sIx_pos]
    have e : HT.sIx xs.length 0 none = 0 := rfl
    rw [e, List.drop_zero, Nat.min_eq_right (by omega)]
    exact List.take_of_length_le (by omega)
theorem DsAt.take {H H' : Hp} {l l2 : Addr} {ds : List Deed} {xs : List V} (h : DsAt H l ds) (hl : H l = some (.lst xs)) (k : Nat) (e : Evl.Ex H H') (h2 : H' l2 = some (.lst (xs.take k))) : DsAt H' l2 (ds.take k) := by
  obtain ⟨as, h1, h3, h4⟩ := h
  rw [hl] at h1
  injection h1 with h1
  injection h1 with h1
  subst h1
  refine ⟨as.take k, by rw [h2, List.map_take], by rw [List.length_take, List.length_take, h3], fun i a d ha hd => ?_⟩
  rw [List.getElem?_take] at ha hd
  by_cases c : i < k
  · rw [if_pos c] at ha hd
    exact (h4 i a d ha hd).ex e
  · rw [if_neg c] at ha
    cases ha
/-- a told width -/
def spWid (a c : Nat) : Sp := fun vs H Q _ => ∃ (s : Addr) (n : Nat), vs = [.ref s] ∧ Sk H s n ∧ n ≤ a ∧
  ∀ (t : Addr) (u b : Int) (H' : Hp), But s H H' → Sk H' s (n + c) → H t = none → Fr (wo s H') t u b → Qn u b → 0 < u → Q (.ref t) H'
theorem qn_fr {y z : Int} (y0 : 0 ≤ y) (y1 : y ≤ 1000000000000000) (z0 : 0 ≤ z) (z1 : z ≤ 1000000000000000) : Qn (fr (1 + z) (1 + y)).1 (fr (1 + z) (1 + y)).2 ∧ 0 < (fr (1 + z) (1 + y)).1 := by
  have p1 := fr_abs1 (a := 1 + z) (show 0 < 1 + y by omega)
  have p2 := fr_abs2 (a := 1 + z) (show 0 < 1 + y by omega)
  have p3 := fr_pos (u := 1 + z) (show 0 < 1 + y by omega)
  have p4 := fr_cop (u := 1 + z) (show 0 < 1 + y by omega)
  have p5 := fr_mul (u := 1 + z) (show 0 < 1 + y by omega)
  have n50 : (2 : Nat) ^ 50 = 1125899906842624 := by decide
  refine ⟨⟨p3, p4, by rw [n50]; omega, by rw [n50]; omega⟩, ?_⟩
  have g := gcd_pos (u := 1 + z) (show 0 < 1 + y by omega)
  refine Int.not_le.mp fun q => ?_
  have q2 := Int.mul_le_mul_of_nonneg_right q (Int.le_of_lt g)
  rw [← p5.1] at q2
  omega
theorem bn15 {x : Int} (h0 : 0 ≤ x) (h1 : x ≤ 1000000000000001) : x.natAbs < 2 ^ 9000 := Nat.lt_of_le_of_lt (show x.natAbs ≤ 1000000000000001 by omega) (Nat.lt_of_lt_of_le (show 1000000000000001 < 2 ^ 50 by decide) (Nat.pow_le_pow_right (by decide) (by decide)))
section
variable {base : Heap} {mg : Str → Option Value} {K : PySem.W.Frag} {w : World} {P : Program}
end
end V2


namespace V2
open PySem L2
open PySem.Spec PyProof.Rows
section
variable {base : Heap} {mg : Str → Option Value} {K : PySem.W.Frag} {w : World} {P : Program}
theorem ok_coinL {f : Addr} {fd : FuncData} (F : Fun K "_law_coin" "_law_coin" s_l_coin f fd) (T : T0 mg) : FnOk P w K mg base CX0 1 f fd p_l_coin spCoin := by
  refine F.ok sc_l_coin (fun vs H Q E h => ?_) (fun cdv A outer s H vs Q E hr h => ?_)
  · obtain ⟨p, many, m, rfl, _⟩ := h
    rfl
  · obtain ⟨p, many, m, rfl, ⟨a, b, c, hp, ha, hb, hb2, hc, hc2⟩, hm, h0, h200, k⟩ := h
    have nd := sc_l_coin.nd
    refine ⟨_, pss_cons (ps_if (pt_cmpR op_gt (pe_ix ix_list (pv 0) pe_int (fun _ _ => rfl)) pe_int (nomark _))
        (pss_cons (ps_set (i := 2) nd rfl (Or.inl rfl) (pe_op op_mod (pe_callTy call_int1 (by rfl) T.int (by decide +kernel) (pa_cons (pe_ix ix_list (pv 0) pe_int (fun _ _ => rfl)) pa_nil)) (pv 1)))
        (pss_cons (ps_asg (pe_op op_fdivW (pe_ix ix_list (pv 0) pe_int (fun _ _ => rfl)) (pv 1)) (pg_sub (pv 0) pe_int set_list))
        (pss_one (ps_ret (pv 2))))) pss_nil)
      (pss_cons (ps_asg (pe_op op_add (pe_ix ix_list (pv 0) pe_int (fun _ _ => rfl)) pe_int) (pg_sub (pv 0) pe_int set_list))
      (pss_cons (ps_set (i := 3) nd rfl (Or.inl rfl) (pe_op op_mod (pe_op op_powX (pe_callTy call_int1 (by rfl) T.int (by decide +kernel) (pa_cons (pe_op op_add (pe_ix ix_list (pv 0) pe_int (fun _ _ => rfl)) (pe_op op_mul pe_int (pe_ix ix_list (pv 0) pe_int (fun _ _ => rfl)))) pa_nil)) pe_int) (pe_op op_add (pe_op op_powX pe_int pe_int) pe_int)))
      (pss_cons (ps_set (i := 3) nd rfl (Or.inl rfl) (pe_op op_mod (pe_op op_powX (pe_callTy call_int1 (by rfl) T.int (by decide +kernel) (pa_cons (pe_op op_add (pv 3) (pe_op op_mul pe_int (pe_ix ix_list (pv 0) pe_int (fun _ _ => rfl)))) pa_nil)) pe_int) (pe_op op_add (pe_op op_powX pe_int pe_int) pe_int)))
      (pss_one (ps_ret (pe_op op_mod (pe_callTy call_int1 (by rfl) T.int (by decide +kernel) (pa_cons (pe_op op_fdivW (pv 3) pe_int) pa_nil)) (pv 1))))))), ?_⟩
    refine ⟨_, rfl, p, _, _, _, rfl, rfl, SqL.of hp, at0, _, _, rfl, rfl, _, rfl, ?_⟩
    refine ite2 (fun q => ?_) (fun _ => ?_)
    · have q0 : 0 < a := by simpa using q
      refine ⟨_, rfl, p, _, _, _, rfl, rfl, SqL.of hp, at0, .inl ⟨_, rfl, _, rfl, _, _, rfl, rfl, h0, ?_⟩⟩
      refine ⟨_, rfl, p, _, _, _, rfl, rfl, SqL.of hp, at0, _, rfl, _, _, rfl, rfl, wide_div h0 h200 (by decide) (by decide), _, rfl, p, _, 0, 0, rfl, rfl, hp, ixN3 0 (by decide), ?_⟩
      refine ⟨_, rfl, k _ _ (Int.emod_nonneg _ (by omega)) (Int.emod_lt_of_pos _ h0) But.upd ⟨a / many, b, c, upd_same, Int.ediv_nonneg ha (by omega), hb, hb2, hc, by omega⟩ (fun q hq => ?_)⟩
      rw [upd_ne (fun z => by rw [z, hp] at hq; cases hq)]; exact hq
    · have e24 : ((10 : Int) ^ (24 : Int).toNat + 7) = 1000000000000000000000007 := by decide
      have e25 : ((10 : Int) ^ (25 : Int).toNat + 13) = 10000000000000000000000013 := by decide
      have p80 : (2 : Int) ^ 80 = 1208925819614629174706176 := by decide
      have n82 : (2 : Nat) ^ 82 = 4835703278458516698824704 := by decide
      have n85 : (2 : Nat) ^ 85 = 38685626227668133590597632 := by decide
      rw [p80] at hb2
      have w1 : CPowX (b + 2038074743 * (c + 1)) 3 := pow_ok (k := 82) (n := 3) (by rw [n82]; omega) (by decide)
      have w25 : CPowX 10 25 := pow_ok (k := 4) (n := 25) (by decide) (by decide)
      have w24 : CPowX 10 24 := pow_ok (k := 4) (n := 24) (by decide) (by decide)
      have hp2 : upd H p (.lst [.int a, .int b, .int (c + 1)]) p = some (.lst [.int a, .int b, .int (c + 1)]) := upd_same
      refine ⟨_, rfl, p, _, _, _, rfl, rfl, SqL.of hp, at2, _, _, rfl, rfl, _, rfl, p, _, 2, 2, rfl, rfl, hp, ixN3 2 (by decide), ?_⟩
      refine ⟨_, rfl, p, _, _, _, rfl, rfl, SqL.of hp2, at1, _, rfl, p, _, _, _, rfl, rfl, SqL.of hp2, at2, _, _, rfl, rfl, .inl ⟨by decide, by decide⟩, _, _, rfl, rfl, .inl ⟨_, rfl, ?_⟩⟩
      have g25 : (0 : Int) < 10 ^ (25 : Int).toNat + 13 := by rw [e25]; decide
      have g24 : (0 : Int) < 10 ^ (24 : Int).toNat + 7 := by rw [e24]; decide
      refine ⟨_, 3, rfl, rfl, w1, 10, 25, rfl, rfl, w25, _, 13, rfl, rfl, _, _, rfl, rfl, g25, ?_⟩
      have x0 : 0 ≤ (b + 2038074743 * (c + 1)) ^ (3 : Int).toNat % (10 ^ (25 : Int).toNat + 13) := Int.emod_nonneg _ (by omega)
      have x1 : (b + 2038074743 * (c + 1)) ^ (3 : Int).toNat % (10 ^ (25 : Int).toNat + 13) < 10000000000000000000000013 := by rw [← e25]; exact Int.emod_lt_of_pos _ g25
      have w2 : CPowX ((b + 2038074743 * (c + 1)) ^ (3 : Int).toNat % (10 ^ (25 : Int).toNat + 13) + 982451653 * (c + 1)) 2 := pow_ok (k := 85) (n := 2) (by rw [n85]; omega) (by decide)
      refine ⟨_, rfl, _, rfl, p, _, _, _, rfl, rfl, SqL.of hp2, at2, _, _, rfl, rfl, .inl ⟨by decide, by decide⟩, _, _, rfl, rfl, .inl ⟨_, rfl, ?_⟩⟩
      refine ⟨_, 2, rfl, rfl, w2, 10, 24, rfl, rfl, w24, _, 7, rfl, rfl, _, _, rfl, rfl, g24, ?_⟩
      refine ⟨_, rfl, _, 1024, rfl, rfl, wide_div (b := 11) (by decide) (by decide) (by decide) (by decide), .inl ⟨_, rfl, _, rfl, _, _, rfl, rfl, h0, ?_⟩⟩
      refine k _ _ (Int.emod_nonneg _ (by omega)) (Int.emod_lt_of_pos _ h0) But.upd ⟨a, b, c + 1, hp2, ha, hb, by rw [p80]; exact hb2, by omega, by omega⟩ (fun q hq => ?_)
      rw [upd_ne (fun z => by rw [z, hp] at hq; cases hq)]; exact hq
theorem ok_purse {f : Addr} {fd : FuncData} (F : Fun K "_law_purse" "_law_purse" s_l_purse f fd) (T : T0 mg) : FnOk P w K mg base CX0 1 f fd p_l_purse (spSack K) := by
  refine F.ok sc_l_purse (fun vs H Q E h => ?_) (fun cdv A outer s H vs Q E hr h => ?_)
  · obtain ⟨a, ns, r, rfl, _⟩ := h
    rfl
  · obtain ⟨a, ns, r, rfl, hS, hl, hr63, k⟩ := h
    have nd := sc_l_purse.nd
    refine ⟨_, pss_cons (ps_set (i := 2) nd rfl (Or.inl rfl) (pe_ifExp (pt_cmpR op_lt (pv 1) (pe_callB call_len_seq (by rfl) T.len PySem.boot_len (pa_cons (pv 0) pa_nil)) (nomark _)) (pe_ix ix_list (pv 0) (pv 1) (fun _ _ => rfl)) pe_int))
      (pss_one (ps_ret (pe_lst (pa_cons (pe_callB (call_max2 rfl) (by rfl) T.max (by decide +kernel) (pa_cons pe_int (pa_cons (pe_op op_sub (pe_callB call_abs (by rfl) T.abs (by decide +kernel) (pa_cons (pv 2) pa_nil)) (pe_op op_powX pe_int pe_int)) pa_nil)))
        (pa_cons (pe_op op_mod (pe_callTy call_int1 (by rfl) T.int (by decide +kernel) (pa_cons (pe_op op_add (pe_op op_add (pe_op op_mul (pv 2) pe_int) (pe_op op_mul (pv 1) pe_int)) pe_int) pa_nil)) (pe_op op_add (pe_op op_powX pe_int pe_int) pe_int))
        (pa_cons pe_int pa_nil)))))), ?_⟩
    have w18 : CPowX 10 18 := pow_ok (k := 4) (n := 18) (by decide) (by decide)
    have w24 : CPowX 10 24 := pow_ok (k := 4) (n := 24) (by decide) (by decide)
    have e24 : ((10 : Int) ^ (24 : Int).toNat + 7) = 1000000000000000000000007 := by decide
    have g24 : (0 : Int) < 10 ^ (24 : Int).toNat + 7 := by rw [e24]; decide
    have p80 : (2 : Int) ^ 80 = 1208925819614629174706176 := by decide
    (refine ⟨_, rfl, _, rfl, a, _, rfl, .inl hS, _, _, rfl, rfl, _, rfl, ?_⟩)
    refine ite2 (fun q => ?_) (fun _ => ?_)
    · have q2 : r < ns.length := by
        have q1 := of_decide_eq_true q
        rw [iV_len] at q1
        omega
      refine ⟨_, rfl, _, rfl, a, _, _, _, rfl, rfl, hS, atI_nat (iV_at (List.getElem?_eq_getElem q2)), ?_⟩
      refine ⟨_, rfl, _, rfl, 10, 18, rfl, rfl, w18, _, _, rfl, rfl, _, _, rfl, ?_⟩
      refine ⟨_, rfl, _, 30011, rfl, rfl, .inr ⟨by decide, by decide⟩, _, rfl, _, 7368787, rfl, rfl, .inr ⟨by decide, by decide⟩, _, _, rfl, rfl, _, _, rfl, rfl, .inl ⟨_, rfl, ?_⟩⟩
      refine ⟨10, 24, rfl, rfl, w24, _, 7, rfl, rfl, _, _, rfl, rfl, g24, ?_⟩
      refine ⟨by show 3 ≤ sizeLine; decide, fun q hq => ?_⟩
      refine k q _ hq (Evl.Ex.new hq) ⟨_, _, _, upd_same, ?_, Int.emod_nonneg _ (by omega), Int.lt_trans (Int.emod_lt_of_pos _ g24) (by rw [e24, p80]; decide), Int.le_refl _, Int.le_refl _⟩
      split <;> omega
    · refine ⟨_, rfl, _, rfl, 10, 18, rfl, rfl, w18, _, _, rfl, rfl, _, _, rfl, ?_⟩
      refine ⟨_, rfl, _, 30011, rfl, rfl, .inr ⟨by decide, by decide⟩, _, rfl, _, 7368787, rfl, rfl, .inr ⟨by decide, by decide⟩, _, _, rfl, rfl, _, _, rfl, rfl, .inl ⟨_, rfl, ?_⟩⟩
      refine ⟨10, 24, rfl, rfl, w24, _, 7, rfl, rfl, _, _, rfl, rfl, g24, ?_⟩
      refine ⟨by show 3 ≤ sizeLine; decide, fun q hq => ?_⟩
      refine k q _ hq (Evl.Ex.new hq) ⟨_, _, _, upd_same, ?_, Int.emod_nonneg _ (by omega), Int.lt_trans (Int.emod_lt_of_pos _ g24) (by rw [e24, p80]; decide), Int.le_refl _, Int.le_refl _⟩
      split <;> omega
theorem ok_divisor {f : Addr} {fd : FuncData} (F : Fun K "_law_wl_divisor" "_law_wl_divisor" s_l_divisor f fd) (T : T0 mg) : FnOk P w K mg base CX0 1 f fd p_l_divisor spShared := by
  refine F.ok sc_l_divisor (fun vs H Q E h => ?_) (fun cdv A outer s H vs Q E hr h => ?_)
  · obtain ⟨x, y, rfl, _⟩ := h
    rfl
  · obtain ⟨x, y, rfl, hx, hy, k⟩ := h
    have nd := sc_l_divisor.nd
    refine ⟨_, pss_cons (ps_par (i := 0) (j := 1) rfl nd rfl rfl (by decide) rfl rfl (pa_cons (pe_callB call_abs (by rfl) T.abs (by decide +kernel) (pa_cons (pv 0) pa_nil)) (pa_cons (pe_callB call_abs (by rfl) T.abs (by decide +kernel) (pa_cons (pv 1) pa_nil)) pa_nil)) (by rfl))
      (pss_cons (ps_while PassesOwn.never (pt_cmpR op_ne (pv 1) pe_int (nomark _)) (pss_one (ps_par (i := 0) (j := 1) rfl nd rfl rfl (by decide) rfl rfl (pa_cons (pv 1) (pa_cons (pe_op op_mod (pe_callTy call_int1 (by rfl) T.int (by decide +kernel) (pa_cons (pv 0) pa_nil)) (pe_callTy call_int1 (by rfl) T.int (by decide +kernel) (pa_cons (pv 1) pa_nil))) pa_nil)) (by rfl))))
      (pss_one (ps_ret (pv 0)))), ?_⟩
    have ab : ∀ z : Int, (if z < 0 then -z else z) = (z.natAbs : Int) := fun z => by split <;> omega
    refine ⟨_, rfl, _, rfl, _, rfl, _, rfl, _, _, rfl, ?_⟩
    rw [ab, ab]
    refine ⟨fun m σ H' => H' = H ∧ ∃ l r : Nat, σ = [some (.int l), some (.int r)] ∧ r = m ∧ Nat.gcd l r = Nat.gcd x.natAbs y.natAbs, ⟨_, rfl, _, _, rfl, rfl, rfl⟩, ?_⟩
    rintro m σ H' ⟨rfl, l, r, rfl, rfl, hg⟩
    refine ⟨_, rfl, rfl, _, rfl, ?_⟩
    by_cases h0 : r = 0
    · subst h0
      refine if_f (by decide) ?_
      refine ⟨_, rfl, ?_⟩
      have e : (l : Int) = (Int.gcd x y : Int) := by
        rw [Nat.gcd_zero_right] at hg
        rw [hg]
        rfl
      rw [e]
      exact k _ (Evl.Ex.refl _)
    · refine if_t (by rw [decide_eq_false (fun z => h0 (by injection z with z; omega))]; rfl) ?_
      refine ⟨fun σ H2 => H2 = H' ∧ σ = [some (.int r), some (.int ((l % r : Nat) : Int))], fun σ H2 z => ⟨l % r, Nat.mod_lt _ (by omega), z.1, r, l % r, z.2, rfl, ?_⟩, ?_⟩
      · rw [Nat.gcd_comm r, ← Nat.gcd_rec, Nat.gcd_comm]
        exact hg
      · exact ⟨_, rfl, _, rfl, .inl ⟨_, rfl, _, rfl, .inl ⟨_, rfl, _, _, rfl, rfl, (by show (0 : Int) < (r : Int); omega), _, _, rfl, rfl, rfl⟩⟩⟩
theorem ok_ratioL {f : Addr} {fd : FuncData} (F : Fun K "_law_wl_ratio" "_law_wl_ratio" s_l_ratio f fd) (cD : Cal P w K mg base 1 "_law_wl_divisor" p_l_divisor spShared) : FnOk P w K mg base CX0 2 f fd p_l_ratio spRatio := by
  refine F.ok sc_l_ratio (fun vs H Q E h => ?_) (fun cdv A outer s H vs Q E hr h => ?_)
  · obtain ⟨x, y, rfl, _⟩ := h
    rfl
  · obtain ⟨x, y, rfl, hx, hy, y0, k⟩ := h
    have nd := sc_l_ratio.nd
    have two : 2 ≤ sizeLine := by show 2 ≤ sizeLine; decide
    refine ⟨_, pss_cons (ps_set (i := 2) nd rfl (Or.inl rfl) (pe_c cD hr (pa_cons (pv 0) (pa_cons (pv 1) pa_nil))))
      (pss_cons (ps_if (pt_cmpR op_lt (pv 1) pe_int (nomark _)) (pss_one (ps_set (i := 2) nd rfl (Or.inl rfl) (pe_op op_sub pe_int (pv 2)))) pss_nil)
      (pss_one (ps_ret (pe_tup (pa_cons (pe_op op_fdivW (pv 0) (pv 2)) (pa_cons (pe_op op_fdivW (pv 1) (pv 2)) pa_nil)))))), ?_⟩
    refine ⟨_, rfl, _, rfl, x, y, rfl, hx, hy, fun H1 e1 => ?_⟩
    refine ⟨_, rfl, _, _, rfl, rfl, _, rfl, if_f (decide_eq_false (by omega)) ?_⟩
    have g := gcd_pos (u := x) y0
    have gb : (Int.gcd x y : Int).natAbs < 2 ^ 9000 := by
      rw [Int.natAbs_natCast]
      exact Nat.lt_of_le_of_lt (Nat.gcd_le_right _ (by omega)) hy
    have cD : ∀ z : Int, CDivW z (Int.gcd x y : Int) := fun z => wide_div g gb (by decide) (by decide)
    refine ⟨_, rfl, _, rfl, _, _, rfl, rfl, cD _, _, rfl, _, rfl, _, _, rfl, rfl, cD _, two, fun p hp => ?_⟩
    refine k p _ (Evl.fresh_back e1 hp) (e1.trans (Evl.Ex.new hp)) ?_
    rw [upd_same]
    rfl
end
end V2


namespace V2
open PySem L2
open PySem.Spec PyProof.Rows
abbrev HdT : Type := List (Value × (Addr → Value → Option Addr → TS))
/-- the ends behind a clause: the name is gone -/
def unE (i : Nat) (D : Ends) : Ends := { nx := fun τ G => D.nx (τ.set i none) G, rt := D.rt, bk := fun τ G => D.bk (τ.set i none) G, ct := fun τ G => D.ct (τ.set i none) G }
def wEs (K : PySem.W.Frag) (i : Nat) (W0 : WX) (D : Ends) : HdT → WX
  | [] => W0
  | z :: r => fun k d τ G => ∃ yes, PySem.W.exmOne K k z.1 = some yes ∧ (yes = true → ∀ q, G q = none → z.2 q k d (unE i D) (τ.set i (some (.ref q))) G) ∧ (yes = false → wEs K i W0 D r k d τ G)
inductive HdE (X : Cx) (n : Str) : List ExceptHandler → HdT → Prop
  | nil : HdE X n [] []
  | cons {y : Str} {v : Value} {f : Addr → Value → Option Addr → TS} {b1 : Stmt} {bs : List Stmt} {u1 u2 : Pos} {r : List ExceptHandler} {l : HdT} (nm : Names X y v)
      (su : ∀ q ob k d ps, Zc k d ob → (∃ vs, ob.data = .fields vs) → PSs (X.suite q ((q, ob) :: ps)) (b1 :: bs) (f q k d)) (t : HdE X n r l) : HdE X n (.ExceptHandler (some (.Name y u1)) (some n) (b1 :: bs) u2 :: r) ((v, f) :: l)
section
variable {X : Cx} {n : Str} {i : Nat} {bd : List Stmt} {hh : ExceptHandler} {hr : List ExceptHandler} {l : HdT} {p : Pos} {tb : WX → TS} {W0 : WX}
theorem ps_try_es (st : X.stack = X.env :: X.outer) (fl : X.env.frame = some X.env.locals) (nd : X.N.Nodup) (ni : X.N[i]? = some n) (nk : X.env.kindOf n = some .local) (tk : Takes X W0)
    (hb : ∀ (W : WX) (ps : List (Addr × Obj)) (xe : Value → Shared → Prop), Takes (X.tr ps xe) W → PassesOwn (model X.prog X.w) X.A X.env xe → PSs (X.tr ps xe) bd (tb W)) (hds : HdE X n (hh :: hr) l) : PS X (.Try bd (hh :: hr) [] [] p) (fun D τ G => tb (wEs X.K i W0 D l) D τ G) := by
  constructor
  intro pins s τ G D I h
  have ok := I.ok
  have af : X.A.frames = some (X.env :: X.outer) := ok.frames.trans (congrArg some st)
  have body := (hb (wEs X.K i W0 D l) (X.pn ++ pins) (fun e z => wpAny (model X.prog X.w) X.A (noteFrame e X.env) (fun _ z => wpAny (model X.prog X.w) X.A (setFlight e none) (fun _ z => wpAny (model X.prog X.w) X.A (handleBy e X.env (hh :: hr)) (SP X pins D) X.xe z) X.xe z) X.xe z) (fun _ s' got => by
    obtain ⟨ea, bb, sI, pins', τ', G', k, d, rfl, J', nb, up, sky, na, os, ag, w⟩ := got
    have J : Inv X pins τ' G' sI := J'.ofTry ok
    have sk : Sky bb (X.env :: X.outer) ea (Zc k d) X.env.locals s'.heap := st ▸ sky
    show wpAny (model X.prog X.w) X.A (noteFrame (.ref ea) X.env) _ _ _
    refine Sky.land Zc.steady af fl sk fun h3 fl3 up3 => ?_
    have J3 : Inv X pins τ' G' { s' with heap := h3 } := J.landed nb fl3.1 (up.trans up3) os ag
    obtain ⟨o3, v3, he3, hz3, hd3⟩ := fl3.there
    have out : ea ∉ frs (X.env :: X.outer) := fun hm => by
      obtain ⟨_, o', e', no⟩ := fl3.2.2.1.mem hm
      rw [he3] at e'
      cases e'
      exact no _ hd3
    have oL : ea ≠ X.env.locals := fun z => out (List.mem_filterMap.mpr ⟨_, List.mem_cons_self, fl.trans (congrArg some z.symm)⟩)
    have oF : ea ∉ X.fs := fun hm => let ⟨e, he, q⟩ := List.mem_filterMap.mp hm; out (List.mem_filterMap.mpr ⟨e, List.mem_cons_of_mem _ he, q⟩)
    have S3 := J3.suite he3 hd3 na oL oF
    have go : ∀ {r : List ExceptHandler} {m : HdT}, HdE X n r m → wEs X.K i W0 D m k d τ' G' → wpAny (model X.prog X.w) X.A (handleBy (.ref ea) X.env r) (SP X pins D) X.xe { s' with heap := h3 } := by
      intro r m hk
      induction hk with
      | nil =>
        intro w
        refine wpAny_handleBy_nil ?_
        obtain ⟨k1, k2, k3, o, vs, T, oT, ts', he, hz, hd, h1, hr⟩ := id fl3
        unfold PySem.passOn
        refine wpAny_bind (wpAny_field he hd h1 ?_)
        rw [if_neg (by simp)]
        have fin : wpAny (model X.prog X.w) X.A (setFlight (.ref ea) X.env.frame) (fun _ z => wpAny (model X.prog X.w) X.A (throw (.ref ea) : Sem Flow) (SP X pins D) X.xe z) X.xe { s' with heap := h3 } := by
          rw [fl]
          exact HandSPX.setFlight_upZ fl3 fun h4 hh4 up4 => wpAny_throw (tk _ _ ⟨ea, bb, sI, pins, τ', G', k, d, rfl, J, nb, (up.trans up3).trans up4, .inr (.inr (st ▸ hh4)), na, os, ag, w⟩)
        first
          | exact wpAny_bind (wpAny_pure (wpAny_bind fin))
          | exact wpAny_bind fin
      | @cons y v f b1 bs u1 u2 r2 l2 nm su t ih =>
        rintro ⟨yes, e1, hy, hn⟩
        refine wpAny_handleBy_cons (codeAny_handlers_test ?_) (fun q => nomatch q)
        have LT : PySem.W.Looks (model X.prog X.w) h3 (typeOf (.ref ea)) k := fun _ _ _ _ kp q => wpAny_typeOf_ref (kp _ _ he3) (hz3.1.symm ▸ q)
        have LM := PySem.W.exm_one (M := model X.prog X.w) J3.kIn LT e1
        have asks : ∀ {Q E : Value → Shared → Prop}, Q v { s' with heap := h3 } → wpAny (model X.prog X.w) (X.A.mark (some (.ref ea))) (eval (.Name y u1) X.env) Q E { s' with heap := h3 } := fun q => by
          rcases nm with ⟨g1, g2, g3 | ⟨g3, g4, g5⟩⟩
          · exact ld_glob (X := X.suite ea ((ea, o3) :: (X.pn ++ pins))) S3 g1 g3 q g2
          · exact ld_blt (X := X.suite ea ((ea, o3) :: (X.pn ++ pins))) S3 g1 g3 g4 q g5 g2
        refine asks (LM.here ?_)
        match yes, hy, hn with
        | false, _, hn => exact ih (hn rfl)
        | true, hy, _ =>
          refine codeAny_handlers_suite_as (HandSPX.lands_againZ fl3 fun h4 fl4 up4 => ?_)
          have J4 : Inv X pins τ' G' { s' with heap := h4 } := J.landed nb fl4.1 ((up.trans up3).trans up4) os ag
          obtain ⟨o4, v4, he4, hz4, hd4⟩ := fl4.there
          refine store_ok (X := X.suite ea ((ea, o4) :: (X.pn ++ pins))) (v := .ref ea) (J4.suite he4 hd4 na oL oF) nd ni (.inl nk) rfl (fun s5 S5 => ?_) (.inr nk)
          refine wpAny_mono ((su ea o4 k d (X.pn ++ pins) hz4 ⟨_, hd4⟩).run [] s5 _ G' _ S5 (hy rfl ea na)) (fun g s6 sp => ?_) (fun _ _ z => z.elim)
          have off : ∀ {τ6 : L2.St} {G6 : Hp} {Q : Shared → Prop}, Inv (X.suite ea ((ea, o4) :: (X.pn ++ pins))) [] τ6 G6 s6 → (∀ s7, Inv X pins (τ6.set i none) G6 s7 → Q s7) → wpAny (model X.prog X.w) X.A (do bindName X.env n .none; unbindBehindTheSuite X.env n u2) (fun _ s7 => Q s7) X.xe s6 := fun S6 q => gone_ok (S6.unsuite ok) nd ni nk q
          match g, sp with
          | .next, ⟨τ6, G6, S6, q6⟩ => exact off S6 fun s7 J7 => ⟨_, _, J7, q6⟩
          | .brk, ⟨τ6, G6, S6, q6⟩ => exact off S6 fun s7 J7 => ⟨_, _, J7, q6⟩
          | .cont, ⟨τ6, G6, S6, q6⟩ => exact off S6 fun s7 J7 => ⟨_, _, J7, q6⟩
          | .ret u, ⟨v6, τ6, G6, S6, r6, q6⟩ => exact off S6 fun s7 J7 => ⟨_, _, _, J7, r6, q6⟩
    exact go hds w) PassesOwn.looking).run [] s τ G D (I.toTry _) h
  refine wpAny_Try_except (wpAny_mono body (fun g z sp => ?_) fun _ _ z => z)
  match g, sp with
  | .next, ⟨τ', G', J', q⟩ => exact wpAny_execs_nil ⟨τ', G', J'.ofTry ok, q⟩
  | .brk, ⟨τ', G', J', q⟩ => exact ⟨τ', G', J'.ofTry ok, q⟩
  | .cont, ⟨τ', G', J', q⟩ => exact ⟨τ', G', J'.ofTry ok, q⟩
  | .ret u, ⟨v, τ', G', J', r, q⟩ => exact ⟨v, τ', G', J'.ofTry ok, r, q⟩
end
end V2


namespace V2
open PySem L2
open PySem.Spec PyProof.Rows
section
variable {X : Cx} {CX : CXT} {k : Nat} {f C : Addr} {fd : FuncData} {ps : List Str} {sp : Sp} {E : L2.St → XK} {m : Str} {p q : Pos} {o e : Expr} {es : List Expr} {to : TE} {t : TA}
/-- what follows on the arguments of raise C(y) -/
theorem raise_in {K : PySem.W.Frag} {C g : Addr} {G : Hp} {y : V} {Q : XK} (T : EC K C g) (q : ∀ d G', G d = none → Evl.Ex G G' → G' d = some (.xd [("value", y)]) → Q (.ref C) (some d) G') :
    [y].length ≤ 1000 ∧ ∀ a, G a = none → spInit K (.ref a :: ([y] ++ [])) (upd G a (exo a C none)) (fun v G2 => v = .non ∧ ∃ (d : Addr) (fs : List (Str × V)), G2 a = some (exo a C (some d)) ∧ G2 d = some (exd d fs) ∧ G d = none ∧ Q (.ref C) (some d) (upd (del G2 a) d (.xd fs))) (fun _ _ _ => False) := by
  refine ⟨by show 1 ≤ 1000; decide, fun a ha => ⟨a, C, y, rfl, T.ox, T.noV, upd_same, fun dx hd hne => ⟨rfl, dx, [("value", y)], upd_same, Eq.trans (upd_ne hne) upd_same, ?_⟩⟩⟩
  have hd' : G dx = none := (upd_ne hne).symm.trans hd
  refine ⟨hd', q dx _ hd' (fun b o hb => ?_) upd_same⟩
  exact Eq.trans (upd_ne (ne_of_none hb hd')) (Eq.trans (del_ne (ne_of_none hb ha)) (Eq.trans (upd_ne (ne_of_none hb ha)) (Eq.trans (upd_ne (ne_of_none hb hd')) (Eq.trans (upd_ne (ne_of_none hb ha)) hb))))
end
end V2


namespace V2
open PySem L2
open PySem.Spec PyProof.Rows
theorem last_split {α : Type} {l : List α} (h : 0 < l.length) : ∃ a b, l = a ++ [b] := ⟨_, _, (List.dropLast_concat_getLast (List.length_pos_iff.mp h)).symm⟩
section
variable {base : Heap} {mg : Str → Option Value} {K : PySem.W.Frag} {w : World} {P : Program} {C fI fC fL fW fE pE : Addr}
end
end V2


namespace V2
open PySem L2
open PySem.Spec PyProof.Rows
/-- a script stands at x -/
def ScAt (H : Hp) (C x : Addr) (ts : List Tk) (ds : List Deed) : Prop := ∃ (dx : Addr) (fs : List (Str × V)) (v u : V), H x = some (.ins C dx fs) ∧ fs.lookup ("_tanks" : Str) = some v ∧ fs.lookup ("_steps" : Str) = some u ∧ Dq H v (.list (ts.map tkD)) ∧ Dq H u (.list (ds.map dD)) ∧ fs = scF v u
theorem ScAt.ex {H H' : Hp} {C x : Addr} {ts : List Tk} {ds : List Deed} (h : ScAt H C x ts ds) (e : Evl.Ex H H') : ScAt H' C x ts ds := by
  obtain ⟨dx, fs, v, u, h1, h2, h3, h4, h5, h6⟩ := h
  exact ⟨dx, fs, v, u, e _ _ h1, h2, h3, h4.go e, h5.go e, h6⟩
/-- where the water stands behind the first i steps -/
abbrev wAt (ts : List Tk) (ds : List Deed) (u b : Int) (i : Nat) : List Int × Int := runA (ts.map (wid u b)) (ts.map (·.2), 1) (ds.take i)
/-- the run ends behind the first n steps; e tells at which step -/
structure EndsAt (ts : List Tk) (ds : List Deed) (u b : Int) (n : Nat) (e : V) : Prop where
  le : n ≤ ds.length
  no : ∀ (j : Nat) (d : Deed), j < n → ds[j]? = some d → endB (ts.map (wid u b)) (wAt ts ds u b j).1 d = false
  at_ : (n = ds.length ∧ e = .non) ∨ ∃ d, ds[n]? = some d ∧ endB (ts.map (wid u b)) (wAt ts ds u b n).1 d = true ∧ e = .int (n : Int)
section
variable {base : Heap} {mg : Str → Option Value} {K : PySem.W.Frag} {w : World} {P : Program} {C fI fC fL fW fE pE : Addr}
end
end V2


namespace V2
open PySem L2
open PySem.Spec PyProof.Rows
def frD (f : Int × Int) : PyData := .tuple [.int f.1, .int f.2]
theorem DpAll.of_get {K : PySem.W.Frag} {H : Hp} : ∀ {vs : List V} {ds : List PyData}, vs.length = ds.length → (∀ (i : Nat) (v : V) (d : PyData), vs[i]? = some v → ds[i]? = some d → Dp K H v d) → DpAll K H vs ds
  | [], [], _, _ => .nil
  | v :: vs, d :: ds, hl, h => .cons (h 0 v d rfl rfl) (DpAll.of_get (by simpa using hl) fun i v d x y => h (i + 1) v d x y)
  | [], _ :: _, hl, _ => by cases hl
  | _ :: _, [], hl, _ => by cases hl
theorem DqAll.of_get {H : Hp} : ∀ {vs : List V} {ds : List PyData}, vs.length = ds.length → (∀ (i : Nat) (v : V) (d : PyData), vs[i]? = some v → ds[i]? = some d → Dq H v d) → DqAll H vs ds
  | [], [], _, _ => .nil
  | v :: vs, d :: ds, hl, h => .cons (h 0 v d rfl rfl) (DqAll.of_get (by simpa using hl) fun i v d x y => h (i + 1) v d x y)
  | [], _ :: _, hl, _ => by cases hl
  | _ :: _, [], hl, _ => by cases hl
/-- a fraction whose numbers are not great -/
def Fb (N : Nat) (f : Int × Int) : Prop := 0 < f.2 ∧ Bn N f.1 ∧ Bn N f.2
/-- while a list of steps is being made at D -/
def DsN (H : Hp) (D : Addr) (ds : List Deed) : Prop := ∃ as : List Addr, H D = some (.lst (as.map V.ref)) ∧ as.length = ds.length ∧ ∀ (i : Nat) (a : Addr) (d : Deed), as[i]? = some a → ds[i]? = some d → DAt (wo D H) a d
theorem DsN.start {H : Hp} {D : Addr} (h : H D = some (.lst [])) : DsN H D [] := ⟨[], h, rfl, fun i a f h => by cases h⟩
theorem DsN.done {H : Hp} {D : Addr} {ds : List Deed} (h : DsN H D ds) : DsAt H D ds := by
  obtain ⟨as, h1, h2, h3⟩ := h
  exact ⟨as, h1, h2, fun i a f x y => (h3 i a f x y).ex wo_ex⟩
theorem DsN.more {H H' : Hp} {D t : Addr} {ds : List Deed} {d : Deed} {n : Int} (h : DsN H D ds) (e : Evl.Ex H H') (ht : DAt H' t d) (hd : okD n d) (hl : ds.length ≤ 1000) : ∃ acc, H' D = some (.lst acc) ∧ acc.length < sizeLine ∧ DsN (upd H' D (.lst (acc ++ [.ref t]))) D (ds ++ [d]) := by
  obtain ⟨as, h1, h2, h3⟩ := h
  have h1' := e _ _ h1
  have up : ∀ o, Evl.Ex (wo D H') (wo D (upd H' D o)) := fun o b u z => wo_at (wo_ne z) (Eq.trans (upd_ne (wo_ne z)) (wo_ex _ _ z))
  refine ⟨_, h1', ?_, as ++ [t], ?_, by rw [List.length_append, List.length_append, h2]; rfl, fun i a g ha hg => ?_⟩
  · rw [List.length_map, h2]
    exact Nat.lt_of_le_of_lt hl (by decide)
  · rw [upd_same, List.map_append]
    rfl
  · rcases get_app ha with ⟨h4, h5⟩ | ⟨h4, rfl⟩
    · rcases get_app hg with ⟨h6, _⟩ | ⟨h6, _⟩
      · exact ((h3 i a g h4 h6).ex (ex_wo e)).ex (up _)
      · omega
    · rcases get_app hg with ⟨h6, h7⟩ | ⟨_, rfl⟩
      · omega
      · exact (dat_keep ht hd h1' fun b o n z => wo_at n z).ex (up _)
/-- while a list of fractions is being made at D -/
def PrN (H : Hp) (D : Addr) (fs : List (Int × Int)) : Prop := ∃ as : List Addr, H D = some (.lst (as.map V.ref)) ∧ as.length = fs.length ∧ ∀ (i : Nat) (a : Addr) (f : Int × Int), as[i]? = some a → fs[i]? = some f → a ≠ D ∧ Fr H a f.1 f.2
theorem PrN.start {H : Hp} {D : Addr} (h : H D = some (.lst [])) : PrN H D [] := ⟨[], h, rfl, fun i a f h => by cases h⟩
theorem PrN.done {H : Hp} {D : Addr} {fs : List (Int × Int)} (h : PrN H D fs) : PrAt H D fs := by
  obtain ⟨as, h1, h2, h3⟩ := h
  exact ⟨as, h1, h2, fun i a f x y => (h3 i a f x y).2⟩
theorem PrN.more {H H' : Hp} {D t : Addr} {fs : List (Int × Int)} {f : Int × Int} (h : PrN H D fs) (e : Evl.Ex H H') (ht : Fr H' t f.1 f.2) (hl : fs.length ≤ 1000) : ∃ acc, H' D = some (.lst acc) ∧ acc.length < sizeLine ∧ acc.length = fs.length ∧ PrN (upd H' D (.lst (acc ++ [.ref t]))) D (fs ++ [f]) := by
  obtain ⟨as, h1, h2, h3⟩ := h
  have h1' := e _ _ h1
  have tD : t ≠ D := fun z => by
    have ht : H' t = some (.tup [.int f.1, .int f.2]) := ht
    rw [z, h1'] at ht
    cases ht
  refine ⟨_, h1', ?_, by rw [List.length_map]; exact h2, as ++ [t], ?_, by rw [List.length_append, List.length_append, h2]; rfl, fun i a g ha hg => ?_⟩
  · rw [List.length_map, h2]
    exact Nat.lt_of_le_of_lt hl (by decide)
  · rw [upd_same, List.map_append]
    rfl
  · rcases get_app ha with ⟨h4, h5⟩ | ⟨h4, rfl⟩
    · rcases get_app hg with ⟨h6, _⟩ | ⟨h6, _⟩
      · obtain ⟨n, z⟩ := h3 i a g h4 h6
        exact ⟨n, Eq.trans (upd_ne n) (e _ _ z)⟩
      · omega
    · rcases get_app hg with ⟨h6, h7⟩ | ⟨_, rfl⟩
      · omega
      · exact ⟨tD, Eq.trans (upd_ne tD) ht⟩
end V2


namespace V2
open PySem L2
open PySem.Spec PyProof.Rows
theorem DsAt.dq {H : Hp} {l : Addr} {ds : List Deed} (h : DsAt H l ds) : Dq H (.ref l) (.list (ds.map dD)) := by
  obtain ⟨as, h1, h2, h3⟩ := h
  refine .lst h1 (DqAll.of_get (by rw [List.length_map, List.length_map]; exact h2) fun i v d hv hd => ?_)
  rw [List.getElem?_map] at hv hd
  cases e1 : as[i]? with
  | none =>
    rw [e1] at hv
    cases hv
  | some a =>
    cases e2 : ds[i]? with
    | none =>
      rw [e2] at hd
      cases hd
    | some t =>
      rw [e1] at hv
      rw [e2] at hd
      cases hv
      cases hd
      exact dat_dq (h3 i a t e1 e2)
section
variable {base : Heap} {mg : Str → Option Value} {K : PySem.W.Frag} {w : World} {P : Program} {C fI fT fS pT pS : Addr}
end
end V2


namespace V2
open PySem L2
open PySem.Spec PyProof.Rows
def Bh (A : List Int) (W : Int) : List (Int × Int) := A.map fun x => fr x W
theorem PrN.keep {H H' : Hp} {D l : Addr} {fs : List (Int × Int)} {xs : List V} (h : PrN H D fs) (hl : H l = some (.lst xs)) (n : D ≠ l) (e : ∀ b o, b ≠ l → H b = some o → H' b = some o) : PrN H' D fs := by
  obtain ⟨as, h1, h2, h3⟩ := h
  refine ⟨as, e _ _ n h1, h2, fun i a f x y => ?_⟩
  obtain ⟨n1, z⟩ := h3 i a f x y
  exact ⟨n1, e _ _ (fun q => by
    have z : H a = some (.tup _) := z
    rw [q, hl] at z
    cases z) z⟩
theorem PrN.ex {H H' : Hp} {D : Addr} {fs : List (Int × Int)} (h : PrN H D fs) (e : Evl.Ex H H') : PrN H' D fs := by
  obtain ⟨as, h1, h2, h3⟩ := h
  exact ⟨as, e _ _ h1, h2, fun i a f x y => ⟨(h3 i a f x y).1, e _ _ (h3 i a f x y).2⟩⟩
end V2


namespace V2
open PySem L2
open PySem.Spec PyProof.Rows
mutual
/-- v is data; as: its lists, outer ones first -/
inductive TrD (H : Hp) : V → PyData → List Addr → Prop
  | non : TrD H .non .none []
  | bl (b : Bool) : TrD H (.bl b) (.bool b) []
  | int (i : Int) : TrD H (.int i) (.int i) []
  | str (x : Str) : TrD H (.str x) (.str x) []
  | lst {a : Addr} {xs : List V} {ds : List PyData} {as : List Addr} : H a = some (.lst xs) → TrA H xs ds as → TrD H (.ref a) (.list ds) (a :: as)
  | tup {a : Addr} {xs : List V} {ds : List PyData} {as : List Addr} : H a = some (.tup xs) → TrA H xs ds as → TrD H (.ref a) (.tuple ds) as
inductive TrA (H : Hp) : List V → List PyData → List Addr → Prop
  | nil : TrA H [] [] []
  | cons {v : V} {vs : List V} {d : PyData} {ds : List PyData} {as bs : List Addr} : TrD H v d as → TrA H vs ds bs → TrA H (v :: vs) (d :: ds) (as ++ bs)
end
mutual
theorem TrD.go {H H' : Hp} : ∀ {d : PyData} {v : V} {as : List Addr}, TrD H v d as → Evl.Ex H H' → TrD H' v d as
  | _, _, _, .non, _ => .non
  | _, _, _, .bl b, _ => .bl b
  | _, _, _, .int i, _ => .int i
  | _, _, _, .str x, _ => .str x
  | _, _, _, .lst h r, e => .lst (e _ _ h) (TrA.go r e)
  | _, _, _, .tup h r, e => .tup (e _ _ h) (TrA.go r e)
theorem TrA.go {H H' : Hp} : ∀ {ds : List PyData} {vs : List V} {as : List Addr}, TrA H vs ds as → Evl.Ex H H' → TrA H' vs ds as
  | _, _, _, .nil, _ => .nil
  | _, _, _, .cons a b, e => .cons (TrD.go a e) (TrA.go b e)
end
mutual
theorem TrD.dq {H : Hp} : ∀ {d : PyData} {v : V} {as : List Addr}, TrD H v d as → Dq H v d
  | _, _, _, .non => .non
  | _, _, _, .bl b => .bl b
  | _, _, _, .int i => .int i
  | _, _, _, .str x => .str x
  | _, _, _, .lst h r => .lst h (TrA.dq r)
  | _, _, _, .tup h r => .tup h (TrA.dq r)
theorem TrA.dq {H : Hp} : ∀ {ds : List PyData} {vs : List V} {as : List Addr}, TrA H vs ds as → DqAll H vs ds
  | _, _, _, .nil => .nil
  | _, _, _, .cons a b => .cons (TrD.dq a) (TrA.dq b)
end
mutual
/-- how many lists there are in data -/
def cntD : PyData → Nat
  | .list ds => 1 + cntA ds
  | .tuple ds => cntA ds
  | _ => 0
def cntA : List PyData → Nat
  | [] => 0
  | d :: ds => cntD d + cntA ds
end
mutual
/-- the data behind each of whose lists its rank was put, ranks from k on -/
def mkD : Nat → PyData → PyData
  | k, .list ds => .list (mkA (k + 1) ds ++ [.int (k : Int)])
  | k, .tuple ds => .tuple (mkA k ds)
  | _, d => d
def mkA : Nat → List PyData → List PyData
  | _, [] => []
  | k, d :: ds => mkD k d :: mkA (k + cntD d) ds
end
mutual
theorem TrD.cnt {H : Hp} : ∀ {d : PyData} {v : V} {as : List Addr}, TrD H v d as → as.length = cntD d
  | _, _, _, .non => rfl
  | _, _, _, .bl b => rfl
  | _, _, _, .int i => rfl
  | _, _, _, .str x => rfl
  | _, _, _, .lst h r => by
    have := TrA.cnt r
    simp only [cntD, List.length_cons]
    omega
  | _, _, _, .tup h r => by
    have := TrA.cnt r
    simpa only [cntD] using this
theorem TrA.cnt {H : Hp} : ∀ {ds : List PyData} {vs : List V} {as : List Addr}, TrA H vs ds as → as.length = cntA ds
  | _, _, _, .nil => rfl
  | _, _, _, .cons a b => by
    have h1 := TrD.cnt a
    have h2 := TrA.cnt b
    simp only [cntA, List.length_append]
    omega
end
theorem TrA.get {H : Hp} : ∀ {ds : List PyData} {vs : List V} {as : List Addr}, TrA H vs ds as → ∃ bss : List (List Addr), bss.length = vs.length ∧ as = bss.flatten ∧ ∀ (i : Nat) (x : V), vs[i]? = some x → ∃ d bs, ds[i]? = some d ∧ bss[i]? = some bs ∧ TrD H x d bs
  | _, _, _, .nil => ⟨[], rfl, rfl, fun _ _ h => by cases h⟩
  | _, _, _, @TrA.cons _ v vs d ds as bs a b => by
    obtain ⟨bss, h1, h2, h3⟩ := TrA.get b
    refine ⟨as :: bss, by rw [List.length_cons, List.length_cons, h1], by rw [List.flatten_cons, h2], fun i x hx => ?_⟩
    cases i with
    | zero =>
      cases hx
      exact ⟨d, as, rfl, rfl, a⟩
    | succ i => exact h3 i x hx
section
variable {base : Heap} {mg : Str → Option Value} {K : PySem.W.Frag} {w : World} {P : Program}
theorem ls_base {H : Hp} {v : V} {d : PyData} {as : List Addr} (h : TrD H v d as) (n : ∀ ds, d ≠ .list ds ∧ d ≠ .tuple ds) : as = [] ∧ ∃ t : String, kitB t "list" = some false ∧ kitB t "tuple" = some false ∧ ∀ H, TyX K H v (.type t) := by
  cases h with
  | non => exact ⟨rfl, _, by decide +kernel, by decide +kernel, fun H => .base .non⟩
  | bl b => exact ⟨rfl, _, by decide +kernel, by decide +kernel, fun H => .base (.bl b)⟩
  | int i => exact ⟨rfl, _, by decide +kernel, by decide +kernel, fun H => .base (.int i)⟩
  | str x => exact ⟨rfl, _, by decide +kernel, by decide +kernel, fun H => .base (.str x)⟩
  | lst h r => exact absurd rfl (n _).1
  | tup h r => exact absurd rfl (n _).2
theorem cp_cases {n : Nat} {d : PyData} (h : Cp (n + 1) d) : (∀ ds, d ≠ .list ds ∧ d ≠ .tuple ds) ∨ (∃ ds, d = .list ds ∧ ds.length ≤ 100 ∧ ∀ x ∈ ds, Cp n x) ∨ ∃ ds, d = .tuple ds ∧ ds.length ≤ 100 ∧ ∀ x ∈ ds, Cp n x := by
  cases h with
  | non => exact .inl fun ds => ⟨(fun z => nomatch z), (fun z => nomatch z)⟩
  | bl b => exact .inl fun ds => ⟨(fun z => nomatch z), (fun z => nomatch z)⟩
  | int i => exact .inl fun ds => ⟨(fun z => nomatch z), (fun z => nomatch z)⟩
  | str x => exact .inl fun ds => ⟨(fun z => nomatch z), (fun z => nomatch z)⟩
  | lst h1 h2 => exact .inr (.inl ⟨_, rfl, h1, h2⟩)
  | tup h1 h2 => exact .inr (.inr ⟨_, rfl, h1, h2⟩)
end
end V2


namespace V2
open PySem L2
open PySem.Spec PyProof.Rows
mutual
theorem TrD.lists {H : Hp} : ∀ {d : PyData} {v : V} {as : List Addr}, TrD H v d as → ∀ {n : Nat}, Cp n d → ∀ a ∈ as, ∃ xs, H a = some (.lst xs) ∧ xs.length ≤ 100
  | _, _, _, .non, _, _, _, m => by cases m
  | _, _, _, .bl b, _, _, _, m => by cases m
  | _, _, _, .int i, _, _, _, m => by cases m
  | _, _, _, .str x, _, _, _, m => by cases m
  | _, _, _, @TrD.lst _ a xs ds as h r, _, c, b, m => by
    cases c with
    | lst hl hc =>
      rcases List.mem_cons.mp m with rfl | m
      · exact ⟨xs, h, by rw [r.dq.len]; exact hl⟩
      · exact TrA.lists r hc b m
  | _, _, _, @TrD.tup _ a xs ds as h r, _, c, b, m => by
    cases c with
    | tup hl hc => exact TrA.lists r hc b m
theorem TrA.lists {H : Hp} : ∀ {ds : List PyData} {vs : List V} {as : List Addr}, TrA H vs ds as → ∀ {n : Nat}, (∀ d ∈ ds, Cp n d) → ∀ a ∈ as, ∃ xs, H a = some (.lst xs) ∧ xs.length ≤ 100
  | _, _, _, .nil, _, _, _, m => by cases m
  | _, _, _, .cons a b, _, c, q, m => by
    rcases List.mem_append.mp m with m | m
    · exact TrD.lists a (c _ List.mem_cons_self) q m
    · exact TrA.lists b (fun d hd => c d (List.mem_cons_of_mem _ hd)) q m
end
mutual
theorem Dq.tr {H : Hp} : ∀ {d : PyData} {v : V}, Dq H v d → ∀ {n : Nat}, Cp n d → ∃ as, TrD H v d as
  | _, _, .non, _, _ => ⟨_, .non⟩
  | _, _, .bl b, _, _ => ⟨_, .bl b⟩
  | _, _, .int i, _, _ => ⟨_, .int i⟩
  | _, _, .str x, _, _ => ⟨_, .str x⟩
  | _, _, .lst h r, _, c => by
    cases c with
    | lst hl hc =>
      obtain ⟨as, t⟩ := DqAll.tr r hc
      exact ⟨_, .lst h t⟩
  | _, _, .tup h r, _, c => by
    cases c with
    | tup hl hc =>
      obtain ⟨as, t⟩ := DqAll.tr r hc
      exact ⟨_, .tup h t⟩
  | _, _, .dct h r, _, c => nomatch c
theorem DqAll.tr {H : Hp} : ∀ {ds : List PyData} {vs : List V}, DqAll H vs ds → ∀ {n : Nat}, (∀ d ∈ ds, Cp n d) → ∃ as, TrA H vs ds as
  | _, _, .nil, _, _ => ⟨_, .nil⟩
  | _, _, .cons a b, _, c => by
    obtain ⟨as, t⟩ := Dq.tr a (c _ List.mem_cons_self)
    obtain ⟨bs, u⟩ := DqAll.tr b fun d hd => c d (List.mem_cons_of_mem _ hd)
    exact ⟨_, .cons t u⟩
end
section
variable {base : Heap} {mg : Str → Option Value} {K : PySem.W.Frag} {w : World} {P : Program}
end
end V2


namespace V2
open PySem L2
open PySem.Spec PyProof.Rows
/-- the law's state: waters, index, steps done -/
def StAt (H : Hp) (q : Addr) (ds : List Deed) (A : List Int) (W : Int) (v : V) : Prop := ∃ D L, H q = some (.tup [.ref D, v, .ref L]) ∧ PrAt H D (Bh A W) ∧ DsAt H L ds
theorem StAt.ex {H H' : Hp} {q : Addr} {ds : List Deed} {A : List Int} {W : Int} {v : V} (h : StAt H q ds A W v) (e : Evl.Ex H H') : StAt H' q ds A W v := by
  obtain ⟨D, L, h1, h2, h3⟩ := h
  exact ⟨D, L, e _ _ h1, h2.ex e, h3.ex e⟩
/-- objects that are no tuples -/
def Nt (ps : List Addr) (H : Hp) : Prop := ∀ p ∈ ps, (∃ o, H p = some o) ∧ ∀ xs, H p ≠ some (.tup xs)
theorem Nt.ex {ps : List Addr} {H H' : Hp} (h : Nt ps H) (e : Evl.Ex H H') : Nt ps H' := fun p hp => by
  obtain ⟨⟨o, h1⟩, h2⟩ := h p hp
  refine ⟨⟨o, e _ _ h1⟩, fun xs z => h2 xs ?_⟩
  rw [e _ _ h1] at z
  rw [h1, z]
theorem Nt.new {ps : List Addr} {H H' : Hp} {p : Addr} (h : Nt ps H) (e : Evl.Ex H H') (n : H' p = none) : p ∉ ps := fun hp => by
  obtain ⟨⟨o, h1⟩, _⟩ := h p hp
  rw [e _ _ h1] at n
  cases n
theorem Nt.tup {ps : List Addr} {H : Hp} {p : Addr} {xs : List V} (h : Nt ps H) (z : H p = some (.tup xs)) : p ∉ ps := fun hp => (h p hp).2 xs z
theorem woL_go {ps : List Addr} {H H' : Hp} (e : Evl.Ex H H') : Evl.Ex (woL ps H) (woL ps H') := fun b o z => woL_at (woL_ne z) (e _ _ (woL_ex _ _ z))
section
variable {base : Heap} {mg : Str → Option Value} {K : PySem.W.Frag} {w : World} {P : Program}
end
end V2


namespace V2
open PySem L2
open PySem.Spec PyProof.Rows
abbrev wEnd (ts : List Tk) (es : List Deed) (u b : Int) : List Int × Int := wAt ts es u b es.length
def hist (ts : List Tk) (es : List Deed) (u b : Int) : List (List Int × Int) := (List.range es.length).map fun j => wAt ts es u b j
theorem BnAt.ins {C s : Addr} {H : Hp} {x ls lt : Addr} {ts : List Tk} {ds : List Deed} {S : List (List Int × Int)} {A ws : List Int} {W u b : Int} {v : V} (h : BnAt C s H x ls lt ts ds S A ws W u b v) : ∃ dx fs, H x = some (.ins C dx fs) := by
  obtain ⟨⟨dx, lq, g, lw, t, as, bs, h1, _⟩, _, _, _⟩ := h
  exact ⟨_, _, h1⟩
end V2


namespace V2
open PySem L2
open PySem.Spec PyProof.Rows
theorem dp_deed {K : PySem.W.Frag} {H : Hp} {a : Addr} {d : Deed} (h : DAt H a d) : Dp K H (.ref a) (dD d) := by
  cases d with
  | op ks =>
    obtain ⟨l, h1, h2⟩ := h
    exact .tup (SqT.of h1) (.cons (.str _) (.cons (.lst (SqL.of h2) (dpI2 ks)) .nil))
  | po k x => exact .tup (SqT.of h) (.cons (.str _) (.cons (.int _) (.cons (.int _) .nil)))
  | sc k p q =>
    obtain ⟨l, h1, h2⟩ := h
    exact .tup (SqT.of h1) (.cons (.str _) (.cons (.int _) (.cons (.tup (SqT.of h2) (.cons (.int _) (.cons (.int _) .nil))) .nil)))
  | mv k m p q =>
    obtain ⟨l, h1, h2⟩ := h
    exact .tup (SqT.of h1) (.cons (.str _) (.cons (.int _) (.cons (.int _) (.cons (.tup (SqT.of h2) (.cons (.int _) (.cons (.int _) .nil))) .nil))))
  | un k m => exact .tup (SqT.of h) (.cons (.str _) (.cons (.int _) (.cons (.int _) .nil)))
where dpI2 {K : PySem.W.Frag} {H : Hp} : ∀ ns : List Int, DpAll K H (iV ns) (ns.map .int)
  | [] => .nil
  | n :: r => .cons (.int n) (dpI2 r)
section
variable {base : Heap} {mg : Str → Option Value} {K : PySem.W.Frag} {w : World} {P : Program} {B gI gC gL gW gE qE CE fI : Addr}
end
end V2


namespace V2
open PySem L2
open PySem.Spec PyProof.Rows
/-- a step as it may be wrong: nothing, a step of the right form, another word or length -/
inductive Bent where
  | nil
  | de (d : Deed)
  | bad (x : Str) (ds : List PyData)
def dB : Bent → PyData
  | .nil => .tuple []
  | .de d => dD d
  | .bad x ds => .tuple (.str x :: ds)
def BAt (H : Hp) (a : Addr) : Bent → Prop
  | .nil => H a = some (.tup [])
  | .de d => DAt H a d
  | .bad x ds => ∃ vs, H a = some (.tup (.str x :: vs)) ∧ DqAll H vs ds
/-- which word has which length -/
def thN (x : Str) : Option Nat := if x = "open" then some 2 else if x = "pour" then some 3 else if x = "scoop" then some 3 else if x = "move" then some 4 else if x = "unless" then some 3 else none
def badOk (x : Str) (ds : List PyData) : Prop := thN x ≠ some (ds.length + 1)
def BOk : Bent → Prop
  | .bad x ds => badOk x ds ∧ (thN x = none → x ∈ (["Open", "shut", "pours", "", "unles", "moves"] : List Str))
  | .de (.op ks) => ks.length ≤ 30
  | _ => True
section
variable {base : Heap} {mg : Str → Option Value} {K : PySem.W.Frag} {w : World} {P : Program} {aT : Addr} {es : Array DictEntry} {nT : Nat} {t1 t2 t3 t4 t5 : Tok}
end
end V2


namespace V2
open PySem L2
open PySem.Spec PyProof.Rows
theorem TrA.snoc {H : Hp} : ∀ {ds : List PyData} {vs : List V} {as : List Addr} {v : V} {d : PyData} {bs : List Addr}, TrA H vs ds as → TrD H v d bs → TrA H (vs ++ [v]) (ds ++ [d]) (as ++ bs)
  | _, _, _, v, d, bs, .nil, h => by
    have := TrA.cons h (.nil (H := H))
    rw [List.append_nil] at this
    exact this
  | _, _, _, v, d, bs, .cons a b, h => by
    rw [List.append_assoc]
    exact .cons a (TrA.snoc b h)
def woD (D : Addr) (H : Hp) : Hp := fun b => if b = D then none else H b
theorem woD_some {D : Addr} {H : Hp} {b : Addr} {o : HO} (h : woD D H b = some o) : b ≠ D ∧ H b = some o := by
  unfold woD at h
  split at h
  · cases h
  · rename_i n
    exact ⟨n, h⟩
theorem woD_at {D : Addr} {H : Hp} {b : Addr} {o : HO} (n : b ≠ D) (h : H b = some o) : woD D H b = some o := by
  unfold woD
  rw [if_neg n]
  exact h
theorem nwd_go {H H2 H3 : Hp} {D : Addr} {o : HO} (e : Evl.Ex H2 H3) : Evl.Ex (Nw H (woD D H2)) (Nw H (woD D (upd H3 D o))) := fun b u z => by
  obtain ⟨n, z2⟩ := woD_some (Nw.ex _ _ z)
  exact nw_at (nw_none z) (woD_at n (by rw [upd_ne n]; exact e _ _ z2))
theorem nwd_new {H H2 H3 : Hp} {D : Addr} {o u : HO} (e0 : Evl.Ex H H2) (hD : H2 D = some u) : Evl.Ex (Nw H2 H3) (Nw H (woD D (upd H3 D o))) := fun b x z => by
  have n := nw_none z
  have nd : b ≠ D := fun q => by
    rw [q, hD] at n
    cases n
  exact nw_at (Evl.fresh_back e0 n) (woD_at nd (by rw [upd_ne nd]; exact Nw.ex _ _ z))
theorem nodup_app {as bs : List Addr} (h1 : as.Nodup) (h2 : bs.Nodup) (h : ∀ a ∈ as, a ∉ bs) : (as ++ bs).Nodup := List.nodup_append.mpr ⟨h1, h2, fun a ha b hb e => h a ha (e ▸ hb)⟩
def spCt (n : Nat) : Sp := fun vs H Q _ => ∃ (v : V) (d : PyData), vs = [v] ∧ Dq H v d ∧ Cp n d ∧ ∀ v' as H', Evl.Ex H H' → TrD (Nw H H') v' d as → as.Nodup → Q v' H'
theorem turn_nd {H H2 H3 : Hp} {D : Addr} {acc : List V} {ds : List PyData} {bs as : List Addr} {v : V} {d : PyData} {n i : Nat} (hcs : ∀ x ∈ ds, Cp n x) (hd : d ∈ ds) (hA : TrA (Nw H (woD D H2)) acc (ds.take i) bs) (hn : bs.Nodup) (hT : TrD (Nw H2 H3) v d as) (hm : as.Nodup) : (bs ++ as).Nodup :=
  nodup_app hn hm fun a ha hb => by
    obtain ⟨xs, h1, _⟩ := hA.lists (fun x hx => hcs x (List.mem_of_mem_take hx)) a ha
    obtain ⟨ys, h2, _⟩ := hT.lists (hcs d hd) a hb
    have := nw_none h2
    rw [(woD_some (Nw.ex _ _ h1)).2] at this
    cases this
section
variable {base : Heap} {mg : Str → Option Value} {K : PySem.W.Frag} {w : World} {P : Program}
theorem ok_ct0 {f : Addr} {fd : FuncData} (F : Fun K "copied" "copied" s_copied f fd) (T : T5 mg) : FnOk P w K mg base CX0 1 f fd p_copied (spCt 0) := by
  refine F.ok sc_copied (fun vs H Q E h => ?_) (fun cdv A outer s H vs Q E hr h => ?_)
  · obtain ⟨v, d, rfl, _⟩ := h
    rfl
  · obtain ⟨v, d, rfl, hd, hc, kk⟩ := h
    obtain ⟨as, tb⟩ := hd.tr hc
    obtain ⟨rfl, t, k1, k2, ty⟩ := ls_base (K := K) tb fun ds => ⟨(fun z => (by subst z; cases hc)), (fun z => (by subst z; cases hc))⟩
    have tb : TrD (Nw H H) v d [] := by
      cases tb with
      | non => exact .non
      | bl b => exact .bl b
      | int i => exact .int i
      | str x => exact .str x
      | tup h1 h2 => cases hc
    exact ⟨_, pss_cons (ps_if (pt_val (pe_callB call_isi (by rfl) T.isi (by decide +kernel) (pa_cons (pv 0) (pa_cons (pe_bltn (v := .ty "list") (by rfl) T.lst (by decide +kernel) rfl) pa_nil)))) (pss_one ps_never) pss_nil)
        (pss_cons (ps_if (pt_val (pe_callB call_isi (by rfl) T.isi (by decide +kernel) (pa_cons (pv 0) (pa_cons (pe_bltn (v := .ty "tuple") (by rfl) T.tup (by decide +kernel) rfl) pa_nil)))) (pss_one ps_never) pss_nil)
        (pss_one (ps_ret (pv 0)))), ⟨_, rfl, _, _, _, _, false, rfl, .ty "list", ty _, kit_ty k1, false, rfl, if_f rfl ⟨_, rfl, _, _, _, _, false, rfl, .ty "tuple", ty _, kit_ty k2, false, rfl, if_f rfl ⟨_, rfl, kk _ [] _ (Evl.Ex.refl _) tb List.nodup_nil⟩⟩⟩⟩
theorem ok_ctS {n k : Nat} {f : Addr} {fd : FuncData} (F : Fun K "copied" "copied" s_copied f fd) (T : T5 mg) (c0 : Cal P w K mg base k "copied" p_copied (spCt n)) : FnOk P w K mg base CX0 (k + 1) f fd p_copied (spCt (n + 1)) := by
  refine F.ok sc_copied (fun vs H Q E h => ?_) (fun cdv A outer s H vs Q E hr h => ?_)
  · obtain ⟨v, d, rfl, _⟩ := h
    rfl
  · obtain ⟨v, d, rfl, hd, hc, kk⟩ := h
    have nd := sc_copied.nd
    rcases cp_cases hc with nn | ⟨ds, rfl, hl, hcs⟩ | ⟨ds, rfl, hl, hcs⟩
    · obtain ⟨as, tb⟩ := hd.tr hc
      obtain ⟨rfl, t, k1, k2, ty⟩ := ls_base (K := K) tb nn
      have tb : TrD (Nw H H) v d [] := by
        cases tb with
        | non => exact .non
        | bl b => exact .bl b
        | int i => exact .int i
        | str x => exact .str x
        | tup h1 h2 => exact absurd rfl (nn _).2
      exact ⟨_, pss_cons (ps_if (pt_val (pe_callB call_isi (by rfl) T.isi (by decide +kernel) (pa_cons (pv 0) (pa_cons (pe_bltn (v := .ty "list") (by rfl) T.lst (by decide +kernel) rfl) pa_nil)))) (pss_one ps_never) pss_nil)
        (pss_cons (ps_if (pt_val (pe_callB call_isi (by rfl) T.isi (by decide +kernel) (pa_cons (pv 0) (pa_cons (pe_bltn (v := .ty "tuple") (by rfl) T.tup (by decide +kernel) rfl) pa_nil)))) (pss_one ps_never) pss_nil)
        (pss_one (ps_ret (pv 0)))), ⟨_, rfl, _, _, _, _, false, rfl, .ty "list", ty _, kit_ty k1, false, rfl, if_f rfl ⟨_, rfl, _, _, _, _, false, rfl, .ty "tuple", ty _, kit_ty k2, false, rfl, if_f rfl ⟨_, rfl, kk _ [] _ (Evl.Ex.refl _) tb List.nodup_nil⟩⟩⟩⟩
    · cases hd with
      | @lst a xs _ ha hds =>
      refine ⟨_, pss_cons (ps_if (pt_val (pe_callB call_isi (by rfl) T.isi (by decide +kernel) (pa_cons (pv 0) (pa_cons (pe_bltn (v := .ty "list") (by rfl) T.lst (by decide +kernel) rfl) pa_nil))))
          (pss_one (ps_ret (pe_lc (own := [("part", 1)]) (g := gName 1) (tt := tYes) (te := tCall (spCt n) [] E0 (tCons (tVar 1) tNil)) rfl nd (pi_list (pv 0)) (blkOk_by (N := n_copied) (sc := defScope s_copied) (by decide +kernel)) (fun _ _ _ _ _ => pg_name (i := 1) nd rfl (Or.inl rfl)) (fun _ _ _ _ _ => pts_nil)
            (fun _ _ _ _ _ => pe_c c0 hr (pa_cons (pv 1) pa_nil))))) pss_nil)
        (pss_cons ps_never (pss_one ps_never)), ?_⟩
      refine ⟨_, rfl, _, _, _, _, true, rfl, .ty "list", .base (.lst ha), kit_ty (by decide +kernel), true, rfl, if_t rfl ?_⟩
      have hlen := hds.len
      refine ⟨_, rfl, a, rfl, ⟨_, SqL.of ha⟩, fun D hD => lc_list (xs := xs) (fun i H' => Evl.Ex H H' ∧ ∃ acc bs, H' D = some (.lst acc) ∧ TrA (Nw H (woD D H')) acc (ds.take i) bs ∧ bs.Nodup) ⟨Evl.Ex.new hD, [], [], upd_same, .nil, List.nodup_nil⟩ (fun i H' _ q => SqL.of (q.1 _ _ ha)) ?_ ?_⟩
      · rintro i x H2 hi ⟨e2, acc, bs, hD2, hacc, hnd⟩
        obtain ⟨d, hdi, hdx⟩ := hds.get hi
        refine ⟨rfl, ?_⟩
        show tCall (spCt n) [] E0 (tCons (tVar 1) tNil) _ _ _
        refine ⟨_, rfl, x, d, rfl, hdx.go e2, hcs d (List.mem_of_getElem? hdi), fun v' as' H3 e3 hv' hn' => ⟨acc, e3 _ _ hD2, ?_, Evl.Ex.mut (e2.trans e3) hD, _, bs ++ as', upd_same, ?_, turn_nd hcs (List.mem_of_getElem? hdi) hacc hnd hv' hn'⟩⟩
        · have h1 := hacc.dq.len
          rw [List.length_take] at h1
          exact Nat.lt_of_le_of_lt (show acc.length ≤ 100 by omega) (by decide)
        · rw [ds_take hdi]
          exact (hacc.go (nwd_go e3)).snoc (hv'.go (nwd_new e2 hD2))
      · rintro H2 ⟨e2, acc, bs, hD2, hacc, hnd⟩
        rw [hlen, List.take_length] at hacc
        refine kk _ _ _ e2 (.lst (nw_at hD hD2) (hacc.go fun b o h => nw_at (nw_none h) (woD_some (Nw.ex _ _ h)).2)) (List.nodup_cons.mpr ⟨fun hm => ?_, hnd⟩)
        obtain ⟨ys, h1, _⟩ := hacc.lists hcs D hm
        exact (woD_some (Nw.ex _ _ h1)).1 rfl
    · cases hd with
      | @tup a xs _ ha hds =>
      refine ⟨_, pss_cons (ps_if (pt_val (pe_callB call_isi (by rfl) T.isi (by decide +kernel) (pa_cons (pv 0) (pa_cons (pe_bltn (v := .ty "list") (by rfl) T.lst (by decide +kernel) rfl) pa_nil)))) (pss_one ps_never) pss_nil)
        (pss_cons (ps_if (pt_val (pe_callB call_isi (by rfl) T.isi (by decide +kernel) (pa_cons (pv 0) (pa_cons (pe_bltn (v := .ty "tuple") (by rfl) T.tup (by decide +kernel) rfl) pa_nil))))
          (pss_one (ps_ret (pe_callTy call_tuple_of (by rfl) T.tup (by decide +kernel) (pa_cons (pe_lc (own := [("part", 1)]) (g := gName 1) (tt := tYes) (te := tCall (spCt n) [] E0 (tCons (tVar 1) tNil)) rfl nd (pi_tup (pv 0)) (blkOk_by (N := n_copied) (sc := defScope s_copied) (by decide +kernel)) (fun _ _ _ _ _ => pg_name (i := 1) nd rfl (Or.inl rfl)) (fun _ _ _ _ _ => pts_nil)
            (fun _ _ _ _ _ => pe_c c0 hr (pa_cons (pv 1) pa_nil))) pa_nil)))) pss_nil)
        (pss_one ps_never)), ?_⟩
      refine ⟨_, rfl, _, _, _, _, false, rfl, .ty "list", .base (.tup ha), kit_ty (by decide +kernel), false, rfl, if_f rfl ?_⟩
      refine ⟨_, rfl, _, _, _, _, true, rfl, .ty "tuple", .base (.tup ha), kit_ty (by decide +kernel), true, rfl, if_t rfl ?_⟩
      have hlen := hds.len
      refine ⟨_, rfl, a, rfl, ⟨_, SqT.of ha⟩, fun D hD => lc_tup (xs := xs) (fun i H' => Evl.Ex H H' ∧ ∃ acc bs, H' D = some (.lst acc) ∧ TrA (Nw H (woD D H')) acc (ds.take i) bs ∧ bs.Nodup) ⟨Evl.Ex.new hD, [], [], upd_same, .nil, List.nodup_nil⟩ (fun i H' _ q => SqT.of (q.1 _ _ ha)) ?_ ?_⟩
      · rintro i x H2 hi ⟨e2, acc, bs, hD2, hacc, hnd⟩
        obtain ⟨d, hdi, hdx⟩ := hds.get hi
        refine ⟨rfl, ?_⟩
        show tCall (spCt n) [] E0 (tCons (tVar 1) tNil) _ _ _
        refine ⟨_, rfl, x, d, rfl, hdx.go e2, hcs d (List.mem_of_getElem? hdi), fun v' as' H3 e3 hv' hn' => ⟨acc, e3 _ _ hD2, ?_, Evl.Ex.mut (e2.trans e3) hD, _, bs ++ as', upd_same, ?_, turn_nd hcs (List.mem_of_getElem? hdi) hacc hnd hv' hn'⟩⟩
        · have h1 := hacc.dq.len
          rw [List.length_take] at h1
          exact Nat.lt_of_le_of_lt (show acc.length ≤ 100 by omega) (by decide)
        · rw [ds_take hdi]
          exact (hacc.go (nwd_go e3)).snoc (hv'.go (nwd_new e2 hD2))
      · rintro H2 ⟨e2, acc, bs, hD2, hacc, hnd⟩
        rw [hlen, List.take_length] at hacc
        refine ⟨D, _, rfl, .inl ⟨SqL.of hD2, fun l hl2 => ?_⟩⟩
        have e3 := Evl.Ex.new (o := .tup acc) hl2
        exact kk _ _ _ (e2.trans e3) (.tup (nw_at (Evl.fresh_back e2 hl2) upd_same) (hacc.go fun b o h => nw_at (nw_none h) (e3 _ _ (woD_some (Nw.ex _ _ h)).2))) hnd
end
end V2


namespace V2
open PySem L2
open PySem.Spec PyProof.Rows
def CalX (P : Program) (w : World) (K : PySem.W.Frag) (mg : Str → Option Value) (base : Heap) (k : Nat) (x : Str) (ps : List Str) (sp : Sp) : Prop :=
  ∃ (f : Addr) (fd : FuncData), FnOk P w K mg base (L2.CX P w) k f fd ps sp ∧ mg x = some (.ref f) ∧ PySem.W.keepIn K (.ref f) = true ∧ Binds K fd ps []
theorem pe_cx {X : Cx} {k : Nat} {x : Str} {ps : List Str} {sp : Sp} {E : XK} {W : WX} {e : Expr} {es : List Expr} {t : TA} {p pos : Pos} (c : CalX X.prog X.w X.K X.mg X.base k x ps sp) (hr : Room k X.A) (tk : Takes X W) (hW : ∀ cls d σ H, E cls d H → W cls d σ H) (ha : PA X (e :: es) t) (hg : Gl X x := by rfl)
    (he : starEach (e :: es) X.env = (false, eval e X.env) :: starEach es X.env := by rfl) (hpl : (backTo pos (starEach es X.env)).any (fun z => z.1) = false := by rfl) (hdb : (x == ("__debug__" : Str)) = false := by decide) : PE X (.Call (.Name x p) (e :: es) [] pos) (tCall sp [] E t) := by
  obtain ⟨f, fd, F, hm, hk, hb⟩ := c
  exact pe_call F hr hg hm hk hb .nil (passes_call tk hW) ha hdb he hpl
theorem nw_ofEx {H H1 H3 : Hp} (e : Evl.Ex H H1) {b : Addr} {o : HO} (z : Nw H1 H3 b = some o) : Nw H H3 b = some o := nw_at (Evl.fresh_back e (nw_none z)) (Nw.ex _ _ z)
def frB (p q : Int) : Bool := decide (1 ≤ q) && decide (Int.gcd p q = 1)
def spIsFrB : Sp := fun vs H Q _ => ∃ (a : Addr) (p q : Int), vs = [.ref a] ∧ Fr H a p q ∧ Evl.RetV (.bl (frB p q)) H Q
section
variable {base : Heap} {mg : Str → Option Value} {K : PySem.W.Frag} {w : World} {P : Program} {CS CT CF fI : Addr}
theorem ok_is_fractionB {f : Addr} {fd : FuncData} (F : Fun K "is_fraction" "is_fraction" s_is_fraction f fd) (T : T3 mg) (cI : Cal P w K mg base 1 "is_integer" p_is_integer spInt) : FnOk P w K mg base CX0 2 f fd p_is_fraction spIsFrB := by
  refine F.ok sc_is_fraction (fun vs H Q E h => ?_) (fun cdv A outer s H vs Q E hr h => ?_)
  · obtain ⟨a, p, q, rfl, _⟩ := h
    rfl
  · obtain ⟨a, p, q, rfl, ha, k⟩ := h
    have nd := sc_is_fraction.nd
    refine ⟨_, pss_cons (ps_if (PW.pt (pw_or (pt_not (pt_val (pe_callB call_isi (by rfl) T.isi (by decide +kernel) (pa_cons (pv 0) (pa_cons (pe_bltn (v := .ty "tuple") (by rfl) T.tup (by decide +kernel) rfl) pa_nil)))))
        (pw_or1 (pt_cmpR op_ne (pe_callB call_len_seq (by rfl) T.len PySem.boot_len (pa_cons (pv 0) pa_nil)) pe_int (nomark _))))) (pss_one (ps_ret pe_bl)) pss_nil)
      (pss_cons (ps_asg (pv 0) (pg_tup rfl (pgs_cons (pg_name (i := 1) nd rfl (Or.inl rfl)) (pgs_cons (pg_name (i := 2) nd rfl (Or.inl rfl)) pgs_nil))))
      (pss_one (ps_ret (pe_and (pe_c cI hr (pa_cons (pv 1) pa_nil)) (pe_and (pe_c cI hr (pa_cons (pv 2) pa_nil)) (pe_and (pe_cmpR op_ge (pv 2) pe_int (nomark _)) (pe_one (pe_cmpR op_eq (pe_callBfun cr_gcd (by rfl) T.gcd (pa_cons (pv 1) (pa_cons (pv 2) pa_nil))) pe_int (nomark _))))))))), ?_⟩
    refine ⟨_, rfl, _, _, _, _, true, rfl, .ty "tuple", .base (.tup ha), kit_ty (by decide +kernel), true, rfl, if_f rfl ?_⟩
    refine ⟨_, rfl, a, _, rfl, .inr (SqT.of ha), rfl, false, rfl, if_f rfl ?_⟩
    refine ⟨_, rfl, a, _, rfl, SqT.of ha, rfl, _, _, rfl, _, _, rfl, rfl, ?_⟩
    refine ⟨_, rfl, p, rfl, fun H1 e1 => ⟨_, rfl, if_t rfl ⟨_, rfl, q, rfl, fun H2 e2 => ⟨_, rfl, if_t rfl ⟨_, rfl, _, _, rfl, rfl, _, rfl, ?_⟩⟩⟩⟩⟩
    unfold frB at k
    by_cases c : 1 ≤ q
    · refine if_t (decide_eq_true c) ?_
      rw [decide_eq_true c, Bool.true_and] at k
      refine ⟨_, rfl, _, rfl, p, q, rfl, rfl, ?_⟩
      have e : decide (V.int ((Nat.gcd p.natAbs q.natAbs : Nat) : Int) = V.int 1) = decide (Int.gcd p q = 1) := decide_eq_decide.mpr ⟨fun z => by injection z with z; show Nat.gcd p.natAbs q.natAbs = 1; omega, fun z => by have z : Nat.gcd p.natAbs q.natAbs = 1 := z; rw [z]; rfl⟩
      show Q (.bl (decide (V.int ((Nat.gcd p.natAbs q.natAbs : Nat) : Int) = V.int 1))) H2
      rw [e]
      exact k _ (e1.trans e2)
    · refine if_f (decide_eq_false c) ?_
      rw [decide_eq_false c, Bool.false_and] at k
      exact k _ (e1.trans e2)
end
end V2


namespace V2
open PySem L2
open PySem.Spec PyProof.Rows
def partD : Deed → Option (Int × Int)
  | .sc _ p q => some (p, q)
  | .mv _ _ p q => some (p, q)
  | _ => none
/-- how a step is refused, if it is -/
inductive Flt where
  | ok
  | step
  | tank (k : Int)
  | part (p q : Int)
theorem BAt.dq {H : Hp} {a : Addr} {d : Bent} (h : BAt H a d) : Dq H (.ref a) (dB d) := by
  cases d with
  | nil => exact .tup (show H a = some (.tup []) from h) .nil
  | de d => exact dat_dq h
  | bad x ds =>
    obtain ⟨vs, h1, h2⟩ := h
    exact .tup h1 (.cons (.str x) h2)
theorem BAt.ex {H H' : Hp} {a : Addr} {d : Bent} (h : BAt H a d) (e : Evl.Ex H H') : BAt H' a d := by
  cases d with
  | nil => exact e _ _ h
  | de d => exact DAt.ex h e
  | bad x ds =>
    obtain ⟨vs, h1, h2⟩ := h
    exact ⟨vs, e _ _ h1, DqAll.go h2 e⟩
def PBn (d : Bent) : Prop := match d with
  | .de d => ∀ p q, partD d = some (p, q) → Bn 50 p ∧ Bn 50 q
  | _ => True
/-- the error of class C with the value y -/
def Rz (C : Addr) (H : Hp) (y : V) (E : XK) : Prop := ∀ (e : Addr) (H' : Hp), H e = none → Evl.Ex H H' → H' e = some (.xd [("value", y)]) → E (.ref C) (some e) H'
section
variable {base : Heap} {mg : Str → Option Value} {K : PySem.W.Frag} {w : World} {P : Program} {CS CT CF fI : Addr}
end
end V2


namespace V2
open PySem L2
open PySem.Spec PyProof.Rows
def spWidX (CF : Addr) : Sp := fun vs H Q E => ∃ (a : Addr) (p q : Int), vs = [.ref a] ∧ Fr H a p q ∧ (frB p q = true → 0 < p → Evl.RetV .non H Q) ∧
  (¬ (frB p q = true ∧ 0 < p) → ∀ (y : V) (H1 : Hp), Evl.Ex H H1 → TrD (Nw H H1) y (frD (p, q)) [] → Rz CF H1 y E)
theorem tr_flat2 {H : Hp} {v : V} {d1 d2 : PyData} {as : List Addr} (h : TrD H v (.tuple [d1, d2]) as) (f1 : ∀ {v as}, TrD H v d1 as → as = []) (f2 : ∀ {v as}, TrD H v d2 as → as = []) : as = [] := by
  cases h with
  | tup _ h2 => cases h2 with
    | cons a1 a2 => cases a2 with
      | cons b1 b2 => cases b2 with
        | nil => rw [f1 a1, f2 b1]; rfl
theorem tr_fl_int {H : Hp} {v : V} {i : Int} {as : List Addr} (h : TrD H v (.int i) as) : as = [] := by
  cases h
  rfl
section
variable {base : Heap} {mg : Str → Option Value} {K : PySem.W.Frag} {w : World} {P : Program} {CI CF fI : Addr}
theorem ok_check_widthX {f : Addr} {fd fdI : FuncData} (F : Fun K "check_width" "check_width" s_check_width f fd) (cF : Cal P w K mg base 2 "is_fraction" p_is_fraction spIsFrB) (cc : Cal P w K mg base 2 "copied" p_copied (spCt 1)) (T : EC K CF fI) (G : EG K fI) (mE : mg "InvalidFraction" = some (.ref CF)) (FI : FnOk P w K mg base CX0 1 fI fdI ["self", "value"] (spInit K)) (bI : Binds K fdI ["self", "value"] []) : FnOk P w K mg base (L2.CX P w) 3 f fd p_check_width (spWidX CF) := by
  refine F.okX sc_check_width (fun vs H Q E h => ?_) (fun cdv A outer s H vs Q E hr h => ?_)
  · obtain ⟨a, p, q, rfl, _⟩ := h
    rfl
  · obtain ⟨a, p, q, rfl, ha, k, kx⟩ := h
    have r2 : Room (1 + 1) _ := hr.mono (by decide)
    have r2c : Room 2 _ := hr.mono (by decide)
    refine ⟨_, pss_one (ps_if (PW.pt (pw_or (pt_not (pt_val (pe_c cF hr (pa_cons (pv 0) pa_nil)))) (pw_or1 (pt_cmpR op_le (pe_ix ix_tup (pv 0) pe_int (fun _ _ => rfl)) pe_int (nomark _))))) (pss_one (ps_raise rfl (takes_of rfl rfl rfl rfl) (pmk_oex (k := 1) T.ox T.iC G.tI FI r2 bI .nil pass0 (by rfl) mE (pa_cons (pe_c cc r2c (pa_cons (pv 0) pa_nil)) pa_nil)))) pss_nil), ?_⟩
    have cp : Cp 1 (frD (p, q)) := .tup (by show 2 ≤ 100; decide) fun d hd => by
      simp only [List.mem_cons, List.not_mem_nil, or_false] at hd
      rcases hd with rfl | rfl
      · exact .int _
      · exact .int _
    have bad : ∀ {H1 : Hp} {σ : L2.St}, Evl.Ex H H1 → ¬ (frB p q = true ∧ 0 < p) → ∀ v' as H3, Evl.Ex H1 H3 → TrD (Nw H1 H3) v' (frD (p, q)) as → Rz CF H3 v' E := fun {H1 σ} e1 hb v' as H3 e3 hv => by
      obtain rfl := tr_flat2 hv tr_fl_int tr_fl_int
      exact kx hb v' H3 (e1.trans e3) (hv.go fun b o z => nw_ofEx e1 z)
    refine ⟨_, rfl, a, p, q, rfl, ha, fun H1 e1 => ⟨_, rfl, ?_⟩⟩
    have dq : Dq H1 (.ref a) (frD (p, q)) := .tup (e1 _ _ ha) (.cons (.int p) (.cons (.int q) .nil))
    cases c : frB p q with
    | false =>
      refine if_t rfl ⟨_, rfl, _, _, rfl, dq, cp, fun v' as H3 e4 hv' _ => ?_⟩
      exact raise_in T fun e G' he ee hx => bad (σ := []) e1 (fun z => by rw [c] at z; cases z.1) v' as H3 e4 hv' e G' he ee hx
    | true =>
      refine if_f rfl ⟨_, rfl, a, _, _, _, rfl, rfl, SqT.of (e1 _ _ ha), rfl, _, _, rfl, rfl, _, rfl, ?_⟩
      by_cases h0 : 0 < p
      · exact if_f (decide_eq_false (by omega)) (k c h0 _ e1)
      · refine if_t (decide_eq_true (by omega)) ⟨_, rfl, _, _, rfl, dq, cp, fun v' as H3 e4 hv' _ => ?_⟩
        exact raise_in T fun e G' he ee hx => bad (σ := []) e1 (fun z => h0 z.2) v' as H3 e4 hv' e G' he ee hx
end
end V2


namespace V2
open PySem L2 L2H
open PySem.Spec PyProof.Rows
/-- isinstance(e, c), e the error that is handled -/
def rIsP (K : PySem.W.Frag) (p : Addr × Obj) (C fI : Addr) : List V → Hp → VK → Prop := fun xs H Q => ∃ (d : Addr) (fs : List (Str × V)) (c : V) (cv : Value) (b : Bool), xs = [.ref p.1, c] ∧ p.2.dict = some d ∧ H d = some (.xd fs) ∧ EC K C fI ∧ (∀ u, RelV c u → u = cv) ∧ PySem.W.kitOne K (.ref C) cv = some b ∧ Q (.bl b) H
theorem inst_pin {P : Program} {w : World} {H : Hp} {h : Heap} {p : Addr × Obj} {C d : Addr} {fs : List (Str × V)} (hok : HOk P w H h) (hg : h.get? p.1 = some p.2) (hc : p.2.cls = .ref C) (hf : ∃ vs, p.2.data = .fields vs) (hd : p.2.dict = some d) (hx : H d = some (.xd fs)) : ∃ od, PySem.W.InstAt h p.1 p.2 C (some od) := by
  have z : ObjOk P w H h d (.xd fs) := hok d _ hx
  obtain ⟨mA, ⟨o, es, ep, e1, e2⟩, hr⟩ := z
  obtain ⟨vs, hv⟩ := hf
  exact ⟨o, hg, hc, by unfold PySem.W.notCls; rw [hv] <;> rfl, by rw [hd]; exact e1⟩
theorem call_isP {X : Cx} {p : Addr × Obj} {C fI : Addr} (G : EG X.K fI) (hp : p ∈ X.pn) (hc : p.2.cls = .ref C) (hf : ∃ vs, p.2.data = .fields vs) : CallR X (.builtin "isinstance") (rIsP X.K p C fI) := by
  intro pins s σ H xs us Q I r h
  obtain ⟨d, fs, c, cv, b, rfl, hd, hx, T, hcv, e, q⟩ := h
  cases r with
  | cons rx rr =>
    cases rr with
    | cons rt rr =>
      cases rr
      cases rx
      have ec := hcv _ rt
      subst ec
      obtain ⟨od, J⟩ := inst_pin I.hok (I.pin p (List.mem_append_left _ hp)).1 hc hf hd hx
      exact PySem.W.kia_one (PySem.W.kitx_exc T.hcl T.xf.ga T.xf.gg T.xf.exC T.ha G.hn G.ht T.hm) I.kIn J e (fun z => nomatch z) fun tk => ⟨.bl b, H, I.kept (t' := tk) fun _ _ z => z, rfl, q⟩
end V2


namespace V2
open PySem L2
open PySem.Spec PyProof.Rows
def tV1E (C : Addr) (a : Addr) (cls : Value) (d : Option Addr) (n : Nat) : TE := fun σ H Q => ∃ (dd : Addr) (fs : List (Str × V)) (v : V), σ[n]? = some (some (.ref a)) ∧ cls = .ref C ∧ d = some dd ∧ H dd = some (.xd fs) ∧ fs.lookup ("value" : Str) = some v ∧ Q v H
section
variable {X : Cx} {C fI a : Addr} {oe : Obj} {cls : Value} {d : Option Addr} {pn : List (Addr × Obj)} {n : Nat} {x : Str} {p1 p2 p3 pos : Pos}
theorem pe_v1E {K : PySem.W.Frag} (hK : X.K = K) (T : EC K C fI) (hz : Zc cls d oe) (hf : ∃ vs, oe.data = .fields vs) (he : PE (X.suite a ((a, oe) :: pn)) (.Name x p1) (tVar n))
    (hb : attributeBase (.Name x p1) "value" (X.suite a ((a, oe) :: pn)).env (eval (.Name x p1) (X.suite a ((a, oe) :: pn)).env) = eval (.Name x p1) (X.suite a ((a, oe) :: pn)).env := by rfl) :
    PE (X.suite a ((a, oe) :: pn)) (.Attribute (.Name x p1) "value" pos) (tV1E C a cls d n) := by
  subst hK
  refine ⟨fun pins s σ H Q I h => ?_⟩
  obtain ⟨dd, fs, v, h3, e1, e2, hx, hv, q⟩ := h
  exact (pe_xf (X := X) (a := a) (C := C) (oe := oe) (cls := cls) (d := d) (pn := pn) (pos := pos) (n := "value") T.xf T.noV hz hf he hb).run pins s σ H Q I ⟨_, h3, rfl, e1, dd, fs, v, e2, hx, hv, q⟩
end
section
variable {base : Heap} {mg : Str → Option Value} {K : PySem.W.Frag} {w : World} {P : Program} {B gI gC gL gW gE qE gU CE CN CT fI : Addr}
end
end V2


namespace PySem
section
variable {prog : Program} {w : World} {A : Around} {E : Value → Shared → Prop} {s : Shared}
/-- nobody has set the digits' limit -/
def NoDig (K : PySem.W.Frag) : Prop := PySem.W.nsIn K cStatics "sys.int_max_str_digits" = some none
theorem over_small {K : PySem.W.Frag} (hK : K.In s.heap) (e : NoDig K) {a : Int} (ha : a.natAbs < 10 ^ 4300) {Q : Option Nat → Shared → Prop} (h : Q none s) : wpAny (model prog w) A (Builtin.overDigitLimit? a) Q E s := by
  generalize hP : 10 ^ 4300 = P at ha
  have lo : 2 ^ 12900 ≤ P := hP ▸ PyProof.Rows.pow_lo
  have hi : P ≤ 2 ^ 30000 := hP ▸ PyProof.Rows.pow_hi
  unfold Builtin.overDigitLimit?
  by_cases hs : a.natAbs.log2 < 1920
  · rw [if_pos hs]
    exact wpAny_pure h
  · rw [if_neg hs]
    unfold Builtin.intMaxStrDigits
    refine wpAny_bind (wpAny_bind (PySem.W.looks_nsIn hK e A _ _ s (fun _ _ z => z) ?_))
    refine wpAny_pure ?_
    rw [hP]
    dsimp only
    by_cases hz : a.natAbs.log2 / 30 + 1 > 1000
    · exact absurd (Nat.le_trans hi (PyProof.Rows.le_of_log2 (by decide) (show 30000 ≤ a.natAbs.log2 by omega))) (Nat.not_le_of_lt ha)
    · rw [if_neg hz]
      by_cases h3 : a.natAbs.log2 < 3 * 4300
      · rw [if_pos (by simp [h3])]
        exact wpAny_pure h
      · rw [if_neg (by simp [h3])]
        rw [if_neg (Nat.not_le_of_lt ha)]
        exact wpAny_pure h
theorem gives_int_reprW {K : PySem.W.Frag} (e : NoDig K) {a : Int} {t : Tok} (ha : a.natAbs < 10 ^ 4300) : GivesAt (fun s => K.In s.heap) (Builtin.«int.__repr__» ⟨[.int a t], []⟩) (.str (toString a)) := by
  intro prog w A R s hK h
  unfold Builtin.«int.__repr__»
  show wpAny _ _ (do let r ← Builtin.overDigitLimit? a; _) _ _ s
  refine wpAny_bind (over_small hK e ha ?_)
  exact wpAny_bind (wpAny_mkStr (wpAny_pure h.2) (int_text_fits10 ha))
theorem pyReprObj_intW {K : PySem.W.Frag} (hK : K.In s.heap) (e : NoDig K) {a : Int} {t : Tok} (ha : a.natAbs < 10 ^ 4300) {Q : Value → Shared → Prop} (h : Q (.str (toString a) s.toks) { s with toks := s.toks + 1 }) : wpAny (model prog w) A (pyReprObj (.int a t)) Q E s := by
  have hv : [Value.int a t].any Value.onHeap = false := rfl
  have hT := typeIs_int s a t
  unfold pyReprObj
  simp only [cRoomFor, hv, Bool.false_eq_true, if_false, pure_bind]
  refine wpAny_bind (wpAny_specialOf (name := Str.ofString "__repr__") hT F.slot_int_repr.lookup ?_)
  refine wpAny_bind (m := callSpecialIfBound? (.int a t) (Str.ofString "__repr__")) (wpAny_callSpecialIfBound?_slot (name := Str.ofString "__repr__") hT F.slot_int_repr (call_givesAt F.slot_int_repr hT F.entry_int_repr (F.args_int_repr_1 _) (gives_int_reprW e ha) hK ⟨int_text_fits10 ha, ?_⟩))
  exact wpAny_bind (wpAny_isInstance (T := "str") (b := true) rfl isSubtype_str_str (wpAny_pure h))
theorem ReprK.intW {K : PySem.W.Frag} {h₀ : Heap} (hK : K.In h₀) (e : NoDig K) {a : Int} {t : Tok} (ha : a.natAbs < 10 ^ 4300) (bs : List Addr) (d : Nat) : ReprK prog w bs h₀ d (.int a t) (toString a) := by
  intro n hn A g E s Q _ _ _ hk hQ
  have hn' : n ≤ sizeLine := by omega
  rw [pyReprUnder_leaf (v := .int a t) hn' (fun _ e => nomatch e)]
  unfold pyRepr
  exact wpAny_bind (pyReprObj_intW (PySem.W.Frag.In.keeps hK hk) e ha (wpAny_pure (hQ s.heap _ fun _ _ z => z)))
end
mutual
/-- what may be shown so -/
def WideD : PyData → Prop
  | .none => True
  | .bool _ => True
  | .int n => n.natAbs < 10 ^ 4300
  | .str _ => True
  | .list ds => WideA ds
  | .tuple ds => WideA ds
  | _ => False
def WideA : List PyData → Prop
  | [] => True
  | d :: ds => WideD d ∧ WideA ds
end
section
variable {prog : Program} {w : World} {h₀ : Heap} {K : PySem.W.Frag}
mutual
theorem ReprK.of_readsW (hK : K.In h₀) (e : NoDig K) : ∀ {v : Value} {d : PyData}, ReadsS h₀ v d → WideD d → d.shown.length ≤ sizeLine → ∃ bs, ReadAtMost h₀ d.depth bs ∧ ReprK prog w bs h₀ d.depth v d.shown
  | _, _, .none, _, _ => ⟨[], (fun _ h => nomatch h), by simp only [PyData.shown]; exact .of_is ReprIs.none _ _ _⟩
  | _, _, .bool b, _, _ => ⟨[], (fun _ h => nomatch h), by simp only [PyData.shown]; exact .of_is (ReprIs.bool b) _ _ _⟩
  | _, _, .int i t, hs, _ => ⟨[], (fun _ h => nomatch h), by simp only [PyData.shown]; exact ReprK.intW hK e hs _ _⟩
  | _, _, .str x t, _, hz => ⟨[], (fun _ h => nomatch h), by simp only [PyData.shown]; exact .of_is (ReprIs.str x t (by simpa only [PyData.shown] using hz)) _ _ _⟩
  | _, _, .list (a := a) (vs := vs) (xs := xs) h1 h2 h3 h4, hs, hz => by
    have hz' : (listText (PyData.shownAll xs)).length ≤ sizeLine := by simpa only [PyData.shown] using hz
    obtain ⟨bs, hb, hk⟩ := ReprAllK.of_readsAllW hK e h4 (by simpa only [WideD] using hs) (fun t ht => Nat.le_trans (listText_mem_le ht) hz')
    obtain ⟨_, r4⟩ := h4.reads
    have r : Reads h₀ (.ref a) (.list xs) _ := .list h1 h2 h3 r4
    have hna : a ∉ bs := not_mem_of_deeper r (by simp only [PyData.depth]; omega) hb
    refine ⟨a :: bs, ReadAtMost.cons r (by simp only [PyData.depth]; omega) hb, ?_⟩
    simp only [PyData.depth, PyData.shown]
    obtain ⟨l⟩ := vs
    cases l with
    | nil =>
      have h4' : ReadsAllS h₀ [] xs := h4
      cases h4'
      simp only [PyData.shownAll, listText_nil]
      exact ReprK.listEmpty h1 h2 h3
    | cons x l => exact ReprK.list h1 h2 h3 hna (by simpa using hk.length_eq) (fun i y e => hk.item i y (by simpa using e))
  | _, _, .tuple (a := a) (xs := xs) h1 h2 h3 h4, hs, hz => by
    have hz' : (tupleText (PyData.shownAll xs)).length ≤ sizeLine := by simpa only [PyData.shown] using hz
    obtain ⟨bs, hb, hk⟩ := ReprAllK.of_readsAllW hK e h4 (by simpa only [WideD] using hs) (fun t ht => Nat.le_trans (tupleText_mem_le ht) hz')
    obtain ⟨_, r4⟩ := h4.reads
    have r : Reads h₀ (.ref a) (.tuple xs) _ := .tuple h1 h2 h3 r4
    have hna : a ∉ bs := not_mem_of_deeper r (by simp only [PyData.depth]; omega) hb
    refine ⟨a :: bs, ReadAtMost.cons r (by simp only [PyData.depth]; omega) hb, ?_⟩
    simp only [PyData.depth, PyData.shown]
    exact ReprK.tuple h1 h2 h3 hna hk
  | _, _, .dict h1 h2 h3 hsys h4 h5, hs, hz => by
    simp only [WideD] at hs
theorem ReprAllK.of_readsAllW (hK : K.In h₀) (e : NoDig K) : ∀ {vs : List Value} {ds : List PyData}, ReadsAllS h₀ vs ds → WideA ds → (∀ t ∈ PyData.shownAll ds, t.length ≤ sizeLine) →
    ∃ bs, ReadAtMost h₀ (PyData.depthAll ds) bs ∧ ReprAllK prog w bs h₀ (PyData.depthAll ds) vs (PyData.shownAll ds)
  | _, _, .nil, _, _ => ⟨[], (fun _ h => nomatch h), by simp only [PyData.shownAll]; exact .nil⟩
  | _, _, .cons (d := d) (ds := ds) r rs, hs, hz => by
    have hs' : WideD d ∧ WideA ds := by simpa only [WideA] using hs
    obtain ⟨b1, hb1, k1⟩ := ReprK.of_readsW hK e r hs'.1 (hz _ (by simp only [PyData.shownAll]; exact List.mem_cons_self ..))
    obtain ⟨b2, hb2, k2⟩ := ReprAllK.of_readsAllW hK e rs hs'.2 (fun t ht => hz t (by simp only [PyData.shownAll]; exact List.mem_cons_of_mem _ ht))
    refine ⟨b1 ++ b2, ?_, ?_⟩
    · intro b hm
      simp only [PyData.depthAll]
      rcases List.mem_append.mp hm with hm | hm
      · obtain ⟨d', as', r', hd'⟩ := hb1 b hm
        exact ⟨d', as', r', Nat.le_trans hd' (Nat.le_max_left _ _)⟩
      · obtain ⟨d', as', r', hd'⟩ := hb2 b hm
        exact ⟨d', as', r', Nat.le_trans hd' (Nat.le_max_right _ _)⟩
    · simp only [PyData.depthAll, PyData.shownAll]
      exact .cons ((k1.more fun b hb => List.mem_append_left _ hb).level_le (Nat.le_max_left _ _)) (k2.more_le (fun b hb => List.mem_append_right _ hb) (Nat.le_max_right _ _))
end
theorem showsBy_of_readsW (hK : K.In h₀) (e : NoDig K) {a : Addr} {d : PyData} (r : ReadsS h₀ (.ref a) d) (hs : WideD d) (hsz : d.shown.length ≤ sizeLine) : ∃ T idr, ShowsBy prog w h₀ a d T idr := by
  cases r with
  | list h1 h2 h3 h4 =>
    rename_i o vs n xs
    have hz' : (listText (PyData.shownAll xs)).length ≤ sizeLine := by simpa only [PyData.shown] using hsz
    obtain ⟨bs, hb, hk⟩ := ReprAllK.of_readsAllW (prog := prog) (w := w) hK e h4 (by simpa only [WideD] using hs) (fun t ht => Nat.le_trans (listText_mem_le ht) hz')
    obtain ⟨_, r4⟩ := h4.reads
    have hna : a ∉ bs := not_mem_of_deeper (.list h1 h2 h3 r4) (by simp only [PyData.depth]; omega) hb
    refine ⟨"list", "list.__repr__", F.slot_list_repr.toG, F.slot_list_str, F.slot_list_format, fun s hk0 => ⟨o, hk0 _ _ h1, h2⟩, fun A E s Q hg hu hk0 hQ => ?_⟩
    simp only [PyData.depth] at hu
    simp only [PyData.shown] at hQ
    obtain ⟨l⟩ := vs
    cases l with
    | nil =>
      have h4' : ReadsAllS h₀ [] xs := h4
      cases h4'
      simp only [PyData.shownAll, listText_nil] at hQ
      exact call_list_repr_empty ⟨o, hk0 _ _ h1, h2⟩ (hk0 _ _ h1) h3 (hQ s.heap _ _ fun _ _ e => e)
    | cons x l =>
      exact call_list_reprK h1 h2 h3 hna (by simpa using hk.length_eq) (fun i y e => hk.item i y (by simpa using e)) hg (fun b _ => Clear.nil b) hu hk0 hQ hz'
  | tuple h1 h2 h3 h4 =>
    rename_i o vs n xs
    have hz' : (tupleText (PyData.shownAll xs)).length ≤ sizeLine := by simpa only [PyData.shown] using hsz
    obtain ⟨bs, hb, hk⟩ := ReprAllK.of_readsAllW (prog := prog) (w := w) hK e h4 (by simpa only [WideD] using hs) (fun t ht => Nat.le_trans (tupleText_mem_le ht) hz')
    obtain ⟨_, r4⟩ := h4.reads
    have hna : a ∉ bs := not_mem_of_deeper (.tuple h1 h2 h3 r4) (by simp only [PyData.depth]; omega) hb
    refine ⟨"tuple", "tuple.__repr__", F.slot_tuple_repr, F.slot_tuple_str, F.slot_tuple_format, fun s hk0 => ⟨o, hk0 _ _ h1, h2⟩, fun A E s Q hg hu hk0 hQ => ?_⟩
    simp only [PyData.depth] at hu
    simp only [PyData.shown] at hQ
    exact call_tuple_reprK h1 h2 h3 hna hk hg (fun b _ => Clear.nil b) hu hk0 hQ hz'
  | dict h1 h2 h3 hsys h4 h5 => simp only [WideD] at hs
theorem repr_of_readsW (hK : K.In h₀) (e : NoDig K) {a : Addr} {d : PyData} {A : Around} {E : Value → Shared → Prop} {s : Shared} {Q : Value → Shared → Prop} (r : ReadsS h₀ (.ref a) d) (hs : WideD d) (hg : A.guards = some []) (hu : A.units + (d.depth + 1) < cLine) (hk0 : ∀ b o, h₀.get? b = some o → s.heap.get? b = some o)
    (hQ : ∀ h' u tk, (∀ b o, s.heap.get? b = some o → h'.get? b = some o) → Q (.str d.shown u) { s with heap := h', toks := tk })
    (hsz : d.shown.length ≤ sizeLine) : wpAny (model prog w) A (call (.builtin "repr") [.ref a]) Q E s := by
  obtain ⟨T, idr, S⟩ := showsBy_of_readsW (prog := prog) (w := w) hK e r hs hsz
  exact call_repr_slot (by omega) (S.typeIs s hk0) S.slotRepr (S.call A.in1 E s _ hg (by show A.units + 1 + d.depth < cLine; omega) hk0 fun h' u tk hk => ⟨_, _, rfl, hQ h' u tk hk⟩)
end
end PySem
namespace V2
open PySem L2
open PySem.Spec PyProof.Rows
/-- repr of lists and tuples that are data, with ints of up to 4300 digits -/
def rShowW : List V → Hp → VK → Prop := fun xs H Q => ∃ (a : Addr) (d : PyData), xs = [.ref a] ∧ Dq H (.ref a) d ∧ WideD d ∧ d.depth ≤ 60 ∧ d.shown.length ≤ sizeLine ∧ Q (.str d.shown) H
theorem call_showW {X : Cx} (hN : NoDig X.K) (hgd : X.A.guards = some []) (hu : X.A.units + 64 < cLine) : CallR X (.builtin "repr") rShowW := by
  intro pins s σ H xs us Q I r h
  obtain ⟨a, d, rfl, hd, hs, hp, hz, q⟩ := h
  obtain ⟨u, rfl, ru⟩ : ∃ u, us = [u] ∧ RelV (.ref a) u := by
    cases r with
    | cons ra rb =>
      cases rb
      exact ⟨_, rfl, ra⟩
  have rd := Dq.reads I hd ru
  cases ru
  exact repr_of_readsW I.kIn hN rd hs hgd (by omega) (fun _ _ e => e) (fun h' u tk k => ⟨.str _, H, I.kept (t' := tk) k, ⟨u, rfl⟩, q⟩) hz
end V2


namespace V2
open PySem L2
open PySem.Spec PyProof.Rows
def ShX (d : PyData) : Prop := WideD d ∧ d.depth ≤ 60 ∧ d.shown.length ≤ sizeLine
section
variable {base : Heap} {mg : Str → Option Value} {K : PySem.W.Frag} {w : World} {P : Program}
end
end V2


namespace V2
open PySem L2
open PySem.Spec PyProof.Rows
structure Sx (n B : Nat) (d : PyData) : Prop where
  s : WideD d
  dp : d.depth ≤ n
  l : d.shown.length ≤ B
theorem Sx.le {n m B C : Nat} {d : PyData} (h : Sx n B d) (a : n ≤ m) (b : B ≤ C) : Sx m C d := ⟨h.s, Nat.le_trans h.dp a, Nat.le_trans h.l b⟩
theorem Sx.sh {n B : Nat} {d : PyData} (h : Sx n B d) (a : n ≤ 60) (b : B ≤ 10000000) : ShX d := ⟨h.s, Nat.le_trans h.dp a, Nat.le_trans h.l (Nat.le_trans b (by decide))⟩
theorem sx_int {B : Nat} {n : Int} (h : n.natAbs < 2 ^ B) (b0 : 0 < B) (b1 : B ≤ 12900) : Sx 1 (B + 1) (.int n) := by
  have h4 := PySem.Flt.log2_lt_of b0 h
  refine ⟨?_, by simp [PyData.depth], ?_⟩
  · have h5 : (2 : Nat) ^ B ≤ 2 ^ 12900 := Nat.pow_le_pow_right (by decide) b1
    show n.natAbs < 10 ^ 4300
    exact Nat.lt_of_lt_of_le (Nat.lt_of_lt_of_le h h5) PyProof.Rows.pow_lo
  · show (Str.ofString (toString n)).length ≤ _
    rw [PySem.ofString_length]
    exact int_text_length_le b0 h4
theorem sx_non : Sx 1 10 .none := ⟨trivial, by simp [PyData.depth], by decide⟩
theorem sx_bool (b : Bool) : Sx 1 10 (.bool b) := ⟨trivial, by simp [PyData.depth], by cases b <;> decide⟩
theorem sx_str {x : Str} (h : (PyData.shown (.str x)).length ≤ 10) : Sx 1 10 (.str x) := ⟨trivial, by simp [PyData.depth], h⟩
theorem sx_all {n B : Nat} : ∀ xs : List PyData, (∀ d ∈ xs, Sx n B d) → WideA xs ∧ PyData.depthAll xs ≤ n ∧ ((PyData.shownAll xs).map (·.length)).sum ≤ xs.length * B
  | [], _ => ⟨trivial, by simp [PyData.depthAll], by simp [PyData.shownAll]⟩
  | d :: r, h => by
    obtain ⟨a1, a2, a3⟩ := sx_all r fun x hx => h x (List.mem_cons_of_mem _ hx)
    obtain ⟨b1, b2, b3⟩ := h d List.mem_cons_self
    refine ⟨⟨b1, a1⟩, by simp [PyData.depthAll]; omega, ?_⟩
    simp only [PyData.shownAll, List.map_cons, List.sum_cons, List.length_cons, Nat.succ_mul]
    omega
theorem sx_list {n B : Nat} {xs : List PyData} (h : ∀ d ∈ xs, Sx n B d) : Sx (n + 1) (xs.length * B + 2 * xs.length + 3) (.list xs) := by
  obtain ⟨h1, h2, h3⟩ := sx_all xs h
  have h4 := listText_len_le (PyData.shownAll xs)
  have h5 := PyData.shownAll_length xs
  refine ⟨h1, by simp [PyData.depth]; omega, ?_⟩
  simp only [PyData.shown]
  omega
theorem sx_tup {n B : Nat} {xs : List PyData} (h : ∀ d ∈ xs, Sx n B d) : Sx (n + 1) (xs.length * B + 2 * xs.length + 3) (.tuple xs) := by
  obtain ⟨h1, h2, h3⟩ := sx_all xs h
  have h4 := tupleText_len_le (PyData.shownAll xs)
  have h5 := PyData.shownAll_length xs
  refine ⟨h1, by simp [PyData.depth]; omega, ?_⟩
  simp only [PyData.shown]
  omega
theorem sx_fr {B : Nat} {f : Int × Int} (b0 : 0 < B) (b1 : B ≤ 12900) (h : Fb B f) : Sx 2 (2 * B + 9) (frD f) := by
  obtain ⟨_, h1, h2⟩ := h
  have := sx_tup (xs := [.int f.1, .int f.2]) (n := 1) (B := B + 1) fun d hd => by
    simp only [List.mem_cons, List.not_mem_nil, or_false] at hd
    rcases hd with rfl | rfl
    · exact sx_int h1 b0 b1
    · exact sx_int h2 b0 b1
  exact this.le (Nat.le_refl _) (by show 2 * (B + 1) + 2 * 2 + 3 ≤ _; omega)
theorem sx_i50 {n : Int} (h : n.natAbs < 2 ^ 50) : Sx 1 60 (.int n) := (sx_int h (by decide) (by decide)).le (Nat.le_refl _) (by decide)
theorem sx_nat {k : Nat} (h : k ≤ 100000) : Sx 1 60 (.int (k : Int)) := sx_i50 (Nat.lt_of_le_of_lt (show ((k : Int)).natAbs ≤ 100000 by omega) (by decide))
def eD : V → PyData
  | .int i => .int i
  | _ => .none
theorem sx_frs {B : Nat} {fs : List (Int × Int)} {xs : List PyData} (b0 : 0 < B) (b1 : B ≤ 12900) (hl : fs.length ≤ 20) (h : ∀ f ∈ fs, Fb B f) (hx : xs = [] ∨ ∃ k : Nat, xs = [.int (k : Int)] ∧ k ≤ 1000) : Sx 3 600000 (.list (fs.map frD ++ xs)) := by
  have h1 := sx_list (xs := fs.map frD ++ xs) (n := 2) (B := 25809) fun d hd => by
    rcases List.mem_append.mp hd with hd | hd
    · obtain ⟨f, hf, rfl⟩ := List.mem_map.mp hd
      exact (sx_fr b0 b1 (h f hf)).le (Nat.le_refl _) (by omega)
    · rcases hx with rfl | ⟨k, rfl, hk⟩
      · cases hd
      · cases List.mem_singleton.mp hd
        exact (sx_nat (by omega)).le (by decide) (by decide)
  have hxl : xs.length ≤ 1 := by
    rcases hx with rfl | ⟨k, rfl, hk⟩
    · exact Nat.zero_le _
    · exact Nat.le_refl _
  have hL : (fs.map frD ++ xs).length ≤ 21 := by rw [List.length_append, List.length_map]; omega
  exact h1.le (Nat.le_refl _) (by
    have := Nat.mul_le_mul_right 25809 hL
    omega)
end V2


namespace V2
open PySem L2
open PySem.Spec PyProof.Rows
theorem Cp.up {n : Nat} {d : PyData} (h : Cp n d) : Cp (n + 1) d := by
  induction h with
  | non => exact .non
  | bl b => exact .bl b
  | int i => exact .int i
  | str x => exact .str x
  | lst h1 h2 ih => exact .lst h1 ih
  | tup h1 h2 ih => exact .tup h1 ih
section
variable {base : Heap} {mg : Str → Option Value} {K : PySem.W.Frag} {w : World} {P : Program} {B gI gC gL gW gE qE gS gN C fI fT fS pT pS : Addr}
end
end V2


namespace V2
open PySem L2
open PySem.Spec PyProof.Rows
section
variable {base : Heap} {mg : Str → Option Value} {K : PySem.W.Frag} {w : World} {P : Program}
end
theorem DqAll.take {H : Hp} : ∀ {vs : List V} {ds : List PyData} (n : Nat), DqAll H vs ds → DqAll H (vs.take n) (ds.take n)
  | _, _, 0, _ => .nil
  | _, _, _ + 1, .nil => .nil
  | _, _, n + 1, .cons a b => .cons a (DqAll.take n b)
section
variable {base : Heap} {mg : Str → Option Value} {K : PySem.W.Frag} {w : World} {P : Program}
end
end V2


namespace V2
open PySem L2
open PySem.Spec PyProof.Rows
mutual
theorem Dq.dp {K : PySem.W.Frag} {H : Hp} : ∀ {n : Nat} {d : PyData} {v : V}, Dq H v d → Cp n d → Dp K H v d
  | _, _, _, .non, _ => .non
  | _, _, _, .bl b, _ => .bl b
  | _, _, _, .int i, _ => .int i
  | _, _, _, .str x, _ => .str x
  | _, _, _, .lst h r, .lst _ c => .lst (SqL.of h) (DqAll.dp r c)
  | _, _, _, .tup h r, .tup _ c => .tup (SqT.of h) (DqAll.dp r c)
theorem DqAll.dp {K : PySem.W.Frag} {H : Hp} : ∀ {n : Nat} {ds : List PyData} {vs : List V}, DqAll H vs ds → (∀ d ∈ ds, Cp n d) → DpAll K H vs ds
  | _, _, _, .nil, _ => .nil
  | _, _, _, .cons a b, c => .cons (Dq.dp a (c _ List.mem_cons_self)) (DqAll.dp b fun d h => c d (List.mem_cons_of_mem _ h))
end
def g5 : Deed → Bool
  | .po _ a => decide (0 ≤ a)
  | .mv k m _ _ => decide (k ≠ m)
  | .un k m => decide (k ≠ m)
  | _ => true
section
variable {base : Heap} {mg : Str → Option Value} {K : PySem.W.Frag} {w : World} {P : Program}
end
end V2


namespace V2
open PySem L2
open PySem.Spec PyProof.Rows
inductive Lw : List Nat → PyData → Prop
  | non {l : List Nat} : Lw l .none
  | int {l : List Nat} {i : Int} : i.natAbs < 2 ^ 50 → Lw l (.int i)
  | str {l : List Nat} {x : Str} : (PyData.shown (.str x)).length ≤ 10 → Lw l (.str x)
  | lst {L : Nat} {l : List Nat} {ds : List PyData} : ds.length ≤ L → (∀ d ∈ ds, Lw l d) → Lw (L :: l) (.list ds)
  | tup {L : Nat} {l : List Nat} {ds : List PyData} : ds.length ≤ L → (∀ d ∈ ds, Lw l d) → Lw (L :: l) (.tuple ds)
def LwB : List Nat → Nat
  | [] => 60
  | L :: l => L * LwB l + 2 * L + 60
def LwC : List Nat → Nat
  | [] => 0
  | L :: l => 1 + L * LwC l
theorem lwB_60 : ∀ l, 60 ≤ LwB l
  | [] => Nat.le_refl _
  | L :: l => Nat.le_add_left _ _
theorem Lw.sx {l : List Nat} {d : PyData} (h : Lw l d) : Sx (l.length + 1) (LwB l) d := by
  induction h with
  | @non l => exact sx_non.le (by omega) (Nat.le_trans (by decide) (lwB_60 l))
  | @int l i h => exact (sx_i50 h).le (by omega) (lwB_60 l)
  | @str l x h => exact (sx_str h).le (by omega) (Nat.le_trans (by decide) (lwB_60 l))
  | @lst L l ds h1 h2 ih => exact (sx_list ih).le (Nat.le_refl _) (by
      have := Nat.mul_le_mul_right (LwB l) h1
      show _ ≤ L * LwB l + 2 * L + 60
      omega)
  | @tup L l ds h1 h2 ih => exact (sx_tup ih).le (Nat.le_refl _) (by
      have := Nat.mul_le_mul_right (LwB l) h1
      show _ ≤ L * LwB l + 2 * L + 60
      omega)
theorem Lw.cp {l : List Nat} {d : PyData} (h : Lw l d) (hl : ∀ L ∈ l, L ≤ 100) : Cp l.length d := by
  induction h with
  | non => exact .non
  | int h => exact .int _
  | str h => exact .str _
  | lst h1 h2 ih => exact .lst (Nat.le_trans h1 (hl _ List.mem_cons_self)) fun d hd => ih d hd fun L hL => hl L (List.mem_cons_of_mem _ hL)
  | tup h1 h2 ih => exact .tup (Nat.le_trans h1 (hl _ List.mem_cons_self)) fun d hd => ih d hd fun L hL => hl L (List.mem_cons_of_mem _ hL)
theorem cntA_le {n : Nat} : ∀ {ds : List PyData}, (∀ d ∈ ds, cntD d ≤ n) → cntA ds ≤ ds.length * n
  | [], _ => by simp [cntA]
  | d :: r, h => by
    have h1 := h d List.mem_cons_self
    have h2 := cntA_le (ds := r) fun x hx => h x (List.mem_cons_of_mem _ hx)
    simp only [cntA, List.length_cons, Nat.succ_mul]
    omega
theorem Lw.cnt {l : List Nat} {d : PyData} (h : Lw l d) : cntD d ≤ LwC l := by
  induction h with
  | non => simp [cntD]
  | int h => simp [cntD]
  | str h => simp [cntD]
  | @lst L l ds h1 h2 ih =>
    have h3 := cntA_le ih
    have := Nat.mul_le_mul_right (LwC l) h1
    show cntD (.list ds) ≤ 1 + L * LwC l
    simp only [cntD]
    omega
  | @tup L l ds h1 h2 ih =>
    have h3 := cntA_le ih
    have := Nat.mul_le_mul_right (LwC l) h1
    show cntD (.tuple ds) ≤ 1 + L * LwC l
    simp only [cntD]
    omega
theorem mkA_len2 : ∀ (ds : List PyData) (k : Nat), (mkA k ds).length = ds.length
  | [], _ => by simp [mkA]
  | d :: r, k => by simp [mkA, mkA_len2 r]
theorem mkA_all {C : PyData → Prop} {N : Nat} : ∀ {ds : List PyData} {k : Nat}, (∀ d ∈ ds, ∀ k, k + cntD d ≤ N → C (mkD k d)) → k + cntA ds ≤ N → ∀ x ∈ mkA k ds, C x
  | [], k, _, _, x, hx => by simp [mkA] at hx
  | d :: r, k, h, hk, x, hx => by
    simp only [cntA] at hk
    simp only [mkA, List.mem_cons] at hx
    rcases hx with rfl | hx
    · exact h d List.mem_cons_self k (by omega)
    · exact mkA_all (fun d hd => h d (List.mem_cons_of_mem _ hd)) (by omega) x hx
theorem Lw.mk {l : List Nat} {d : PyData} (h : Lw l d) : ∀ k, k + cntD d ≤ 100000 → Lw (l.map (· + 1)) (mkD k d) := by
  induction h with
  | non => exact fun k _ => by simp only [mkD]; exact .non
  | int h => exact fun k _ => by simp only [mkD]; exact .int h
  | str h => exact fun k _ => by simp only [mkD]; exact .str h
  | @lst L l ds h1 h2 ih =>
    intro k hk
    simp only [cntD] at hk
    simp only [mkD]
    refine .lst ?_ fun x hx => ?_
    · rw [List.length_append, mkA_len2]
      show ds.length + 1 ≤ L + 1
      omega
    · rcases List.mem_append.mp hx with hx | hx
      · exact mkA_all ih (by omega) x hx
      · rw [List.mem_singleton.mp hx]
        exact .int (Nat.lt_of_le_of_lt (show ((k : Int)).natAbs ≤ 100000 by omega) (by decide))
  | @tup L l ds h1 h2 ih =>
    intro k hk
    simp only [cntD] at hk
    simp only [mkD]
    refine .tup ?_ fun x hx => mkA_all ih (by omega) x hx
    rw [mkA_len2]
    show ds.length ≤ L + 1
    omega
/-- what is compared by the law's right -/
abbrev lwR : List Nat := [2, 2, 5, 31]
theorem Lw.rt {d : PyData} (h : Lw lwR d) : Cp 4 d ∧ ShX d ∧ ShX (mkD 0 d) ∧ cntD d ≤ 1000 := by
  have hc : cntD d ≤ LwC lwR := h.cnt
  have hn : LwC lwR ≤ 1000 := by decide
  refine ⟨h.cp (by decide), h.sx.sh (by decide) (by decide), (h.mk 0 (by omega)).sx.sh (by decide) (by decide), by omega⟩
section
variable {p : Addr} {σ : L2.St} {H : Hp} {K : PySem.W.Frag}
end
/-- what is known of a step as it may be wrong -/
structure GB (bd : Bent) : Prop where
  ok : BOk bd
  lw : Lw [5, 31] (dB bd)
  pb : PBn bd
  sh : SeqAt.shaped (dB bd) = true
theorem GB.cp {bd : Bent} (g : GB bd) : Cp 2 (dB bd) := g.lw.cp (by decide)
end V2


namespace V2
open PySem L2
open PySem.Spec PyProof.Rows
theorem trm_snoc0 (l : List Int) : trm (l ++ [0]) = trm l := by
  have h : tz (l ++ [0]) = tz l + 1 := by
    unfold tz
    rw [List.reverse_append]
    show zer (0 :: l.reverse) = _
    conv => lhs; unfold zer
    rw [if_pos rfl]
  have h2 := tz_le l
  unfold trm
  rw [h, List.length_append]
  show (l ++ [0]).take (l.length + 1 - (tz l + 1)) = _
  rw [show l.length + 1 - (tz l + 1) = l.length - tz l by omega, List.take_append_of_le_length (by omega)]
theorem trm_snocn (l : List Int) {z : Int} (h : z ≠ 0) : trm (l ++ [z]) = l ++ [z] := trm_pol fun x hx => by
  rw [List.length_append, List.getElem?_append_right (by show l.length ≤ l.length + 1 - 1; omega)] at hx
  have hx : [z][l.length + 1 - 1 - l.length]? = some x := hx
  rw [show l.length + 1 - 1 - l.length = 0 by omega] at hx
  cases hx
  exact h
theorem cut_neg1 (ys : List V) (y : V) : cutV (ys ++ [y]) none (some (-1)) = ys := by
  unfold cutV
  have h1 : HT.sIx (ys ++ [y]).length 0 none = 0 := rfl
  have h2 : HT.sIx (ys ++ [y]).length (ys ++ [y]).length (some (-1)) = ys.length := by
    show (if (-1 : Int) < 0 then ((-1 : Int) + ((ys ++ [y]).length : Int)).toNat else min (-1 : Int).toNat (ys ++ [y]).length) = _
    rw [if_pos (by decide), List.length_append]
    show ((-1 : Int) + ((ys.length + 1 : Nat) : Int)).toNat = _
    omega
  rw [h1, h2, List.drop_zero, Nat.sub_zero, List.take_append_of_le_length (Nat.le_refl _), List.take_length]
def spTrimL : Sp := fun vs H Q _ => ∃ (a : Addr) (ns : List Int), vs = [.ref a] ∧ Li H a ns ∧ ns.length ≤ 100 ∧ Evl.RetL (iV (trm ns)) H Q
theorem iV_snoc (l : List Int) (z : Int) : iV (l ++ [z]) = iV l ++ [.int z] := by unfold iV; rw [List.map_append]; rfl
section
variable {base : Heap} {mg : Str → Option Value} {K : PySem.W.Frag} {w : World} {P : Program}
theorem ok_trimL {f : Addr} {fd : FuncData} (F : Fun K "_law_wl_trim" "_law_wl_trim" s_l_trim f fd) (mLs : mg "list" = none) : FnOk P w K mg base CX0 1 f fd p_l_trim spTrimL := by
  refine F.ok sc_l_trim (fun vs H Q E h => ?_) (fun cdv A outer s H vs Q E hr h => ?_)
  · obtain ⟨a, ns, rfl, _⟩ := h
    rfl
  · obtain ⟨a, ns, rfl, hl, hn, k⟩ := h
    have nd := sc_l_trim.nd
    refine ⟨_, pss_cons (ps_while PassesOwn.never (PW.pt (pw_and (pt_cmpR (op_neD hr.units) (pv 0) (pe_lst pa_nil) (nomark _)) (pw_and1 (pt_cmpR op_eq (pe_ix ix_list (pv 0) (pe_un un_neg pe_int) (fun _ _ => rfl)) pe_int (nomark _))))) (pss_one (ps_set (i := 0) nd rfl (Or.inl rfl) (pe_slice sl_list (pv 0) po_none (po_some (pe_un un_neg pe_int))))))
      (pss_one (ps_ret (pe_callTy call_list_of (by rfl) mLs (by decide +kernel) (pa_cons (pv 0) pa_nil)))), ?_⟩
    refine ⟨fun m σ H' => ∃ (a' : Addr) (ns' : List Int), σ = [some (.ref a')] ∧ Evl.Ex H H' ∧ Li H' a' ns' ∧ ns'.length = m ∧ trm ns' = trm ns, ⟨_, a, ns, rfl, Evl.Ex.refl _, hl, rfl, rfl⟩, ?_⟩
    rintro m σ H' ⟨a', ns', rfl, e, hl', hm, ht⟩
    refine ⟨_, rfl, Nat.zero_le _, fun r hr => ?_⟩
    have f1 := Evl.Ex.new (o := .lst []) hr
    refine ⟨.list (ns'.map .int), .list [], .lst (SqL.of (f1 _ _ hl')) (dp_deed.dpI2 ns'), .lst (SqL.of upd_same) .nil, shaped_ints ns', by decide, _, rfl, ?_⟩
    have hl2 : Li (upd H' r (.lst [])) a' ns' := f1 _ _ hl'
    have e2 := e.trans f1
    generalize upd H' r (.lst []) = H2 at hl2 e2
    have out : trm ns' = ns' → ∀ l, H2 l = none → Q (.ref l) (upd H2 l (.lst (iV ns'))) := fun h l hl => k l _ (Evl.fresh_back e2 hl) (e2.trans (Evl.Ex.new hl)) (by rw [upd_same, ← ht, h])
    rcases List.eq_nil_or_concat ns' with rfl | ⟨l, z, rfl⟩
    · refine if_f (by simp [PyData.eqv, PyData.eqvAll]) ?_
      exact ⟨_, rfl, a', _, rfl, .inl (SqL.of hl2), fun l hl => out rfl l hl⟩
    · rw [List.concat_eq_append] at hl2 ht out hm
      refine if_t (by cases l <;> simp [PyData.eqv, PyData.eqvAll]) ?_
      refine ⟨_, rfl, _, rfl, a', iV l ++ [.int z], _, .int z, rfl, rfl, SqL.of (by rw [← iV_snoc]; exact hl2), at_last _ _, rfl, _, rfl, ?_⟩
      by_cases hz : z = 0
      · subst hz
        refine if_t (by decide) ?_
        refine ⟨fun σ H3 => ∃ (a' : Addr), σ = [some (.ref a')] ∧ Evl.Ex H H3 ∧ Li H3 a' l, fun σ H3 ⟨a', q1, q2, q3⟩ => ⟨l.length, by rw [← hm, List.length_append]; exact Nat.lt_succ_self _, a', l, q1, q2, q3, rfl, by rw [← ht, trm_snoc0]⟩, ?_⟩
        refine ⟨_, rfl, _, rfl, _, rfl, a', iV l ++ [.int 0], rfl, SqL.of (by rw [← iV_snoc]; exact hl2), fun r2 hr2 => ?_⟩
        exact ⟨r2, rfl, e2.trans (Evl.Ex.new hr2), Eq.trans upd_same (by rw [cut_neg1])⟩
      · refine if_f (decide_eq_false fun q => hz (by injection q)) ?_
        exact ⟨_, rfl, a', _, rfl, .inl (SqL.of hl2), fun l' hl => out (trm_snocn l hz) l' hl⟩
end
end V2


namespace V2
open PySem L2
open PySem.Spec PyProof.Rows
theorem CsAt.set {H H' : Hp} {l q : Addr} {ns : List Int} {z : Int} {j : Nat} (h : CsAt H l ns) (ql : q ≠ l) (hq : Li H q (cp z)) (he : ∀ c o, c ≠ l → H c = some o → H' c = some o) (hl : ∀ xs : List V, H l = some (.lst xs) → H' l = some (.lst (xs.set j (.ref q)))) : CsAt H' l (ns.set j z) := by
  obtain ⟨as, h1, h2, h3⟩ := h
  refine ⟨as.set j q, by rw [hl _ h1, List.map_set], by rw [List.length_set, List.length_set, h2], fun i a n ha hn => ?_⟩
  rw [List.getElem?_set] at ha hn
  split at ha
  · rename_i c
    rw [if_pos c] at hn
    split at ha
    · split at hn
      · cases ha
        cases hn
        exact he _ _ ql hq
      · cases hn
    · cases ha
  · rename_i c
    rw [if_neg c] at hn
    have := h3 i a n ha hn
    exact he _ _ (cs_ne h1 ha this) this
/-- the state of the other law: what stands in the tanks, by a number, and the widths -/
def LSt (H : Hp) (t lw : Addr) (A : List Int) (W : Int) : Prop := ∃ lt lf, H t = some (.tup [.ref lt, .ref lf, .ref lw]) ∧ CsAt H lt A ∧ Li H lf (cp W)
theorem LSt.ex {H H' : Hp} {t lw : Addr} {A : List Int} {W : Int} (h : LSt H t lw A W) (e : Evl.Ex H H') : LSt H' t lw A W := by
  obtain ⟨lt, lf, h1, h2, h3⟩ := h
  exact ⟨lt, lf, e _ _ h1, h2.ex e, e _ _ h3⟩
def st1 (ws : List Int) (S : List Int × Int) : Deed → List Int × Int
  | .po k a => stepA ws S (.po k a)
  | _ => S
section
variable {base : Heap} {mg : Str → Option Value} {K : PySem.W.Frag} {w : World} {P : Program}
end
end V2


namespace V2
open PySem L2
open PySem.Spec PyProof.Rows
/-- a list of new objects, being built -/
def ObN {β : Type} (g : β → HO) (H : Hp) (D : Addr) (fs : List β) (i : Nat) : Prop := ∃ as : List Addr, H D = some (.lst (as.map V.ref)) ∧ as.length = i ∧ ∀ (j : Nat) (a : Addr) (f : β), as[j]? = some a → fs[j]? = some f → a ≠ D ∧ H a = some (g f)
theorem ObN.start {β : Type} {g : β → HO} {H : Hp} {D : Addr} {fs : List β} (h : H D = some (.lst [])) : ObN g H D fs 0 := ⟨[], h, rfl, fun j a n h => by cases h⟩
theorem ObN.more {β : Type} {g : β → HO} {H2 H3 : Hp} {D r : Addr} {fs : List β} {i : Nat} {n : β} (h : ObN g H2 D fs i) (e : Evl.Ex H2 H3) (hr : r ≠ D) (h3 : H3 r = some (g n)) (hn : fs[i]? = some n) (hi : i ≤ 100) :
    ∃ acc, H3 D = some (.lst acc) ∧ acc.length < sizeLine ∧ ObN g (upd H3 D (.lst (acc ++ [.ref r]))) D fs (i + 1) := by
  obtain ⟨as, h1, h2, h4⟩ := h
  refine ⟨_, e _ _ h1, ?_, as ++ [r], ?_, ?_, fun j a m ha hm => ?_⟩
  · rw [List.length_map, h2]
    exact Nat.lt_of_le_of_lt hi (by decide)
  · rw [upd_same, List.map_append]
    rfl
  · rw [List.length_append, h2]
    rfl
  · rcases get_app ha with ⟨h5, _⟩ | ⟨h5, rfl⟩
    · obtain ⟨n1, n2⟩ := h4 j a m h5 hm
      exact ⟨n1, Eq.trans (upd_ne n1) (e _ _ n2)⟩
    · rw [h5, h2, hn] at hm
      cases hm
      exact ⟨hr, Eq.trans (upd_ne hr) h3⟩
theorem ObN.ne {β : Type} {g : β → HO} {H : Hp} {D r : Addr} {fs : List β} {i : Nat} (h : ObN g H D fs i) (hr : H r = none) : r ≠ D := fun z => by
  obtain ⟨as, q, _⟩ := h
  rw [z, q] at hr
  cases hr
def stW (t : Tk) : List Int := match t.1 with
  | none => [0, 1]
  | some z => [z]
def StWs (H : Hp) (l : Addr) (ts : List Tk) : Prop := ∃ as : List Addr, H l = some (.lst (as.map V.ref)) ∧ as.length = ts.length ∧ ∀ (j : Nat) (a : Addr) (t : Tk), as[j]? = some a → ts[j]? = some t → H a = some (.lst (iV (stW t)))
theorem StWs.ex {H H' : Hp} {l : Addr} {ts : List Tk} (h : StWs H l ts) (e : Evl.Ex H H') : StWs H' l ts := by
  obtain ⟨as, h1, h2, h3⟩ := h
  exact ⟨as, e _ _ h1, h2, fun i a t x y => e _ _ (h3 i a t x y)⟩
theorem EndsAt.uniq {ts : List Tk} {ds : List Deed} {u b : Int} {n m : Nat} {e f : V} (h : EndsAt ts ds u b n e) (k : EndsAt ts ds u b m f) : n = m ∧ e = f := by
  have one : ∀ {n m : Nat} {e f : V}, EndsAt ts ds u b n e → EndsAt ts ds u b m f → ¬ n < m := fun {n m e f} h k hn => by
    have hm := k.le
    rcases h.at_ with ⟨h1, _⟩ | ⟨d, h1, h2, _⟩
    · omega
    · rw [k.no n d hn h1] at h2
      cases h2
  have e1 : n = m := by
    have := one h k
    have := one k h
    omega
  subst e1
  refine ⟨rfl, ?_⟩
  rcases h.at_ with ⟨h1, h2⟩ | ⟨d, h1, h2, h3⟩
  · rcases k.at_ with ⟨k1, k2⟩ | ⟨d', k1, k2, k3⟩
    · rw [h2, k2]
    · have := (List.getElem?_eq_some_iff.mp k1).1
      omega
  · rcases k.at_ with ⟨k1, k2⟩ | ⟨d', k1, k2, k3⟩
    · have := (List.getElem?_eq_some_iff.mp h1).1
      omega
    · rw [h3, k3]
section
variable {base : Heap} {mg : Str → Option Value} {K : PySem.W.Frag} {w : World} {P : Program}
end
end V2


namespace V2
open PySem L2
open PySem.Spec PyProof.Rows
def OwD (H : Hp) (D : Addr) (m : Nat) (H' : Hp) (a : Addr) : Deed → Prop
  | .op ks => ∃ l zs, H l = none ∧ l ≠ D ∧ H' a = some (.tup [.str "open", .ref l]) ∧ H' l = some (.lst (iV zs)) ∧ zs.length ≤ ks.length + m ∧ (m = 0 → zs = ks)
  | d => DAt H' a d
def NoL (H H' : Hp) : Prop := ∀ c o, (∀ xs, o ≠ .lst xs) → H c = some o → H' c = some o
theorem DAt.noL {H H' : Hp} {a : Addr} {d : Deed} (h : DAt H a d) (e : NoL H H') (n : ∀ ks, d ≠ .op ks) : DAt H' a d := by
  cases d with
  | op ks => exact absurd rfl (n ks)
  | po k x => exact e _ _ (fun xs q => by cases q) h
  | sc k p q =>
    obtain ⟨f, h1, h2⟩ := h
    exact ⟨f, e _ _ (fun xs q => by cases q) h1, e _ _ (fun xs q => by cases q) h2⟩
  | mv k m p q =>
    obtain ⟨f, h1, h2⟩ := h
    exact ⟨f, e _ _ (fun xs q => by cases q) h1, e _ _ (fun xs q => by cases q) h2⟩
  | un k m => exact e _ _ (fun xs q => by cases q) h
theorem OwD.keep {H H' H'' : Hp} {D a : Addr} {m m' : Nat} {d : Deed} (h : OwD H D m H' a d) (e : NoL H' H'') (hm : m' = 0 → m = 0)
    (hl : ∀ l zs, l ≠ D → H l = none → H' l = some (.lst (iV zs)) → ∃ zs', H'' l = some (.lst (iV zs')) ∧ zs'.length + m ≤ zs.length + m' ∧ (m' = 0 → zs' = zs)) : OwD H D m' H'' a d := by
  cases d with
  | op ks =>
    obtain ⟨l, zs, h1, h2, h3, h4, h5, h6⟩ := h
    obtain ⟨zs', k1, k2, k3⟩ := hl l zs h2 h1 h4
    exact ⟨l, zs', h1, h2, e _ _ (fun xs q => by cases q) h3, k1, by omega, fun q => (k3 q).trans (h6 (hm q))⟩
  | po k x => exact DAt.noL (d := .po k x) h e (fun ks q => by cases q)
  | sc k p q => exact DAt.noL (d := .sc k p q) h e (fun ks q => by cases q)
  | mv k m p q => exact DAt.noL (d := .mv k m p q) h e (fun ks q => by cases q)
  | un k m => exact DAt.noL (d := .un k m) h e (fun ks q => by cases q)
theorem OwD.ex {H H' H'' : Hp} {D a : Addr} {m : Nat} {d : Deed} (h : OwD H D m H' a d) (e : Evl.Ex H' H'') : OwD H D m H'' a d :=
  h.keep (fun c o _ q => e _ _ q) id fun l zs _ _ q => ⟨zs, e _ _ q, Nat.le_refl _, fun _ => rfl⟩
section
variable {base : Heap} {mg : Str → Option Value} {K : PySem.W.Frag} {w : World} {P : Program} {C fI fT fS pT pS : Addr}
end
end V2


namespace V2
open PySem L2
open PySem.Spec PyProof.Rows
theorem dq_fr1 {H : Hp} {v : V} {f : Int × Int} (h : Dq H v (frD f)) : ∃ q, v = .ref q ∧ Fr H q f.1 f.2 := by
  cases h with
  | tup h1 r1 =>
    cases r1 with
    | cons a b =>
      cases a
      cases b with
      | cons c e =>
        cases c
        cases e
        exact ⟨_, rfl, h1⟩
theorem TksAt.set {H H' : Hp} {l q : Addr} {ts : List Tk} {t : Tk} {j : Nat} (h : TksAt H l ts) (hq : H q = some (.tup [wV t.1, .int t.2])) (he : ∀ c o, c ≠ l → H c = some o → H' c = some o) (hl : ∀ as : List Addr, H l = some (.lst (as.map V.ref)) → H' l = some (.lst ((as.map V.ref).set j (.ref q)))) : TksAt H' l (ts.set j t) := by
  obtain ⟨as, h1, h2, h3⟩ := h
  refine ⟨as.set j q, by rw [hl as h1, List.map_set], by rw [List.length_set, List.length_set, h2], fun i a t' ha ht => ?_⟩
  have nl : ∀ {a : Addr} {xs : List V}, H a = some (.tup xs) → a ≠ l := fun h z => by rw [z, h1] at h; cases h
  rw [List.getElem?_set] at ha ht
  split at ha
  · rename_i c
    rw [if_pos c] at ht
    split at ha
    · split at ht
      · cases ha
        cases ht
        exact he _ _ (nl hq) hq
      · cases ht
    · cases ha
  · rename_i c
    rw [if_neg c] at ht
    have := h3 i a t' ha ht
    exact he _ _ (nl this) this
theorem TrD.new {H H' : Hp} {n : Nat} {v : V} {d : PyData} {as : List Addr} (h : TrD (Nw H H') v d as) (hc : Cp n d) : ∀ a ∈ as, H a = none := fun a ha => by
  obtain ⟨xs, z, _⟩ := h.lists hc a ha
  exact nw_none z
section
variable {base : Heap} {mg : Str → Option Value} {K : PySem.W.Frag} {w : World} {P : Program}
end
end V2


namespace V2
open PySem L2
open PySem.Spec PyProof.Rows
def Sts (H G : Hp) (l : Addr) (ts : List Tk) (es : List Deed) (u b : Int) (e : V) : Prop := ∃ qs : List Addr, H l = some (.lst (qs.map V.ref)) ∧ qs.length = es.length + 1 ∧ ∀ (j : Nat) (q : Addr), qs[j]? = some q → StAt G q (es.take j) (wAt ts es u b j).1 (wAt ts es u b j).2 (if j = es.length then e else .non)
theorem Sts.mv {H G H' G' : Hp} {l : Addr} {ts : List Tk} {es : List Deed} {u b : Int} {e : V} (h : Sts H G l ts es u b e) (k : ∀ o, H l = some o → H' l = some o) (x : Evl.Ex G G') : Sts H' G' l ts es u b e := by
  obtain ⟨qs, h1, h2, h3⟩ := h
  exact ⟨qs, k _ h1, h2, fun j q z => (h3 j q z).ex x⟩
theorem Sts.last {H G : Hp} {l : Addr} {ts : List Tk} {es : List Deed} {u b : Int} {e : V} (h : Sts H G l ts es u b e) : ∃ (ys : List V) (q : Addr), H l = some (.lst (ys ++ [.ref q])) ∧ ys.length = es.length ∧ StAt G q es (wEnd ts es u b).1 (wEnd ts es u b).2 e := by
  obtain ⟨qs, h1, h2, h3⟩ := h
  obtain ⟨ys, q, rfl⟩ : ∃ a c, qs = a ++ [c] := last_split (by omega)
  rw [List.length_append] at h2
  have h2 : ys.length = es.length := Nat.succ.inj h2
  have z := h3 es.length q (by rw [← h2, List.getElem?_append_right (Nat.le_refl _), Nat.sub_self]; rfl)
  rw [if_pos rfl, List.take_length] at z
  exact ⟨ys.map V.ref, q, by rw [h1, List.map_append]; rfl, by rw [List.length_map]; exact h2, z⟩
theorem Sts.one {H G : Hp} {l q : Addr} {ts : List Tk} {u b : Int} (hl : H l = some (.lst [.ref q])) (hq : StAt G q [] (ts.map (·.2)) 1 .non) : Sts H G l ts [] u b .non := by
  refine ⟨[q], hl, rfl, fun j p z => ?_⟩
  match j, z with
  | 0, z =>
    cases z
    exact hq
  | j + 1, z => cases z
end V2


namespace V2
open PySem L2
open PySem.Spec PyProof.Rows
/-- a bench and its states, the list of states at l -/
abbrev BLr (B sk l : Addr) (H : Hp) (x ls lt : Addr) (ts : List Tk) (es : List Deed) (u b : Int) (e : V) : Prop := BnAt B sk (woL [l] H) x ls lt ts es (hist ts es u b) (wEnd ts es u b).1 (ts.map (wid u b)) (wEnd ts es u b).2 u b e
/-- what ended is told by the last step -/
def eV (ts : List Tk) (es : List Deed) (u b : Int) : V := match es.getLast? with
  | none => .non
  | some d => if endB (ts.map (wid u b)) (wAt ts es u b (es.length - 1)).1 d = true then .int ((es.length - 1 : Nat) : Int) else .non
/-- no step but the last one ends -/
def Led (ts : List Tk) (es : List Deed) (u b : Int) : Prop := ∀ (j : Nat) (d : Deed), j + 1 < es.length → es[j]? = some d → endB (ts.map (wid u b)) (wAt ts es u b j).1 d = false
structure Bd (B sk l : Addr) (H : Hp) (x ls lt : Addr) (ts : List Tk) (es : List Deed) (u b : Int) : Prop where
  bn : BLr B sk l H x ls lt ts es u b (eV ts es u b)
  st : Sts H (woL [sk, x, ls, lt, l] H) l ts es u b (eV ts es u b)
  led : Led ts es u b
  ns : l ≠ sk
theorem Bd.ex {B sk l : Addr} {H H' : Hp} {x ls lt : Addr} {ts : List Tk} {es : List Deed} {u b : Int} (h : Bd B sk l H x ls lt ts es u b) (e : Evl.Ex H H') : Bd B sk l H' x ls lt ts es u b :=
  ⟨h.bn.go (woL_go e), h.st.mv (e _) (woL_go e), h.led, h.ns⟩
theorem Bd.coin {B sk l : Addr} {H H' : Hp} {x ls lt : Addr} {ts : List Tk} {es : List Deed} {u b : Int} (h : Bd B sk l H x ls lt ts es u b) (k : But sk H H') : Bd B sk l H' x ls lt ts es u b :=
  ⟨h.bn.sep fun p o z => woL_at (woL_ne z) (woL_at (woL_ne (woL_ex _ _ z)) (k _ _ (fun y => woL_ne z (List.mem_singleton.mpr y)) (woL_ex _ _ (woL_ex _ _ z)))), h.st.mv (k _ · h.ns) ((ButL.of_but k List.mem_cons_self).wo fun _ h => h), h.led, h.ns⟩
theorem Bd.ln {B sk l : Addr} {H : Hp} {x ls lt : Addr} {ts : List Tk} {es : List Deed} {u b : Int} (h : Bd B sk l H x ls lt ts es u b) : l ∉ [x, ls, lt] ∧ (∃ dx fs, H x = some (.ins B dx fs) ∧ fs = fs) ∧ sk ∉ [x, ls, lt, l] := by
  obtain ⟨⟨dx, lq, g, lw, tw, as, bs, hx, hls, _, hlt, _, _⟩, ⟨n1, n2, n3, n4⟩, _, _⟩ := h.bn
  have hm2 : l ∈ [l] := List.mem_singleton.mpr rfl
  refine ⟨fun hm => ?_, ⟨_, _, woL_ex _ _ hx, rfl⟩, ?_⟩
  · simp only [List.mem_cons, List.not_mem_nil, or_false] at hm
    rcases hm with h | h | h
    · rw [← h] at hx
      exact woL_ne hx hm2
    · rw [← h] at hls
      exact woL_ne hls hm2
    · rw [← h] at hlt
      exact woL_ne hlt hm2
  · simp only [List.mem_cons, List.not_mem_nil, or_false, not_or]
    exact ⟨n4.symm, n2.symm, n3.symm, h.ns.symm⟩
end V2


namespace V2
open PySem L2
open PySem.Spec PyProof.Rows
/-- deeds so far, in a list that grows -/
def DsI (H : Hp) (sk ld : Addr) (m : Int) (ds : List Deed) (H' : Hp) : Prop := But sk H H' ∧ DsAt (wo sk H') ld ds ∧ (∀ d ∈ ds, okD m d) ∧ ∀ k a, Deed.po k a ∈ ds → a ≤ 1000
theorem DsI.more {H H1 H2 : Hp} {sk ld t : Addr} {m : Int} {ds : List Deed} {d : Deed} {n i : Nat} (h : DsI H sk ld m ds H1) (lH : H ld = none) (s : Sk H1 sk n) (b : But sk H1 H2) (hd : DAt (Nw H1 H2) t d) (ok : okD m d) (hp : ∀ k a, d = .po k a → a ≤ 1000) (hl : ds.length = i) (hi : i ≤ 100) :
    ∃ acc, H2 ld = some (.lst acc) ∧ acc.length < sizeLine ∧ DsI H sk ld m (ds ++ [d]) (upd H2 ld (.lst (acc ++ [.ref t]))) := by
  obtain ⟨h1, h2, h3, h4⟩ := h
  have hD7 := h2.ex b.wo
  obtain ⟨acc, q1, q2⟩ := ds_list hD7
  have q1 := wo_ex _ _ q1
  have q3 := ds_more hD7 h3 (hd.ex (nw_wo s)) ok (wo_upd (x := .lst (acc ++ [.ref t]))) (wo_app q1)
  refine ⟨acc, q1, ?_, ?_, q3, ?_, ?_⟩
  · rw [q2, hl]
    exact Nat.lt_of_le_of_lt hi (by decide)
  · exact fun c o nc e => Eq.trans (upd_ne (ne_of_none' e lH)) ((h1.trans b) c o nc e)
  · intro d' h'
    rcases List.mem_append.mp h' with h | h
    · exact h3 _ h
    · rw [List.mem_singleton.mp h]
      exact ok
  · intro k' a' h'
    rcases List.mem_append.mp h' with h | h
    · exact h4 _ _ h
    · exact hp k' a' (List.mem_singleton.mp h).symm
section
variable {base : Heap} {mg : Str → Option Value} {K : PySem.W.Frag} {w : World} {P : Program}
theorem ok_width {f : Addr} {fd : FuncData} (F : Fun K "_law_wl_width" "_law_wl_width" s_l_width f fd) (cC : Cal P w K mg base 1 "_law_coin" p_l_coin spCoin) (cR : Cal P w K mg base 2 "_law_wl_ratio" p_l_ratio spRatio) : FnOk P w K mg base CX0 3 f fd p_l_width (spWid 90000 4) := by
  refine F.ok sc_l_width (fun vs H Q E h => ?_) (fun cdv A outer s H vs Q E hr h => ?_)
  · obtain ⟨s, n, rfl, _⟩ := h
    rfl
  · obtain ⟨sk, n, rfl, hS, hn, k⟩ := h
    have nd := sc_l_width.nd
    have n200 := n200e
    have r1 : Room 1 _ := hr.mono (by decide)
    have e15 : (10 : Int) ^ (15 : Int).toNat = 1000000000000000 := by decide
    have w15 : CPowX 10 15 := pow_ok (k := 4) (n := 15) (by decide) (by decide)
    refine ⟨_, pss_cons (ps_set (i := 1) nd rfl (Or.inl rfl) (pe_op op_add pe_int (pe_c cC r1 (pa_cons (pv 0) (pa_cons (pe_ix ix_list (pe_lst (pa_cons pe_int (pa_cons pe_int (pa_cons pe_int (pa_cons (pe_op op_powX pe_int pe_int) pa_nil))))) (pe_c cC r1 (pa_cons (pv 0) (pa_cons pe_int pa_nil))) (fun _ _ => rfl)) pa_nil)))))
      (pss_one (ps_ret (pe_c cR hr (pa_cons (pe_op op_add pe_int (pe_c cC r1 (pa_cons (pv 0) (pa_cons (pe_ix ix_list (pe_lst (pa_cons pe_int (pa_cons pe_int (pa_cons pe_int (pa_cons (pe_op op_powX pe_int pe_int) pa_nil))))) (pe_c cC r1 (pa_cons (pv 0) (pa_cons pe_int pa_nil))) (fun _ _ => rfl)) pa_nil)))) (pa_cons (pv 1) pa_nil))))), ?_⟩
    refine ⟨_, rfl, ?_⟩
    show tOp (rIxL _) (tLst _) (tCall spCoin [] E0 _) _ _ _
    refine pick_read (xs := [.int 1, .int 6, .int 40, .int ((10 : Int) ^ (15 : Int).toNat)]) rfl (by decide) (by decide) rfl hS (by omega) (fun _ _ q => ⟨_, _, rfl, rfl, w15, q⟩) fun v H1 hv b1 s1 => ?_
    obtain ⟨x, rfl, hx⟩ : ∃ x, v = .int x ∧ (0 < x ∧ x ≤ 1000000000000000) := by
      rw [e15] at hv
      simp only [List.mem_cons, List.not_mem_nil, or_false] at hv
      rcases hv with rfl | rfl | rfl | rfl <;> exact ⟨_, rfl, by decide, by decide⟩
    refine ⟨sk, x, n + 1, rfl, s1, by omega, hx.1, by rw [n200]; omega, fun y H2 y0 y1 b2 s2 z2 => ⟨_, _, rfl, rfl, ?_⟩⟩
    refine ⟨_, rfl, ?_⟩
    show tOp (rIxL _) (tLst _) (tCall spCoin [] E0 _) _ _ _
    refine pick_read (xs := [.int 4, .int 30, .int 1000, .int ((10 : Int) ^ (15 : Int).toNat)]) rfl (by decide) (by decide) rfl s2 (by omega) (fun _ _ q => ⟨_, _, rfl, rfl, w15, q⟩) fun v H3 hv b3 s3 => ?_
    obtain ⟨u, rfl, hu⟩ : ∃ x, v = .int x ∧ (0 < x ∧ x ≤ 1000000000000000) := by
      rw [e15] at hv
      simp only [List.mem_cons, List.not_mem_nil, or_false] at hv
      rcases hv with rfl | rfl | rfl | rfl <;> exact ⟨_, rfl, by decide, by decide⟩
    refine ⟨sk, u, n + 3, rfl, s3, by omega, hu.1, by rw [n200]; omega, fun z H4 z0 z1 b4 s4 z4 => ⟨_, _, rfl, rfl, _, rfl, 1 + z, 1 + y, rfl, bn15 (by omega) (by omega), bn15 (by omega) (by omega), by omega, fun t H5 ht e5 h5 => ?_⟩⟩
    have b14 := ((b1.trans b2).trans b3).trans b4
    obtain ⟨q1, q2⟩ := qn_fr y0 (by omega) z0 (by omega)
    exact k t _ _ H5 (b14.trans (But.of_ex e5)) ((s4.ex e5).le (by omega)) (but_none b14 s4 ht) (wo_at (sk_ne s4 ht) h5) q1 q2
end
end V2


namespace V2
open PySem L2
open PySem.Spec PyProof.Rows
/-- a test that reads only: both answers -/
def Rd (t : TT) (σ : L2.St) (H : Hp) : Prop := ∀ R : Bool → Hp → Prop, R true H → R false H → t σ H R
theorem Rd.and {t u : TT} {σ : L2.St} {H : Hp} (ht : Rd t σ H) (hu : Rd u σ H) : Rd (tAnd t u) σ H := fun R h1 h2 => ht _ (if_t rfl (hu R h1 h2)) (if_f (by decide) h2)
theorem Rd.or {t u : TT} {σ : L2.St} {H : Hp} (ht : Rd t σ H) (hu : Rd u σ H) : Rd (tOr t u) σ H := fun R h1 h2 => ht _ (if_t rfl h1) (if_f (by decide) (hu R h1 h2))
/-- what is drawn so far -/
structure PI (H : Hp) (sk ld lv ll : Addr) (ts : List Tk) (m : Int) (ds : List Deed) (H' : Hp) : Prop where
  but : But sk H H'
  dsk : ld ≠ sk
  lsk : ll ≠ sk
  dH : H ld = none
  dv : ld ≠ lv
  dl : ld ≠ ll
  li : ∃ a b : Int, Li H' ll [a, b]
  lH : H ll = none
  da : DsAt (wo ll (wo sk H')) ld ds
  ta : TksAt (wo ll (wo sk H')) lv ts
  ok : ∀ d ∈ ds, okD m d
  po : ∀ k a, Deed.po k a ∈ ds → a ≤ 1000
theorem PI.go {H H1 H2 : Hp} {sk ld lv ll : Addr} {ts : List Tk} {m : Int} {ds : List Deed} (h : PI H sk ld lv ll ts m ds H1) (b : But sk H1 H2) : PI H sk ld lv ll ts m ds H2 := by
  obtain ⟨x, y, hl⟩ := h.li
  exact ⟨h.but.trans b, h.dsk, h.lsk, h.dH, h.dv, h.dl, ⟨x, y, b _ _ h.lsk hl⟩, h.lH, h.da.ex (ex_wo b.wo), h.ta.ex (ex_wo b.wo), h.ok, h.po⟩
theorem PI.more {H H1 H2 : Hp} {sk ld lv ll t : Addr} {ts : List Tk} {m : Int} {ds : List Deed} {d : Deed} (h : PI H sk ld lv ll ts m ds H1) (b : But sk H1 H2) (hd : DAt (wo ll (wo sk H2)) t d) (ok : okD m d) (hp : ∀ k a, d = .po k a → a ≤ 1000) (hl : ds.length ≤ 100) :
    ∃ acc, H2 ld = some (.lst acc) ∧ acc.length < sizeLine ∧ PI H sk ld lv ll ts m (ds ++ [d]) (upd H2 ld (.lst (acc ++ [.ref t]))) ∧ acc.length = ds.length ∧ DAt (upd H2 ld (.lst (acc ++ [.ref t]))) t d := by
  have h2 := h.go b
  obtain ⟨acc, q1, q2⟩ := ds_list h2.da
  have q1 := wo_ex _ _ (wo_ex _ _ q1)
  have q3 := ds_more h2.da h2.ok hd ok (wo_upd2 (x := .lst (acc ++ [.ref t]))) (wo_app2 q1)
  obtain ⟨x, y, hli⟩ := h2.li
  refine ⟨acc, q1, ?_, ⟨?_, h2.dsk, h2.lsk, h2.dH, h2.dv, h2.dl, ⟨x, y, Eq.trans (upd_ne (Ne.symm h2.dl)) hli⟩, h2.lH, q3, ?_, ?_, ?_⟩, q2, dat_keep' hd ok h2.da (fun c o nc q => Eq.trans (upd_ne nc) (wo_ex _ _ (wo_ex _ _ q)))⟩
  · rw [q2]
    exact Nat.lt_of_le_of_lt hl (by decide)
  · exact fun c o nc e => Eq.trans (upd_ne (ne_of_none' e h2.dH)) (h2.but c o nc e)
  · exact tks_keep h2.ta (wo_at h2.dl (wo_at h2.dsk q1)) (Ne.symm h2.dv) (wo_upd2 (x := .lst (acc ++ [.ref t])))
  · intro d' h'
    rcases List.mem_append.mp h' with h | h
    · exact h2.ok _ h
    · rw [List.mem_singleton.mp h]
      exact ok
  · intro k' a' h'
    rcases List.mem_append.mp h' with h | h
    · exact h2.po _ _ h
    · exact hp k' a' (List.mem_singleton.mp h).symm
theorem wo_wo_upd {q p : Addr} {H : Hp} {x : HO} : Evl.Ex (wo q (wo p H)) (wo q (wo p (upd H q x))) := fun b o h => wo_at (wo_ne h) (wo_at (wo_ne (wo_ex _ _ h)) (Eq.trans (upd_ne (wo_ne h)) (wo_ex _ _ (wo_ex _ _ h))))
theorem PI.set {H H1 : Hp} {sk ld lv ll : Addr} {ts : List Tk} {m : Int} {ds : List Deed} {a b : Int} (h : PI H sk ld lv ll ts m ds H1) : PI H sk ld lv ll ts m ds (upd H1 ll (.lst (iV [a, b]))) :=
  ⟨fun c o nc e => Eq.trans (upd_ne (ne_of_none' e h.lH)) (h.but c o nc e), h.dsk, h.lsk, h.dH, h.dv, h.dl, ⟨a, b, upd_same⟩, h.lH, h.da.ex wo_wo_upd, h.ta.ex wo_wo_upd, h.ok, h.po⟩
theorem PI.new {H H1 : Hp} {sk ld lv ll l2 : Addr} {ts : List Tk} {m : Int} {ds : List Deed} {a b : Int} {n : Nat} (h : PI H sk ld lv ll ts m ds H1) (s : Sk H1 sk n) (hl : H1 l2 = none) : PI H sk ld lv l2 ts m ds (upd H1 l2 (.lst (iV [a, b]))) := by
  have e := Evl.Ex.new (o := .lst (iV [a, b])) hl
  have ex : Evl.Ex (wo ll (wo sk H1)) (wo l2 (wo sk (upd H1 l2 (.lst (iV [a, b]))))) := fun c o q => by
    have q1 := wo_ex _ _ q
    exact wo_at (ne_of_none' (wo_ex _ _ q1) hl) (wo_at (wo_ne q1) (e _ _ (wo_ex _ _ q1)))
  obtain ⟨as, w, _⟩ := h.da
  exact ⟨h.but.trans (But.of_ex e), h.dsk, sk_ne s hl, h.dH, h.dv, ne_of_none' (wo_ex _ _ (wo_ex _ _ w)) hl, ⟨a, b, upd_same⟩, but_none h.but s hl, h.da.ex ex, h.ta.ex ex, h.ok, h.po⟩
section
variable {base : Heap} {mg : Str → Option Value} {K : PySem.W.Frag} {w : World} {P : Program}
end
end V2


namespace V2
open PySem L2
open PySem.Spec PyProof.Rows
def spWw : Sp := fun vs H Q _ => ∃ (s : Addr) (n : Nat), vs = [.ref s] ∧ Sk H s n ∧ n ≤ 80000 ∧
  ∀ (t : Addr) (p q : Int) (H' : Hp), But s H H' → Sk H' s (n + 3) → H t = none → Fr (wo s H') t p q → (p ≤ 0 ∨ q ≤ 0 ∨ Int.gcd p q ≠ 1) → p.natAbs ≤ 1000 → q.natAbs ≤ 1000 → Q (.ref t) H'
section
variable {base : Heap} {mg : Str → Option Value} {K : PySem.W.Frag} {w : World} {P : Program} {C fI fT fS pT pS : Addr}
theorem ok_wrong_width {f : Addr} {fd : FuncData} (F : Fun K "_law_wl_wrong_width" "_law_wl_wrong_width" s_l_wrong_width f fd) (cC : Cal P w K mg base 1 "_law_coin" p_l_coin spCoin) : FnOk P w K mg base CX0 2 f fd p_l_wrong_width spWw := by
  refine F.ok sc_l_wrong_width (fun vs H Q E h => ?_) (fun cdv A outer s H vs Q E hr h => ?_)
  · obtain ⟨s, n, rfl, _⟩ := h
    rfl
  · obtain ⟨sk, n, rfl, hS, hn, k⟩ := h
    have nd := sc_l_wrong_width.nd
    have n200 := n200e
    have two : 2 ≤ sizeLine := by show 2 ≤ sizeLine; decide
    have six : 6 ≤ sizeLine := by show 6 ≤ sizeLine; decide
    have r1 : Room 1 _ := hr.mono (by decide)
    refine ⟨_, pss_cons (ps_par (i := 1) (j := 2) rfl nd rfl rfl (by decide) rfl rfl (pa_cons (pe_op op_add pe_int (pe_c cC r1 (pa_cons (pv 0) (pa_cons pe_int pa_nil)))) (pa_cons (pe_op op_add pe_int (pe_c cC r1 (pa_cons (pv 0) (pa_cons pe_int pa_nil)))) pa_nil)) (by rfl))
      (pss_cons (ps_set (i := 3) nd rfl (Or.inl rfl) (pe_lst (pa_cons (pe_tup (pa_cons pe_int (pa_cons pe_int pa_nil))) (pa_cons (pe_tup (pa_cons (pe_op op_sub pe_int (pv 1)) (pa_cons pe_int pa_nil))) (pa_cons (pe_tup (pa_cons (pe_op op_mul pe_int (pv 1)) (pa_cons (pe_op op_mul pe_int (pv 2)) pa_nil))) (pa_cons (pe_tup (pa_cons (pv 1) (pa_cons pe_int pa_nil))) (pa_cons (pe_tup (pa_cons pe_int (pa_cons (pe_op op_add (pv 2) pe_int) pa_nil))) (pa_cons (pe_tup (pa_cons (pv 1) (pa_cons (pe_op op_sub pe_int pe_int) pa_nil))) pa_nil))))))))
      (pss_one (ps_ret (pe_ix ix_list (pv 3) (pe_c cC r1 (pa_cons (pv 0) (pa_cons pe_int pa_nil))) (fun _ _ => rfl))))), ?_⟩
    refine ⟨_, rfl, sk, 60, n, rfl, hS, by omega, by decide, by decide, fun x H1 x0 x1 b1 s1 z1 => ⟨_, _, rfl, rfl, ?_⟩⟩
    refine ⟨_, rfl, sk, 9, n + 1, rfl, s1, by omega, by decide, by decide, fun y H2 y0 y1 b2 s2 z2 => ⟨_, _, rfl, rfl, _, _, rfl, ?_⟩⟩
    have b12 := b1.trans b2
    refine ⟨two, fun t1 h1 => ?_⟩
    have f1 := Evl.Ex.new (o := .tup [.int 0, .int 1]) h1
    have g1 := upd_same (H := H2) (a := t1) (o := .tup [.int 0, .int 1])
    generalize upd H2 t1 (.tup [.int 0, .int 1]) = G1 at f1 g1
    have m1 : CMul 2 (1 + x) := .inl (by decide)
    have m2 : CMul 2 (1 + y) := .inl (by decide)
    refine ⟨_, rfl, _, _, rfl, rfl, two, fun t2 h2 => ?_⟩
    have f2 := Evl.Ex.new (o := .tup [.int (0 - (1 + x)), .int 1]) h2
    have g2 := upd_same (H := G1) (a := t2) (o := .tup [.int (0 - (1 + x)), .int 1])
    generalize upd G1 t2 (.tup [.int (0 - (1 + x)), .int 1]) = G2 at f2 g2
    refine ⟨_, rfl, _, _, rfl, rfl, m1, _, rfl, _, _, rfl, rfl, m2, two, fun t3 h3 => ?_⟩
    have f3 := Evl.Ex.new (o := .tup [.int (2 * (1 + x)), .int (2 * (1 + y))]) h3
    have g3 := upd_same (H := G2) (a := t3) (o := .tup [.int (2 * (1 + x)), .int (2 * (1 + y))])
    generalize upd G2 t3 (.tup [.int (2 * (1 + x)), .int (2 * (1 + y))]) = G3 at f3 g3
    refine ⟨_, rfl, two, fun t4 h4 => ?_⟩
    have f4 := Evl.Ex.new (o := .tup [.int (1 + x), .int 0]) h4
    have g4 := upd_same (H := G3) (a := t4) (o := .tup [.int (1 + x), .int 0])
    generalize upd G3 t4 (.tup [.int (1 + x), .int 0]) = G4 at f4 g4
    refine ⟨_, rfl, _, _, rfl, rfl, two, fun t5 h5 => ?_⟩
    have f5 := Evl.Ex.new (o := .tup [.int 0, .int (1 + y + 1)]) h5
    have g5 := upd_same (H := G4) (a := t5) (o := .tup [.int 0, .int (1 + y + 1)])
    generalize upd G4 t5 (.tup [.int 0, .int (1 + y + 1)]) = G5 at f5 g5
    refine ⟨_, rfl, _, _, rfl, rfl, two, fun t6 h6 => ?_⟩
    have f6 := Evl.Ex.new (o := .tup [.int (1 + x), .int (0 - 1)]) h6
    have g6 := upd_same (H := G5) (a := t6) (o := .tup [.int (1 + x), .int (0 - 1)])
    generalize upd G5 t6 (.tup [.int (1 + x), .int (0 - 1)]) = G6 at f6 g6
    refine ⟨six, fun l hl => ?_⟩
    have f7 := Evl.Ex.new (o := .lst [.ref t1, .ref t2, .ref t3, .ref t4, .ref t5, .ref t6]) hl
    have g7 := upd_same (H := G6) (a := l) (o := .lst [.ref t1, .ref t2, .ref t3, .ref t4, .ref t5, .ref t6])
    generalize upd G6 l (.lst [.ref t1, .ref t2, .ref t3, .ref t4, .ref t5, .ref t6]) = G7 at f7 g7
    have s7 := ((((((s2.ex f1).ex f2).ex f3).ex f4).ex f5).ex f6).ex f7
    have e7 := (((((f1.trans f2).trans f3).trans f4).trans f5).trans f6).trans f7
    have lsk : l ≠ sk := fun z => by
      obtain ⟨a1, a2, a3, a4, _⟩ := s7
      rw [z, a4] at g7
      cases g7
    refine ⟨_, rfl, _, rfl, sk, 6, n + 2, rfl, s7, by omega, by decide, by decide, fun r H8 r0 r1' b8 s8 z8 => ?_⟩
    have g8 := b8 _ _ lsk g7
    have bt := (b12.trans (But.of_ex e7)).trans b8
    obtain ⟨t, p, q, ha, hn', ht, hbad, hp, hq⟩ : ∃ (t : Addr) (p q : Int), atI [V.ref t1, .ref t2, .ref t3, .ref t4, .ref t5, .ref t6] r = some (.ref t) ∧ H t = none ∧ G7 t = some (.tup [.int p, .int q]) ∧ (p ≤ 0 ∨ q ≤ 0 ∨ Int.gcd p q ≠ 1) ∧ p.natAbs ≤ 1000 ∧ q.natAbs ≤ 1000 := by
      rcases (show r = 0 ∨ r = 1 ∨ r = 2 ∨ r = 3 ∨ r = 4 ∨ r = 5 by omega) with rfl | rfl | rfl | rfl | rfl | rfl
      · exact ⟨t1, 0, 1, rfl, (but_none b12 s2 h1), (f7 _ _ (f6 _ _ (f5 _ _ (f4 _ _ (f3 _ _ (f2 _ _ g1)))))), .inl (by omega), by omega, by omega⟩
      · exact ⟨t2, 0 - (1 + x), 1, rfl, (but_none b12 s2 (Evl.fresh_back f1 h2)), (f7 _ _ (f6 _ _ (f5 _ _ (f4 _ _ (f3 _ _ g2))))), .inl (by omega), by omega, by omega⟩
      · exact ⟨t3, 2 * (1 + x), 2 * (1 + y), rfl, (but_none b12 s2 (Evl.fresh_back f1 (Evl.fresh_back f2 h3))), (f7 _ _ (f6 _ _ (f5 _ _ (f4 _ _ g3)))), .inr (.inr (by rw [Int.gcd_mul_left]; show 2 * _ ≠ 1; omega)), by omega, by omega⟩
      · exact ⟨t4, 1 + x, 0, rfl, (but_none b12 s2 (Evl.fresh_back f1 (Evl.fresh_back f2 (Evl.fresh_back f3 h4)))), (f7 _ _ (f6 _ _ (f5 _ _ g4))), .inr (.inl (by omega)), by omega, by omega⟩
      · exact ⟨t5, 0, 1 + y + 1, rfl, (but_none b12 s2 (Evl.fresh_back f1 (Evl.fresh_back f2 (Evl.fresh_back f3 (Evl.fresh_back f4 h5))))), (f7 _ _ (f6 _ _ g5)), .inl (by omega), by omega, by omega⟩
      · exact ⟨t6, 1 + x, 0 - 1, rfl, (but_none b12 s2 (Evl.fresh_back f1 (Evl.fresh_back f2 (Evl.fresh_back f3 (Evl.fresh_back f4 (Evl.fresh_back f5 h6)))))), (f7 _ _ g6), .inr (.inl (by omega)), by omega, by omega⟩
    have tsk : t ≠ sk := sk_ne hS hn'
    exact ⟨l, _, r, _, rfl, rfl, SqL.of g8, ha, k t p q H8 bt (s8.le (by omega)) hn' (wo_at tsk (b8 _ _ tsk ht)) hbad hp hq⟩
end
end V2


namespace V2
open PySem L2
open PySem.Spec PyProof.Rows
/-- isinstance(e, D), e the error that is handled, of the known class C -/
def tI1O (C : Addr) (a : Addr) (cls : Value) (d : Option Addr) (n : Nat) (b : Bool) : TE := fun σ H Q => ∃ (dd : Addr) (fs : List (Str × V)), σ[n]? = some (some (.ref a)) ∧ cls = .ref C ∧ d = some dd ∧ H dd = some (.xd fs) ∧ Q (.bl b) H
section
variable {X : Cx} {C D fI a : Addr} {oe : Obj} {cls : Value} {d : Option Addr} {pn : List (Addr × Obj)} {n : Nat} {x y : Str} {p1 p2 p3 pos : Pos} {b : Bool}
theorem pe_i1O {K : PySem.W.Frag} {mg : Str → Option Value} (hK : X.K = K) (hmg : X.mg = mg) (T : EC K C fI) (G : EG K fI) (mI : mg "isinstance" = none) (mD : mg y = some (.ref D)) (kv : PySem.W.kitOne K (.ref C) (.ref D) = some b) (hz : Zc cls d oe) (hf : ∃ vs, oe.data = .fields vs) (he : PE (X.suite a ((a, oe) :: pn)) (.Name x p1) (tVar n))
    (hg : Gl (X.suite a ((a, oe) :: pn)) "isinstance" := by rfl) (hg2 : Gl (X.suite a ((a, oe) :: pn)) y := by rfl) (hdb : (y == ("__debug__" : Str)) = false := by decide) :
    PE (X.suite a ((a, oe) :: pn)) (.Call (.Name "isinstance" p2) [.Name x p1, .Name y p3] [] pos) (tI1O C a cls d n b) := by
  subst hK hmg
  refine ⟨fun pins s σ H Q I h => ?_⟩
  obtain ⟨dd, fs, h3, e1, e2, hx, q⟩ := h
  have hc : (a, oe).2.cls = .ref C := hz.1.trans e1
  have z := pe_callB (X := X.suite a ((a, oe) :: pn)) (p := p2) (pos := pos) (call_isP (p := (a, oe)) (C := C) G List.mem_cons_self hc hf) hg mI (by decide +kernel) (pa_cons he (pa_cons (pe_glob (pos := p3) (v := .ref D) hg2 mD rfl hdb) pa_nil))
  exact z.run pins s σ H Q I ⟨_, h3, dd, fs, .ref D, .ref D, b, rfl, hz.2.trans e2, hx, T, fun u h => h, kv, q⟩
end
section
variable {base : Heap} {mg : Str → Option Value} {K : PySem.W.Frag} {w : World} {P : Program} {C fI fT fS pT pS fW fX CF CT CR gI : Addr}
end
end V2






namespace V2
open PySem L2
open PySem.Spec PyProof.Rows
theorem sq_ex_but {K : PySem.W.Frag} {H H1 H2 : Hp} {a q : Addr} {xs : List V} (h : SqL K H a xs) (hq : H q = none) (e : Evl.Ex H H1) (b : But q H1 H2) : SqL K H2 a xs := by
  rcases h with h | h
  · left
    have go : ∀ o, H a = some o → H2 a = some o := fun o ho => b a o (ne_of_none ho hq) (e a o ho)
    rcases h with h | ⟨o, h⟩
    · exact .inl (go _ h)
    · exact .inr ⟨o, go _ h⟩
  · exact .inr h
def spLaw (K : PySem.W.Frag) : Sp := fun vs H Q _ => ∃ (a : Addr) (ns : List Int), vs = [.ref a] ∧ SqL K H a (iV ns) ∧ ns.length ≤ 63 ∧ ∀ H', Q (.bl true) H'
structure T6 (mg : Str → Option Value) : Prop where
  rng : mg "range" = none
  len : mg "len" = none
  max : mg "max" = none
  min : mg "min" = none
def Lay (K : PySem.W.Frag) (mg : Str → Option Value) (x : Str) (st : Stmt) (ps : List Str) : Prop := ∃ (f : Addr) (fd : FuncData), Fun K x x st f fd ∧ mg x = some (.ref f) ∧ PySem.W.keepIn K (.ref f) = true ∧ Binds K fd ps []
theorem lay_of {h : Heap} {mg : Str → Option Value} {K : PySem.W.Frag} {w : World} {L : Lk} (X : K.In h) (G : h.Ns mainGlobals mg) (c : L.seen K = L.due w) (i j : Nat) {x : Str} {st : Stmt} {ps : List Str}
    (hi : L.ds[i]? = some ⟨fun K => He.ga K x, x, x, st⟩) (hj : L.fb[j]? = some (bGlo x))
    (hb : ∀ (kV doc pm : Value) (an : Option Addr) (cdv ct : Value) (us : List Value), us.length = ps.length → bindArgs (PySem.W.fnOf x x (defArgs st) (defBody st) (defScope st) .none kV doc pm an cdv ct) ⟨us, []⟩ = pure (ps.zip us)) : Lay K mg x st ps := by
  obtain ⟨fd, F⟩ := Lk.df c i hi
  exact ⟨_, fd, F, He.glo_ok X G (Lk.fact c j hj), F.kp, Fun.binds F hb⟩
/-- a method, a getter -/
def LayM (K : PySem.W.Frag) (x y : Str) (st : Stmt) (f : Addr) (ps : List Str) : Prop := ∃ fd : FuncData, Fun K x y st f fd ∧ Binds K fd ps []
theorem laym_of {K : PySem.W.Frag} {w : World} {L : Lk} (c : L.seen K = L.due w) (i : Nat) {x y : Str} {st : Stmt} {a : PySem.W.Frag → Addr} {ps : List Str} (hi : L.ds[i]? = some ⟨a, x, y, st⟩)
    (hb : ∀ (kV doc pm : Value) (an : Option Addr) (cdv ct : Value) (us : List Value), us.length = ps.length → bindArgs (PySem.W.fnOf x y (defArgs st) (defBody st) (defScope st) .none kV doc pm an cdv ct) ⟨us, []⟩ = pure (ps.zip us)) : LayM K x y st (a K) ps := by
  obtain ⟨fd, F⟩ := Lk.df c i hi
  exact ⟨fd, F, Fun.binds F hb⟩
section
variable {base : Heap} {mg : Str → Option Value} {K : PySem.W.Frag} {w : World} {P : Program}
theorem Lay.cal {x : Str} {st : Stmt} {ps : List Str} {k : Nat} {sp : Sp} (L : Lay K mg x st ps) (h : ∀ f fd, Fun K x x st f fd → FnOk P w K mg base CX0 k f fd ps sp) : Cal P w K mg base k x ps sp := by
  obtain ⟨f, fd, F, m, kp, b⟩ := L
  exact ⟨f, fd, h f fd F, m, kp, b⟩
theorem Lay.calG {x : Str} {st : Stmt} {ps : List Str} {k : Nat} {sp : Sp} (L : Lay K mg x st ps) (h : ∀ f fd, Fun K x x st f fd → FnG P w K mg base k f fd ps sp) : CalG P w K mg base k x ps sp := by
  obtain ⟨f, fd, F, m, kp, b⟩ := L
  exact ⟨f, fd, h f fd F, m, kp, b⟩
end
end V2




namespace V2
open PySem L2
open PySem.Spec PyProof.Rows
theorem sgn_sg (x : Int) : sgn x = sg x := rfl
def PnN (xs : List Int) : Prop := xs.length ≤ 17 ∧ ∀ x ∈ xs, x.natAbs < 2 ^ 101
def vl (p q : Int) (xs : List Int) : Int × Int := fr (hA p q xs) (q ^ xs.length)
def spScN : Sp := fun vs H Q _ => ∃ (a b : Addr) (xs : List Int) (p q : Int), vs = [.ref a, .ref b] ∧ Li H a xs ∧ Fr H b p q ∧ PnN xs ∧ p.natAbs < 2 ^ 50 ∧ q.natAbs < 2 ^ 50 ∧ RetU [.int (hT p q xs), .int (q ^ (xs.length - 1))] H Q
def spValN : Sp := fun vs H Q _ => ∃ (a b : Addr) (xs : List Int) (p q : Int), vs = [.ref a, .ref b] ∧ Li H a xs ∧ Fr H b p q ∧ PnN xs ∧ Qn p q ∧ RetU [.int (vl p q xs).1, .int (vl p q xs).2] H Q
def spSgA : Sp := fun vs H Q _ => ∃ (a b : Addr) (xs : List Int) (p q : Int), vs = [.ref a, .ref b] ∧ Li H a xs ∧ Fr H b p q ∧ PnN xs ∧ p.natAbs < 2 ^ 50 ∧ q.natAbs < 2 ^ 50 ∧ Evl.RetV (.int (sg (hT p q xs))) H Q
/-- a form's value -/
abbrev Fm := List Int × List Int
def fmV (p q : Int) (f : Fm) : Int × Int := ratN ((vl p q f.1).1 * (vl p q f.2).2) ((vl p q f.1).2 * (vl p q f.2).1)
def OkFm (f : Fm) : Prop := PnN f.1 ∧ PnN f.2 ∧ ∀ p q : Int, 0 < p → 0 < q → hA p q f.2 ≠ 0
def FoAt (H : Hp) (a : Addr) (f : Fm) : Prop := ∃ x y : Addr, H a = some (.tup [.ref x, .ref y]) ∧ Li H x f.1 ∧ Li H y f.2
def spFormAt : Sp := fun vs H Q _ => ∃ (a b : Addr) (f : Fm) (p q : Int), vs = [.ref a, .ref b] ∧ FoAt H a f ∧ Fr H b p q ∧ OkFm f ∧ Qn p q ∧ 0 < p ∧ RetU [.int (fmV p q f).1, .int (fmV p q f).2] H Q
theorem bigN {x : Int} {n m : Nat} (h : x.natAbs < 2 ^ n) (l : n ≤ m) : x.natAbs < 2 ^ m := Nat.lt_of_lt_of_le h (Nat.pow_le_pow_right (by decide) l)
theorem vl_val {p q : Int} (hq : 0 < q) (xs : List Int) : fr (hT p q xs) (q ^ (xs.length - 1)) = vl p q xs := by
  by_cases hn : xs = []
  · subst hn; rfl
  · exact val_same hq xs hn
theorem vl_pos {p q : Int} (hq : 0 < q) (xs : List Int) : 0 < (vl p q xs).2 := fr_pos (qpos hq _)
theorem vl_b1 {p q : Int} (h : Qn p q) {xs : List Int} (hx : PnN xs) : (vl p q xs).1.natAbs < 2 ^ 1020 := Nat.lt_of_le_of_lt (fr_abs1 (qpos h.1 _)) (bigN (hA_ltN h.2.2.1 h.2.2.2 hx.2) (by have := hx.1; omega))
theorem vl_b2 {p q : Int} (h : Qn p q) {xs : List Int} (hx : PnN xs) : (vl p q xs).2.natAbs < 2 ^ 1020 := Nat.lt_of_le_of_lt (fr_abs2 (qpos h.1 _)) (bigN (npow_lt h.2.2.2 _) (by have := hx.1; omega))
theorem vl_ne {p q : Int} (hq : 0 < q) {xs : List Int} (h : hA p q xs ≠ 0) : (vl p q xs).1 ≠ 0 := fun z => by
  have e := fr_val (a := hA p q xs) (qpos hq xs.length)
  have e2 : (fr (hA p q xs) (q ^ xs.length)).1 = 0 := z
  rw [e2, Int.zero_mul] at e
  have := vl_pos (p := p) hq xs
  rcases Int.mul_eq_zero.mp e.symm with h1 | h1
  · exact h h1
  · exact absurd h1 (Int.ne_of_gt this)
theorem mul_b {x y : Int} {n m k : Nat} (h1 : x.natAbs < 2 ^ n) (h2 : y.natAbs < 2 ^ m) (l : n + m ≤ k) : (x * y).natAbs < 2 ^ k := by
  refine bigN (n := n + m) ?_ l
  rw [Int.natAbs_mul, Nat.pow_add]
  exact Nat.mul_lt_mul'' h1 h2
section
variable {base : Heap} {mg : Str → Option Value} {K : PySem.W.Frag} {w : World} {P : Program}
theorem ok_fractionN {f : Addr} {fd : FuncData} (F : Fun K "fraction" "fraction" s_fraction f fd) (mG : mg "gcd" = some (.builtin "math.gcd")) : FnOk P w K mg base CX0 1 f fd p_fraction spRatio := by
  refine F.ok sc_fraction (fun vs H Q E h => ?_) (fun cdv A outer s H vs Q E hr h => ?_)
  · obtain ⟨x, y, rfl, _⟩ := h
    rfl
  · obtain ⟨x, y, rfl, hx, hy, y0, k⟩ := h
    have nd := sc_fraction.nd
    refine ⟨_, pss_cons (ps_set (i := 2) nd rfl (Or.inl rfl) (pe_callBfun cr_gcd (by rfl) mG (pa_cons (pv 0) (pa_cons (pv 1) pa_nil))))
      (pss_one (ps_ret (pe_tup (pa_cons (pe_op op_fdivW (pv 0) (pv 2)) (pa_cons (pe_op op_fdivW (pv 1) (pv 2)) pa_nil))))), ?_⟩
    have g := gcd_pos (u := x) y0
    have gb : (Int.gcd x y : Int).natAbs < 2 ^ 9000 := by
      rw [Int.natAbs_natCast]
      exact Nat.lt_of_le_of_lt (Nat.gcd_le_right _ (by omega)) hy
    have cD : ∀ z : Int, CDivW z (Int.gcd x y : Int) := fun z => wide_div g gb (by decide) (by decide)
    refine ⟨_, rfl, _, rfl, x, y, rfl, ?_⟩
    refine ⟨_, rfl, _, rfl, _, _, rfl, rfl, cD _, _, rfl, _, rfl, _, _, rfl, rfl, cD _, (by show 2 ≤ sizeLine; decide), fun p hp => ?_⟩
    exact k p _ hp (Evl.Ex.new hp) upd_same
theorem ok_scaledN {f : Addr} {fd : FuncData} (F : Fun K "scaled_value" "scaled_value" s_scaled_value f fd) (mE : mg "enumerate" = none) : FnOk P w K mg base CX0 1 f fd p_scaled_value spScN := by
  refine F.ok sc_scaled_value (fun vs H Q E h => ?_) (fun cdv A outer s H vs Q E hr h => ?_)
  · obtain ⟨a, b, xs, p, q, rfl, _⟩ := h
    rfl
  · obtain ⟨a, b, xs, p, q, rfl, ha, hb, ⟨hx1, hx3⟩, pb, qb, k⟩ := h
    have nd := sc_scaled_value.nd
    refine ⟨_, pss_cons (ps_asg (pv 1) (pg_tup rfl (pgs_cons (pg_name (i := 2) nd rfl (Or.inl rfl)) (pgs_cons (pg_name (i := 3) nd rfl (Or.inl rfl)) pgs_nil))))
      (pss_cons (ps_asg (pe_tup (pa_cons pe_int (pa_cons pe_int pa_nil))) (pg_tup rfl (pgs_cons (pg_name (i := 4) nd rfl (Or.inl rfl)) (pgs_cons (pg_name (i := 5) nd rfl (Or.inl rfl)) pgs_nil))))
      (pss_cons (ps_for PassesOwn.never rfl (pi_enum (by rfl) mE (pa_cons (pe_revL (pv 0)) pa_nil)) (pg_tup rfl (pgs_cons (pg_name (i := 6) nd rfl (Or.inl rfl)) (pgs_cons (pg_name (i := 7) nd rfl (Or.inl rfl)) pgs_nil)))
        (pss_cons (ps_if (pt_cmpR op_gt (pv 6) pe_int (nomark _)) (pss_one (ps_set (i := 5) nd rfl (Or.inl rfl) (pe_op op_mulW (pv 5) (pv 3)))) pss_nil)
        (pss_one (ps_set (i := 4) nd rfl (Or.inl rfl) (pe_op op_add (pe_op op_mulW (pv 4) (pv 2)) (pe_op op_mulW (pv 7) (pv 5)))))))
      (pss_one (ps_ret (pe_tup (pa_cons (pv 4) (pa_cons (pv 5) pa_nil))))))), ?_⟩
    have hTb : ∀ j, (hT p q (xs.drop j)).natAbs < 2 ^ 980 := fun j => by
      have := hT_ltN (N := 101) pb qb (xs.drop j) fun x hx => hx3 x (List.mem_of_mem_drop hx)
      refine Nat.lt_of_lt_of_le this (Nat.pow_le_pow_right (by decide) ?_)
      rw [List.length_drop]; omega
    have qk : ∀ j, j ≤ 17 → (q ^ j).natAbs < 2 ^ 851 := fun j hj => Nat.lt_of_lt_of_le (npow_lt qb j) (Nat.pow_le_pow_right (by decide) (by omega))
    refine ⟨_, rfl, b, _, rfl, SqT.of hb, rfl, _, _, rfl, _, _, rfl, rfl, ?_⟩
    refine ⟨(by show 2 ≤ sizeLine; decide), fun c hc => ?_⟩
    have e0 : Evl.Ex H (upd H c (.tup [.int 0, .int 1])) := Evl.Ex.new hc
    refine ⟨c, _, rfl, SqT.of upd_same, rfl, _, _, rfl, _, _, rfl, rfl, ?_⟩
    refine ⟨_, rfl, a, _, rfl, SqL.of (e0 _ _ ha), fun l hl => ⟨l, _, rfl, SqL.of upd_same, ?_⟩⟩
    have e1 : Evl.Ex H (upd (upd H c (.tup [.int 0, .int 1])) l (.lst (iV xs).reverse)) := e0.trans (Evl.Ex.new hl)
    have erev : (iV xs).reverse = iV xs.reverse := by unfold iV; rw [List.map_reverse]
    rw [erev] at e1 ⊢
    refine for_it walk_enum (fun i σ H' => ∃ v6 v7, σ = [some (.ref a), some (.ref b), some (.int p), some (.int q), some (.int (hT p q (xs.drop (xs.length - i)))), some (.int (q ^ (i - 1))), v6, v7] ∧ Evl.Ex (upd (upd H c (.tup [.int 0, .int 1])) l (.lst (iV xs.reverse))) H')
      ⟨none, none, ?_, Evl.Ex.refl _⟩ (fun i σ H' _ ⟨_, _, _, q⟩ => SqL.of (q _ _ upd_same)) ?_ ?_
    · rw [Nat.sub_zero, List.drop_length, show (0 - 1 : Nat) = 0 from rfl, Int.pow_zero]; rfl
    · rintro i x σ H' H2 hi ⟨v6, v7, rfl, e2⟩ ⟨T, z, y, rfl, hT2, rfl, hz, hy⟩
      obtain rfl := (Option.some.inj hz).symm
      obtain ⟨n, hn, rfl⟩ := iV_get hy
      rw [iV_len, List.length_reverse] at hi
      rw [List.getElem?_reverse hi] at hn
      have e3 := e2.trans (Evl.Ex.new (o := .tup [.int (i : Nat), .int n]) hT2)
      have st := hT_drop p q xs i n hi hn
      have b1 := hTb (xs.length - i)
      have nb := hx3 n (List.mem_of_getElem? hn)
      refine ⟨T, _, rfl, SqT.of upd_same, rfl, _, _, rfl, _, _, rfl, rfl, ?_⟩
      (refine ⟨_, rfl, _, _, rfl, rfl, _, rfl, ?_⟩)
      (refine ite2 (fun c => ?_) (fun c => ?_))
      · have c1 : 0 < i := by have := of_decide_eq_true c; omega
        have eq1 : q ^ (i - 1) * q = q ^ i := by rw [← Int.pow_succ]; congr 1; omega
        refine ⟨_, rfl, _, rfl, _, _, rfl, rfl, wide_mul (qk (i - 1) (by omega)) qb (by decide) (by decide) (by decide), ?_⟩
        refine ⟨_, rfl, _, rfl, _, _, rfl, rfl, wide_mul b1 pb (by decide) (by decide) (by decide), _, rfl, _, rfl, n, _, rfl, rfl, ?_, _, _, rfl, rfl, ?_⟩
        · show CMulW n (q ^ (i - 1) * q)
          rw [eq1]
          exact wide_mul nb (qk i (by omega)) (by decide) (by decide) (by decide)
        · refine ⟨some (.int (i : Nat)), some (.int n), ?_, e3⟩
          rw [st, Nat.add_sub_cancel, ← eq1]
          rfl
      · have c1 : i = 0 := by
          rcases Nat.eq_zero_or_pos i with e | e
          · exact e
          · exact absurd (decide_eq_true (by omega)) c
        subst c1
        refine ⟨_, rfl, _, rfl, _, _, rfl, rfl, wide_mul b1 pb (by decide) (by decide) (by decide), _, rfl, _, rfl, n, _, rfl, rfl, ?_, _, _, rfl, rfl, ?_⟩
        · exact wide_mul nb (qk 0 (by omega)) (by decide) (by decide) (by decide)
        · refine ⟨some (.int (0 : Nat)), some (.int n), ?_, e3⟩
          rw [st]
          rfl
    · rintro σ H' ⟨v6, v7, rfl, e2⟩
      rw [iV_len, List.length_reverse, Nat.sub_self, List.drop_zero]
      refine ⟨_, rfl, _, rfl, (by show 2 ≤ sizeLine; decide), fun t ht => ?_⟩
      have e4 := e1.trans e2
      exact k t _ (Evl.fresh_back e4 ht) (e4.trans (Evl.Ex.new ht)) upd_same
theorem ok_value_atN {f : Addr} {fd : FuncData} (F : Fun K "value_at" "value_at" s_value_at f fd) (cS : Cal P w K mg base 1 "scaled_value" p_scaled_value spScN) (cF : Cal P w K mg base 1 "fraction" p_fraction spRatio) : FnOk P w K mg base CX0 2 f fd p_value_at spValN := by
  refine F.ok sc_value_at (fun vs H Q E h => ?_) (fun cdv A outer s H vs Q E hr h => ?_)
  · obtain ⟨a, b, xs, p, q, rfl, _⟩ := h
    rfl
  · obtain ⟨a, b, xs, p, q, rfl, ha, hb, hx, hq, k⟩ := h
    have nd := sc_value_at.nd
    refine ⟨_, pss_cons (ps_asg (pe_c cS hr (pa_cons (pv 0) (pa_cons (pv 1) pa_nil))) (pg_tup rfl (pgs_cons (pg_name (i := 2) nd rfl (Or.inl rfl)) (pgs_cons (pg_name (i := 3) nd rfl (Or.inl rfl)) pgs_nil))))
      (pss_one (ps_ret (pe_c cF hr (pa_cons (pv 2) (pa_cons (pv 3) pa_nil))))), ?_⟩
    refine ⟨_, rfl, _, rfl, a, b, xs, p, q, rfl, ha, hb, hx, hq.2.2.1, hq.2.2.2, fun t H2 ht e2 h2 => ?_⟩
    obtain ⟨hx1, hx3⟩ := hx
    obtain ⟨q0, qc, pb, qb⟩ := hq
    have b1 : (hT p q xs).natAbs < 2 ^ 9000 := bigN (hT_ltN pb qb xs hx3) (by omega)
    have b2 : (q ^ (xs.length - 1)).natAbs < 2 ^ 9000 := bigN (npow_lt qb _) (by omega)
    have e : fr (hT p q xs) (q ^ (xs.length - 1)) = vl p q xs := vl_val q0 xs
    refine ⟨t, _, rfl, SqT.of h2, rfl, _, _, rfl, _, _, rfl, rfl, ?_⟩
    refine ⟨_, rfl, _, rfl, _, _, rfl, b1, b2, qpos q0 _, fun r H3 hr3 e3 h3 => ?_⟩
    rw [e] at h3
    exact k r H3 (Evl.fresh_back e2 hr3) (e2.trans e3) h3
theorem ok_sign_atN {f : Addr} {fd : FuncData} (F : Fun K "sign_at_fraction" "sign_at_fraction" s_sign_at_fraction f fd) (cS : Cal P w K mg base 1 "sign_of" p_sign_of spSgn) (cV : Cal P w K mg base 1 "scaled_value" p_scaled_value spScN) : FnOk P w K mg base CX0 2 f fd p_sign_at_fraction spSgA := by
  refine F.ok sc_sign_at_fraction (fun vs H Q E h => ?_) (fun cdv A outer s H vs Q E hr h => ?_)
  · obtain ⟨a, b, xs, p, q, rfl, _⟩ := h
    rfl
  · obtain ⟨a, b, xs, p, q, rfl, ha, hb, hx, hp, hq, k⟩ := h
    have r1 : Room 1 _ := hr.mono (by decide)
    refine ⟨_, pss_one (ps_ret (pe_c cS r1 (pa_cons (pe_ix ix_tup (pe_c cV r1 (pa_cons (pv 0) (pa_cons (pv 1) pa_nil))) pe_int (fun _ _ => rfl)) pa_nil))), ?_⟩
    refine ⟨_, rfl, _, rfl, a, b, xs, p, q, rfl, ha, hb, hx, hp, hq, fun t H2 ht e2 h2 => ⟨t, _, _, _, rfl, rfl, SqT.of h2, rfl, _, rfl, fun H3 e3 => k _ (e2.trans e3)⟩⟩
theorem ok_form_at {f : Addr} {fd : FuncData} (F : Fun K "form_at" "form_at" s_form_at f fd) (cV : Cal P w K mg base 2 "value_at" p_value_at spValN) (cF : Cal P w K mg base 1 "fraction" p_fraction spRatio) : FnOk P w K mg base CX0 3 f fd p_form_at spFormAt := by
  refine F.ok sc_form_at (fun vs H Q E h => ?_) (fun cdv A outer s H vs Q E hr h => ?_)
  · obtain ⟨a, b, f, p, q, rfl, _⟩ := h
    rfl
  · obtain ⟨a, b, ⟨top, foot⟩, p, q, rfl, ⟨x, y, ha, hx, hy⟩, hb, ⟨o1, o2, o3⟩, hq, p0, k⟩ := h
    have nd := sc_form_at.nd
    have r1 : Room 1 _ := hr.mono (by decide)
    have r2 : Room 2 _ := hr.mono (by decide)
    refine ⟨_, pss_cons (ps_par (i := 2) (j := 3) rfl nd rfl rfl (by decide) rfl rfl (pa_cons (pe_c cV r2 (pa_cons (pe_ix ix_tup (pv 0) pe_int (fun _ _ => rfl)) (pa_cons (pv 1) pa_nil))) (pa_cons (pe_c cV r2 (pa_cons (pe_ix ix_tup (pv 0) pe_int (fun _ _ => rfl)) (pa_cons (pv 1) pa_nil))) pa_nil)) (by rfl))
      (pss_cons (ps_if (pt_cmpR op_lt (pe_ix ix_tup (pv 3) pe_int (fun _ _ => rfl)) pe_int (nomark _)) (pss_one (ps_ret (pe_c cF r1 (pa_cons (pe_op op_mulW (pe_un un_neg (pe_ix ix_tup (pv 2) pe_int (fun _ _ => rfl))) (pe_ix ix_tup (pv 3) pe_int (fun _ _ => rfl))) (pa_cons (pe_op op_mulW (pe_un un_neg (pe_ix ix_tup (pv 2) pe_int (fun _ _ => rfl))) (pe_ix ix_tup (pv 3) pe_int (fun _ _ => rfl))) pa_nil))))) pss_nil)
      (pss_one (ps_ret (pe_c cF r1 (pa_cons (pe_op op_mulW (pe_ix ix_tup (pv 2) pe_int (fun _ _ => rfl)) (pe_ix ix_tup (pv 3) pe_int (fun _ _ => rfl))) (pa_cons (pe_op op_mulW (pe_ix ix_tup (pv 2) pe_int (fun _ _ => rfl)) (pe_ix ix_tup (pv 3) pe_int (fun _ _ => rfl))) pa_nil)))))), ?_⟩
    refine ⟨_, rfl, a, _, _, _, rfl, rfl, SqT.of ha, rfl, _, rfl, x, b, top, p, q, rfl, hx, hb, o1, hq, fun t H1 ht e1 h1 => ?_⟩
    refine ⟨_, rfl, a, _, _, _, rfl, rfl, SqT.of (e1 _ _ ha), rfl, _, rfl, y, b, foot, p, q, rfl, e1 _ _ hy, e1 _ _ hb, o2, hq, fun u H2 hu e2 h2 => ⟨_, _, rfl, ?_⟩⟩
    have a1 := vl_b1 hq o1
    have a2 := vl_b2 hq o1
    have b1 := vl_b1 hq o2
    have b2 := vl_b2 hq o2
    have c1 := vl_pos (p := p) hq.1 top
    have c2 := vl_pos (p := p) hq.1 foot
    have c3 := vl_ne hq.1 (o3 p q p0 hq.1)
    have h1' := e2 _ _ h1
    have e12 := e1.trans e2
    refine ⟨_, rfl, u, _, _, _, rfl, rfl, SqT.of h2, rfl, _, _, rfl, rfl, _, rfl, ?_⟩
    unfold fmV ratN at k
    dsimp only at k
    generalize (vl p q top).1 = u1 at *
    generalize (vl p q top).2 = u2 at *
    generalize (vl p q foot).1 = l1 at *
    generalize (vl p q foot).2 = l2 at *
    by_cases hn : l1 < 0
    · refine if_t (decide_eq_true hn) ?_
      have neg : u2 * l1 < 0 := Int.mul_neg_of_pos_of_neg c1 hn
      rw [if_pos neg] at k
      have n1 : (-u1).natAbs < 2 ^ 1020 := by rw [Int.natAbs_neg]; exact a1
      have n2 : (-u2).natAbs < 2 ^ 1020 := by rw [Int.natAbs_neg]; exact a2
      refine ⟨_, rfl, t, _, _, _, rfl, rfl, SqT.of h1', rfl, _, rfl, _, rfl, u, _, _, _, rfl, rfl, SqT.of h2, rfl, _, _, rfl, rfl, wide_mul n1 b2 (by decide) (by decide) (by decide), ?_⟩
      refine ⟨_, rfl, t, _, _, _, rfl, rfl, SqT.of h1', rfl, _, rfl, _, rfl, u, _, _, _, rfl, rfl, SqT.of h2, rfl, _, _, rfl, rfl, wide_mul n2 b1 (by decide) (by decide) (by decide), ?_⟩
      refine ⟨_, _, rfl, mul_b n1 b2 (by decide), mul_b n2 b1 (by decide), by rw [Int.neg_mul]; omega, fun r H3 hr3 e3 h3 => k r H3 (Evl.fresh_back e12 hr3) (e12.trans e3) ?_⟩
      rw [h3, Int.neg_mul, Int.neg_mul]
    · refine if_f (decide_eq_false hn) ?_
      have pos : 0 < u2 * l1 := Int.mul_pos c1 (by omega)
      rw [if_neg (by omega)] at k
      refine ⟨_, rfl, t, _, _, _, rfl, rfl, SqT.of h1', rfl, _, rfl, u, _, _, _, rfl, rfl, SqT.of h2, rfl, _, _, rfl, rfl, wide_mul a1 b2 (by decide) (by decide) (by decide), ?_⟩
      refine ⟨_, rfl, t, _, _, _, rfl, rfl, SqT.of h1', rfl, _, rfl, u, _, _, _, rfl, rfl, SqT.of h2, rfl, _, _, rfl, rfl, wide_mul a2 b1 (by decide) (by decide) (by decide), ?_⟩
      exact ⟨_, _, rfl, mul_b a1 b2 (by decide), mul_b a2 b1 (by decide), pos, fun r H3 hr3 e3 h3 => k r H3 (Evl.fresh_back e12 hr3) (e12.trans e3) h3⟩
end
end V2


namespace V2
open PySem L2
open PySem.Spec PyProof.Rows
/-- a place: a fraction, or the root of w w - m from n to f -/
inductive Plc where
  | fr (p q : Int)
  | rt (n f m : Int)
def plD : Plc → PyData
  | .fr p q => .tuple [.int p, .int q]
  | .rt n f m => .tuple [.str "root", .list [.int (0 - m), .int 0, .int 1], .tuple [.int n, .int 1], .tuple [.int f, .int 1]]
def oplD : Option Plc → PyData
  | none => .none
  | some x => plD x
def OkPl : Plc → Prop
  | .fr p q => 0 ≤ p ∧ 0 < q ∧ p.natAbs < 2 ^ 50 ∧ q.natAbs < 2 ^ 50
  | .rt n f m => OkRt n f m
def PlAt (H : Hp) (a : Addr) : Plc → Prop
  | .fr p q => Fr H a p q
  | .rt n f m => ∃ l x y : Addr, H a = some (.tup [.str "root", .ref l, .ref x, .ref y]) ∧ Li H l (rtL m) ∧ Fr H x n 1 ∧ Fr H y f 1
theorem dq_pl {H : Hp} {v : V} {p : Plc} (h : Dq H v (plD p)) : ∃ a, v = .ref a ∧ PlAt H a p := by
  cases p with
  | fr p q =>
    obtain ⟨a, rfl, h1⟩ := dq_fr1 (f := (p, q)) h
    exact ⟨a, rfl, h1⟩
  | rt n f m =>
    cases h with
    | tup h1 r1 =>
      cases r1 with
      | cons a b =>
        cases a
        cases b with
        | cons c b =>
          cases b with
          | cons d b =>
            cases b with
            | cons e b =>
              cases b
              obtain ⟨x, rfl, hx⟩ := dq_fr1 (f := (n, 1)) d
              obtain ⟨y, rfl, hy⟩ := dq_fr1 (f := (f, 1)) e
              cases c with
              | lst h2 r2 =>
                have := dq_ints (ks := rtL m) r2
                subst this
                exact ⟨_, rfl, _, x, y, h1, h2, hx, hy⟩
theorem PlAt.dq {H : Hp} {a : Addr} {p : Plc} (h : PlAt H a p) : Dq H (.ref a) (plD p) := by
  cases p with
  | fr p q => exact .tup h (.cons (.int p) (.cons (.int q) .nil))
  | rt n f m =>
    obtain ⟨l, x, y, h1, h2, h3, h4⟩ := h
    exact .tup h1 (.cons (.str _) (.cons (.lst h2 (.cons (.int _) (.cons (.int _) (.cons (.int _) .nil)))) (.cons (.tup h3 (.cons (.int _) (.cons (.int _) .nil))) (.cons (.tup h4 (.cons (.int _) (.cons (.int _) .nil))) .nil))))
theorem cp_tt (a b : Int) (n : Nat) : Cp (n + 1) (.tuple [.int a, .int b]) := .tup (by show 2 ≤ 100; decide) fun d hd => by
  simp only [List.mem_cons, List.not_mem_nil, or_false] at hd
  rcases hd with rfl | rfl <;> exact .int _
theorem cp_pl (p : Plc) : Cp 2 (plD p) := by
  cases p with
  | fr p q => exact cp_tt p q 1
  | rt n f m =>
    refine .tup (by show 4 ≤ 100; decide) fun d hd => ?_
    simp only [List.mem_cons, List.not_mem_nil, or_false] at hd
    rcases hd with rfl | rfl | rfl | rfl
    · exact .str _
    · refine .lst (by show 3 ≤ 100; decide) fun d hd => ?_
      simp only [List.mem_cons, List.not_mem_nil, or_false] at hd
      rcases hd with rfl | rfl | rfl <;> exact .int _
    · exact cp_tt _ _ 0
    · exact cp_tt _ _ 0
theorem cp_opl (o : Option Plc) : Cp 2 (oplD o) := by
  cases o with
  | none => exact .non
  | some p => exact cp_pl p
theorem shp_frN (p q : Int) : SeqAt.shaped (.tuple [.int p, .int q]) = true := by
  simp [SeqAt.shaped, PyData.canLay0, PyData.canLayAll0, PyData.depth, PyData.depthAll]
theorem shp_opl (o : Option Plc) : SeqAt.shaped (oplD o) = true := by
  cases o with
  | none => rfl
  | some p =>
    cases p with
    | fr p q => exact shp_frN p q
    | rt n f m =>
      simp [oplD, plD, SeqAt.shaped, PyData.canLay0, PyData.canLayAll0, PyData.depth, PyData.depthAll]
      decide +kernel
/-- where the fraction lies by a place -/
def ordP (p q : Int) : Option Plc → Int
  | none => -1
  | some (.fr a b) => sg (p * b - a * q)
  | some (.rt _ _ m) => sg (p * p - m * (q * q))
def OkOp : Option Plc → Prop
  | none => True
  | some p => OkPl p
structure Pc where
  lo : Plc
  li : Bool
  hi : Option Plc
  hin : Bool
def pcD (c : Pc) : PyData := .tuple [plD c.lo, .bool c.li, oplD c.hi, .bool c.hin]
def OkPc (c : Pc) : Prop := OkPl c.lo ∧ OkOp c.hi
def inP (p q : Int) (c : Pc) : Bool := (decide (0 < ordP p q (some c.lo)) || (c.li && decide (ordP p q (some c.lo) = 0))) && (decide (ordP p q c.hi < 0) || (c.hin && decide (ordP p q c.hi = 0)))
def PcAt (H : Hp) (a : Addr) (c : Pc) : Prop := ∃ v u : V, H a = some (.tup [v, .bl c.li, u, .bl c.hin]) ∧ Dq H v (plD c.lo) ∧ Dq H u (oplD c.hi)
theorem dq_pc {H : Hp} {v : V} {c : Pc} (h : Dq H v (pcD c)) : ∃ a, v = .ref a ∧ PcAt H a c := by
  cases h with
  | tup h1 r1 =>
    cases r1 with
    | cons a b =>
      cases b with
      | cons x b =>
        cases x
        cases b with
        | cons y b =>
          cases b with
          | cons z b =>
            cases z
            cases b
            exact ⟨_, rfl, _, _, h1, a, y⟩
def spIsR : Sp := fun vs H Q _ => ∃ (a : Addr) (x : V) (r : List V) (b : Bool), vs = [.ref a] ∧ H a = some (.tup (x :: r)) ∧ ((∃ i, x = .int i) ∧ b = false ∨ x = .str "root" ∧ b = true) ∧ Evl.RetV (.bl b) H Q
def spNo : Sp := fun _ _ _ _ => False
def spObf : Sp := fun vs H Q _ => ∃ (a b : Addr) (n f m p q : Int), vs = [.ref a, .ref b] ∧ PlAt H a (.rt n f m) ∧ OkRt n f m ∧ Fr H b p q ∧ Qn p q ∧ Evl.RetV (.int (obf n f m p q)) H Q
def spOop : Sp := fun vs H Q _ => ∃ (g : Addr) (v : V) (p q : Int) (o : Option Plc), vs = [.ref g, v] ∧ Fr H g p q ∧ Qn p q ∧ 0 < p ∧ Dq H v (oplD o) ∧ OkOp o ∧ Evl.RetV (.int (ordP p q o)) H Q
def spSideN : Sp := fun vs H Q _ => ∃ (v : V) (g : Addr) (p q : Int) (c : Pc), vs = [v, .ref g] ∧ Dq H v (pcD c) ∧ OkPc c ∧ Fr H g p q ∧ Qn p q ∧ 0 < p ∧ ∀ i : Int, (i = 0 ↔ inP p q c = true) → Evl.RetV (.int i) H Q
def spLies : Sp := fun vs H Q _ => ∃ (l g : Addr) (xs : List V) (p q : Int) (cs : List Pc), vs = [.ref l, .ref g] ∧ H l = some (.lst xs) ∧ DqAll H xs (cs.map pcD) ∧ cs.length ≤ 100 ∧ (∀ c ∈ cs, OkPc c) ∧ Fr H g p q ∧ Qn p q ∧ 0 < p ∧ Evl.RetV (.bl (cs.any (inP p q))) H Q
theorem dqall_get {H : Hp} {α : Type} {g : α → PyData} : ∀ {cs : List α} {vs : List V}, DqAll H vs (cs.map g) → vs.length = cs.length ∧ ∀ (i : Nat) (v : V), vs[i]? = some v → ∃ c, cs[i]? = some c ∧ Dq H v (g c)
  | [], _, h => by
    cases h
    exact ⟨rfl, fun i v z => by cases z⟩
  | c :: cs, _, h => by
    cases h with
    | cons a b =>
      obtain ⟨h1, h2⟩ := dqall_get b
      refine ⟨by rw [List.length_cons, List.length_cons, h1], fun i v z => ?_⟩
      match i, z with
      | 0, z => cases z; exact ⟨c, rfl, a⟩
      | i + 1, z => exact h2 i v z
theorem eqv_ff (p q a b : Int) : PyData.eqv (.tuple [.int p, .int q]) (.tuple [.int a, .int b]) = (p == a && q == b) := by simp [PyData.eqv, PyData.eqvAll]
theorem b50 {n : Int} (h0 : 0 ≤ n) (h : n ≤ 1000) : n.natAbs < 2 ^ 50 := Nat.lt_of_le_of_lt (show n.natAbs ≤ 1000 by omega) (by decide)
theorem pn_rt {m : Int} (h0 : 0 ≤ m) (h : m ≤ 1000000) : PnN (rtL m) := by
  refine ⟨by show 3 ≤ 17; decide, fun x hx => ?_⟩
  simp only [rtL, List.mem_cons, List.not_mem_nil, or_false] at hx
  rcases hx with rfl | rfl | rfl
  · exact Nat.lt_of_le_of_lt (show (0 - m).natAbs ≤ 1000000 by omega) (by decide)
  · decide
  · decide
section
variable {base : Heap} {mg : Str → Option Value} {K : PySem.W.Frag} {w : World} {P : Program}
theorem ok_is_root {f : Addr} {fd : FuncData} (F : Fun K "is_root" "is_root" s_is_root f fd) : FnOk P w K mg base CX0 1 f fd p_is_root spIsR := by
  refine F.ok sc_is_root (fun vs H Q E h => ?_) (fun cdv A outer s H vs Q E hr h => ?_)
  · obtain ⟨a, x, r, b, rfl, _⟩ := h
    rfl
  · obtain ⟨a, x, r, b, rfl, ha, hx, k⟩ := h
    refine ⟨_, pss_one (ps_ret (pe_cmpR op_eq (pe_ix ix_tup (pv 0) pe_int (fun _ _ => rfl)) pe_str (nomark _))), ?_⟩
    refine ⟨_, rfl, a, _, _, x, rfl, rfl, SqT.of ha, (show atI (x :: r) ((0 : Nat) : Int) = some x from atI_nat rfl), ?_⟩
    rcases hx with ⟨⟨i, rfl⟩, rfl⟩ | ⟨rfl, rfl⟩
    · exact ⟨rfl, k _ (Evl.Ex.refl _)⟩
    · exact ⟨rfl, k _ (Evl.Ex.refl _)⟩
theorem ok_no_roots {f : Addr} {fd : FuncData} (F : Fun K "order_of_roots" "order_of_roots" s_order_of_roots f fd) : FnOk P w K mg base CX0 1 f fd p_order_of_roots spNo := by
  refine F.ok sc_order_of_roots (fun vs H Q E h => ?_) (fun cdv A outer s H vs Q E hr h => ?_)
  · exact h.elim
  · exact h.elim
theorem ok_order_by {f : Addr} {fd : FuncData} (F : Fun K "order_by_fraction" "order_by_fraction" s_order_by_fraction f fd) (cO : Cal P w K mg base 2 "order_of_fractions" p_order_of_fractions spOrd) (cS : Cal P w K mg base 2 "sign_at_fraction" p_sign_at_fraction spSgA) : FnOk P w K mg base CX0 3 f fd p_order_by_fraction spObf := by
  refine F.ok sc_order_by_fraction (fun vs H Q E h => ?_) (fun cdv A outer s H vs Q E hr h => ?_)
  · obtain ⟨a, b, n, f, m, p, q, rfl, _⟩ := h
    rfl
  · obtain ⟨a, b, n, f, m, p, q, rfl, ⟨l, x, y, ha, hl, hx, hy⟩, ok, hb, ⟨q0, qc, pb, qb⟩, k⟩ := h
    have nd := sc_order_by_fraction.nd
    have r2 : Room 2 _ := hr.mono (by decide)
    refine ⟨_, pss_cons (ps_asg (pv 0) (pg_tup rfl (pgs_cons (pg_name (i := 2) nd rfl (Or.inl rfl)) (pgs_cons (pg_name (i := 3) nd rfl (Or.inl rfl)) (pgs_cons (pg_name (i := 4) nd rfl (Or.inl rfl)) (pgs_cons (pg_name (i := 5) nd rfl (Or.inl rfl)) pgs_nil))))))
      (pss_cons (ps_if (pt_cmpR op_le (pe_c cO r2 (pa_cons (pv 1) (pa_cons (pv 4) pa_nil))) pe_int (nomark _)) (pss_one (ps_ret pe_int)) pss_nil)
      (pss_cons (ps_if (pt_cmpR op_ge (pe_c cO r2 (pa_cons (pv 1) (pa_cons (pv 5) pa_nil))) pe_int (nomark _)) (pss_one (ps_ret (pe_un un_neg pe_int))) pss_nil)
      (pss_one (ps_ret (pe_ifExp (pt_cmpR op_eq (pe_c cS r2 (pa_cons (pv 3) (pa_cons (pv 1) pa_nil))) (pe_c cS r2 (pa_cons (pv 3) (pa_cons (pv 4) pa_nil))) (nomark _)) pe_int (pe_un un_neg pe_int)))))), ?_⟩
    obtain ⟨n0, n1, f1, f0, nb, fb, mb, s, s0, s1, s2⟩ := id ok
    have m0 : 0 ≤ m := by have := Int.mul_nonneg n0 n0; omega
    have bn := b50 n0 nb
    have bf := b50 (Int.le_of_lt f0) fb
    have one50 : (1 : Int).natAbs < 2 ^ 50 := by decide
    refine ⟨_, rfl, a, _, rfl, SqT.of ha, rfl, _, _, rfl, _, _, rfl, _, _, rfl, _, _, rfl, rfl, ?_⟩
    refine ⟨_, rfl, _, rfl, b, x, p, q, n, 1, rfl, hb, hx, pb, qb, bn, one50, fun H1 e1 => ⟨_, _, rfl, rfl, _, rfl, ?_⟩⟩
    unfold obf at k
    rw [sgn_sg]
    by_cases c1 : sg (p * 1 - n * q) ≤ 0
    · rw [if_pos c1] at k
      exact if_t (decide_eq_true c1) (k _ e1)
    rw [if_neg c1] at k
    refine if_f (decide_eq_false c1) ?_
    refine ⟨_, rfl, _, rfl, b, y, p, q, f, 1, rfl, e1 _ _ hb, e1 _ _ hy, pb, qb, bf, one50, fun H2 e2 => ⟨_, _, rfl, rfl, _, rfl, ?_⟩⟩
    rw [sgn_sg]
    by_cases c2 : 0 ≤ sg (p * 1 - f * q)
    · rw [if_pos c2] at k
      exact if_t (decide_eq_true c2) ⟨_, rfl, k _ (e1.trans e2)⟩
    rw [if_neg c2] at k
    refine if_f (decide_eq_false c2) ?_
    have e12 := e1.trans e2
    refine ⟨_, rfl, _, rfl, l, b, rtL m, p, q, rfl, e12 _ _ hl, e12 _ _ hb, pn_rt m0 mb, pb, qb, fun H3 e3 => ?_⟩
    have e13 := e12.trans e3
    refine ⟨_, rfl, _, rfl, l, x, rtL m, n, 1, rfl, e13 _ _ hl, e13 _ _ hx, pn_rt m0 mb, bn, one50, fun H4 e4 => ⟨rfl, _, rfl, ?_⟩⟩
    by_cases c3 : sg (hT p q (rtL m)) = sg (hT n 1 (rtL m))
    · rw [if_pos c3] at k
      exact if_t (decide_eq_true (by rw [c3])) (k _ (e13.trans e4))
    · rw [if_neg c3] at k
      exact if_f (decide_eq_false fun z => c3 (by injection z)) ⟨_, rfl, k _ (e13.trans e4)⟩
theorem ok_order_of_places {f : Addr} {fd : FuncData} (F : Fun K "order_of_places" "order_of_places" s_order_of_places f fd) (cI : Cal P w K mg base 1 "is_root" p_is_root spIsR) (cNo : Cal P w K mg base 1 "order_of_roots" p_order_of_roots spNo) (cB : Cal P w K mg base 3 "order_by_fraction" p_order_by_fraction spObf) (cO : Cal P w K mg base 2 "order_of_fractions" p_order_of_fractions spOrd) : FnOk P w K mg base CX0 4 f fd p_order_of_places spOop := by
  refine F.ok sc_order_of_places (fun vs H Q E h => ?_) (fun cdv A outer s H vs Q E hr h => ?_)
  · obtain ⟨g, v, p, q, o, rfl, _⟩ := h
    rfl
  · obtain ⟨g, v, p, q, o, rfl, hg, hq, p0, hv, ok, k⟩ := h
    have nd := sc_order_of_places.nd
    have r1 : Room 1 _ := hr.mono (by decide)
    have r2 : Room 2 _ := hr.mono (by decide)
    have r3 : Room 3 _ := hr.mono (by decide)
    refine ⟨_, pss_cons (ps_if (pt_cmpR (op_eqD hr.units) (pv 0) (pv 1) (nomark _)) (pss_one (ps_ret pe_int)) pss_nil)
      (pss_cons (ps_if (PW.pt (pw_or (pt_cmp (pc_isN (pv 0))) (pw_or1 (pt_cmp (pc_isN (pv 1)))))) (pss_one (ps_ret (pe_ifExp (pt_cmp (pc_isN (pv 0))) pe_int (pe_un un_neg pe_int)))) pss_nil)
      (pss_cons (ps_if (pt_val (pe_c cI r1 (pa_cons (pv 0) pa_nil))) (pss_one (ps_ret (pe_ifExp (pt_val (pe_c cI r1 (pa_cons (pv 1) pa_nil))) (pe_c cNo r1 (pa_cons (pv 0) (pa_cons (pv 1) pa_nil))) (pe_c cB r3 (pa_cons (pv 0) (pa_cons (pv 1) pa_nil)))))) pss_nil)
      (pss_one (ps_ret (pe_ifExp (pt_val (pe_c cI r1 (pa_cons (pv 1) pa_nil))) (pe_un un_neg (pe_c cB r3 (pa_cons (pv 1) (pa_cons (pv 0) pa_nil)))) (pe_c cO r2 (pa_cons (pv 0) (pa_cons (pv 1) pa_nil)))))))), ?_⟩
    refine ⟨_, rfl, _, rfl, _, _, .tup (SqT.of hg) (.cons (.int p) (.cons (.int q) .nil)), hv.dp (cp_opl o), shp_frN p q, shp_opl o, _, rfl, ?_⟩
    cases o with
    | none =>
      cases hv
      exact if_f rfl ⟨_, rfl, _, rfl, if_f rfl ⟨_, rfl, _, rfl, if_t rfl ⟨_, rfl, _, rfl, if_f rfl ⟨_, rfl, k _ (Evl.Ex.refl _)⟩⟩⟩⟩
    | some pl =>
      obtain ⟨b, rfl, hb⟩ := dq_pl hv
      cases pl with
      | fr x y =>
        have hb : Fr H b x y := hb
        obtain ⟨x0, y0, xb, yb⟩ := ok
        show if PyData.eqv (.tuple [.int p, .int q]) (.tuple [.int x, .int y]) = true then _ else _
        rw [eqv_ff]
        by_cases c : p = x ∧ q = y
        · obtain ⟨rfl, rfl⟩ := c
          refine if_t (by simp) ?_
          have : ordP p q (some (.fr p q)) = 0 := by
            show sg (p * q - p * q) = 0
            rw [Int.sub_self]
            rfl
          rw [this] at k
          exact k _ (Evl.Ex.refl _)
        · refine if_f (by
            cases h : (p == x && q == y) with
            | false => rfl
            | true =>
              rw [Bool.and_eq_true, beq_iff_eq, beq_iff_eq] at h
              exact absurd h c) ?_
          refine ⟨_, rfl, _, rfl, if_f rfl ⟨_, rfl, _, rfl, if_f rfl ?_⟩⟩
          refine ⟨_, rfl, g, _, _, false, rfl, hg, .inl ⟨⟨p, rfl⟩, rfl⟩, fun H1 e1 => ⟨_, rfl, if_f rfl ?_⟩⟩
          refine ⟨_, rfl, b, _, _, false, rfl, e1 _ _ hb, .inl ⟨⟨x, rfl⟩, rfl⟩, fun H2 e2 => ⟨_, rfl, if_f rfl ?_⟩⟩
          have e12 := e1.trans e2
          exact ⟨_, rfl, _, rfl, g, b, p, q, x, y, rfl, e12 _ _ hg, e12 _ _ hb, hq.2.2.1, hq.2.2.2, xb, yb, fun H3 e3 => k _ (e12.trans e3)⟩
      | rt n f m =>
        obtain ⟨l, x, y, ha, hl, hx, hy⟩ := id hb
        refine if_f (by simp [oplD, plD, PyData.eqv, PyData.eqvAll]) ?_
        refine ⟨_, rfl, _, rfl, if_f rfl ⟨_, rfl, _, rfl, if_f rfl ?_⟩⟩
        refine ⟨_, rfl, g, _, _, false, rfl, hg, .inl ⟨⟨p, rfl⟩, rfl⟩, fun H1 e1 => ⟨_, rfl, if_f rfl ?_⟩⟩
        refine ⟨_, rfl, b, _, _, true, rfl, e1 _ _ ha, .inr ⟨rfl, rfl⟩, fun H2 e2 => ⟨_, rfl, if_t rfl ?_⟩⟩
        have e12 := e1.trans e2
        refine ⟨_, rfl, _, rfl, b, g, n, f, m, p, q, rfl, ⟨l, x, y, e12 _ _ ha, e12 _ _ hl, e12 _ _ hx, e12 _ _ hy⟩, ok, e12 _ _ hg, hq, fun H3 e3 => ⟨_, rfl, ?_⟩⟩
        have := (obf_eq ok p0 hq.1 hq.2.1).1
        show Q (.int (-(obf n f m p q))) H3
        rw [this]
        exact k _ (e12.trans e3)
end
end V2


namespace V2
open PySem L2
open PySem.Spec PyProof.Rows
/-! ## ways at widths -/
def fmD (f : Fm) : PyData := .tuple [.list (f.1.map .int), .list (f.2.map .int)]
structure Wy where
  rk : Option Int
  fms : List Fm
  pcs : List Pc
def wyD (w : Wy) : PyData := .tuple [wD w.rk, .list (w.fms.map fmD), .list (w.pcs.map pcD)]
def svD (sev : List Wy) : PyData := .list (sev.map wyD)
def OkWy (w : Wy) : Prop := w.fms.length ≤ 8 ∧ (∀ f ∈ w.fms, OkFm f) ∧ w.pcs.length ≤ 100 ∧ ∀ c ∈ w.pcs, OkPc c
def owed (p q : Int) (sev : List Wy) : Option Wy := sev.find? fun w => w.pcs.any (inP p q)
theorem dq_fm {H : Hp} {v : V} {f : Fm} (h : Dq H v (fmD f)) : ∃ a, v = .ref a ∧ FoAt H a f := by
  cases h with
  | tup h1 r1 =>
    cases r1 with
    | cons a b =>
      cases b with
      | cons c b =>
        cases b
        cases a with
        | lst h2 r2 =>
          cases c with
          | lst h3 r3 =>
            have := dq_ints r2
            subst this
            have := dq_ints r3
            subst this
            exact ⟨_, rfl, _, _, h1, h2, h3⟩
theorem dq_wy {H : Hp} {v : V} {w : Wy} (h : Dq H v (wyD w)) : ∃ (a x y : Addr) (xs ys : List V), v = .ref a ∧ H a = some (.tup [wV w.rk, .ref x, .ref y]) ∧ H x = some (.lst xs) ∧ DqAll H xs (w.fms.map fmD) ∧ H y = some (.lst ys) ∧ DqAll H ys (w.pcs.map pcD) := by
  cases h with
  | tup h1 r1 =>
    cases r1 with
    | cons a b =>
      have := dq_w a
      subst this
      cases b with
      | cons c b =>
        cases b with
        | cons d b =>
          cases b
          cases c with
          | lst h2 r2 =>
            cases d with
            | lst h3 r3 => exact ⟨_, _, _, _, _, rfl, h1, h2, r2, h3, r3⟩
theorem pr_more {H : Hp} {l t : Addr} {fs : List (Int × Int)} {f : Int × Int} (h : PrAt H l fs) (ht : Fr H t f.1 f.2) : ∃ acc, H l = some (.lst acc) ∧ acc.length = fs.length ∧ PrAt (upd H l (.lst (acc ++ [.ref t]))) l (fs ++ [f]) := by
  obtain ⟨as, h1, h2, h3⟩ := h
  refine ⟨_, h1, by rw [List.length_map, h2], as ++ [t], by rw [upd_same, List.map_append]; rfl, by rw [List.length_append, List.length_append, h2]; rfl, fun i a g ha hg => ?_⟩
  have nl : ∀ {a : Addr} {p q : Int}, Fr H a p q → a ≠ l := fun h z => by
    unfold Fr at h
    rw [z, h1] at h
    cases h
  have up : ∀ {a : Addr} {p q : Int}, Fr H a p q → Fr (upd H l (.lst (as.map V.ref ++ [.ref t]))) a p q := fun h => Eq.trans (upd_ne (nl h)) h
  by_cases c : i < as.length
  · rw [List.getElem?_append_left c] at ha
    rw [List.getElem?_append_left (by omega)] at hg
    exact up (h3 i a g ha hg)
  · rw [List.getElem?_append_right (by omega)] at ha
    rw [List.getElem?_append_right (by omega)] at hg
    rw [h2] at ha
    generalize i - fs.length = j at ha hg
    match j, ha, hg with
    | 0, ha, hg =>
      cases ha
      cases hg
      exact up ht
theorem owed_none {p q : Int} {sev : List Wy} (h : owed p q sev = none) : ∀ w ∈ sev, w.pcs.any (inP p q) = false := fun w hw => by
  have := List.find?_eq_none.mp h w hw
  exact Bool.eq_false_iff.mpr this
theorem owed_some {p q : Int} {sev : List Wy} {w : Wy} (h : owed p q sev = some w) : ∃ i : Nat, sev[i]? = some w ∧ w.pcs.any (inP p q) = true ∧ ∀ (j : Nat) (x : Wy), j < i → sev[j]? = some x → x.pcs.any (inP p q) = false := by
  obtain ⟨h1, as, bs, rfl, h2⟩ := List.find?_eq_some_iff_append.mp h
  refine ⟨as.length, by rw [List.getElem?_append_right (Nat.le_refl _), Nat.sub_self]; rfl, h1, fun j x hj hx => ?_⟩
  rw [List.getElem?_append_left hj] at hx
  have := h2 x (List.mem_of_getElem? hx)
  simpa using this
def spWay : Sp := fun vs H Q _ => ∃ (v : V) (g : Addr) (p q : Int) (sev : List Wy) (w : Wy), vs = [v, .ref g] ∧ Dq H v (svD sev) ∧ sev.length ≤ 8 ∧ (∀ w ∈ sev, OkWy w) ∧ Fr H g p q ∧ Qn p q ∧ 0 < p ∧ owed p q sev = some w ∧
  ∀ (t D : Addr) (H' : Hp), Evl.Ex H H' → H t = none → H D = none → H' t = some (.tup [wV w.rk, .ref D]) → PrAt H' D (w.fms.map (fmV p q)) → Q (.ref t) H'
/-- what is refused: a wrong width, or one that no range has -/
def spWayX (CF CR : Addr) : Sp := fun vs H Q E => ∃ (v : V) (g : Addr) (p q : Int) (sev : List Wy), vs = [v, .ref g] ∧ Dq H v (svD sev) ∧ sev.length ≤ 8 ∧ (∀ w ∈ sev, OkWy w) ∧ Fr H g p q ∧
  ((¬ (frB p q = true ∧ 0 < p) ∧ ∀ (y : V) (H1 : Hp), Evl.Ex H H1 → TrD (Nw H H1) y (frD (p, q)) [] → Rz CF H1 y E) ∨
   (Qn p q ∧ 0 < p ∧ owed p q sev = none ∧ ∀ H1 : Hp, Evl.Ex H H1 → Rz CR H1 (.ref g) E))
theorem qn_frB {p q : Int} (h : Qn p q) : frB p q = true := by
  unfold frB
  rw [decide_eq_true (show 1 ≤ q from h.1), decide_eq_true h.2.1]
  rfl
section
variable {base : Heap} {mg : Str → Option Value} {K : PySem.W.Frag} {w : World} {P : Program} {CF CR fI gI : Addr}
theorem ok_sideN {f : Addr} {fd : FuncData} (F : Fun K "side" "side" s_side f fd) (cO : Cal P w K mg base 4 "order_of_places" p_order_of_places spOop) : FnOk P w K mg base CX0 5 f fd p_side spSideN := by
  refine F.ok sc_side (fun vs H Q E h => ?_) (fun cdv A outer s H vs Q E hr h => ?_)
  · obtain ⟨v, g, p, q, c, rfl, _⟩ := h
    rfl
  · obtain ⟨v, g, p, q, c, rfl, hv, ok, hg, hq, p0, k⟩ := h
    have nd := sc_side.nd
    have r4 : Room 4 _ := hr.mono (by decide)
    refine ⟨_, pss_cons (ps_asg (pv 0) (pg_tup rfl (pgs_cons (pg_name (i := 2) nd rfl (Or.inl rfl)) (pgs_cons (pg_name (i := 3) nd rfl (Or.inl rfl)) (pgs_cons (pg_name (i := 4) nd rfl (Or.inl rfl)) (pgs_cons (pg_name (i := 5) nd rfl (Or.inl rfl)) pgs_nil))))))
      (pss_cons (ps_par (i := 6) (j := 7) rfl nd rfl rfl (by decide) rfl rfl (pa_cons (pe_c cO r4 (pa_cons (pv 1) (pa_cons (pv 2) pa_nil))) (pa_cons (pe_c cO r4 (pa_cons (pv 1) (pa_cons (pv 4) pa_nil))) pa_nil)) (by rfl))
      (pss_cons (ps_if (PW.pt (pw_or (pt_cmpR op_lt (pv 6) pe_int (nomark _)) (pw_or1 (PW.pt (pw_and (pt_cmpR op_eq (pv 6) pe_int (nomark _)) (pw_and1 (pt_not (pt_truth (pv 3) (by intro _; rfl))))))))) (pss_one (ps_ret (pe_un un_neg pe_int))) pss_nil)
      (pss_cons (ps_if (PW.pt (pw_or (pt_cmpR op_gt (pv 7) pe_int (nomark _)) (pw_or1 (PW.pt (pw_and (pt_cmpR op_eq (pv 7) pe_int (nomark _)) (pw_and1 (pt_not (pt_truth (pv 5) (by intro _; rfl))))))))) (pss_one (ps_ret pe_int)) pss_nil)
      (pss_one (ps_ret pe_int))))), ?_⟩
    obtain ⟨a, rfl, lo, hi, ha, hlo, hhi⟩ := dq_pc hv
    obtain ⟨c1, li, c2, hin⟩ := c
    obtain ⟨ok1, ok2⟩ := ok
    refine ⟨_, rfl, a, _, rfl, SqT.of ha, rfl, _, _, rfl, _, _, rfl, _, _, rfl, _, _, rfl, rfl, ?_⟩
    refine ⟨_, rfl, _, rfl, g, lo, p, q, some c1, rfl, hg, hq, p0, hlo, ok1, fun H1 e1 => ?_⟩
    refine ⟨_, rfl, _, rfl, g, hi, p, q, c2, rfl, e1 _ _ hg, hq, p0, hhi.go e1, ok2, fun H2 e2 => ⟨_, _, rfl, ?_⟩⟩
    have e12 := e1.trans e2
    have kk : ∀ (i : Int) (b : Bool), inP p q ⟨c1, li, c2, hin⟩ = b → (i = 0 ↔ b = true) → Q (.int i) H2 := fun i b h h2 => k i (by rw [h]; exact h2) H2 e12
    unfold inP at kk
    dsimp only at kk
    generalize ordP p q (some c1) = L at kk ⊢
    generalize ordP p q c2 = U at kk ⊢
    have up : (0 < L ∨ (L = 0 ∧ li = true)) → tOr (tTest (tOp (rI0 fun i j => .bl (decide (j < i))) (tVar 7) (tC (.int 0)))) (tAnd (tTest (tOp rEq (tVar 7) (tC (.int 0)))) (tNot fun σ H Q => tVar 5 σ H fun x H' => ∃ k, TruV K x H' k ∧ Q k H')) [some (.ref a), some (.ref g), some lo, some (.bl li), some hi, some (.bl hin), some (.int L), some (.int U)] H2 (fun c H3 => if c = true then Q (.int 1) H3 else Q (.int 0) H3) := fun hL => by
      have hLb : (decide (0 < L) || (li && decide (L = 0))) = true := by
        rcases hL with h | ⟨h1, h2⟩
        · rw [decide_eq_true h]; rfl
        · rw [h1, h2]; rfl
      rw [hLb, Bool.true_and] at kk
      refine ⟨_, rfl, _, _, rfl, rfl, _, rfl, ?_⟩
      by_cases u1 : 0 < U
      · refine if_t (decide_eq_true u1) (if_t rfl (kk 1 false ?_ (by decide)))
        rw [decide_eq_false (by omega), decide_eq_false (by omega), Bool.and_false]
        rfl
      refine if_f (decide_eq_false u1) ⟨_, rfl, rfl, _, rfl, ?_⟩
      by_cases u2 : U = 0
      · refine if_t (decide_eq_true (by rw [u2])) ⟨_, rfl, hin, rfl, ?_⟩
        cases hin with
        | true => exact if_f rfl (kk 0 true (by rw [decide_eq_true u2, Bool.true_and, Bool.or_true]) (by decide))
        | false => exact if_t rfl (kk 1 false (by rw [decide_eq_false (by omega)]; rfl) (by decide))
      · refine if_f (decide_eq_false fun z => u2 (by injection z)) (if_f rfl (kk 0 true ?_ (by decide)))
        rw [decide_eq_true (show U < 0 by omega)]
        rfl
    refine ⟨_, rfl, _, _, rfl, rfl, _, rfl, ?_⟩
    by_cases l1 : L < 0
    · refine if_t (decide_eq_true l1) (if_t rfl ⟨_, rfl, kk (-1) false ?_ (by decide)⟩)
      rw [decide_eq_false (show ¬ 0 < L by omega), decide_eq_false (show ¬ L = 0 by omega), Bool.and_false]
      rfl
    refine if_f (decide_eq_false l1) ⟨_, rfl, rfl, _, rfl, ?_⟩
    by_cases l2 : L = 0
    · refine if_t (decide_eq_true (by rw [l2])) ⟨_, rfl, li, rfl, ?_⟩
      cases li with
      | true => exact if_f rfl (up (.inr ⟨l2, rfl⟩))
      | false => exact if_t rfl ⟨_, rfl, kk (-1) false (by rw [decide_eq_false (show ¬ 0 < L by omega)]; rfl) (by decide)⟩
    · exact if_f (decide_eq_false fun z => l2 (by injection z)) (if_f rfl (up (.inl (by omega))))
theorem ok_lies_in {f : Addr} {fd : FuncData} (F : Fun K "lies_in" "lies_in" s_lies_in f fd) (mA : mg "any" = none) (cS : Cal P w K mg base 5 "side" p_side spSideN) : FnOk P w K mg base CX0 6 f fd p_lies_in spLies := by
  refine F.ok sc_lies_in (fun vs H Q E h => ?_) (fun cdv A outer s H vs Q E hr h => ?_)
  · obtain ⟨l, g, xs, p, q, cs, rfl, _⟩ := h
    rfl
  · obtain ⟨l, g, xs, p, q, cs, rfl, hl, hA, hlen, ok, hg, hq, p0, k⟩ := h
    have nd := sc_lies_in.nd
    have r5 : Room 5 _ := hr.mono (by decide)
    refine ⟨_, pss_one (ps_ret (pe_callB (cr_any rfl) (by rfl) mA (by decide +kernel) (pa_cons (pe_lc (own := [("stretch", 2)]) (g := (gName 2)) (tt := tYes) (te := (tOp rEq (tCall spSideN [] E0 (tCons (tVar 2) (tCons (tVar 1) tNil))) (tC (.int 0)))) rfl nd (pi_list (pv 0)) (blkOk_by (N := n_lies_in) (sc := defScope s_lies_in) (by decide +kernel)) (fun _ _ _ _ _ => (pg_name (i := 2) nd rfl (Or.inl rfl))) (fun _ _ _ _ _ => pts_nil) (fun _ _ _ _ _ => (pe_cmpR op_eq (pe_c cS r5 (pa_cons (pv 2) (pa_cons (pv 1) pa_nil))) pe_int (nomark _)))) pa_nil))), ?_⟩
    obtain ⟨hxl, hx⟩ := dqall_get hA
    refine ⟨_, rfl, l, rfl, ⟨_, SqL.of hl⟩, fun D hD => lc_list (xs := xs) (fun i H' => Evl.Ex H H' ∧ H' D = some (.lst (((cs.take i).map (inP p q)).map V.bl))) ⟨Evl.Ex.new hD, upd_same⟩ (fun i H' _ q => SqL.of (q.1 _ _ hl)) ?_ ?_⟩
    · rintro i x H' hi ⟨e1, h1⟩
      obtain ⟨c, hc, hd⟩ := hx i x hi
      have hlt : i < cs.length := (List.getElem?_eq_some_iff.mp hc).1
      refine ⟨rfl, ?_⟩
      show tOp rEq (tCall spSideN [] E0 (tCons (tVar 2) (tCons (tVar 1) tNil))) (tC (.int 0)) _ _ _
      refine ⟨_, rfl, _, rfl, x, g, p, q, c, rfl, hd.go e1, ok c (List.mem_of_getElem? hc), e1 _ _ hg, hq, p0, fun j hj H2 e2 => ⟨rfl, _, e2 _ _ h1, ?_, Evl.Ex.mut (e1.trans e2) hD, ?_⟩⟩
      · rw [List.length_map, List.length_map, List.length_take]
        exact Nat.lt_of_le_of_lt (show min i cs.length ≤ 100 by omega) (by decide)
      · rw [upd_same, List.take_add_one, hc]
        have : decide (V.int j = V.int 0) = inP p q c := by
          rw [Bool.eq_iff_iff, decide_eq_true_iff, ← hj]
          exact ⟨fun z => by injection z, fun z => by rw [z]⟩
        rw [this, List.map_append, List.map_append]
        rfl
    · rintro H1 ⟨e1, h1⟩
      rw [hxl, List.take_length] at h1
      refine ⟨D, _, rfl, SqL.of h1, ?_⟩
      have : (cs.map (inP p q)).any id = cs.any (inP p q) := by rw [List.any_map]; rfl
      rw [this]
      exact k _ e1
theorem ok_way_at {f : Addr} {fd : FuncData} (F : Fun K "way_at" "way_at" s_way_at f fd) (cW : Cal P w K mg base 3 "check_width" p_check_width spCw) (cL : Cal P w K mg base 6 "lies_in" p_lies_in spLies) (cF : Cal P w K mg base 3 "form_at" p_form_at spFormAt) : FnOk P w K mg base CX0 7 f fd p_way_at spWay := by
  refine F.ok sc_way_at (fun vs H Q E h => ?_) (fun cdv A outer s H vs Q E hr h => ?_)
  · obtain ⟨v, g, p, q, sev, w, rfl, _⟩ := h
    rfl
  · obtain ⟨v, g, p, q, sev, wy, rfl, hv, h8, ok, hg, hq, p0, hw, k⟩ := h
    have nd := sc_way_at.nd
    have r3 : Room 3 _ := hr.mono (by decide)
    have r6 : Room 6 _ := hr.mono (by decide)
    have two : 2 ≤ sizeLine := by show 2 ≤ sizeLine; decide
    refine ⟨_, pss_cons (ps_expr (pe_c cW r3 (pa_cons (pv 1) pa_nil)))
      (pss_cons (ps_for PassesOwn.never rfl (pi_list (pv 0)) (pg_tup rfl (pgs_cons (pg_name (i := 2) nd rfl (Or.inl rfl)) (pgs_cons (pg_name (i := 3) nd rfl (Or.inl rfl)) (pgs_cons (pg_name (i := 4) nd rfl (Or.inl rfl)) pgs_nil)))) (pss_one (ps_if (pt_val (pe_c cL r6 (pa_cons (pv 4) (pa_cons (pv 1) pa_nil)))) (pss_one (ps_ret (pe_tup (pa_cons (pv 2) (pa_cons (pe_lc (own := [("form", 5)]) (g := (gName 5)) (tt := tYes) (te := (tCall spFormAt [] E0 (tCons (tVar 5) (tCons (tVar 1) tNil)))) rfl nd (pi_list (pv 3)) (blkOk_by (N := n_way_at) (sc := defScope s_way_at) (by decide +kernel)) (fun _ _ _ _ _ => (pg_name (i := 5) nd rfl (Or.inl rfl))) (fun _ _ _ _ _ => pts_nil) (fun _ _ _ _ _ => (pe_c cF r3 (pa_cons (pv 5) (pa_cons (pv 1) pa_nil))))) pa_nil))))) pss_nil)))
      (pss_one ps_never)), ?_⟩
    obtain ⟨iw, hiw, hany, hbefore⟩ := owed_some hw
    cases hv with
    | lst hl hA =>
      rename_i l xs
      obtain ⟨hxl, hx⟩ := dqall_get hA
      refine ⟨_, rfl, g, p, q, rfl, hg, hq, p0, fun H0 e0 => ?_⟩
      refine ⟨_, rfl, l, rfl, ⟨_, SqL.of (e0 _ _ hl)⟩, for_list (xs := xs) (fun i σ H' => i ≤ iw ∧ Evl.Ex H H' ∧ ∃ v2 v3 v4 v5, σ = [some (.ref l), some (.ref g), v2, v3, v4, v5]) ⟨Nat.zero_le _, e0, none, none, none, none, rfl⟩ (fun i σ H' _ q => SqL.of (q.2.1 _ _ hl)) ?_ ?_⟩
      · rintro i x σ H1 hi ⟨hle, e1, v2, v3, v4, v5, rfl⟩
        obtain ⟨wi, hwi, hd⟩ := hx i x hi
        obtain ⟨a, fa, pa, fs, ps, rfl, ha, hfa, hfs, hpa, hps⟩ := dq_wy hd
        obtain ⟨o1, o2, o3, o4⟩ := ok wi (List.mem_of_getElem? hwi)
        refine ⟨a, _, rfl, SqT.of (e1 _ _ ha), rfl, _, _, rfl, _, _, rfl, _, _, rfl, rfl, ?_⟩
        refine ⟨_, rfl, _, rfl, pa, g, ps, p, q, wi.pcs, rfl, e1 _ _ hpa, hps.go e1, o3, o4, e1 _ _ hg, hq, p0, fun H2 e2 => ⟨_, rfl, ?_⟩⟩
        rcases Nat.lt_or_eq_of_le hle with hlt | rfl
        · exact if_f (hbefore i wi hlt hwi) ⟨hlt, e1.trans e2, _, _, _, _, rfl⟩
        · rw [hiw] at hwi
          cases hwi
          refine if_t hany ?_
          have e12 := e1.trans e2
          obtain ⟨hfl, hf⟩ := dqall_get hfs
          refine ⟨_, rfl, _, rfl, fa, rfl, ⟨_, SqL.of (e12 _ _ hfa)⟩, fun D hD => lc_list (xs := fs) (fun i H' => Evl.Ex H2 H' ∧ PrAt H' D ((wy.fms.take i).map (fmV p q))) ⟨Evl.Ex.new hD, [], upd_same, rfl, fun i a f h => (by cases h)⟩ (fun i H' _ q => SqL.of (q.1 _ _ (e12 _ _ hfa))) ?_ ?_⟩
          · rintro i x H3 hi ⟨e3, h3⟩
            obtain ⟨c, hc, hdc⟩ := hf i x hi
            obtain ⟨fa2, rfl, hfo⟩ := dq_fm hdc
            have hlt : i < wy.fms.length := (List.getElem?_eq_some_iff.mp hc).1
            have e13 := e12.trans e3
            obtain ⟨fx, fy, z1, z2, z3⟩ := hfo
            refine ⟨rfl, ?_⟩
            show tCall spFormAt [] E0 (tCons (tVar 5) (tCons (tVar 1) tNil)) _ _ _
            refine ⟨_, rfl, _, rfl, fa2, g, c, p, q, rfl, ⟨fx, fy, e13 _ _ z1, e13 _ _ z2, e13 _ _ z3⟩, e13 _ _ hg, o2 c (List.mem_of_getElem? hc), hq, p0, fun t H4 ht e4 h4 => ?_⟩
            obtain ⟨acc, q1, q2, q3⟩ := pr_more (f := fmV p q c) (h3.ex e4) h4
            refine ⟨acc, q1, ?_, Evl.Ex.mut (e3.trans e4) hD, ?_⟩
            · rw [q2, List.length_map, List.length_take]
              exact Nat.lt_of_le_of_lt (show min i wy.fms.length ≤ 100 by omega) (by decide)
            · rw [List.take_add_one, hc, List.map_append]
              exact q3
          · rintro H3 ⟨e3, h3⟩
            rw [hfl, List.take_length] at h3
            refine ⟨two, fun t ht => ?_⟩
            have e4 := Evl.Ex.new (o := .tup [wV wy.rk, .ref D]) ht
            exact k t D _ ((e12.trans e3).trans e4) (Evl.fresh_back (e12.trans e3) ht) (Evl.fresh_back e12 hD) upd_same (h3.ex e4)
      · rintro σ H1 ⟨hle, e1, v2, v3, v4, v5, rfl⟩
        have := (List.getElem?_eq_some_iff.mp hiw).1
        omega
theorem ok_way_atX {f : Addr} {fd fdI : FuncData} (F : Fun K "way_at" "way_at" s_way_at f fd) (cW : CalX P w K mg base 3 "check_width" p_check_width (spWidX CF)) (cL : Cal P w K mg base 6 "lies_in" p_lies_in spLies) (T : EC K CR fI) (G : EG K fI) (mE : mg "InvalidRange" = some (.ref CR)) (FI : FnOk P w K mg base CX0 1 fI fdI ["self", "value"] (spInit K)) (bI : Binds K fdI ["self", "value"] []) : FnOk P w K mg base (L2.CX P w) 7 f fd p_way_at (spWayX CF CR) := by
  refine F.okX sc_way_at (fun vs H Q E h => ?_) (fun cdv A outer s H vs Q E hr h => ?_)
  · obtain ⟨v, g, p, q, sev, rfl, _⟩ := h
    rfl
  · obtain ⟨v, g, p, q, sev, rfl, hv, h8, ok, hg, hcase⟩ := h
    have nd := sc_way_at.nd
    have r2 : Room (1 + 1) _ := hr.mono (by decide)
    have r3 : Room 3 _ := hr.mono (by decide)
    have r6 : Room 6 _ := hr.mono (by decide)
    refine ⟨_, pss_cons (ps_expr (pe_cx (E := E) cW r3 (takes_of rfl rfl rfl rfl) (fun _ _ _ _ h => h) (pa_cons (pv 1) pa_nil)))
      (pss_cons (ps_for (passes_of rfl) rfl (pi_list (pv 0)) (pg_tup rfl (pgs_cons (pg_name (i := 2) nd rfl (Or.inl rfl)) (pgs_cons (pg_name (i := 3) nd rfl (Or.inl rfl)) (pgs_cons (pg_name (i := 4) nd rfl (Or.inl rfl)) pgs_nil)))) (pss_one (ps_if (pt_val (pe_c cL r6 (pa_cons (pv 4) (pa_cons (pv 1) pa_nil)))) (pss_one ps_never) pss_nil)))
      (pss_one (ps_raise rfl (takes_of rfl rfl rfl rfl) (pmk_oex (k := 1) T.ox T.iC G.tI FI r2 bI .nil pass0 (by rfl) mE (pa_cons (pv 1) pa_nil))))), ?_⟩
    refine ⟨_, rfl, g, p, q, rfl, hg, fun hfr hp H0 e0 => ?_, fun hno => ?_⟩
    · rcases hcase with ⟨z, _⟩ | ⟨hq, p0, hn, k⟩
      · exact absurd ⟨hfr, hp⟩ z
      have hb := owed_none hn
      cases hv with
      | lst hl hA =>
        rename_i l xs
        obtain ⟨hxl, hx⟩ := dqall_get hA
        refine ⟨_, rfl, l, rfl, ⟨_, SqL.of (e0 _ _ hl)⟩, for_list (xs := xs) (fun i σ H' => Evl.Ex H H' ∧ ∃ v2 v3 v4 v5, σ = [some (.ref l), some (.ref g), v2, v3, v4, v5]) ⟨e0, none, none, none, none, rfl⟩ (fun i σ H' _ q => SqL.of (q.1 _ _ hl)) ?_ ?_⟩
        · rintro i x σ H1 hi ⟨e1, v2, v3, v4, v5, rfl⟩
          obtain ⟨wi, hwi, hd⟩ := hx i x hi
          obtain ⟨a, fa, pa, fs, ps, rfl, ha, hfa, hfs, hpa, hps⟩ := dq_wy hd
          have hm := List.mem_of_getElem? hwi
          obtain ⟨o1, o2, o3, o4⟩ := ok wi hm
          refine ⟨a, _, rfl, SqT.of (e1 _ _ ha), rfl, _, _, rfl, _, _, rfl, _, _, rfl, rfl, ?_⟩
          refine ⟨_, rfl, _, rfl, pa, g, ps, p, q, wi.pcs, rfl, e1 _ _ hpa, hps.go e1, o3, o4, e1 _ _ hg, hq, p0, fun H2 e2 => ⟨_, rfl, if_f (hb wi hm) ⟨e1.trans e2, _, _, _, _, rfl⟩⟩⟩
        · rintro σ H1 ⟨e1, v2, v3, v4, v5, rfl⟩
          exact ⟨_, rfl, raise_in T fun e G' he ee hx => k H1 e1 e G' he ee hx⟩
    · rcases hcase with ⟨_, k⟩ | ⟨hq, p0, _, _⟩
      · exact k
      · exact absurd ⟨qn_frB hq, p0⟩ hno
end
end V2


namespace L2
open PySem PyProof.Rows PySem.Spec
/-- // by what is not 0 -/
def CDivS (_ j : Int) : Prop := j ≠ 0 ∧ j.natAbs.log2 < 9000
section
variable {X : Cx}
theorem op_fdivS : OpR X (binaryOp .FloorDiv) (rI CDivS fun i j => .int (i.fdiv j)) := opI fun i j _ _ _ _ _ hc q => floordiv_int hc.1 q (.inl (PyProof.noPylong_of_log2 hc.2))
end
end L2
namespace V2
open PySem L2
open PySem.Spec PyProof.Rows
/-! ## the law's arithmetic -/
def spRatN : Sp := fun vs H Q _ => ∃ x y : Int, vs = [.int x, .int y] ∧ x.natAbs < 2 ^ 8999 ∧ y.natAbs < 2 ^ 8999 ∧ y ≠ 0 ∧ RetU [.int (ratN x y).1, .int (ratN x y).2] H Q
def spSaL : Sp := fun vs H Q _ => ∃ (a b : Addr) (xs : List Int) (p q : Int), vs = [.ref a, .ref b] ∧ Li H a xs ∧ Fr H b p q ∧ PnN xs ∧ p.natAbs < 2 ^ 50 ∧ q.natAbs < 2 ^ 50 ∧ Evl.RetV (.int (sg (hT p q xs))) H Q
def spLess : Sp := fun vs H Q _ => ∃ (a b : Addr) (p q x y : Int), vs = [.ref a, .ref b] ∧ Fr H a p q ∧ Fr H b x y ∧ p.natAbs < 2 ^ 50 ∧ q.natAbs < 2 ^ 50 ∧ x.natAbs < 2 ^ 50 ∧ y.natAbs < 2 ^ 50 ∧ Evl.RetV (.bl (decide (p * y < x * q))) H Q
def spLside : Sp := fun vs H Q _ => ∃ (g : Addr) (v : V) (p q : Int) (pl : Plc), vs = [.ref g, v] ∧ Fr H g p q ∧ Qn p q ∧ 0 < p ∧ Dq H v (plD pl) ∧ OkPl pl ∧ Evl.RetV (.int (ordP p q (some pl))) H Q
theorem sg_two (x : Int) : (if decide (0 < x) then (1 : Int) else 0) - (if decide (x < 0) then (1 : Int) else 0) = sg x := by
  rcases sg_cases x with ⟨h, e⟩ | ⟨h, e⟩ | ⟨h, e⟩
  · subst h; rfl
  · rw [e, decide_eq_true h, decide_eq_false (by omega)]; rfl
  · rw [e, decide_eq_true h, decide_eq_false (by omega)]; rfl
section
variable {base : Heap} {mg : Str → Option Value} {K : PySem.W.Frag} {w : World} {P : Program}
theorem ok_ratioS {f : Addr} {fd : FuncData} (F : Fun K "_law_wl_ratio" "_law_wl_ratio" s_l_ratio f fd) (cD : Cal P w K mg base 1 "_law_wl_divisor" p_l_divisor spShared) : FnOk P w K mg base CX0 2 f fd p_l_ratio spRatN := by
  refine F.ok sc_l_ratio (fun vs H Q E h => ?_) (fun cdv A outer s H vs Q E hr h => ?_)
  · obtain ⟨x, y, rfl, _⟩ := h
    rfl
  · obtain ⟨x, y, rfl, hx, hy, y0, k⟩ := h
    have nd := sc_l_ratio.nd
    have two : 2 ≤ sizeLine := by show 2 ≤ sizeLine; decide
    refine ⟨_, pss_cons (ps_set (i := 2) nd rfl (Or.inl rfl) (pe_c cD hr (pa_cons (pv 0) (pa_cons (pv 1) pa_nil))))
      (pss_cons (ps_if (pt_cmpR op_lt (pv 1) pe_int (nomark _)) (pss_one (ps_set (i := 2) nd rfl (Or.inl rfl) (pe_op op_sub pe_int (pv 2)))) pss_nil)
      (pss_one (ps_ret (pe_tup (pa_cons (pe_op op_fdivS (pv 0) (pv 2)) (pa_cons (pe_op op_fdivS (pv 1) (pv 2)) pa_nil)))))), ?_⟩
    have g : Int.gcd x y ≠ 0 := fun z => y0 (Int.gcd_eq_zero_iff.mp z).2
    have gb : (Int.gcd x y : Int).natAbs < 2 ^ 8999 := by
      rw [Int.natAbs_natCast]
      exact Nat.lt_of_le_of_lt (Nat.gcd_le_right _ (by omega)) hy
    have cD : ∀ s : Int, s = Int.gcd x y ∨ s = 0 - (Int.gcd x y : Int) → ∀ z : Int, CDivS z s := fun s hs z => by
      refine ⟨by omega, ?_⟩
      have : s.natAbs = (Int.gcd x y : Int).natAbs := by omega
      rw [this]
      exact Nat.lt_of_lt_of_le (PySem.Flt.log2_lt_of (by decide) gb) (by decide)
    refine ⟨_, rfl, _, rfl, x, y, rfl, bigN hx (by decide), bigN hy (by decide), fun H1 e1 => ?_⟩
    refine ⟨_, rfl, _, _, rfl, rfl, _, rfl, ?_⟩
    by_cases hn : y < 0
    · refine if_t (decide_eq_true hn) ⟨_, rfl, _, _, rfl, rfl, ?_⟩
      rw [ratN_div hn] at k
      have d1 : (0 - (Int.gcd x y : Int)) ∣ x := by
        rw [Int.zero_sub]
        exact Int.neg_dvd.mpr (Int.gcd_dvd_left ..)
      have d2 : (0 - (Int.gcd x y : Int)) ∣ y := by
        rw [Int.zero_sub]
        exact Int.neg_dvd.mpr (Int.gcd_dvd_right ..)
      refine ⟨_, rfl, _, rfl, _, _, rfl, rfl, cD _ (.inr rfl) _, _, rfl, _, rfl, _, _, rfl, rfl, cD _ (.inr rfl) _, two, fun p hp => ?_⟩
      refine k p _ (Evl.fresh_back e1 hp) (e1.trans (Evl.Ex.new hp)) ?_
      rw [upd_same]
      show some (HO.tup [V.int (Int.fdiv x _), V.int (Int.fdiv y _)]) = _
      rw [Int.fdiv_eq_ediv_of_dvd d1, Int.fdiv_eq_ediv_of_dvd d2]
    · refine if_f (decide_eq_false hn) ?_
      unfold ratN at k
      rw [if_neg hn] at k
      refine ⟨_, rfl, _, rfl, _, _, rfl, rfl, cD _ (.inl rfl) _, _, rfl, _, rfl, _, _, rfl, rfl, cD _ (.inl rfl) _, two, fun p hp => ?_⟩
      refine k p _ (Evl.fresh_back e1 hp) (e1.trans (Evl.Ex.new hp)) ?_
      rw [upd_same]
      show some (HO.tup [V.int (Int.fdiv x _), V.int (Int.fdiv y _)]) = _
      rw [Int.fdiv_eq_ediv_of_dvd (Int.gcd_dvd_left ..), Int.fdiv_eq_ediv_of_dvd (Int.gcd_dvd_right ..)]
      rfl
theorem ok_plusL {f : Addr} {fd : FuncData} (F : Fun K "_law_wl_plus" "_law_wl_plus" s_l_plus f fd) (cR : Cal P w K mg base 2 "_law_wl_ratio" p_l_ratio spRatio) : FnOk P w K mg base CX0 3 f fd p_l_plus (spFp fun p q x y => fr (p * y + x * q) (q * y)) := by
  refine F.ok sc_l_plus (fun vs H Q E h => ?_) (fun cdv A outer s H vs Q E hr h => ?_)
  · obtain ⟨a, b, p, q, x, y, rfl, _⟩ := h
    rfl
  · obtain ⟨a, b, p, q, x, y, rfl, ha, hb, q0, y0, bp, bq, bx, by_, k⟩ := h
    have hqy : 0 < q * y := Int.mul_pos q0 y0
    have bqy : Bn 9000 (q * y) := (bq.mul by_).le (by decide)
    refine ⟨_, pss_one (ps_ret (pe_c cR hr (pa_cons (pe_op op_add (pe_op op_mulW (pe_ix ix_tup (pv 0) pe_int (fun _ _ => rfl)) (pe_ix ix_tup (pv 1) pe_int (fun _ _ => rfl))) (pe_op op_mulW (pe_ix ix_tup (pv 1) pe_int (fun _ _ => rfl)) (pe_ix ix_tup (pv 0) pe_int (fun _ _ => rfl)))) (pa_cons (pe_op op_mulW (pe_ix ix_tup (pv 0) pe_int (fun _ _ => rfl)) (pe_ix ix_tup (pv 1) pe_int (fun _ _ => rfl))) pa_nil)))), ?_⟩
    exact ⟨_, rfl, a, _, _, _, rfl, rfl, SqT.of ha, rfl, _, rfl, b, _, _, _, rfl, rfl, SqT.of hb, rfl, p, y, rfl, rfl, wide_mul (a := 4400) (b := 4400) bp by_ (by decide) (by decide) (by decide), _, rfl, b, _, _, _, rfl, rfl, SqT.of hb, rfl, _, rfl, a, _, _, _, rfl, rfl, SqT.of ha, rfl, x, q, rfl, rfl, wide_mul (a := 4400) (b := 4400) bx bq (by decide) (by decide) (by decide), _, _, rfl, rfl, _, rfl, a, _, _, _, rfl, rfl, SqT.of ha, rfl, _, rfl, b, _, _, _, rfl, rfl, SqT.of hb, rfl, q, y, rfl, rfl, wide_mul (a := 4400) (b := 4400) bq by_ (by decide) (by decide) (by decide), _, _, rfl, (((bp.mul by_).add (bx.mul bq)).le (by decide) : Bn 9000 _), bqy, hqy, k⟩

theorem ok_timesL {f : Addr} {fd : FuncData} (F : Fun K "_law_wl_times" "_law_wl_times" s_l_times f fd) (cR : Cal P w K mg base 2 "_law_wl_ratio" p_l_ratio spRatio) : FnOk P w K mg base CX0 3 f fd p_l_times (spFp fun p q x y => fr (p * x) (q * y)) := by
  refine F.ok sc_l_times (fun vs H Q E h => ?_) (fun cdv A outer s H vs Q E hr h => ?_)
  · obtain ⟨a, b, p, q, x, y, rfl, _⟩ := h
    rfl
  · obtain ⟨a, b, p, q, x, y, rfl, ha, hb, q0, y0, bp, bq, bx, by_, k⟩ := h
    have hqy : 0 < q * y := Int.mul_pos q0 y0
    have bqy : Bn 9000 (q * y) := (bq.mul by_).le (by decide)
    refine ⟨_, pss_one (ps_ret (pe_c cR hr (pa_cons (pe_op op_mulW (pe_ix ix_tup (pv 0) pe_int (fun _ _ => rfl)) (pe_ix ix_tup (pv 1) pe_int (fun _ _ => rfl))) (pa_cons (pe_op op_mulW (pe_ix ix_tup (pv 0) pe_int (fun _ _ => rfl)) (pe_ix ix_tup (pv 1) pe_int (fun _ _ => rfl))) pa_nil)))), ?_⟩
    exact ⟨_, rfl, a, _, _, _, rfl, rfl, SqT.of ha, rfl, _, rfl, b, _, _, _, rfl, rfl, SqT.of hb, rfl, p, x, rfl, rfl, wide_mul (a := 4400) (b := 4400) bp bx (by decide) (by decide) (by decide), _, rfl, a, _, _, _, rfl, rfl, SqT.of ha, rfl, _, rfl, b, _, _, _, rfl, rfl, SqT.of hb, rfl, q, y, rfl, rfl, wide_mul (a := 4400) (b := 4400) bq by_ (by decide) (by decide) (by decide), _, _, rfl, ((bp.mul bx).le (by decide) : Bn 9000 _), bqy, hqy, k⟩

theorem ok_lessL {f : Addr} {fd : FuncData} (F : Fun K "_law_wl_less" "_law_wl_less" s_l_less f fd) : FnOk P w K mg base CX0 1 f fd p_l_less spLess := by
  refine F.ok sc_l_less (fun vs H Q E h => ?_) (fun cdv A outer s H vs Q E hr h => ?_)
  · obtain ⟨a, b, p, q, x, y, rfl, _⟩ := h
    rfl
  · obtain ⟨a, b, p, q, x, y, rfl, ha, hb, bp, bq, bx, by_, k⟩ := h
    refine ⟨_, pss_one (ps_ret (pe_cmpR op_lt (pe_op op_mulW (pe_ix ix_tup (pv 0) pe_int (fun _ _ => rfl)) (pe_ix ix_tup (pv 1) pe_int (fun _ _ => rfl))) (pe_op op_mulW (pe_ix ix_tup (pv 1) pe_int (fun _ _ => rfl)) (pe_ix ix_tup (pv 0) pe_int (fun _ _ => rfl))) (nomark _))), ?_⟩
    exact ⟨_, rfl, a, _, _, _, rfl, rfl, SqT.of ha, rfl, _, rfl, b, _, _, _, rfl, rfl, SqT.of hb, rfl, p, y, rfl, rfl, wide_mul bp by_ (by decide) (by decide) (by decide), _, rfl, b, _, _, _, rfl, rfl, SqT.of hb, rfl, _, rfl, a, _, _, _, rfl, rfl, SqT.of ha, rfl, x, q, rfl, rfl, wide_mul bx bq (by decide) (by decide) (by decide), _, _, rfl, rfl, k _ (Evl.Ex.refl _)⟩
theorem ok_sign_atL {f : Addr} {fd : FuncData} (F : Fun K "_law_wl_sign_at" "_law_wl_sign_at" s_l_sign_at f fd) (mI : mg "int" = none) : FnOk P w K mg base CX0 1 f fd p_l_sign_at spSaL := by
  refine F.ok sc_l_sign_at (fun vs H Q E h => ?_) (fun cdv A outer s H vs Q E hr h => ?_)
  · obtain ⟨a, b, xs, p, q, rfl, _⟩ := h
    rfl
  · obtain ⟨a, b, xs, p, q, rfl, ha, hb, ⟨hx1, hx3⟩, pb, qb, k⟩ := h
    have nd := sc_l_sign_at.nd
    refine ⟨_, pss_cons (ps_asg (pe_tup (pa_cons pe_int (pa_cons pe_int pa_nil))) (pg_tup rfl (pgs_cons (pg_name (i := 2) nd rfl (Or.inl rfl)) (pgs_cons (pg_name (i := 3) nd rfl (Or.inl rfl)) pgs_nil))))
      (pss_cons (ps_for PassesOwn.never rfl (pi_list (pe_revL (pv 0))) (pg_name (i := 4) nd rfl (Or.inl rfl)) (pss_cons (ps_set (i := 2) nd rfl (Or.inl rfl) (pe_op op_add (pe_op op_mulW (pv 2) (pe_ix ix_tup (pv 1) pe_int (fun _ _ => rfl))) (pe_op op_mulW (pv 4) (pv 3))))
      (pss_one (ps_set (i := 3) nd rfl (Or.inl rfl) (pe_op op_mulW (pv 3) (pe_ix ix_tup (pv 1) pe_int (fun _ _ => rfl)))))))
      (pss_one (ps_ret (pe_op op_sub (pe_callTy call_int1 (by rfl) mI (by decide +kernel) (pa_cons (pe_cmpR op_gt (pv 2) pe_int (nomark _)) pa_nil)) (pe_callTy call_int1 (by rfl) mI (by decide +kernel) (pa_cons (pe_cmpR op_lt (pv 2) pe_int (nomark _)) pa_nil)))))), ?_⟩
    have hTb : ∀ j, (hT p q (xs.drop j)).natAbs < 2 ^ 980 := fun j => by
      have := hT_ltN (N := 101) pb qb (xs.drop j) fun x hx => hx3 x (List.mem_of_mem_drop hx)
      refine Nat.lt_of_lt_of_le this (Nat.pow_le_pow_right (by decide) ?_)
      rw [List.length_drop]; omega
    have qk : ∀ j, j ≤ 17 → (q ^ j).natAbs < 2 ^ 851 := fun j hj => Nat.lt_of_lt_of_le (npow_lt qb j) (Nat.pow_le_pow_right (by decide) (by omega))
    refine ⟨(by show 2 ≤ sizeLine; decide), fun c hc => ?_⟩
    have e0 : Evl.Ex H (upd H c (.tup [.int 0, .int 1])) := Evl.Ex.new hc
    refine ⟨c, _, rfl, SqT.of upd_same, rfl, _, _, rfl, _, _, rfl, rfl, ?_⟩
    refine ⟨_, rfl, a, _, rfl, SqL.of (e0 _ _ ha), fun l hl => ⟨l, rfl, ⟨_, SqL.of upd_same⟩, ?_⟩⟩
    have e1 : Evl.Ex H (upd (upd H c (.tup [.int 0, .int 1])) l (.lst (iV xs).reverse)) := e0.trans (Evl.Ex.new hl)
    have erev : (iV xs).reverse = iV xs.reverse := by unfold iV; rw [List.map_reverse]
    rw [erev] at e1 ⊢
    refine for_list (xs := iV xs.reverse) (fun i σ H' => ∃ v4, σ = [some (.ref a), some (.ref b), some (.int (hT p q (xs.drop (xs.length - i)))), some (.int (q ^ i)), v4] ∧ Evl.Ex (upd (upd H c (.tup [.int 0, .int 1])) l (.lst (iV xs.reverse))) H')
      ⟨none, ?_, Evl.Ex.refl _⟩ (fun i σ H' _ ⟨_, _, q⟩ => SqL.of (q _ _ upd_same)) ?_ ?_
    · rw [Nat.sub_zero, List.drop_length, Int.pow_zero]; rfl
    · rintro i x σ H' hi ⟨v4, rfl, e2⟩
      obtain ⟨n, hn, rfl⟩ := iV_get hi
      have hlt : i < xs.length := by
        have := (List.getElem?_eq_some_iff.mp hn).1
        rw [List.length_reverse] at this
        exact this
      rw [List.getElem?_reverse hlt] at hn
      have st := hT_drop p q xs i n hlt hn
      have nb := hx3 n (List.mem_of_getElem? hn)
      have hb' : Fr H' b p q := e2 _ _ (e1 _ _ hb)
      refine ⟨_, rfl, _, rfl, b, _, _, _, rfl, rfl, SqT.of hb', rfl, _, _, rfl, rfl, wide_mul (hTb _) pb (by decide) (by decide) (by decide), _, rfl, _, rfl, n, _, rfl, rfl, wide_mul nb (qk i (by omega)) (by decide) (by decide) (by decide), _, _, rfl, rfl, ?_⟩
      refine ⟨_, rfl, _, rfl, b, _, _, _, rfl, rfl, SqT.of hb', rfl, _, _, rfl, rfl, wide_mul (qk i (by omega)) qb (by decide) (by decide) (by decide), some (.int n), ?_, e2⟩
      rw [st, Int.pow_succ]
      rfl
    · rintro σ H' ⟨v4, rfl, e2⟩
      rw [iV_len, List.length_reverse, Nat.sub_self, List.drop_zero]
      refine ⟨_, rfl, _, _, rfl, rfl, .inr ⟨_, rfl, _, rfl, _, _, rfl, rfl, .inr ⟨_, rfl, _, _, rfl, rfl, ?_⟩⟩⟩
      show Q (.int ((if decide (0 < hT p q xs) then (1 : Int) else 0) - (if decide (hT p q xs < 0) then (1 : Int) else 0))) H'
      rw [sg_two]
      exact k _ (e1.trans e2)
theorem ok_valueL {f : Addr} {fd : FuncData} (F : Fun K "_law_wl_value" "_law_wl_value" s_l_value f fd) (cP : Cal P w K mg base 3 "_law_wl_plus" p_l_plus (spFp fun p q x y => fr (p * y + x * q) (q * y))) (cT : Cal P w K mg base 3 "_law_wl_times" p_l_times (spFp fun p q x y => fr (p * x) (q * y))) : FnOk P w K mg base CX0 4 f fd p_l_value spValN := by
  refine F.ok sc_l_value (fun vs H Q E h => ?_) (fun cdv A outer s H vs Q E hr h => ?_)
  · obtain ⟨a, b, xs, p, q, rfl, _⟩ := h
    rfl
  · obtain ⟨a, b, xs, p, q, rfl, ha, hb, hx, hq, k⟩ := h
    have nd := sc_l_value.nd
    have r3 : Room 3 _ := hr.mono (by decide)
    have two : 2 ≤ sizeLine := by show 2 ≤ sizeLine; decide
    refine ⟨_, pss_cons (ps_set (i := 2) nd rfl (Or.inl rfl) (pe_tup (pa_cons pe_int (pa_cons pe_int pa_nil))))
      (pss_cons (ps_for PassesOwn.never rfl (pi_list (pe_revL (pv 0))) (pg_name (i := 3) nd rfl (Or.inl rfl)) (pss_one (ps_set (i := 2) nd rfl (Or.inl rfl) (pe_c cP r3 (pa_cons (pe_c cT r3 (pa_cons (pv 2) (pa_cons (pv 1) pa_nil))) (pa_cons (pe_tup (pa_cons (pv 3) (pa_cons pe_int pa_nil))) pa_nil))))))
      (pss_one (ps_ret (pv 2)))), ?_⟩
    obtain ⟨q0, qc, pb, qb⟩ := id hq
    refine ⟨two, fun c hc => ?_⟩
    have e0 : Evl.Ex H (upd H c (.tup [.int 0, .int 1])) := Evl.Ex.new hc
    refine ⟨_, rfl, a, _, rfl, SqL.of (e0 _ _ ha), fun l hl => ⟨l, rfl, ⟨_, SqL.of upd_same⟩, ?_⟩⟩
    have e1 := Evl.Ex.new (o := .lst (iV xs).reverse) hl
    have e01 := e0.trans e1
    have erev : (iV xs).reverse = iV xs.reverse := by unfold iV; rw [List.map_reverse]
    rw [erev] at e1 e01 ⊢
    have sub : ∀ i, PnN (xs.drop i) := fun i => ⟨by rw [List.length_drop]; have := hx.1; omega, fun x h => hx.2 x (List.mem_of_mem_drop h)⟩
    refine for_list (xs := iV xs.reverse) (fun i σ H' => ∃ (f : Addr) (v3 : Option V), σ = [some (.ref a), some (.ref b), some (.ref f), v3] ∧ Evl.Ex (upd (upd H c (.tup [.int 0, .int 1])) l (.lst (iV xs.reverse))) H' ∧ H f = none ∧ Fr H' f (vl p q (xs.drop (xs.length - i))).1 (vl p q (xs.drop (xs.length - i))).2)
      ⟨c, none, rfl, Evl.Ex.refl _, hc, ?_⟩ (fun i σ H' _ ⟨_, _, _, q, _⟩ => SqL.of (q _ _ upd_same)) ?_ ?_
    · rw [Nat.sub_zero, List.drop_length]
      show Fr _ c (fr 0 (q ^ 0)).1 (fr 0 (q ^ 0)).2
      rw [Int.pow_zero, show fr 0 1 = (0, 1) from fr_same (by decide) (by decide)]
      exact e1 _ _ upd_same
    · rintro i x σ H' hi ⟨f, v3, rfl, e2, hf, hF⟩
      obtain ⟨n, hn, rfl⟩ := iV_get hi
      have hlt : i < xs.length := by
        have := (List.getElem?_eq_some_iff.mp hn).1
        rw [List.length_reverse] at this
        exact this
      rw [List.getElem?_reverse hlt] at hn
      have nb := hx.2 n (List.mem_of_getElem? hn)
      have e02 := e01.trans e2
      have e3 : xs.drop (xs.length - (i + 1)) = n :: xs.drop (xs.length - i) := by
        have h2 : xs.length - (i + 1) < xs.length := by omega
        rw [List.drop_eq_getElem_cons h2]
        have h3 : xs[xs.length - (i + 1)]? = some n := by rw [show xs.length - (i + 1) = xs.length - 1 - i by omega]; exact hn
        rw [List.getElem?_eq_getElem h2] at h3
        rw [Option.some.inj h3, show xs.length - (i + 1) + 1 = xs.length - i by omega]
      have st := hor_step (p := p) q0 (xs.drop (xs.length - i)) n
      dsimp only at st
      have f2 := vl_pos (p := p) q0 (xs.drop (xs.length - i))
      have b1 := vl_b1 hq (sub (xs.length - i))
      have b2 := vl_b2 hq (sub (xs.length - i))
      change fr ((fr ((vl p q (xs.drop (xs.length - i))).1 * p) ((vl p q (xs.drop (xs.length - i))).2 * q)).1 * 1 + n * (fr ((vl p q (xs.drop (xs.length - i))).1 * p) ((vl p q (xs.drop (xs.length - i))).2 * q)).2) ((fr ((vl p q (xs.drop (xs.length - i))).1 * p) ((vl p q (xs.drop (xs.length - i))).2 * q)).2 * 1) = vl p q (n :: xs.drop (xs.length - i)) at st
      rw [← e3] at st
      have m2 : 0 < (vl p q (xs.drop (xs.length - i))).2 * q := Int.mul_pos f2 q0
      have g1 : (fr ((vl p q (xs.drop (xs.length - i))).1 * p) ((vl p q (xs.drop (xs.length - i))).2 * q)).1.natAbs < 2 ^ 4400 := Nat.lt_of_le_of_lt (fr_abs1 m2) (mul_b b1 pb (by decide))
      have g2 : (fr ((vl p q (xs.drop (xs.length - i))).1 * p) ((vl p q (xs.drop (xs.length - i))).2 * q)).2.natAbs < 2 ^ 4400 := Nat.lt_of_le_of_lt (fr_abs2 m2) (mul_b b2 qb (by decide))
      have g3 := fr_pos (u := (vl p q (xs.drop (xs.length - i))).1 * p) m2
      refine ⟨_, rfl, _, rfl, f, b, _, _, p, q, rfl, hF, e02 _ _ hb, f2, q0, bigN b1 (by decide), bigN b2 (by decide), bigN pb (by decide), bigN qb (by decide), fun t H3 ht e4 h4 => ?_⟩
      refine ⟨_, rfl, two, fun u hu => ?_⟩
      have e5 := Evl.Ex.new (o := .tup [.int n, .int 1]) hu
      refine ⟨t, u, _, _, n, 1, rfl, e5 _ _ h4, upd_same, g3, by decide, g1, g2, bigN nb (by decide), bigN (n := 1) (by decide) (by decide), fun r H4 hr4 e6 h6 => ?_⟩
      have e26 := (e4.trans e5).trans e6
      refine ⟨r, some (.int n), rfl, e2.trans e26, Evl.fresh_back e02 (Evl.fresh_back (e4.trans e5) hr4), ?_⟩
      unfold Fr
      rw [h6, ← st]
    · rintro σ H' ⟨f, v3, rfl, e2, hf, hF⟩
      rw [iV_len, List.length_reverse, Nat.sub_self, List.drop_zero] at hF
      exact ⟨_, rfl, k f _ hf (e01.trans e2) hF⟩
theorem ok_sideL {f : Addr} {fd : FuncData} (F : Fun K "_law_side" "_law_side" s_l_side f fd) (mL : mg "len" = none) (mI : mg "int" = none) (cL : Cal P w K mg base 1 "_law_wl_less" p_l_less spLess) (cS : Cal P w K mg base 1 "_law_wl_sign_at" p_l_sign_at spSaL) : FnOk P w K mg base CX0 2 f fd p_l_side spLside := by
  refine F.ok sc_l_side (fun vs H Q E h => ?_) (fun cdv A outer s H vs Q E hr h => ?_)
  · obtain ⟨g, v, p, q, pl, rfl, _⟩ := h
    rfl
  · obtain ⟨g, v, p, q, pl, rfl, hg, hq, p0, hv, ok, k⟩ := h
    have nd := sc_l_side.nd
    have r1 : Room 1 _ := hr.mono (by decide)
    refine ⟨_, pss_cons (ps_if (pt_cmpR op_eq (pe_callB call_len_seq (by rfl) mL PySem.boot_len (pa_cons (pv 1) pa_nil)) pe_int (nomark _)) (pss_one (ps_ret (pe_op op_sub (pe_callTy call_int1 (by rfl) mI (by decide +kernel) (pa_cons (pe_c cL r1 (pa_cons (pv 1) (pa_cons (pv 0) pa_nil))) pa_nil)) (pe_callTy call_int1 (by rfl) mI (by decide +kernel) (pa_cons (pe_c cL r1 (pa_cons (pv 0) (pa_cons (pv 1) pa_nil))) pa_nil))))) pss_nil)
      (pss_one (ps_ret (pe_c cS r1 (pa_cons (pe_ix ix_tup (pv 1) pe_int (fun _ _ => rfl)) (pa_cons (pv 0) pa_nil))))), ?_⟩
    obtain ⟨b, rfl, hb⟩ := dq_pl hv
    cases pl with
    | fr x y =>
      have hb : Fr H b x y := hb
      obtain ⟨x0, y0, xb, yb⟩ := ok
      refine ⟨_, rfl, b, _, rfl, .inr (SqT.of hb), rfl, _, rfl, if_t (by rfl) ?_⟩
      refine ⟨_, rfl, _, rfl, b, g, x, y, p, q, rfl, hb, hg, xb, yb, hq.2.2.1, hq.2.2.2, fun H1 e1 => .inr ⟨_, rfl, ?_⟩⟩
      refine ⟨_, rfl, _, rfl, g, b, p, q, x, y, rfl, e1 _ _ hg, e1 _ _ hb, hq.2.2.1, hq.2.2.2, xb, yb, fun H2 e2 => .inr ⟨_, rfl, _, _, rfl, rfl, ?_⟩⟩
      have := sg_two (p * y - x * q)
      rw [show decide (0 < p * y - x * q) = decide (x * q < p * y) from decide_eq_decide.mpr (by omega), show decide (p * y - x * q < 0) = decide (p * y < x * q) from decide_eq_decide.mpr (by omega)] at this
      show Q (.int ((if decide (x * q < p * y) then (1 : Int) else 0) - (if decide (p * y < x * q) then (1 : Int) else 0))) H2
      rw [this]
      exact k _ (e1.trans e2)
    | rt n f m =>
      obtain ⟨l, x, y, ha, hl, hx, hy⟩ := id hb
      obtain ⟨n0, n1, f1, f0, nb, fb, mb, s, s0, s1, s2⟩ := id ok
      have m0 : 0 ≤ m := by have := Int.mul_nonneg n0 n0; omega
      refine ⟨_, rfl, b, _, rfl, .inr (SqT.of ha), rfl, _, rfl, if_f (by rfl) ?_⟩
      refine ⟨_, rfl, b, _, _, _, rfl, rfl, SqT.of ha, rfl, _, rfl, l, g, rtL m, p, q, rfl, hl, hg, pn_rt m0 mb, hq.2.2.1, hq.2.2.2, fun H1 e1 => ?_⟩
      rw [hT_rt]
      exact k _ e1
end
end V2


namespace V2
open PySem L2
open PySem.Spec PyProof.Rows
/-! ## pieces, and what is owed -/
def spPieces : Sp := fun vs H Q _ => ∃ (l : Addr) (xs : List V) (pls : List Plc) (z : List Addr), vs = [.ref l] ∧ H l = some (.lst xs) ∧ DqAll (woL z H) xs (pls.map plD) ∧ (∀ a ∈ z, H a ≠ none) ∧ pls.length ≤ 20 ∧ (∀ p ∈ pls, OkPl p) ∧
  ∀ (r : Addr) (ys : List V) (cs : List Pc) (H' : Hp), Evl.Ex H H' → H r = none → H' r = some (.lst ys) → DqAll (woL z H') ys (cs.map pcD) → (∀ c ∈ cs, OkPc c) → cs.length ≤ 41 → Q (.ref r) H'
def spIn : Sp := fun vs H Q _ => ∃ (g : Addr) (v : V) (p q : Int) (c : Pc), vs = [.ref g, v] ∧ Fr H g p q ∧ Qn p q ∧ 0 < p ∧ Dq H v (pcD c) ∧ OkPc c ∧ Evl.RetV (.bl (inP p q c)) H Q
def spOwed : Sp := fun vs H Q _ => ∃ (v : V) (g : Addr) (p q : Int) (sev : List Wy), vs = [v, .ref g] ∧ Dq H v (svD sev) ∧ sev.length ≤ 8 ∧ (∀ w ∈ sev, OkWy w) ∧ Fr H g p q ∧ Qn p q ∧ 0 < p ∧ (owed p q sev = none → Evl.RetV .non H Q) ∧
  ∀ w, owed p q sev = some w → ∀ (t D : Addr) (H' : Hp), Evl.Ex H H' → H t = none → H' t = some (.tup [wV w.rk, .ref D]) → PrAt H' D (w.fms.map (fmV p q)) → Q (.ref t) H'
theorem dqall_snoc {H : Hp} {v : V} {d : PyData} : ∀ {ds : List PyData} {vs : List V}, DqAll H vs ds → Dq H v d → DqAll H (vs ++ [v]) (ds ++ [d])
  | [], _, .nil, h => .cons h .nil
  | _ :: _, _, .cons a b, h => .cons a (dqall_snoc b h)
theorem dqall_app {H : Hp} : ∀ {ds es : List PyData} {vs us : List V}, DqAll H vs ds → DqAll H us es → DqAll H (vs ++ us) (ds ++ es)
  | [], _, _, _, .nil, h => h
  | _ :: _, _, _, _, .cons a b, h => .cons a (dqall_app b h)
theorem dqall_lenN {H : Hp} : ∀ {ds : List PyData} {vs : List V}, DqAll H vs ds → vs.length = ds.length
  | [], _, .nil => rfl
  | _ :: _, _, .cons a b => by rw [List.length_cons, List.length_cons, dqall_lenN b]
theorem cp_pc (c : Pc) : Cp 3 (pcD c) := by
  refine .tup (by show 4 ≤ 100; decide) fun d hd => ?_
  simp only [List.mem_cons, List.not_mem_nil, or_false] at hd
  rcases hd with rfl | rfl | rfl | rfl
  · exact cp_pl _
  · exact .bl _
  · exact cp_opl _
  · exact .bl _
theorem lay_pl (p : Plc) : PyData.canLay0 (plD p) = true ∧ (plD p).depth ≤ 3 := by
  cases p with
  | fr p q => exact ⟨by simp [plD, PyData.canLay0, PyData.canLayAll0], by simp [plD, PyData.depth, PyData.depthAll]⟩
  | rt n f m => exact ⟨by simp [plD, PyData.canLay0, PyData.canLayAll0]; decide +kernel, by simp [plD, PyData.depth, PyData.depthAll]⟩
theorem lay_opl (o : Option Plc) : PyData.canLay0 (oplD o) = true ∧ (oplD o).depth ≤ 3 := by
  cases o with
  | none => exact ⟨rfl, by simp [oplD, PyData.depth]⟩
  | some p => exact lay_pl p
theorem lay_pc (c : Pc) : PyData.canLay0 (pcD c) = true ∧ (pcD c).depth ≤ 5 := by
  obtain ⟨h1, h2⟩ := lay_pl c.lo
  obtain ⟨h3, h4⟩ := lay_opl c.hi
  refine ⟨by simp [pcD, PyData.canLay0, PyData.canLayAll0, h1, h3], ?_⟩
  simp [pcD, PyData.depth, PyData.depthAll]
  omega
theorem lay_pcs : ∀ cs : List Pc, PyData.canLayAll0 (cs.map pcD) = true ∧ PyData.depthAll (cs.map pcD) ≤ 6
  | [] => by simp [PyData.canLayAll0, PyData.depthAll]
  | d :: es => by
    obtain ⟨h1, h2⟩ := lay_pcs es
    obtain ⟨h3, h4⟩ := lay_pc d
    exact ⟨by simp [PyData.canLayAll0, h1, h3], by simp [PyData.depthAll]; omega⟩
theorem shp_pcs (cs : List Pc) : SeqAt.shaped (.list (cs.map pcD)) = true := by
  obtain ⟨h1, h2⟩ := lay_pcs cs
  simp [SeqAt.shaped, PyData.canLay0, PyData.depth, h1]
  omega
theorem filter_any {p q : Int} (cs : List Pc) : (!PyData.eqv (.list ((cs.filter (inP p q)).map pcD)) (.list [])) = cs.any (inP p q) := by
  cases h : cs.any (inP p q) with
  | false =>
    have : cs.filter (inP p q) = [] := List.filter_eq_nil_iff.mpr fun c hc => by
      have := List.any_eq_false.mp h c hc
      exact this
    rw [this]
    rfl
  | true =>
    obtain ⟨c, hc, hi⟩ := List.any_eq_true.mp h
    have : c ∈ cs.filter (inP p q) := List.mem_filter.mpr ⟨hc, hi⟩
    cases e : cs.filter (inP p q) with
    | nil => rw [e] at this; cases this
    | cons x r => simp [PyData.eqv, PyData.eqvAll]
section
variable {base : Heap} {mg : Str → Option Value} {K : PySem.W.Frag} {w : World} {P : Program}
theorem ok_pieces {f : Addr} {fd : FuncData} (F : Fun K "_law_pieces" "_law_pieces" s_l_pieces f fd) : FnOk P w K mg base CX0 1 f fd p_l_pieces spPieces := by
  refine F.ok sc_l_pieces (fun vs H Q E h => ?_) (fun cdv A outer s H vs Q E hr h => ?_)
  · obtain ⟨l, xs, pls, z, rfl, _⟩ := h
    rfl
  · obtain ⟨l, xs, pls, zz, rfl, hl, hA, hzz, h20, ok, k⟩ := h
    have nd := sc_l_pieces.nd
    have one : 1 ≤ sizeLine := by show 1 ≤ sizeLine; decide
    have two : 2 ≤ sizeLine := by show 2 ≤ sizeLine; decide
    have four : 4 ≤ sizeLine := by show 4 ≤ sizeLine; decide
    refine ⟨_, pss_cons (ps_par (i := 1) (j := 2) rfl nd rfl rfl (by decide) rfl rfl (pa_cons (pe_lst pa_nil) (pa_cons (pe_tup (pa_cons pe_int (pa_cons pe_int pa_nil))) pa_nil)) (by rfl))
      (pss_cons (ps_for PassesOwn.never rfl (pi_list (pv 0)) (pg_name (i := 3) nd rfl (Or.inl rfl)) (pss_cons (ps_set (i := 1) nd rfl (Or.inl rfl) (pe_op op_cat (pv 1) (pe_lst (pa_cons (pe_tup (pa_cons (pv 2) (pa_cons pe_bl (pa_cons (pv 3) (pa_cons pe_bl pa_nil))))) (pa_cons (pe_tup (pa_cons (pv 3) (pa_cons pe_bl (pa_cons (pv 3) (pa_cons pe_bl pa_nil))))) pa_nil)))))
      (pss_one (ps_set (i := 2) nd rfl (Or.inl rfl) (pv 3)))))
      (pss_one (ps_ret (pe_op op_cat (pv 1) (pe_lst (pa_cons (pe_tup (pa_cons (pv 2) (pa_cons pe_bl (pa_cons pe_non (pa_cons pe_bl pa_nil))))) pa_nil)))))), ?_⟩
    obtain ⟨hxl, hx⟩ := dqall_get hA
    have off : ∀ {G : Hp} {a : Addr}, Evl.Ex H G → G a = none → a ∉ zz := fun {G a} e h hm => hzz a hm (Evl.fresh_back e h)
    refine ⟨Nat.zero_le _, fun D hD => ⟨two, fun z hz => ⟨_, _, rfl, ?_⟩⟩⟩
    have e1 := Evl.Ex.new (o := .lst []) hD
    have e2 := Evl.Ex.new (o := .tup [.int 0, .int 1]) hz
    have e02 := e1.trans e2
    refine ⟨_, rfl, l, rfl, ⟨_, SqL.of (e02 _ _ hl)⟩, for_list (xs := xs) (fun i σ H' => ∃ (r : Addr) (ys : List V) (cs : List Pc) (lo : V) (low : Plc) (v3 : Option V), σ = [some (.ref l), some (.ref r), some lo, v3] ∧ Evl.Ex H H' ∧ H' r = some (.lst ys) ∧ DqAll (woL zz H') ys (cs.map pcD) ∧ (∀ c ∈ cs, OkPc c) ∧ cs.length = 2 * i ∧ Dq (woL zz H') lo (plD low) ∧ OkPl low)
      ⟨D, [], [], _, .fr 0 1, none, rfl, e02, e2 _ _ upd_same, .nil, (fun c h => by cases h), rfl, .tup (woL_at (off e1 hz) upd_same) (.cons (.int 0) (.cons (.int 1) .nil)), by decide, by decide, by decide, by decide⟩ (fun i σ H' _ ⟨_, _, _, _, _, _, _, q, _⟩ => SqL.of (q _ _ hl)) ?_ ?_⟩
    · rintro i x σ H1 hi ⟨r, ys, cs, lo, low, v3, rfl, ex, hr1, hcs, okc, hn, hlo, okl⟩
      obtain ⟨pl, hpl, hd⟩ := hx i x hi
      have hlt : i < pls.length := (List.getElem?_eq_some_iff.mp hpl).1
      have okp := ok pl (List.mem_of_getElem? hpl)
      have hd1 := hd.go (woL_go ex)
      refine ⟨_, rfl, _, rfl, _, rfl, four, fun t1 ht1 => ⟨_, rfl, _, rfl, four, fun t2 ht2 => ⟨two, fun b hb => ?_⟩⟩⟩
      have o1 := off ex ht1
      have f1 := Evl.Ex.new (o := .tup [lo, .bl false, x, .bl false]) ht1
      have g1 := upd_same (H := H1) (a := t1) (o := .tup [lo, .bl false, x, .bl false])
      generalize upd H1 t1 (.tup [lo, .bl false, x, .bl false]) = G1 at f1 g1 ht2 hb
      have o2 := off (ex.trans f1) ht2
      have f2 := Evl.Ex.new (o := .tup [x, .bl true, x, .bl true]) ht2
      have g2 := upd_same (H := G1) (a := t2) (o := .tup [x, .bl true, x, .bl true])
      generalize upd G1 t2 (.tup [x, .bl true, x, .bl true]) = G2 at f2 g2 hb
      have f3 := Evl.Ex.new (o := .lst [.ref t1, .ref t2]) hb
      have g3 := upd_same (H := G2) (a := b) (o := .lst [.ref t1, .ref t2])
      generalize upd G2 b (.lst [.ref t1, .ref t2]) = G3 at f3 g3
      have f13 := (f1.trans f2).trans f3
      have hyl : ys.length = 2 * i := by rw [dqall_lenN hcs, List.length_map, hn]
      refine ⟨r, b, ys, _, rfl, rfl, f13 _ _ hr1, g3, ?_, fun c hc => ?_⟩
      · exact Nat.le_trans (show ys.length + 2 ≤ 100 by omega) (by decide)
      have f4 := Evl.Ex.new (o := .lst (ys ++ [.ref t1, .ref t2])) hc
      have f14 := f13.trans f4
      refine ⟨x, rfl, c, _, cs ++ [⟨low, false, some pl, false⟩, ⟨pl, true, some pl, true⟩], x, pl, _, rfl, ex.trans f14, upd_same, ?_, fun d hd' => ?_, by rw [List.length_append, hn]; rfl, hd1.go (woL_go f14), okp⟩
      · rw [List.map_append]
        have h3 := f3.trans f4
        have w14 := woL_go (ps := zz) f14
        refine dqall_app (hcs.go w14) (.cons (.tup (woL_at o1 (h3 _ _ (f2 _ _ g1))) (.cons (hlo.go w14) (.cons (.bl _) (.cons (hd1.go w14) (.cons (.bl _) .nil))))) (.cons (.tup (woL_at o2 (h3 _ _ g2)) (.cons (hd1.go w14) (.cons (.bl _) (.cons (hd1.go w14) (.cons (.bl _) .nil))))) .nil))
      · rcases List.mem_append.mp hd' with h | h
        · exact okc d h
        · simp only [List.mem_cons, List.not_mem_nil, or_false] at h
          rcases h with rfl | rfl
          · exact ⟨okl, okp⟩
          · exact ⟨okp, okp⟩
    · rintro σ H1 ⟨r, ys, cs, lo, low, v3, rfl, ex, hr1, hcs, okc, hn, hlo, okl⟩
      rw [hxl] at hn
      have hyl : ys.length = 2 * pls.length := by rw [dqall_lenN hcs, List.length_map, hn]
      refine ⟨_, rfl, _, rfl, four, fun t1 ht1 => ⟨one, fun b hb => ?_⟩⟩
      have o1 := off ex ht1
      have f1 := Evl.Ex.new (o := .tup [lo, .bl false, .non, .bl false]) ht1
      have g1 := upd_same (H := H1) (a := t1) (o := .tup [lo, .bl false, .non, .bl false])
      generalize upd H1 t1 (.tup [lo, .bl false, .non, .bl false]) = G1 at f1 g1 hb
      have f2 := Evl.Ex.new (o := .lst [.ref t1]) hb
      have g2 := upd_same (H := G1) (a := b) (o := .lst [.ref t1])
      generalize upd G1 b (.lst [.ref t1]) = G2 at f2 g2
      have f12 := f1.trans f2
      refine ⟨r, b, ys, _, rfl, rfl, f12 _ _ hr1, g2, ?_, fun c hc => ?_⟩
      · exact Nat.le_trans (show ys.length + 1 ≤ 100 by omega) (by decide)
      have f3 := Evl.Ex.new (o := .lst (ys ++ [.ref t1])) hc
      have f13 := f12.trans f3
      refine k c _ (cs ++ [⟨low, false, none, false⟩]) _ (ex.trans f13) (Evl.fresh_back (ex.trans f12) hc) upd_same ?_ (fun d hd' => ?_) (by rw [List.length_append, hn]; show 2 * pls.length + 1 ≤ 41; omega)
      · rw [List.map_append]
        exact dqall_app (hcs.go (woL_go f13)) (.cons (.tup (woL_at o1 (f3 _ _ (f2 _ _ g1))) (.cons (hlo.go (woL_go f13)) (.cons (.bl _) (.cons .non (.cons (.bl _) .nil))))) .nil)
      · rcases List.mem_append.mp hd' with h | h
        · exact okc d h
        · rw [List.mem_singleton.mp h]
          exact ⟨okl, trivial⟩
theorem ok_in {f : Addr} {fd : FuncData} (F : Fun K "_law_in" "_law_in" s_l_in f fd) (cS : Cal P w K mg base 2 "_law_side" p_l_side spLside) : FnOk P w K mg base CX0 3 f fd p_l_in spIn := by
  refine F.ok sc_l_in (fun vs H Q E h => ?_) (fun cdv A outer s H vs Q E hr h => ?_)
  · obtain ⟨g, v, p, q, c, rfl, _⟩ := h
    rfl
  · obtain ⟨g, v, p, q, c, rfl, hg, hq, p0, hv, ok, k⟩ := h
    have nd := sc_l_in.nd
    have r2 : Room 2 _ := hr.mono (by decide)
    have two : 2 ≤ sizeLine := by show 2 ≤ sizeLine; decide
    refine ⟨_, pss_cons (ps_asg (pv 1) (pg_tup rfl (pgs_cons (pg_name (i := 2) nd rfl (Or.inl rfl)) (pgs_cons (pg_name (i := 3) nd rfl (Or.inl rfl)) (pgs_cons (pg_name (i := 4) nd rfl (Or.inl rfl)) (pgs_cons (pg_name (i := 5) nd rfl (Or.inl rfl)) pgs_nil))))))
      (Evl.pss_cut (ps_set (i := 6) nd rfl (Or.inl rfl) (pe_ifExp (pt_cmpR (op_eqD hr.units) (pv 2) (pe_tup (pa_cons pe_int (pa_cons pe_int pa_nil))) (nomark _)) pe_int (pe_c cS r2 (pa_cons (pv 0) (pa_cons (pv 2) pa_nil)))))
      (Evl.pss_cut (ps_set (i := 7) nd rfl (Or.inl rfl) (pe_ifExp (pt_cmp (pc_isN (pv 4))) (pe_op op_sub pe_int pe_int) (pe_c cS r2 (pa_cons (pv 0) (pa_cons (pv 4) pa_nil)))))
      (pss_one (ps_ret (pe_and (pe_or (pe_cmpR op_gt (pv 6) pe_int (nomark _)) (pe_one (pe_and (pv 3) (pe_one (pe_cmpR op_eq (pv 6) pe_int (nomark _)))))) (pe_one (pe_or (pe_cmpR op_lt (pv 7) pe_int (nomark _)) (pe_one (pe_and (pv 5) (pe_one (pe_cmpR op_eq (pv 7) pe_int (nomark _)))))))))))), ?_⟩
    obtain ⟨a, rfl, lo, hi, ha, hlo, hhi⟩ := dq_pc hv
    obtain ⟨c1, li, c2, hin⟩ := c
    obtain ⟨ok1, ok2⟩ := ok
    refine ⟨_, rfl, a, _, rfl, SqT.of ha, rfl, _, _, rfl, _, _, rfl, _, _, rfl, _, _, rfl, rfl, ?_⟩
    refine ⟨fun σ H' => Evl.Ex H H' ∧ σ = [some (.ref g), some (.ref a), some lo, some (.bl li), some hi, some (.bl hin), some (.int (ordP p q (some c1))), none], ?_, ?_⟩
    · refine ⟨_, rfl, two, fun z hz => ?_⟩
      have e1 := Evl.Ex.new (o := .tup [.int 0, .int 1]) hz
      refine ⟨_, _, (hlo.go e1).dp (cp_pl c1), .tup (SqT.of upd_same) (.cons (.int 0) (.cons (.int 1) .nil)), shp_opl (some c1), shp_frN 0 1, _, rfl, ?_⟩
      cases h : PyData.eqv (plD c1) (.tuple [.int 0, .int 1]) with
      | true =>
        refine if_t rfl ⟨e1, ?_⟩
        cases c1 with
        | rt n f m => simp [plD, PyData.eqv, PyData.eqvAll] at h
        | fr x y =>
          unfold plD at h
          rw [eqv_ff, Bool.and_eq_true, beq_iff_eq, beq_iff_eq] at h
          obtain ⟨rfl, rfl⟩ := h
          show _ = [some (.ref g), some (.ref a), some lo, some (.bl li), some hi, some (.bl hin), some (.int (sg (p * 1 - 0 * q))), none]
          rw [sg_pos (by omega)]
          rfl
      | false => exact if_f rfl ⟨_, rfl, _, rfl, g, lo, p, q, c1, rfl, e1 _ _ hg, hq, p0, hlo.go e1, ok1, fun H2 e2 => ⟨e1.trans e2, rfl⟩⟩
    rintro σ H1 ⟨e1, rfl⟩
    refine ⟨fun σ H' => Evl.Ex H H' ∧ σ = [some (.ref g), some (.ref a), some lo, some (.bl li), some hi, some (.bl hin), some (.int (ordP p q (some c1))), some (.int (ordP p q c2))], ?_, ?_⟩
    · refine ⟨_, rfl, _, rfl, ?_⟩
      cases c2 with
      | none =>
        cases hhi
        exact if_t rfl ⟨_, _, rfl, rfl, e1, rfl⟩
      | some pl =>
        obtain ⟨b, rfl, hb⟩ := dq_pl hhi
        exact if_f rfl ⟨_, rfl, _, rfl, g, .ref b, p, q, pl, rfl, e1 _ _ hg, hq, p0, hhi.go e1, ok2, fun H2 e2 => ⟨e1.trans e2, rfl⟩⟩
    rintro σ H2 ⟨e2, rfl⟩
    have kk : Q (.bl (inP p q ⟨c1, li, c2, hin⟩)) H2 := k H2 e2
    unfold inP at kk
    dsimp only at kk
    generalize ordP p q (some c1) = L at kk ⊢
    generalize ordP p q c2 = U at kk ⊢
    have fin : ∀ b : Bool, b = true → Q (.bl (b && (decide (U < 0) || (hin && decide (U = 0))))) H2 → tOrV (tOp (rI0 fun i j => .bl (decide (i < j))) (tVar 7) (tC (.int 0))) (tAndV (tVar 5) (tOp rEq (tVar 7) (tC (.int 0)))) [some (.ref g), some (.ref a), some lo, some (.bl li), some hi, some (.bl hin), some (.int L), some (.int U)] H2 Q := fun b hb q => by
      subst hb
      rw [Bool.true_and] at q
      refine ⟨_, rfl, _, _, rfl, rfl, _, rfl, ?_⟩
      by_cases u1 : U < 0
      · refine if_t (decide_eq_true u1) ?_
        rw [decide_eq_true u1, Bool.true_or] at q
        exact q
      refine if_f (decide_eq_false u1) ⟨_, rfl, _, rfl, ?_⟩
      rw [decide_eq_false u1, Bool.false_or] at q
      cases hin with
      | false => exact if_f rfl q
      | true =>
        refine if_t rfl ⟨_, rfl, rfl, ?_⟩
        rw [Bool.true_and] at q
        show Q (.bl (decide (V.int U = V.int 0))) H2
        rw [show decide (V.int U = V.int 0) = decide (U = 0) from decide_eq_decide.mpr ⟨fun z => by injection z, fun z => by rw [z]⟩]
        exact q
    refine ⟨_, rfl, _, _, rfl, rfl, _, rfl, ?_⟩
    by_cases l1 : 0 < L
    · refine if_t (decide_eq_true l1) ⟨_, rfl, if_t rfl ?_⟩
      rw [decide_eq_true l1, Bool.true_or] at kk
      exact fin true rfl kk
    refine if_f (decide_eq_false l1) ⟨_, rfl, _, rfl, ?_⟩
    rw [decide_eq_false l1, Bool.false_or] at kk
    cases li with
    | false => exact if_f rfl ⟨_, rfl, if_f rfl kk⟩
    | true =>
      refine if_t rfl ⟨_, rfl, rfl, _, rfl, ?_⟩
      rw [Bool.true_and] at kk
      by_cases l2 : L = 0
      · refine if_t (decide_eq_true (by rw [l2])) ?_
        rw [decide_eq_true l2] at kk
        exact fin true rfl kk
      · refine if_f (decide_eq_false fun z => l2 (by injection z)) ?_
        rw [decide_eq_false l2] at kk
        exact kk
theorem ok_owed {f : Addr} {fd : FuncData} (F : Fun K "_law_owed" "_law_owed" s_l_owed f fd) (cI : Cal P w K mg base 3 "_law_in" p_l_in spIn) (cV : Cal P w K mg base 4 "_law_wl_value" p_l_value spValN) (cR : Cal P w K mg base 2 "_law_wl_ratio" p_l_ratio spRatN) : FnOk P w K mg base CX0 5 f fd p_l_owed spOwed := by
  refine F.ok sc_l_owed (fun vs H Q E h => ?_) (fun cdv A outer s H vs Q E hr h => ?_)
  · obtain ⟨v, g, p, q, sev, rfl, _⟩ := h
    rfl
  · obtain ⟨v, g, p, q, sev, rfl, hv, h8, ok, hg, hq, p0, kn, ks⟩ := h
    have nd := sc_l_owed.nd
    have r2 : Room 2 _ := hr.mono (by decide)
    have r3 : Room 3 _ := hr.mono (by decide)
    have r4 : Room 4 _ := hr.mono (by decide)
    have two : 2 ≤ sizeLine := by show 2 ≤ sizeLine; decide
    refine ⟨_, pss_cons (ps_for PassesOwn.never rfl (pi_list (pv 0)) (pg_tup rfl (pgs_cons (pg_name (i := 2) nd rfl (Or.inl rfl)) (pgs_cons (pg_name (i := 3) nd rfl (Or.inl rfl)) (pgs_cons (pg_name (i := 4) nd rfl (Or.inl rfl)) pgs_nil)))) (pss_one (ps_if (pt_cmpR (op_neD hr.units) (pe_lc (own := [("piece", 10)]) (g := (gName 10)) (tt := (tB (tCall spIn [] E0 (tCons (tVar 1) (tCons (tVar 10) tNil))))) (te := (tVar 10)) rfl nd (pi_list (pv 4)) (blkOk_by (N := n_l_owed) (sc := defScope s_l_owed) (by decide +kernel)) (fun _ _ _ _ _ => (pg_name (i := 10) nd rfl (Or.inl rfl))) (fun _ _ _ _ _ => pts_one (pt_val (pe_c cI r3 (pa_cons (pv 1) (pa_cons (pv 10) pa_nil))))) (fun _ _ _ _ _ => (pv 10))) (pe_lst pa_nil) (nomark _)) (pss_cons (ps_set (i := 5) nd rfl (Or.inl rfl) (pe_lst pa_nil))
      (pss_cons (ps_for PassesOwn.never rfl (pi_list (pv 3)) (pg_tup rfl (pgs_cons (pg_name (i := 6) nd rfl (Or.inl rfl)) (pgs_cons (pg_name (i := 7) nd rfl (Or.inl rfl)) pgs_nil))) (pss_cons (ps_par (i := 8) (j := 9) rfl nd rfl rfl (by decide) rfl rfl (pa_cons (pe_c cV r4 (pa_cons (pv 6) (pa_cons (pv 1) pa_nil))) (pa_cons (pe_c cV r4 (pa_cons (pv 7) (pa_cons (pv 1) pa_nil))) pa_nil)) (by rfl))
      (pss_one (ps_expr (pe_bm PySem.F.plainAttrs_list PySem.F.slot_list_append PySem.F.type_list_append mt_append (pv 5) (pa_cons (pe_c cR r2 (pa_cons (pe_op op_mulW (pe_ix ix_tup (pv 8) pe_int (fun _ _ => rfl)) (pe_ix ix_tup (pv 9) pe_int (fun _ _ => rfl))) (pa_cons (pe_op op_mulW (pe_ix ix_tup (pv 8) pe_int (fun _ _ => rfl)) (pe_ix ix_tup (pv 9) pe_int (fun _ _ => rfl))) pa_nil))) pa_nil))))))
      (pss_one (ps_ret (pe_tup (pa_cons (pv 2) (pa_cons (pv 5) pa_nil))))))) pss_nil)))
      (pss_one (ps_ret pe_non)), ?_⟩
    cases hv with
    | lst hl hA =>
      rename_i l xs
      obtain ⟨hxl, hx⟩ := dqall_get hA
      refine ⟨_, rfl, l, rfl, ⟨_, SqL.of hl⟩, for_list (xs := xs) (fun i σ H' => Evl.Ex H H' ∧ (∀ (j : Nat) (x : Wy), j < i → sev[j]? = some x → x.pcs.any (inP p q) = false) ∧ ∃ v2 v3 v4 v5 v6 v7 v8 v9 v10, σ = [some (.ref l), some (.ref g), v2, v3, v4, v5, v6, v7, v8, v9, v10]) ⟨Evl.Ex.refl _, (fun j x h => absurd h (Nat.not_lt_zero _)), none, none, none, none, none, none, none, none, none, rfl⟩ (fun i σ H' _ q => SqL.of (q.1 _ _ hl)) ?_ ?_⟩
      · rintro i x σ H1 hi ⟨e1, hlo, v2, v3, v4, v5, v6, v7, v8, v9, v10, rfl⟩
        obtain ⟨wi, hwi, hd⟩ := hx i x hi
        obtain ⟨a, fa, pa, fs, ps, rfl, ha, hfa, hfs, hpa, hps⟩ := dq_wy hd
        obtain ⟨o1, o2, o3, o4⟩ := ok wi (List.mem_of_getElem? hwi)
        refine ⟨a, _, rfl, SqT.of (e1 _ _ ha), rfl, _, _, rfl, _, _, rfl, _, _, rfl, rfl, ?_⟩
        obtain ⟨hpl, hp⟩ := dqall_get hps
        refine ⟨_, rfl, pa, rfl, ⟨_, SqL.of (e1 _ _ hpa)⟩, fun D hD => lc_list (xs := ps) (fun i H' => Evl.Ex H1 H' ∧ ∃ acc, H' D = some (.lst acc) ∧ DqAll H1 acc (((wi.pcs.take i).filter (inP p q)).map pcD)) ⟨Evl.Ex.new hD, [], upd_same, .nil⟩ (fun i H' _ q => SqL.of (q.1 _ _ (e1 _ _ hpa))) ?_ ?_⟩
        · rintro i x H2 hi ⟨e2, acc, h2, hacc⟩
          obtain ⟨c, hc, hdc⟩ := hp i x hi
          have hd1 := hdc.go e1
          have hlen : acc.length < sizeLine := by
            rw [dqall_lenN hacc, List.length_map]
            have h1 := List.length_filter_le (inP p q) (wi.pcs.take i)
            rw [List.length_take] at h1
            exact Nat.lt_of_le_of_lt (show _ ≤ 100 by omega) (by decide)
          refine ⟨rfl, ?_⟩
          show tB (tCall spIn [] E0 (tCons (tVar 1) (tCons (tVar 10) tNil))) _ _ _
          refine ⟨_, rfl, _, rfl, g, x, p, q, c, rfl, e2 _ _ (e1 _ _ hg), hq, p0, hd1.go e2, o4 c (List.mem_of_getElem? hc), fun H3 e3 => ⟨_, rfl, ?_⟩⟩
          have e4 := e2.trans e3
          have tk : wi.pcs.take (i + 1) = wi.pcs.take i ++ [c] := by rw [List.take_add_one, hc]; rfl
          cases hb : inP p q c with
          | true =>
            refine if_t rfl ?_
            show tVar 10 _ _ _
            refine ⟨_, rfl, acc, e3 _ _ h2, hlen, Evl.Ex.mut e4 hD, _, upd_same, ?_⟩
            rw [tk, List.filter_append, List.map_append]
            have : [c].filter (inP p q) = [c] := by simp [hb]
            rw [this]
            exact dqall_snoc hacc hd1
          | false =>
            refine if_f rfl ⟨e4, acc, e3 _ _ h2, ?_⟩
            have : [c].filter (inP p q) = [] := by simp [hb]
            rw [tk, List.filter_append, this, List.append_nil]
            exact hacc
        · rintro H2 ⟨e2, acc, h2, hacc⟩
          rw [hpl, List.take_length] at hacc
          refine ⟨Nat.zero_le _, fun Z hZ => ?_⟩
          have e3 := Evl.Ex.new (o := .lst []) hZ
          have e13 := (e1.trans e2).trans e3
          refine ⟨.list ((wi.pcs.filter (inP p q)).map pcD), .list [], ((Dq.lst (e3 _ _ h2) (hacc.go (e2.trans e3))).dp (n := 4) (.lst ?_ fun d hd => ?_)), .lst (SqL.of upd_same) .nil, shp_pcs _, by decide, _, rfl, ?_⟩
          · rw [List.length_map]
            exact Nat.le_trans (List.length_filter_le _ _) o3
          · obtain ⟨c, _, rfl⟩ := List.mem_map.mp hd
            exact cp_pc c
          rw [filter_any]
          cases hany : wi.pcs.any (inP p q) with
          | false =>
            refine if_f rfl ⟨e13, fun j y hj hy => ?_, _, _, _, _, _, _, _, _, _, rfl⟩
            rcases Nat.lt_succ_iff_lt_or_eq.mp hj with h | rfl
            · exact hlo j y h hy
            · rw [hwi] at hy
              cases hy
              exact hany
          | true =>
            have how : owed p q sev = some wi := by
              unfold owed
              refine List.find?_eq_some_iff_append.mpr ⟨hany, sev.take i, sev.drop (i + 1), ?_, fun y hy => ?_⟩
              · have hlt := (List.getElem?_eq_some_iff.mp hwi).1
                have h3 := (List.getElem?_eq_some_iff.mp hwi).2
                rw [← h3, ← List.drop_eq_getElem_cons hlt, List.take_append_drop]
              · obtain ⟨j, hj⟩ := List.getElem?_of_mem hy
                rw [List.getElem?_take] at hj
                split at hj
                · rename_i hji
                  rw [hlo j y hji hj]
                  rfl
                · cases hj
            refine if_t rfl ⟨Nat.zero_le _, fun B hB => ?_⟩
            have f1 := Evl.Ex.new (o := .lst []) hB
            have e14 := e13.trans f1
            obtain ⟨hfl, hf⟩ := dqall_get hfs
            refine ⟨_, rfl, fa, rfl, ⟨_, SqL.of (e14 _ _ hfa)⟩, for_list (xs := fs) (fun i σ H' => Evl.Ex H H' ∧ PrAt H' B ((wi.fms.take i).map (fmV p q)) ∧ ∃ v6 v7 v8 v9 v10, σ = [some (.ref l), some (.ref g), some (wV wi.rk), some (.ref fa), some (.ref pa), some (.ref B), v6, v7, v8, v9, v10]) ⟨e14, ⟨[], upd_same, rfl, fun i a f h => (by cases h)⟩, _, _, _, _, _, rfl⟩ (fun i σ H' _ q => SqL.of (q.1 _ _ hfa)) ?_ ?_⟩
            · rintro i x σ H5 hi ⟨e5, hP, w6, w7, w8, w9, w10, rfl⟩
              obtain ⟨c, hc, hdc⟩ := hf i x hi
              obtain ⟨f2, rfl, fx, fy, z1, z2, z3⟩ := dq_fm hdc
              obtain ⟨top, foot⟩ := c
              have hlt : i < wi.fms.length := (List.getElem?_eq_some_iff.mp hc).1
              obtain ⟨q1, q2, q3⟩ := o2 _ (List.mem_of_getElem? hc)
              have hBn : H B = none := Evl.fresh_back e13 hB
              refine ⟨f2, _, rfl, SqT.of (e5 _ _ z1), rfl, _, _, rfl, _, _, rfl, rfl, ?_⟩
              refine ⟨_, rfl, _, rfl, fx, g, top, p, q, rfl, e5 _ _ z2, e5 _ _ hg, q1, hq, fun t H6 ht e6 h6 => ?_⟩
              have e56 := e5.trans e6
              refine ⟨_, rfl, _, rfl, fy, g, foot, p, q, rfl, e56 _ _ z3, e56 _ _ hg, q2, hq, fun u H7 hu e7 h7 => ⟨_, _, rfl, ?_⟩⟩
              have e67 := e6.trans e7
              have hP7 := hP.ex e67
              obtain ⟨as, hB7, _⟩ := id hP7
              have b1 := vl_b1 hq q1
              have b2 := vl_b2 hq q1
              have b3 := vl_b1 hq q2
              have b4 := vl_b2 hq q2
              have p1 := vl_pos (p := p) hq.1 top
              have p2 := vl_ne hq.1 (q3 p q p0 hq.1)
              refine ⟨_, rfl, .inl ⟨rfl, _, SqL.of hB7⟩, ?_⟩
              refine ⟨_, rfl, t, _, _, _, rfl, rfl, SqT.of (e7 _ _ h6), rfl, _, rfl, u, _, _, _, rfl, rfl, SqT.of h7, rfl, _, _, rfl, rfl, wide_mul b1 b4 (by decide) (by decide) (by decide), ?_⟩
              refine ⟨_, rfl, t, _, _, _, rfl, rfl, SqT.of (e7 _ _ h6), rfl, _, rfl, u, _, _, _, rfl, rfl, SqT.of h7, rfl, _, _, rfl, rfl, wide_mul b2 b3 (by decide) (by decide) (by decide), ?_⟩
              refine ⟨_, _, rfl, mul_b b1 b4 (by decide), mul_b b2 b3 (by decide), fun z => ?_, fun r H8 hr8 e8 h8 => ?_⟩
              · rcases Int.mul_eq_zero.mp z with h | h
                · exact absurd h (Int.ne_of_gt p1)
                · exact p2 h
              obtain ⟨acc, y1, y2, y3⟩ := pr_more (f := fmV p q (top, foot)) (hP7.ex e8) h8
              refine ⟨B, acc, _, rfl, rfl, y1, ?_, Evl.Ex.mut ((e56.trans e7).trans e8) hBn, ?_, _, _, _, _, _, rfl⟩
              · rw [y2, List.length_map, List.length_take]
                exact Nat.lt_of_le_of_lt (show min i wi.fms.length ≤ 100 by omega) (by decide)
              · rw [List.take_add_one, hc, List.map_append]
                exact y3
            · rintro σ H5 ⟨e5, hP, w6, w7, w8, w9, w10, rfl⟩
              rw [hfl, List.take_length] at hP
              refine ⟨_, rfl, _, rfl, two, fun t ht => ?_⟩
              have e6 := Evl.Ex.new (o := .tup [wV wi.rk, .ref B]) ht
              exact ks wi how t B _ (e5.trans e6) (Evl.fresh_back e5 ht) upd_same (hP.ex e6)
      · rintro σ H1 ⟨e1, hlo, v2, v3, v4, v5, v6, v7, v8, v9, v10, rfl⟩
        refine kn ?_ _ e1
        unfold owed
        refine List.find?_eq_none.mpr fun y hy => ?_
        obtain ⟨j, hj⟩ := List.getElem?_of_mem hy
        have := hlo j y (by rw [hxl]; exact (List.getElem?_eq_some_iff.mp hj).1) hj
        rw [this]
        exact Bool.false_ne_true
end
end V2


namespace V2
open PySem L2
open PySem.Spec PyProof.Rows
/-! ## forms and ends, drawn -/
def spNumsL : Sp := fun vs H Q _ => ∃ (s : Addr) (m : Int) (n : Nat), vs = [.ref s, .int m] ∧ 1 ≤ m ∧ m ≤ 16 ∧ Sk H s n ∧ n ≤ 90000 ∧ ∀ (t : Addr) (xs : List Int) (H' : Hp), But s H H' → Sk H' s (n + 20) → H t = none → Li (wo s H') t xs → PnN xs → Q (.ref t) H'
def OkFt (xs : List Int) : Prop := PnN xs ∧ ∀ p q : Int, 0 < p → 0 < q → hA p q xs ≠ 0
def spFootL : Sp := fun vs H Q _ => ∃ (s : Addr) (n : Nat), vs = [.ref s] ∧ Sk H s n ∧ n ≤ 90000 ∧ ∀ (t : Addr) (xs : List Int) (H' : Hp), But s H H' → Sk H' s (n + 25) → H t = none → Li (wo s H') t xs → OkFt xs → Q (.ref t) H'
def spFormL : Sp := fun vs H Q _ => ∃ (s : Addr) (n : Nat), vs = [.ref s] ∧ Sk H s n ∧ n ≤ 80000 ∧ ∀ (t : Addr) (f : Fm) (H' : Hp), But s H H' → Sk H' s (n + 50) → H t = none → FoAt (Nw H H') t f → OkFm f → Q (.ref t) H'
def OkEnd (pl : Plc) : Prop := OkPl pl ∧ ∀ p q, pl = .fr p q → Qn p q ∧ 0 < p
def spEnds : Sp := fun vs H Q _ => ∃ (s : Addr) (n : Nat), vs = [.ref s] ∧ Sk H s n ∧ n ≤ 90000 ∧ ∀ (t : Addr) (ys : List V) (pls : List Plc) (H' : Hp), But s H H' → Sk H' s (n + 100) → H t = none → wo s H' t = some (.lst ys) → DqAll (wo s H') ys (pls.map plD) → pls.length ≤ 15 → (∀ p ∈ pls, OkEnd p) → Q (.ref t) H'
theorem li_more {H H' : Hp} {D : Addr} {ks : List Int} {y : Int} {i : Nat} (h : Li H D ks) (hi : ks.length = i) (h100 : i < 100) : ∃ acc, H D = some (.lst acc) ∧ acc.length < sizeLine ∧ Li (upd H D (.lst (acc ++ [.int y]))) D (ks ++ [y]) := by
  refine ⟨_, h, ?_, Eq.trans upd_same (by rw [iV_snoc])⟩
  rw [iV_len, hi]
  exact Nat.lt_trans h100 (by decide)
theorem but_upd {p D : Addr} {H0 H H' : Hp} {o : HO} (b : But p H0 H') (h : H0 D = none) : But p H0 (upd H' D o) := fun c u nc e => Eq.trans (upd_ne (ne_of_none' e h)) (b c u nc e)
theorem trm_head {a : Int} (h : a ≠ 0) : ∀ (n : Nat) (r : List Int), r.length = n → ∃ r', trm (a :: r) = a :: r' ∧ r'.length ≤ r.length ∧ ∀ x ∈ r', x ∈ r
  | 0, r, hr => by
    obtain rfl := List.length_eq_zero_iff.mp hr
    refine ⟨[], ?_, Nat.le_refl _, fun x h => h⟩
    have := trm_snocn [] h
    exact this
  | n + 1, r, hr => by
    rcases List.eq_nil_or_concat r with rfl | ⟨l, z, rfl⟩
    · cases hr
    · rw [List.concat_eq_append] at hr ⊢
      rw [List.length_append] at hr
      have hl : l.length = n := by simpa using hr
      by_cases hz : z = 0
      · subst hz
        obtain ⟨r', h1, h2, h3⟩ := trm_head h n l hl
        refine ⟨r', ?_, by rw [List.length_append]; omega, fun x hx => List.mem_append_left _ (h3 x hx)⟩
        rw [← List.cons_append, trm_snoc0, h1]
      · refine ⟨l ++ [z], ?_, Nat.le_refl _, fun x h => h⟩
        rw [← List.cons_append, trm_snocn _ hz]
theorem e30 : (10 : Int) ^ (30 : Int).toNat = 1000000000000000000000000000000 := by decide
theorem n101 : (2 : Nat) ^ 101 = 2535301200456458802993406410752 := by decide
theorem b101 {x : Int} (h : x.natAbs ≤ 1000000000000000000000000000001) : x.natAbs < 2 ^ 101 := by rw [n101]; omega
section
variable {base : Heap} {mg : Str → Option Value} {K : PySem.W.Frag} {w : World} {P : Program}
theorem top_pick {v : V} (hv : v ∈ [V.int 3, .int 40, .int ((10 : Int) ^ (30 : Int).toNat)]) : ∃ x, v = .int x ∧ 0 < x ∧ x ≤ 1000000000000000000000000000000 := by
  rw [e30] at hv
  simp only [List.mem_cons, List.not_mem_nil, or_false] at hv
  rcases hv with rfl | rfl | rfl <;> exact ⟨_, rfl, by decide, by decide⟩
theorem ok_nums {f : Addr} {fd : FuncData} (F : Fun K "_law_nums" "_law_nums" s_l_nums f fd) (mR : mg "range" = none) (cC : Cal P w K mg base 1 "_law_coin" p_l_coin spCoin) : FnOk P w K mg base CX0 2 f fd p_l_nums spNumsL := by
  refine F.ok sc_l_nums (fun vs H Q E h => ?_) (fun cdv A outer s H vs Q E hr h => ?_)
  · obtain ⟨s, m, n, rfl, _⟩ := h
    rfl
  · obtain ⟨sk, m, n, rfl, m1, m16, hS, hn, k⟩ := h
    have nd := sc_l_nums.nd
    have n200 := n200e
    have one : 1 ≤ sizeLine := by show 1 ≤ sizeLine; decide
    have r1 : Room 1 _ := hr.mono (by decide)
    have w30 : CPowX 10 30 := pow_ok (k := 4) (n := 30) (by decide) (by decide)
    refine ⟨_, pss_cons (ps_set (i := 2) nd rfl (Or.inr rfl) (pe_ix ix_list (pe_lst (pa_cons pe_int (pa_cons pe_int (pa_cons (pe_op op_powX pe_int pe_int) pa_nil)))) (pe_c cC r1 (pa_cons (pv 0) (pa_cons pe_int pa_nil))) (fun _ _ => rfl)))
      (pss_cons (ps_setLc (i := 3) (own := [("k", 4)]) (g := (gName 4)) (tt := tYes) (te := (tOp (rI0 fun i j => .int (i - j)) (tCall spCoin [] E0 (tCons (tVar 0) (tCons (tOp (rI0 fun i j => .int (i + j)) (tOp (rI CMulW fun i j => .int (i * j)) (tC (.int 2)) (tVar 2)) (tC (.int 1))) tNil))) (tVar 2))) rfl nd rfl rfl (sw_true rfl rfl rfl (by decide +kernel)) (pi_range1 (by rfl) mR (pa_cons (pv 1) pa_nil)) (blkOk_by (N := n_l_nums) (sc := defScope s_l_nums) (by decide +kernel)) (fun _ _ _ _ _ => (pg_name (i := 4) nd rfl (Or.inl rfl))) (fun _ _ _ _ _ => pts_nil) (fun _ _ _ _ _ => (pe_op op_sub (pe_c cC r1 (pa_cons (pv 0) (pa_cons (pe_op op_add (pe_op op_mulW pe_int (pv 2)) pe_int) pa_nil))) (pv 2))))
      (pss_one (ps_ret (pe_op op_cat (pe_slice sl_list (pv 3) po_none (po_some (pe_un un_neg pe_int))) (pe_lst (pa_cons (pe_ifExp (pt_cmpR op_ne (pe_ix ix_list (pv 3) (pe_un un_neg pe_int) (fun _ _ => rfl)) pe_int (nomark _)) (pe_ix ix_list (pv 3) (pe_un un_neg pe_int) (fun _ _ => rfl)) pe_int) pa_nil)))))), ?_⟩
    show tOp (rIxL K) (tLst _) (tCall spCoin [] E0 _) _ _ _
    refine pick_read (xs := [.int 3, .int 40, .int ((10 : Int) ^ (30 : Int).toNat)]) rfl (by decide) (by decide) rfl hS (by omega) (fun _ _ q => ⟨_, _, rfl, rfl, w30, q⟩) fun v H1 hv b1 s1 => ?_
    obtain ⟨top, rfl, t0, t1⟩ := top_pick hv
    have m2 : CMulW 2 top := wide_mul (a := 2) (b := 101) (by decide) (b101 (by omega)) (by decide) (by decide) (by decide)
    refine ⟨_, rfl, m, rfl, by omega, by omega, fun D hD => ?_⟩
    have hD0 : H D = none := but_none b1 s1 hD
    refine lc_range (n := m.toNat) (fun i H' => ∃ ks : List Int, But sk H H' ∧ Sk H' sk (n + 1 + i) ∧ Li H' D ks ∧ ks.length = i ∧ ∀ x ∈ ks, x.natAbs < 2 ^ 101) ⟨[], b1.trans (But.of_ex (Evl.Ex.new hD)), s1.ex (Evl.Ex.new hD), upd_same, rfl, fun x h => by cases h⟩ ?_ ?_
    · rintro i H2 hi ⟨ks, b2, s2, h2, hl2, hb2⟩
      refine ⟨rfl, ?_⟩
      unfold tYes
      refine if_t rfl ?_
      refine ⟨_, rfl, _, rfl, _, _, rfl, rfl, m2, _, _, rfl, rfl, sk, 2 * top + 1, n + 1 + i, rfl, s2, by omega, by omega, by rw [n200]; omega, fun r H3 r0 r1' b3 s3 z3 => ?_⟩
      have dsk : D ≠ sk := fun z => by
        obtain ⟨a1, a2, a3, a4, _⟩ := s1
        rw [z, a4] at hD
        cases hD
      have h3 : Li H3 D ks := b3 _ _ dsk h2
      obtain ⟨acc, q1, q2, q3⟩ := li_more (y := r - top) (H' := H3) h3 hl2 (by omega)
      refine ⟨_, rfl, _, _, rfl, rfl, acc, q1, q2, ks ++ [r - top], but_upd (H := H) (b2.trans b3) hD0, s3.upd dsk, q3, by rw [List.length_append, hl2]; rfl, fun x hx => ?_⟩
      rcases List.mem_append.mp hx with h | h
      · exact hb2 x h
      · rw [List.mem_singleton.mp h]
        exact b101 (by omega)
    · rintro H2 ⟨ks, b2, s2, h2, hl2, hb2⟩
      rcases List.eq_nil_or_concat ks with rfl | ⟨l, z, rfl⟩
      · have : (0 : Nat) = m.toNat := hl2
        omega
      rw [List.concat_eq_append] at h2 hl2 hb2
      have h2' : H2 D = some (.lst (iV l ++ [.int z])) := by rw [← iV_snoc]; exact h2
      rw [List.length_append] at hl2
      have hl : l.length + 1 = m.toNat := hl2
      have hzb := hb2 z (List.mem_append_right _ (List.mem_singleton.mpr rfl))
      refine ⟨_, rfl, _, rfl, _, rfl, D, _, rfl, SqL.of h2', fun p hp => ?_⟩
      have f1 := Evl.Ex.new (o := .lst (cutV (iV l ++ [.int z]) none (some (-1)))) hp
      have g1 : upd H2 p (.lst (cutV (iV l ++ [.int z]) none (some (-1)))) p = some (.lst (iV l)) := Eq.trans upd_same (by rw [cut_neg1])
      generalize upd H2 p (.lst (cutV (iV l ++ [.int z]) none (some (-1)))) = G1 at f1 g1
      have fin : ∀ y : Int, y.natAbs < 2 ^ 101 → 1 ≤ sizeLine ∧ ∀ b, G1 b = none → rCat (.ref p) (.ref b) (upd G1 b (.lst [.int y])) fun v H' => Q v H' := fun y hy => ⟨one, fun b hb => by
        have f2 := Evl.Ex.new (o := .lst [.int y]) hb
        have g2 := upd_same (H := G1) (a := b) (o := .lst [.int y])
        generalize upd G1 b (.lst [.int y]) = G2 at f2 g2
        refine ⟨p, b, _, _, rfl, rfl, f2 _ _ g1, g2, ?_, fun c hc => ?_⟩
        · rw [iV_len]
          exact Nat.le_trans (show l.length + 1 ≤ 100 by omega) (by decide)
        have f3 := Evl.Ex.new (o := .lst (iV l ++ [.int y])) hc
        have f13 := (f1.trans f2).trans f3
        have s3 := s2.ex (f1.trans f2)
        refine k c (l ++ [y]) _ (b2.trans (But.of_ex f13)) ((s2.ex f13).le (by omega)) (but_none (b2.trans (But.of_ex (f1.trans f2))) s3 hc) (wo_at (sk_ne s3 hc) (Eq.trans upd_same (by rw [iV_snoc]))) ⟨by rw [List.length_append]; show l.length + 1 ≤ 17; omega, fun x hx => ?_⟩
        rcases List.mem_append.mp hx with h | h
        · exact hb2 x (List.mem_append_left _ h)
        · rw [List.mem_singleton.mp h]
          exact hy⟩
      have hG : G1 D = some (.lst (iV l ++ [.int z])) := f1 _ _ h2'
      refine ⟨_, rfl, _, rfl, D, _, _, .int z, rfl, rfl, SqL.of hG, at_last _ _, rfl, _, rfl, ?_⟩
      by_cases hz : z = 0
      · subst hz
        exact if_f (by decide) (fin 1 (by decide))
      · exact if_t (by rw [decide_eq_false (fun q => hz (by injection q))]; rfl) ⟨_, rfl, _, rfl, D, _, _, .int z, rfl, rfl, SqL.of hG, at_last _ _, fin z hzb⟩
theorem ok_foot {f : Addr} {fd : FuncData} (F : Fun K "_law_foot" "_law_foot" s_l_foot f fd) (mR : mg "range" = none) (cC : Cal P w K mg base 1 "_law_coin" p_l_coin spCoin) (cTr : Cal P w K mg base 1 "_law_wl_trim" p_l_trim spTrimL) : FnOk P w K mg base CX0 2 f fd p_l_foot spFootL := by
  refine F.ok sc_l_foot (fun vs H Q E h => ?_) (fun cdv A outer s H vs Q E hr h => ?_)
  · obtain ⟨s, n, rfl, _⟩ := h
    rfl
  · obtain ⟨sk, n, rfl, hS, hn, k⟩ := h
    have nd := sc_l_foot.nd
    have n200 := n200e
    have one : 1 ≤ sizeLine := by show 1 ≤ sizeLine; decide
    have r1 : Room 1 _ := hr.mono (by decide)
    have w30 : CPowX 10 30 := pow_ok (k := 4) (n := 30) (by decide) (by decide)
    refine ⟨_, pss_cons (ps_set (i := 1) nd rfl (Or.inr rfl) (pe_ix ix_list (pe_lst (pa_cons pe_int (pa_cons pe_int (pa_cons (pe_op op_powX pe_int pe_int) pa_nil)))) (pe_c cC r1 (pa_cons (pv 0) (pa_cons pe_int pa_nil))) (fun _ _ => rfl)))
      (pss_cons (ps_set (i := 2) nd rfl (Or.inl rfl) (pe_c cC r1 (pa_cons (pv 0) (pa_cons (pe_ix ix_list (pe_lst (pa_cons pe_int (pa_cons pe_int pa_nil))) (pe_c cC r1 (pa_cons (pv 0) (pa_cons pe_int pa_nil))) (fun _ _ => rfl)) pa_nil))))
      (pss_cons (ps_set (i := 3) nd rfl (Or.inl rfl) (pe_op op_cat (pe_lst (pa_cons (pe_op op_add pe_int (pe_c cC r1 (pa_cons (pv 0) (pa_cons (pv 1) pa_nil)))) pa_nil)) (pe_lc (own := [("k", 4)]) (g := (gName 4)) (tt := tYes) (te := (tCall spCoin [] E0 (tCons (tVar 0) (tCons (tOp (rI0 fun i j => .int (i + j)) (tVar 1) (tC (.int 1))) tNil)))) rfl nd (pi_range1 (by rfl) mR (pa_cons (pv 2) pa_nil)) (blkOk_by (N := n_l_foot) (sc := defScope s_l_foot) (by decide +kernel)) (fun _ _ _ _ _ => (pg_name (i := 4) nd rfl (Or.inl rfl))) (fun _ _ _ _ _ => pts_nil) (fun _ _ _ _ _ => (pe_c cC r1 (pa_cons (pv 0) (pa_cons (pe_op op_add (pv 1) pe_int) pa_nil)))))))
      (pss_cons (ps_set (i := 3) nd rfl (Or.inl rfl) (pe_c cTr r1 (pa_cons (pv 3) pa_nil)))
      (pss_one (ps_ret (pe_ifExp (pt_cmpR op_eq (pe_c cC r1 (pa_cons (pv 0) (pa_cons pe_int pa_nil))) pe_int (nomark _)) (pe_lc (own := [("number", 5)]) (g := (gName 5)) (tt := tYes) (te := (tOp (rI0 fun i j => .int (i - j)) (tC (.int 0)) (tVar 5))) rfl nd (pi_list (pv 3)) (blkOk_by (N := n_l_foot) (sc := defScope s_l_foot) (by decide +kernel)) (fun _ _ _ _ _ => (pg_name (i := 5) nd rfl (Or.inl rfl))) (fun _ _ _ _ _ => pts_nil) (fun _ _ _ _ _ => (pe_op op_sub pe_int (pv 5)))) (pv 3))))))), ?_⟩
    show tOp (rIxL K) (tLst _) (tCall spCoin [] E0 _) _ _ _
    refine pick_read (xs := [.int 3, .int 40, .int ((10 : Int) ^ (30 : Int).toNat)]) rfl (by decide) (by decide) rfl hS (by omega) (fun _ _ q => ⟨_, _, rfl, rfl, w30, q⟩) fun v H1 hv b1 s1 => ?_
    obtain ⟨top, rfl, t0, t1⟩ := top_pick hv
    refine ⟨_, rfl, ?_⟩
    show tOp (rIxL K) (tLst _) (tCall spCoin [] E0 _) _ _ _
    refine pick_read (xs := [.int 4, .int 16]) rfl (by decide) (by decide) rfl s1 (by omega) (fun _ _ q => q) fun v H2 hv b2 s2 => ?_
    obtain ⟨lim, rfl, l0, l1⟩ : ∃ x, v = .int x ∧ 0 < x ∧ x ≤ 16 := by
      simp only [List.mem_cons, List.not_mem_nil, or_false] at hv
      rcases hv with rfl | rfl <;> exact ⟨_, rfl, by decide, by decide⟩
    refine ⟨sk, lim, n + 2, rfl, s2, by omega, l0, by rw [n200]; omega, fun size H3 z0 z1 b3 s3 z3 => ?_⟩
    refine ⟨_, rfl, _, rfl, sk, top, n + 3, rfl, s3, by omega, t0, by rw [n200]; omega, fun a H4 a0 a1 b4 s4 z4 => ⟨_, _, rfl, rfl, one, fun L hL => ?_⟩⟩
    have b14 := ((b1.trans b2).trans b3).trans b4
    have f1 := Evl.Ex.new (o := .lst [.int (1 + a)]) hL
    have g1 := upd_same (H := H4) (a := L) (o := .lst [.int (1 + a)])
    have lsk := sk_ne s4 hL
    have hL0 := but_none b14 s4 hL
    generalize upd H4 L (.lst [.int (1 + a)]) = H5 at f1 g1
    have s5 := s4.ex f1
    have b15 := b14.trans (But.of_ex (p := sk) f1)
    refine ⟨_, rfl, size, rfl, by omega, by omega, fun D hD => ?_⟩
    have hD0 : H D = none := but_none b15 s5 hD
    have dsk := sk_ne s5 hD
    have dL : D ≠ L := fun z => by rw [z, g1] at hD; cases hD
    refine lc_range (n := size.toNat) (fun i H' => ∃ ks : List Int, But sk H H' ∧ Sk H' sk (n + 4 + i) ∧ Li H' D ks ∧ H' L = some (.lst [.int (1 + a)]) ∧ ks.length = i ∧ ∀ x ∈ ks, 0 ≤ x ∧ x.natAbs < 2 ^ 101) ⟨[], b15.trans (But.of_ex (Evl.Ex.new hD)), s5.ex (Evl.Ex.new hD), upd_same, Eq.trans (upd_ne (Ne.symm dL)) g1, rfl, fun x h => by cases h⟩ ?_ ?_
    · rintro i H6 hi ⟨ks, b6, s6, h6, hL6, hl6, hb6⟩
      refine ⟨rfl, ?_⟩
      unfold tYes
      refine if_t rfl ?_
      refine ⟨_, rfl, _, rfl, _, _, rfl, rfl, sk, top + 1, n + 4 + i, rfl, s6, by omega, by omega, by rw [n200]; omega, fun r H7 r0 r1' b7 s7 z7 => ?_⟩
      obtain ⟨acc, q1, q2, q3⟩ := li_more (y := r) (H' := H7) (b7 _ _ dsk h6) hl6 (by omega)
      refine ⟨acc, q1, q2, ks ++ [r], but_upd (H := H) (b6.trans b7) hD0, s7.upd dsk, q3, Eq.trans (upd_ne (Ne.symm dL)) (b7 _ _ lsk hL6), by rw [List.length_append, hl6]; rfl, fun x hx => ?_⟩
      rcases List.mem_append.mp hx with h | h
      · exact hb6 x h
      · rw [List.mem_singleton.mp h]
        exact ⟨r0, b101 (by omega)⟩
    · rintro H6 ⟨ks, b6, s6, h6, hL6, hl6, hb6⟩
      refine ⟨L, D, _, _, rfl, rfl, hL6, h6, ?_, fun c hc => ?_⟩
      · rw [iV_len]
        exact Nat.le_trans (show 1 + ks.length ≤ 100 by omega) (by decide)
      have f2 := Evl.Ex.new (o := .lst ([V.int (1 + a)] ++ iV ks)) hc
      have g2 : Li (upd H6 c (.lst ([V.int (1 + a)] ++ iV ks))) c ((1 + a) :: ks) := upd_same
      generalize upd H6 c (.lst ([V.int (1 + a)] ++ iV ks)) = H7 at f2 g2
      obtain ⟨r', y1, y2, y3⟩ := trm_head (a := 1 + a) (by omega) ks.length ks rfl
      refine ⟨_, rfl, c, _, rfl, g2, by show ks.length + 1 ≤ 100; omega, ?_⟩
      rw [y1]
      intro t H8 ht e8 h8
      have h8 : Li H8 t ((1 + a) :: r') := h8
      have e78 := f2.trans e8
      have s8 := s6.ex e78
      have b8 := b6.trans (But.of_ex (p := sk) e78)
      have tsk := sk_ne (s6.ex f2) ht
      have ht0 := but_none (b6.trans (But.of_ex (p := sk) f2)) (s6.ex f2) ht
      have pn : PnN ((1 + a) :: r') := ⟨by show r'.length + 1 ≤ 17; omega, fun x hx => by
        rcases List.mem_cons.mp hx with rfl | h
        · exact b101 (by omega)
        · exact (hb6 x (y3 x h)).2⟩
      refine ⟨_, rfl, sk, 3, _, rfl, s8, by omega, by decide, by decide, fun c0 H9 c00 c01 b9 s9 z9 => ⟨rfl, _, rfl, ?_⟩⟩
      have b89 := b8.trans b9
      by_cases hc0 : c0 = 0
      · refine if_t (decide_eq_true (by rw [hc0])) ?_
        have h9 := b9 _ _ tsk h8
        refine ⟨_, rfl, t, rfl, ⟨_, SqL.of h9⟩, fun D2 hD2 => lc_list (xs := iV ((1 + a) :: r')) (fun i H' => Evl.Ex H9 H' ∧ Li H' D2 ((((1 + a) :: r').take i).map fun x => 0 - x)) ⟨Evl.Ex.new hD2, upd_same⟩ (fun i H' _ q => SqL.of (q.1 _ _ h9)) ?_ ?_⟩
        · rintro i x HA hi ⟨eA, hA'⟩
          obtain ⟨y, hy, rfl⟩ := iV_get hi
          have hlt : i < ((1 + a) :: r').length := (List.getElem?_eq_some_iff.mp hy).1
          have h17 := pn.1
          refine ⟨rfl, ?_⟩
          show tOp (rI0 fun i j => .int (i - j)) (tC (.int 0)) (tVar 5) _ _ _
          obtain ⟨acc, q1, q2, q3⟩ := li_more (y := 0 - y) (H' := HA) (i := i) hA' (by rw [List.length_map, List.length_take]; omega) (by omega)
          refine ⟨_, rfl, _, _, rfl, rfl, acc, q1, q2, Evl.Ex.mut eA hD2, ?_⟩
          rw [List.take_add_one, hy, List.map_append]
          exact q3
        · rintro HA ⟨eA, hA'⟩
          rw [iV_len, List.take_length] at hA'
          have sA := s9.ex eA
          refine k D2 _ HA (b89.trans (But.of_ex eA)) (sA.le (by omega)) (but_none b89 s9 hD2) (wo_at (sk_ne s9 hD2) hA') ⟨⟨by rw [List.length_map]; exact pn.1, fun x hx => ?_⟩, fun p q hp hq => ?_⟩
          · obtain ⟨y, hy, rfl⟩ := List.mem_map.mp hx
            have := pn.2 y hy
            rw [n101] at this ⊢
            omega
          · rw [hA_neg]
            have := hA_one hp hq (a := 1 + a) (l := r') (by omega) fun x hx => (hb6 x (y3 x hx)).1
            omega
      · refine if_f (decide_eq_false fun z => hc0 (by injection z)) ⟨_, rfl, ?_⟩
        refine k t _ H9 b89 (s9.le (by omega)) ht0 (wo_at tsk (b9 _ _ tsk h8)) ⟨pn, fun p q hp hq => ?_⟩
        have := hA_one hp hq (a := 1 + a) (l := r') (by omega) fun x hx => (hb6 x (y3 x hx)).1
        omega
theorem ok_form {f : Addr} {fd : FuncData} (F : Fun K "_law_form" "_law_form" s_l_form f fd) (cC : Cal P w K mg base 1 "_law_coin" p_l_coin spCoin) (cN : Cal P w K mg base 2 "_law_nums" p_l_nums spNumsL) (cF : Cal P w K mg base 2 "_law_foot" p_l_foot spFootL) : FnOk P w K mg base CX0 3 f fd p_l_form spFormL := by
  refine F.ok sc_l_form (fun vs H Q E h => ?_) (fun cdv A outer s H vs Q E hr h => ?_)
  · obtain ⟨s, n, rfl, _⟩ := h
    rfl
  · obtain ⟨sk, n, rfl, hS, hn, k⟩ := h
    have nd := sc_l_form.nd
    have n200 := n200e
    have two : 2 ≤ sizeLine := by show 2 ≤ sizeLine; decide
    have r1 : Room 1 _ := hr.mono (by decide)
    have r2 : Room 2 _ := hr.mono (by decide)
    refine ⟨_, pss_cons (ps_set (i := 1) nd rfl (Or.inl rfl) (pe_ifExp (pt_cmpR op_gt (pe_c cC r1 (pa_cons (pv 0) (pa_cons pe_int pa_nil))) pe_int (nomark _)) (pe_c cN r2 (pa_cons (pv 0) (pa_cons (pe_op op_add (pe_c cC r1 (pa_cons (pv 0) (pa_cons (pe_ix ix_list (pe_lst (pa_cons pe_int (pa_cons pe_int pa_nil))) (pe_c cC r1 (pa_cons (pv 0) (pa_cons pe_int pa_nil))) (fun _ _ => rfl)) pa_nil))) pe_int) pa_nil))) (pe_lst pa_nil)))
      (pss_one (ps_ret (pe_tup (pa_cons (pv 1) (pa_cons (pe_c cF r2 (pa_cons (pv 0) pa_nil)) pa_nil))))), ?_⟩
    refine ⟨_, rfl, sk, 6, n, rfl, hS, by omega, by decide, by decide, fun c0 H1 c00 c01 b1 s1 z1 => ⟨_, _, rfl, rfl, _, rfl, ?_⟩⟩
    have fin : ∀ (t : Addr) (xs : List Int) (H2 : Hp), But sk H H2 → Sk H2 sk (n + 23) → H t = none → Li (wo sk H2) t xs → PnN xs → (tTup (tCons (tVar 1) (tCons (tCall spFootL [] E0 (tCons (tVar 0) tNil)) tNil))) [some (.ref sk), some (.ref t)] H2 Q := fun t xs H2 b2 s2 ht hl hx => by
      refine ⟨_, rfl, _, rfl, sk, n + 23, rfl, s2, by omega, fun u ys H3 b3 s3 hu hl3 hf => ⟨two, fun r hr => ?_⟩⟩
      have e := Evl.Ex.new (o := .tup [.ref t, .ref u]) hr
      have b23 := b2.trans b3
      have r0 := but_none b23 s3 hr
      have u0 := but_none b2 s2 hu
      exact k r (xs, ys) _ (b23.trans (But.of_ex e)) ((s3.ex e).le (by omega)) r0 ⟨t, u, nw_at r0 upd_same, nw_at ht (e _ _ (wo_ex _ _ (b3.wo _ _ hl))), nw_at u0 (e _ _ (wo_ex _ _ hl3))⟩ ⟨hx, hf⟩
    by_cases hc : 0 < c0
    · refine if_t (decide_eq_true hc) ⟨_, rfl, _, rfl, ?_⟩
      show tOp (rIxL K) (tLst _) (tCall spCoin [] E0 _) _ _ _
      refine pick_read (xs := [.int 5, .int 16]) rfl (by decide) (by decide) rfl s1 (by omega) (fun _ _ q => q) fun v H2 hv b2 s2 => ?_
      obtain ⟨lim, rfl, l0, l1⟩ : ∃ x, v = .int x ∧ 0 < x ∧ x ≤ 16 := by
        simp only [List.mem_cons, List.not_mem_nil, or_false] at hv
        rcases hv with rfl | rfl <;> exact ⟨_, rfl, by decide, by decide⟩
      refine ⟨sk, lim, n + 2, rfl, s2, by omega, l0, by rw [n200]; omega, fun size H3 z0 z1 b3 s3 z3 => ⟨_, _, rfl, rfl, ?_⟩⟩
      refine ⟨sk, size + 1, n + 3, rfl, by omega, by omega, s3, by omega, fun t xs H4 b4 s4 ht hl hx => ?_⟩
      have b13 := (b1.trans b2).trans b3
      exact fin t xs H4 (b13.trans b4) s4 (but_none b13 s3 ht) hl hx
    · refine if_f (decide_eq_false hc) ⟨Nat.zero_le _, fun t ht => ?_⟩
      have e := Evl.Ex.new (o := .lst []) ht
      exact fin t [] _ (b1.trans (But.of_ex e)) ((s1.ex e).le (by omega)) (but_none b1 s1 ht) (wo_at (sk_ne s1 ht) upd_same) ⟨by decide, fun x h => by cases h⟩
end
end V2


namespace V2
open PySem L2
open PySem.Spec PyProof.Rows
/-! ## ends, drawn; errors -/
theorem woL_but {sk : Addr} {z : List Addr} {H H' : Hp} (hs : sk ∈ z) (b : But sk H H') : Evl.Ex (woL z H) (woL z H') := fun c o h => woL_at (woL_ne h) (b c o (fun e => woL_ne h (e ▸ hs)) (woL_ex _ _ h))
theorem woL_set {L : Addr} {z : List Addr} {H : Hp} {o : HO} (hs : L ∈ z) : Evl.Ex (woL z H) (woL z (upd H L o)) := fun c u h => woL_at (woL_ne h) (Eq.trans (upd_ne fun e => woL_ne h (e ▸ hs)) (woL_ex _ _ h))
theorem woL_wo {sk : Addr} {z : List Addr} {H : Hp} (hs : sk ∈ z) : Evl.Ex (woL z H) (wo sk H) := fun c o h => wo_at (fun e => woL_ne h (e ▸ hs)) (woL_ex _ _ h)
theorem woL_sub {y z : List Addr} {H : Hp} (hs : ∀ a ∈ y, a ∈ z) : Evl.Ex (woL z H) (woL y H) := fun c o h => woL_at (fun m => woL_ne h (hs _ m)) (woL_ex _ _ h)
theorem ok_rt {i r x y : Int} (i1 : 1 ≤ i) (i15 : i ≤ 20) (r1 : 1 ≤ r) (r2 : r ≤ 2 * i) (h : (x = i ∧ y = 0) ∨ (x = i ∧ y = 1) ∨ (x = 0 ∧ y = 3) ∨ (x = i - 1 ∧ y = 40)) : OkRt x (i + 1 + y) (i * i + r) := by
  have hx0 : 0 ≤ x := by omega
  have hxi : x ≤ i := by omega
  have hy0 : 0 ≤ y := by omega
  have hy40 : y ≤ 40 := by omega
  have m1 := Int.mul_le_mul hxi hxi hx0 (by omega)
  have m2 : (i + 1) * (i + 1) = i * i + 2 * i + 1 := by
    rw [Int.add_mul, Int.mul_add]
    omega
  have m3 := Int.mul_le_mul (show i + 1 ≤ i + 1 + y by omega) (show i + 1 ≤ i + 1 + y by omega) (by omega) (by omega)
  have m4 : i * i ≤ 20 * 20 := Int.mul_le_mul i15 i15 (by omega) (by omega)
  exact ⟨hx0, by omega, by omega, by omega, by omega, by omega, by omega, i, by omega, by omega, by omega⟩
theorem fr_end {x y : Int} (hx : 0 < x) (hy : 0 < y) (bx : x ≤ 1000) (by_ : y ≤ 1000) : OkEnd (.fr (V2.fr x y).1 (V2.fr x y).2) := by
  have p2 := fr_pos (u := x) hy
  have a1 := fr_abs1 (a := x) hy
  have a2 := fr_abs2 (a := x) hy
  have p1 : 0 < (V2.fr x y).1 := by
    have e := fr_val (a := x) hy
    rcases Int.lt_or_le 0 (V2.fr x y).1 with h | h
    · exact h
    · have h1 : (V2.fr x y).1 * y ≤ 0 := Int.mul_nonpos_of_nonpos_of_nonneg h (by omega)
      have h2 := Int.mul_pos hx p2
      omega
  have b1 : (V2.fr x y).1.natAbs < 2 ^ 50 := Nat.lt_of_le_of_lt (show _ ≤ 1000 by omega) (by decide)
  have b2 : (V2.fr x y).2.natAbs < 2 ^ 50 := Nat.lt_of_le_of_lt (show _ ≤ 1000 by omega) (by decide)
  refine ⟨⟨by omega, p2, b1, b2⟩, fun p q e => ?_⟩
  cases e
  exact ⟨⟨p2, fr_cop hy, b1, b2⟩, p1⟩
def erD (x : Str) (p q : Int) : PyData := .list [.str x, frD (p, q), .bool true, .bool false]
/-- the error that is raised, told -/
def spError : Sp := fun vs H Q _ => ∃ (v : V) (g : Addr) (p q : Int) (sev : List Wy) (x : Str), vs = [v, .ref g] ∧ Dq H v (svD sev) ∧ sev.length ≤ 8 ∧ (∀ w ∈ sev, OkWy w) ∧ Fr H g p q ∧
  (x = "fraction" ∧ ¬ (frB p q = true ∧ 0 < p) ∨ x = "range" ∧ Qn p q ∧ 0 < p ∧ owed p q sev = none) ∧
  ∀ (r : Addr) (H' : Hp), Evl.Ex H H' → Dq H' (.ref r) (erD x p q) → Q (.ref r) H'
section
variable {base : Heap} {mg : Str → Option Value} {K : PySem.W.Frag} {w : World} {P : Program} {CF CT CR gI : Addr}
theorem ok_ends {f : Addr} {fd : FuncData} (F : Fun K "_law_ends" "_law_ends" s_l_ends f fd) (mR : mg "range" = none) (cC : Cal P w K mg base 1 "_law_coin" p_l_coin spCoin) (cR : Cal P w K mg base 2 "_law_wl_ratio" p_l_ratio spRatio) : FnOk P w K mg base CX0 3 f fd p_l_ends spEnds := by
  refine F.ok sc_l_ends (fun vs H Q E h => ?_) (fun cdv A outer s H vs Q E hr h => ?_)
  · obtain ⟨s, n, rfl, _⟩ := h
    rfl
  · obtain ⟨sk, n, rfl, hS, hn, k⟩ := h
    have nd := sc_l_ends.nd
    have n200 := n200e
    have two : 2 ≤ sizeLine := by show 2 ≤ sizeLine; decide
    have three : 3 ≤ sizeLine := by show 3 ≤ sizeLine; decide
    have four : 4 ≤ sizeLine := by show 4 ≤ sizeLine; decide
    have r1 : Room 1 _ := hr.mono (by decide)
    have r2 : Room 2 _ := hr.mono (by decide)
    refine ⟨_, pss_cons (ps_set (i := 1) nd rfl (Or.inl rfl) (pe_lst pa_nil))
      (pss_cons (ps_for PassesOwn.never rfl (pi_range1 (by rfl) mR (pa_cons (pe_op op_add pe_int (pe_c cC r1 (pa_cons (pv 0) (pa_cons (pe_ix ix_list (pe_lst (pa_cons pe_int (pa_cons pe_int pa_nil))) (pe_c cC r1 (pa_cons (pv 0) (pa_cons pe_int pa_nil))) (fun _ _ => rfl)) pa_nil)))) pa_nil)) (pg_name (i := 2) nd rfl (Or.inl rfl)) (pss_cons (ps_set (i := 3) nd rfl (Or.inl rfl) (pe_op op_mulW (pv 2) (pv 2)))
      (pss_one (ps_if (PW.pt (pw_and (pt_cmpR op_gt (pv 2) pe_int (nomark _)) (pw_and1 (pt_cmpR op_eq (pe_c cC r1 (pa_cons (pv 0) (pa_cons pe_int pa_nil))) pe_int (nomark _))))) (pss_cons (ps_set (i := 4) nd rfl (Or.inl rfl) (pe_op op_add pe_int (pe_c cC r1 (pa_cons (pv 0) (pa_cons (pe_op op_mulW pe_int (pv 2)) pa_nil)))))
      (pss_cons (ps_asg (pe_ix ix_list (pe_lst (pa_cons (pe_tup (pa_cons (pv 2) (pa_cons pe_int pa_nil))) (pa_cons (pe_tup (pa_cons (pv 2) (pa_cons pe_int pa_nil))) (pa_cons (pe_tup (pa_cons pe_int (pa_cons pe_int pa_nil))) (pa_cons (pe_tup (pa_cons (pe_op op_sub (pv 2) pe_int) (pa_cons pe_int pa_nil))) pa_nil))))) (pe_c cC r1 (pa_cons (pv 0) (pa_cons pe_int pa_nil))) (fun _ _ => rfl)) (pg_tup rfl (pgs_cons (pg_name (i := 5) nd rfl (Or.inl rfl)) (pgs_cons (pg_name (i := 6) nd rfl (Or.inl rfl)) pgs_nil))))
      (pss_one (ps_expr (pe_bm PySem.F.plainAttrs_list PySem.F.slot_list_append PySem.F.type_list_append mt_append (pv 1) (pa_cons (pe_tup (pa_cons pe_str (pa_cons (pe_lst (pa_cons (pe_op op_sub (pe_op op_sub pe_int (pv 3)) (pv 4)) (pa_cons pe_int (pa_cons pe_int pa_nil)))) (pa_cons (pe_tup (pa_cons (pv 5) (pa_cons pe_int pa_nil))) (pa_cons (pe_tup (pa_cons (pe_op op_add (pe_op op_add (pv 2) pe_int) (pv 6)) (pa_cons pe_int pa_nil))) pa_nil))))) pa_nil)))))) (pss_cons (ps_set (i := 7) nd rfl (Or.inl rfl) (pe_op op_add pe_int (pe_c cC r1 (pa_cons (pv 0) (pa_cons pe_int pa_nil)))))
      (pss_one (ps_expr (pe_bm PySem.F.plainAttrs_list PySem.F.slot_list_append PySem.F.type_list_append mt_append (pv 1) (pa_cons (pe_c cR r2 (pa_cons (pe_op op_add (pe_op op_add (pe_op op_mulW (pv 2) (pv 7)) pe_int) (pe_c cC r1 (pa_cons (pv 0) (pa_cons (pv 7) pa_nil)))) (pa_cons (pv 7) pa_nil))) pa_nil)))))))))
      (pss_one (ps_ret (pv 1)))), ?_⟩
    refine ⟨Nat.zero_le _, fun L hL => ?_⟩
    have lsk := sk_ne hS hL
    have f0 := Evl.Ex.new (o := .lst []) hL
    have g0 := upd_same (H := H) (a := L) (o := .lst [])
    have s0 := hS.ex f0
    have b0 := But.of_ex (p := sk) f0
    generalize upd H L (.lst []) = H0 at f0 g0 s0 b0
    refine ⟨_, rfl, ?_⟩
    show tOp (rIxL K) (tLst _) (tCall spCoin [] E0 _) _ _ _
    refine pick_read (xs := [.int 5, .int 15]) rfl (by decide) (by decide) rfl s0 (by omega) (fun _ _ q => q) fun v H1 hv b1 s1 => ?_
    obtain ⟨lim, rfl, l0, l1⟩ : ∃ x, v = .int x ∧ 0 < x ∧ x ≤ 15 := by
      simp only [List.mem_cons, List.not_mem_nil, or_false] at hv
      rcases hv with rfl | rfl <;> exact ⟨_, rfl, by decide, by decide⟩
    refine ⟨sk, lim, n + 1, rfl, s1, by omega, l0, by rw [n200]; omega, fun m H2 m0 m1 b2 s2 z2 => ⟨_, _, rfl, rfl, 1 + m, rfl, by omega, by omega, ?_⟩⟩
    have b02 := (b0.trans b1).trans b2
    have zin : sk ∈ [sk, L] := List.mem_cons_self
    have Lin : L ∈ [sk, L] := List.mem_cons_of_mem _ (List.mem_singleton.mpr rfl)
    refine for_range (n := (1 + m).toNat) (fun i σ H' => ∃ (ys : List V) (pls : List Plc) (v2 v3 v4 v5 v6 v7 : Option V), σ = [some (.ref sk), some (.ref L), v2, v3, v4, v5, v6, v7] ∧ But sk H H' ∧ Sk H' sk (n + 2 + 5 * i) ∧ H' L = some (.lst ys) ∧ DqAll (woL [sk, L] H') ys (pls.map plD) ∧ pls.length = i ∧ ∀ p ∈ pls, OkEnd p)
      ⟨[], [], none, none, none, none, none, none, rfl, b02, s2, b2 _ _ lsk (b1 _ _ lsk g0), .nil, rfl, fun p h => by cases h⟩ ?_ ?_
    · rintro i σ H3 hi ⟨ys, pls, v2, v3, v4, v5, v6, v7, rfl, b3, s3, h3, hA, hl3, hok⟩
      rw [Int.zero_add]
      have i15 : i < 15 := by omega
      have iA : ((i : Nat) : Int).natAbs < 2 ^ 10 := Nat.lt_of_lt_of_le (show ((i : Nat) : Int).natAbs < 15 by omega) (by decide)
      have hyl : ys.length = i := by rw [dqall_lenN hA, List.length_map, hl3]
      have fin : ∀ (t : Addr) (pl : Plc) (H5 : Hp), But sk H3 H5 → Sk H5 sk (n + 2 + 5 * i + 3) → Dq (woL [sk, L] H5) (.ref t) (plD pl) → OkEnd pl → ∃ acc, H5 L = some (.lst acc) ∧ acc.length < sizeLine ∧ ∃ (ys : List V) (pls : List Plc), But sk H (upd H5 L (.lst (acc ++ [.ref t]))) ∧ Sk (upd H5 L (.lst (acc ++ [.ref t]))) sk (n + 2 + 5 * (i + 1)) ∧ upd H5 L (.lst (acc ++ [.ref t])) L = some (.lst ys) ∧ DqAll (woL [sk, L] (upd H5 L (.lst (acc ++ [.ref t])))) ys (pls.map plD) ∧ pls.length = i + 1 ∧ ∀ p ∈ pls, OkEnd p := by
        intro t pl H5 b5 s5 ht hpl
        refine ⟨ys, b5 _ _ lsk h3, by rw [hyl]; exact Nat.lt_of_lt_of_le i15 (by decide), ys ++ [.ref t], pls ++ [pl], but_upd (H := H5) (b3.trans b5) hL, (s5.upd lsk).le (by omega), upd_same, ?_, by rw [List.length_append, hl3]; rfl, fun p hp => ?_⟩
        · rw [List.map_append]
          exact dqall_snoc ((hA.go (woL_but zin b5)).go (woL_set Lin)) (ht.go (woL_set Lin))
        · rcases List.mem_append.mp hp with h | h
          · exact hok p h
          · rw [List.mem_singleton.mp h]
            exact hpl
      have off : ∀ {t : Addr} {G : Hp} {m : Nat}, But sk H3 G → Sk G sk m → G t = none → t ∉ [sk, L] := fun {t G m} b s h => by
        intro hm
        simp only [List.mem_cons, List.not_mem_nil, or_false] at hm
        rcases hm with rfl | rfl
        · exact sk_ne s h rfl
        · rw [b _ _ lsk h3] at h
          cases h
      refine ⟨_, rfl, _, rfl, _, _, rfl, rfl, wide_mul iA iA (by decide) (by decide) (by decide), ?_⟩
      refine ⟨_, rfl, _, _, rfl, rfl, _, rfl, ?_⟩
      by_cases i0 : (0 : Int) < (i : Int)
      rotate_left
      · refine if_f (decide_eq_false i0) (if_f rfl ?_)
        refine ⟨_, rfl, sk, 6, n + 2 + 5 * i + 1, rfl, (s3.le (by omega)), by omega, by decide, by decide, fun u HA u0 u1 bA sA zA => ⟨_, _, rfl, rfl, ?_⟩⟩
        have bA' := (But.refl sk H3).trans bA
        have hLA : HA L = some (.lst ys) := bA' _ _ lsk h3
        have pb : (2 + u).natAbs < 2 ^ 10 := Nat.lt_of_lt_of_le (show (2 + u).natAbs < 15 by omega) (by decide)
        have mb : (i : Int) * (2 + u) ≤ 15 * 8 := Int.mul_le_mul (by omega) (by omega) (by omega) (by omega)
        have m0' : 0 ≤ (i : Int) * (2 + u) := Int.mul_nonneg (by omega) (by omega)
        refine ⟨_, rfl, .inl ⟨rfl, _, SqL.of hLA⟩, ?_⟩
        refine ⟨_, rfl, _, rfl, _, _, rfl, rfl, wide_mul iA pb (by decide) (by decide) (by decide), _, _, rfl, rfl, _, rfl, _, rfl, sk, 2 + u, n + 2 + 5 * i + 2, rfl, sA, by omega, by omega, by rw [n200]; omega, fun x HB x0 x1 bB sB zB => ⟨_, _, rfl, rfl, _, rfl, ?_⟩⟩
        have xb : ((i : Int) * (2 + u) + 1 + x).natAbs < 2 ^ 10 := Nat.lt_of_lt_of_le (show ((i : Int) * (2 + u) + 1 + x).natAbs < 1000 by omega) (by decide)
        refine ⟨_, _, rfl, bigN xb (by decide), bigN pb (by decide), by omega, fun t HC ht eC hC => ?_⟩
        have bB' := bA'.trans bB
        have o := off bB' sB ht
        have hfr : Fr (woL [sk, L] HC) t (V2.fr ((i : Int) * (2 + u) + 1 + x) (2 + u)).1 (V2.fr ((i : Int) * (2 + u) + 1 + x) (2 + u)).2 := woL_at o hC
        obtain ⟨acc, w1, w2, ys', pls', w3⟩ := fin t (.fr _ _) HC (bB'.trans (But.of_ex eC)) (sB.ex eC) (PlAt.dq (p := .fr _ _) hfr) (fr_end (by omega) (by omega) (by omega) (by omega))
        exact ⟨L, acc, _, rfl, rfl, w1, w2, ys', pls', _, _, _, _, _, _, rfl, w3⟩
      refine if_t (decide_eq_true i0) ?_
      refine ⟨_, rfl, sk, 2, _, rfl, s3, by omega, by decide, by decide, fun c0 H4 c00 c01 b4 s4 z4 => ⟨rfl, _, rfl, ?_⟩⟩
      by_cases hc0 : c0 = 0
      rotate_left
      · refine if_f (decide_eq_false fun z => hc0 (by injection z)) ?_
        refine ⟨_, rfl, sk, 6, n + 2 + 5 * i + 1, rfl, s4, by omega, by decide, by decide, fun u HA u0 u1 bA sA zA => ⟨_, _, rfl, rfl, ?_⟩⟩
        have bA' := b4.trans bA
        have hLA : HA L = some (.lst ys) := bA' _ _ lsk h3
        have pb : (2 + u).natAbs < 2 ^ 10 := Nat.lt_of_lt_of_le (show (2 + u).natAbs < 15 by omega) (by decide)
        have mb : (i : Int) * (2 + u) ≤ 15 * 8 := Int.mul_le_mul (by omega) (by omega) (by omega) (by omega)
        have m0' : 0 ≤ (i : Int) * (2 + u) := Int.mul_nonneg (by omega) (by omega)
        refine ⟨_, rfl, .inl ⟨rfl, _, SqL.of hLA⟩, ?_⟩
        refine ⟨_, rfl, _, rfl, _, _, rfl, rfl, wide_mul iA pb (by decide) (by decide) (by decide), _, _, rfl, rfl, _, rfl, _, rfl, sk, 2 + u, n + 2 + 5 * i + 2, rfl, sA, by omega, by omega, by rw [n200]; omega, fun x HB x0 x1 bB sB zB => ⟨_, _, rfl, rfl, _, rfl, ?_⟩⟩
        have xb : ((i : Int) * (2 + u) + 1 + x).natAbs < 2 ^ 10 := Nat.lt_of_lt_of_le (show ((i : Int) * (2 + u) + 1 + x).natAbs < 1000 by omega) (by decide)
        refine ⟨_, _, rfl, bigN xb (by decide), bigN pb (by decide), by omega, fun t HC ht eC hC => ?_⟩
        have bB' := bA'.trans bB
        have o := off bB' sB ht
        have hfr : Fr (woL [sk, L] HC) t (V2.fr ((i : Int) * (2 + u) + 1 + x) (2 + u)).1 (V2.fr ((i : Int) * (2 + u) + 1 + x) (2 + u)).2 := woL_at o hC
        obtain ⟨acc, w1, w2, ys', pls', w3⟩ := fin t (.fr _ _) HC (bB'.trans (But.of_ex eC)) (sB.ex eC) (PlAt.dq (p := .fr _ _) hfr) (fr_end (by omega) (by omega) (by omega) (by omega))
        exact ⟨L, acc, _, rfl, rfl, w1, w2, ys', pls', _, _, _, _, _, _, rfl, w3⟩
      refine if_t (decide_eq_true (by rw [hc0])) ?_
      have c2 : CMulW 2 (i : Int) := wide_mul (a := 2) (b := 10) (by decide) iA (by decide) (by decide) (by decide)
      refine ⟨_, rfl, _, rfl, _, _, rfl, rfl, c2, sk, 2 * (i : Int), _, rfl, s4, by omega, by omega, by rw [n200]; omega, fun r H5 r0 r1' b5 s5 z5 => ⟨_, _, rfl, rfl, ?_⟩⟩
      have b45 := b4.trans b5
      refine ⟨_, rfl, two, fun t1 ht1 => ⟨_, rfl, two, fun t2 ht2 => ⟨two, fun t3 ht3 => ⟨_, rfl, _, _, rfl, rfl, two, fun t4 ht4 => ⟨four, fun l hl => ?_⟩⟩⟩⟩⟩
      have f1 := Evl.Ex.new (o := .tup [.int (i : Int), .int 0]) ht1
      have g1 := upd_same (H := H5) (a := t1) (o := .tup [.int (i : Int), .int 0])
      generalize upd H5 t1 (.tup [.int (i : Int), .int 0]) = G1 at f1 g1 ht2 ht3 ht4 hl
      have f2 := Evl.Ex.new (o := .tup [.int (i : Int), .int 1]) ht2
      have g2 := upd_same (H := G1) (a := t2) (o := .tup [.int (i : Int), .int 1])
      generalize upd G1 t2 (.tup [.int (i : Int), .int 1]) = G2 at f2 g2 ht3 ht4 hl
      have f3 := Evl.Ex.new (o := .tup [.int 0, .int 3]) ht3
      have g3 := upd_same (H := G2) (a := t3) (o := .tup [.int 0, .int 3])
      generalize upd G2 t3 (.tup [.int 0, .int 3]) = G3 at f3 g3 ht4 hl
      have f4 := Evl.Ex.new (o := .tup [.int ((i : Int) - 1), .int 40]) ht4
      have g4 := upd_same (H := G3) (a := t4) (o := .tup [.int ((i : Int) - 1), .int 40])
      generalize upd G3 t4 (.tup [.int ((i : Int) - 1), .int 40]) = G4 at f4 g4 hl
      have f5 := Evl.Ex.new (o := .lst [.ref t1, .ref t2, .ref t3, .ref t4]) hl
      have g5 := upd_same (H := G4) (a := l) (o := .lst [.ref t1, .ref t2, .ref t3, .ref t4])
      generalize upd G4 l (.lst [.ref t1, .ref t2, .ref t3, .ref t4]) = G5 at f5 g5
      have f15 := (((f1.trans f2).trans f3).trans f4).trans f5
      have s6 := s5.ex f15
      have nsk : ∀ {a : Addr} {o : HO}, (∀ x y z : Int, o ≠ .lst [.int x, .int y, .int z]) → G5 a = some o → a ≠ sk := fun {a o} hne h z => by
        obtain ⟨a1, a2, a3, a4, _⟩ := s6
        rw [z, a4] at h
        cases h
        exact hne _ _ _ rfl
      refine ⟨_, rfl, sk, 4, _, rfl, s6, by omega, by decide, by decide, fun j G6 j0 j1 b6 s7 z6 => ?_⟩
      have b46 := (b45.trans (But.of_ex (p := sk) f15)).trans b6
      have g6 := b6 _ _ (nsk (fun x y z h => by cases h) g5) g5
      obtain ⟨t, x, y, ha, ht, hxy⟩ : ∃ (t : Addr) (x y : Int), atI [V.ref t1, .ref t2, .ref t3, .ref t4] j = some (.ref t) ∧ G5 t = some (.tup [.int x, .int y]) ∧ ((x = i ∧ y = 0) ∨ (x = i ∧ y = 1) ∨ (x = 0 ∧ y = 3) ∨ (x = (i : Int) - 1 ∧ y = 40)) := by
        rcases (show j = 0 ∨ j = 1 ∨ j = 2 ∨ j = 3 by omega) with rfl | rfl | rfl | rfl
        · exact ⟨t1, i, 0, rfl, f5 _ _ (f4 _ _ (f3 _ _ (f2 _ _ g1))), .inl ⟨rfl, rfl⟩⟩
        · exact ⟨t2, i, 1, rfl, f5 _ _ (f4 _ _ (f3 _ _ g2)), .inr (.inl ⟨rfl, rfl⟩)⟩
        · exact ⟨t3, 0, 3, rfl, f5 _ _ (f4 _ _ g3), .inr (.inr (.inl ⟨rfl, rfl⟩))⟩
        · exact ⟨t4, (i : Int) - 1, 40, rfl, f5 _ _ g4, .inr (.inr (.inr ⟨rfl, rfl⟩))⟩
      have ht6 := b6 _ _ (nsk (fun x y z h => by cases h) ht) ht
      refine ⟨l, _, j, _, rfl, rfl, SqL.of g6, ha, t, _, rfl, SqT.of ht6, rfl, _, _, rfl, _, _, rfl, rfl, ?_⟩
      have hL6 : G6 L = some (.lst ys) := b46 _ _ lsk h3
      refine ⟨_, rfl, .inl ⟨rfl, _, SqL.of hL6⟩, ?_⟩
      refine ⟨_, rfl, _, _, rfl, rfl, _, rfl, _, _, rfl, rfl, three, fun ll hll => ⟨_, rfl, two, fun u1 hu1 => ⟨_, rfl, _, _, rfl, rfl, _, rfl, _, _, rfl, rfl, two, fun u2 hu2 => ⟨four, fun r4 hr4 => ?_⟩⟩⟩⟩
      have o1 := off b46 s7 hll
      have q1 := Evl.Ex.new (o := .lst [.int (0 - (i : Int) * i - (1 + r)), .int 0, .int 1]) hll
      have p1 := upd_same (H := G6) (a := ll) (o := .lst [.int (0 - (i : Int) * i - (1 + r)), .int 0, .int 1])
      generalize upd G6 ll (.lst [.int (0 - (i : Int) * i - (1 + r)), .int 0, .int 1]) = J1 at q1 p1 hu1 hu2 hr4
      have o2 := off (b46.trans (But.of_ex q1)) (s7.ex q1) hu1
      have q2 := Evl.Ex.new (o := .tup [.int x, .int 1]) hu1
      have p2 := upd_same (H := J1) (a := u1) (o := .tup [.int x, .int 1])
      generalize upd J1 u1 (.tup [.int x, .int 1]) = J2 at q2 p2 hu2 hr4
      have o3 := off (b46.trans (But.of_ex (q1.trans q2))) (s7.ex (q1.trans q2)) hu2
      have q3 := Evl.Ex.new (o := .tup [.int ((i : Int) + 1 + y), .int 1]) hu2
      have p3 := upd_same (H := J2) (a := u2) (o := .tup [.int ((i : Int) + 1 + y), .int 1])
      generalize upd J2 u2 (.tup [.int ((i : Int) + 1 + y), .int 1]) = J3 at q3 p3 hr4
      have q13 := (q1.trans q2).trans q3
      have o4 := off (b46.trans (But.of_ex q13)) (s7.ex q13) hr4
      have q4 := Evl.Ex.new (o := .tup [.str "root", .ref ll, .ref u1, .ref u2]) hr4
      have p4 := upd_same (H := J3) (a := r4) (o := .tup [.str "root", .ref ll, .ref u1, .ref u2])
      generalize upd J3 r4 (.tup [.str "root", .ref ll, .ref u1, .ref u2]) = J4 at q4 p4
      have em : (0 - (i : Int) * i - (1 + r)) = 0 - ((i : Int) * i + (1 + r)) := by omega
      rw [em] at p1
      have hpl : PlAt (woL [sk, L] J4) r4 (.rt x ((i : Int) + 1 + y) ((i : Int) * i + (1 + r))) := ⟨ll, u1, u2, woL_at o4 p4, woL_at o1 (q4 _ _ (q3 _ _ (q2 _ _ p1))), woL_at o2 (q4 _ _ (q3 _ _ p2)), woL_at o3 (q4 _ _ p3)⟩
      obtain ⟨acc, w1, w2, ys', pls', w3⟩ := fin r4 _ J4 (b46.trans (But.of_ex (q13.trans q4))) ((s7.ex (q13.trans q4)).le (by omega)) hpl.dq ⟨ok_rt (by omega) (by omega) (by omega) (by omega) hxy, fun p q e => by cases e⟩
      exact ⟨L, acc, _, rfl, rfl, w1, w2, ys', pls', _, _, _, _, _, _, rfl, w3⟩
    · rintro σ H3 ⟨ys, pls, v2, v3, v4, v5, v6, v7, rfl, b3, s3, h3, hA, hl3, hok⟩
      exact ⟨_, rfl, k L ys pls H3 b3 (s3.le (by omega)) hL (wo_at lsk h3) (hA.go (woL_wo zin)) (by omega) hok⟩
theorem ok_error {f fW : Addr} {fd fdW : FuncData} (F : Fun K "_law_error" "_law_error" s_l_error f fd) (FW : FnOk P w K mg base (L2.CX P w) 7 fW fdW p_way_at (spWayX CF CR)) (mW : mg "way_at" = some (.ref fW)) (kW : PySem.W.keepIn K (.ref fW) = true) (bW : Binds K fdW p_way_at [])
    (TF : EC K CF gI) (TR : EC K CR gI) (G : EG K gI) (mF : mg "InvalidFraction" = some (.ref CF)) (mT : mg "TankError" = some (.ref CT)) (mR : mg "InvalidRange" = some (.ref CR)) (mI : mg "isinstance" = none)
    (rr : PySem.W.subIn K (.ref CR) (.ref CR) = some true) (fr_ : PySem.W.subIn K (.ref CF) (.ref CR) = some false) (ff : PySem.W.subIn K (.ref CF) (.ref CF) = some true) (k1 : PySem.W.kitOne K (.ref CR) (.ref CT) = some true) (k2 : PySem.W.kitOne K (.ref CR) (.ref CF) = some false) (k3 : PySem.W.kitOne K (.ref CF) (.ref CT) = some true) (k4 : PySem.W.kitOne K (.ref CF) (.ref CR) = some false) : FnOk P w K mg base CX0 8 f fd p_l_error spError := by
  refine F.ok sc_l_error (fun vs H Q E h => ?_) (fun cdv A outer s H vs Q E hr h => ?_)
  · obtain ⟨v, g, p, q, sev, x, rfl, _⟩ := h
    rfl
  · obtain ⟨v, g, p, q, sev, x, rfl, hv, h8, ok, hg, hc, k⟩ := h
    have nd := sc_l_error.nd
    have four : 4 ≤ sizeLine := by show 4 ≤ sizeLine; decide
    refine ⟨_, pss_cons (ps_set (i := 2) nd rfl (Or.inl rfl) (pe_lst pa_nil))
      (pss_cons (ps_try_es (n := "e") (i := 3) (tb := fun W => tDrop (tCallS (spWayX CF CR) (WE W) (tCons (tVar 0) (tCons (tVar 1) tNil)))) (W0 := fun _ _ _ _ => False) (l := [(.ref CR, fun a cls d => tAsg (tLst (tCons (tC (.str "range")) (tCons (tV1E CR a cls d 3) (tCons (tI1O CR a cls d 3 true) (tCons (tI1O CR a cls d 3 false) tNil))))) (gName 2)), (.ref CF, fun a cls d => tAsg (tLst (tCons (tC (.str "fraction")) (tCons (tV1E CF a cls d 3) (tCons (tI1O CF a cls d 3 true) (tCons (tI1O CF a cls d 3 false) tNil))))) (gName 2))]) rfl rfl nd rfl rfl takes0
          (fun W pn xe tk _ => pss_one (ps_expr (by exact (pe_callS FW hr (by rfl) mW kW bW (fun σ => passAt tk σ) (by exact (pa_cons (pv 0) (pa_cons (pv 1) pa_nil)))))))
          (.cons ⟨rfl, by decide, Or.inl mR⟩ (fun a oe cls d pn hz hf => pss_one (ps_set (i := 2) nd rfl (Or.inl rfl) (pe_lst (pa_cons pe_str (pa_cons (pe_v1E rfl TR hz hf (pv 3)) (pa_cons (pe_i1O rfl rfl TR G mI mT k1 hz hf (pv 3)) (pa_cons (pe_i1O rfl rfl TR G mI mF k2 hz hf (pv 3)) pa_nil)))))))
          (.cons ⟨rfl, by decide, Or.inl mF⟩ (fun a oe cls d pn hz hf => pss_one (ps_set (i := 2) nd rfl (Or.inl rfl) (pe_lst (pa_cons pe_str (pa_cons (pe_v1E rfl TF hz hf (pv 3)) (pa_cons (pe_i1O rfl rfl TF G mI mT k3 hz hf (pv 3)) (pa_cons (pe_i1O rfl rfl TF G mI mR k4 hz hf (pv 3)) pa_nil))))))) .nil)))
      (pss_one (ps_ret (pv 2)))), ?_⟩
    refine ⟨Nat.zero_le _, fun l0 hl0 => ?_⟩
    have e0 := Evl.Ex.new (o := .lst []) hl0
    generalize upd H l0 (.lst []) = H0 at e0
    refine ⟨_, rfl, _, rfl, v, g, p, q, sev, rfl, hv.go e0, h8, ok, e0 _ _ hg, ?_⟩
    rcases hc with ⟨rfl, hno⟩ | ⟨rfl, hq, p0, hn⟩
    · refine .inl ⟨hno, fun y H1 e1 hy e H2 he e2 hx => ?_⟩
      refine ⟨false, PySem.W.exm_ref TR.xf.exC TR.xf.hdC TR.ox.tyC fr_, fun z => Bool.noConfusion z, fun _ => ⟨true, PySem.W.exm_ref TF.xf.exC TF.xf.hdC TF.ox.tyC ff, fun _ a ha => ?_, fun z => Bool.noConfusion z⟩⟩
      have hy2 := (hy.dq.go Nw.ex).go e2
      refine ⟨e, _, y, rfl, rfl, rfl, hx, rfl, e, _, rfl, rfl, rfl, hx, e, _, rfl, rfl, rfl, hx, four, fun q5 hq5 => ?_⟩
      have e5 := Evl.Ex.new (o := .lst [.str "fraction", y, .bl true, .bl false]) hq5
      refine ⟨_, rfl, k q5 _ (((e0.trans e1).trans e2).trans e5) (.lst upd_same (.cons (.str _) (.cons (hy2.go e5) (.cons (.bl true) (.cons (.bl false) .nil)))))⟩
    · refine .inr ⟨hq, p0, hn, fun H1 e1 e H2 he e2 hx => ?_⟩
      refine ⟨true, PySem.W.exm_ref TR.xf.exC TR.xf.hdC TR.ox.tyC rr, fun _ a ha => ?_, fun z => Bool.noConfusion z⟩
      refine ⟨e, _, .ref g, rfl, rfl, rfl, hx, rfl, e, _, rfl, rfl, rfl, hx, e, _, rfl, rfl, rfl, hx, four, fun q5 hq5 => ?_⟩
      have e5 := Evl.Ex.new (o := .lst [.str "range", .ref g, .bl true, .bl false]) hq5
      have e05 := ((e0.trans e1).trans e2).trans e5
      refine ⟨_, rfl, k q5 _ e05 (.lst upd_same (.cons (.str _) (.cons (.tup (e05 _ _ hg) (.cons (.int p) (.cons (.int q) .nil))) (.cons (.bl true) (.cons (.bl false) .nil)))))⟩
end
end V2


namespace V2
open PySem L2
open PySem.Spec PyProof.Rows
/-! ## how long texts are -/
theorem sx_i1000 {n : Int} (h : n.natAbs ≤ 1000000) : Sx 1 60 (.int n) := sx_i50 (Nat.lt_of_le_of_lt h (by decide))
theorem sx_tt {p q : Int} (hp : p.natAbs < 2 ^ 50) (hq : q.natAbs < 2 ^ 50) : Sx 2 140 (.tuple [.int p, .int q]) := (sx_tup (xs := [.int p, .int q]) (n := 1) (B := 60) fun d hd => by
    simp only [List.mem_cons, List.not_mem_nil, or_false] at hd
    rcases hd with rfl | rfl
    · exact sx_i50 hp
    · exact sx_i50 hq).le (by decide) (by show 2 * 60 + 2 * 2 + 3 ≤ 140; decide)
theorem sx_pl {p : Plc} (h : OkPl p) : Sx 3 1000 (plD p) := by
  cases p with
  | fr p q => exact (sx_tt h.2.2.1 h.2.2.2).le (by decide) (by decide)
  | rt n f m =>
    obtain ⟨n0, n1, f1, f0, nb, fb, mb, s, s0, s1, s2⟩ := h
    have m0 : 0 ≤ m := by have := Int.mul_nonneg n0 n0; omega
    refine (sx_tup (n := 2) (B := 200) fun d hd => ?_).le (by decide) (by show 4 * 200 + 2 * 4 + 3 ≤ 1000; decide)
    simp only [List.mem_cons, List.not_mem_nil, or_false] at hd
    rcases hd with rfl | rfl | rfl | rfl
    · exact (sx_str (by decide +kernel)).le (by decide) (by decide)
    · refine (sx_list (n := 1) (B := 60) fun d hd => ?_).le (by decide) (by show 3 * 60 + 2 * 3 + 3 ≤ 200; decide)
      simp only [List.mem_cons, List.not_mem_nil, or_false] at hd
      rcases hd with rfl | rfl | rfl
      · exact sx_i1000 (by omega)
      · exact sx_i1000 (by decide)
      · exact sx_i1000 (by decide)
    · exact (sx_tt (b50 n0 nb) (by decide)).le (by decide) (by decide)
    · exact (sx_tt (b50 (by omega) fb) (by decide)).le (by decide) (by decide)
theorem sx_opl {o : Option Plc} (h : OkOp o) : Sx 3 1000 (oplD o) := by
  cases o with
  | none => exact sx_non.le (by decide) (by decide)
  | some p => exact sx_pl h
theorem sx_pc {c : Pc} (h : OkPc c) : Sx 4 4100 (pcD c) := by
  refine (sx_tup (n := 3) (B := 1000) fun d hd => ?_).le (by decide) (by show 4 * 1000 + 2 * 4 + 3 ≤ 4100; decide)
  simp only [List.mem_cons, List.not_mem_nil, or_false] at hd
  rcases hd with rfl | rfl | rfl | rfl
  · exact sx_pl h.1
  · exact (sx_bool _).le (by decide) (by decide)
  · exact sx_opl h.2
  · exact (sx_bool _).le (by decide) (by decide)
theorem sx_pcs {cs : List Pc} (hl : cs.length ≤ 100) (h : ∀ c ∈ cs, OkPc c) : Sx 5 411000 (.list (cs.map pcD)) := by
  refine (sx_list (n := 4) (B := 4100) fun d hd => ?_).le (by decide) ?_
  · obtain ⟨c, hc, rfl⟩ := List.mem_map.mp hd
    exact sx_pc (h c hc)
  · rw [List.length_map]
    omega
theorem sx_nl {xs : List Int} (h : PnN xs) : Sx 2 2000 (.list (xs.map .int)) := by
  refine (sx_list (n := 1) (B := 102) fun d hd => ?_).le (by decide) ?_
  · obtain ⟨x, hx, rfl⟩ := List.mem_map.mp hd
    exact sx_int (h.2 x hx) (by decide) (by decide)
  · rw [List.length_map]
    have := h.1
    omega
theorem sx_fm {f : Fm} (h : OkFm f) : Sx 3 5000 (fmD f) := by
  refine (sx_tup (n := 2) (B := 2000) fun d hd => ?_).le (by decide) (by show 2 * 2000 + 2 * 2 + 3 ≤ 5000; decide)
  simp only [List.mem_cons, List.not_mem_nil, or_false] at hd
  rcases hd with rfl | rfl
  · exact sx_nl h.1
  · exact sx_nl h.2.1
def RkOk (w : Wy) : Prop := ∀ z, w.rk = some z → 0 ≤ z ∧ z ≤ 1000
theorem sx_rk {w : Wy} (h : RkOk w) : Sx 1 60 (wD w.rk) := by
  cases e : w.rk with
  | none => exact sx_non.le (by decide) (by decide)
  | some z =>
    obtain ⟨h1, h2⟩ := h z e
    exact sx_i1000 (by omega)
theorem sx_wy {w : Wy} (h : OkWy w) (hr : RkOk w) : Sx 6 1240000 (wyD w) := by
  obtain ⟨h1, h2, h3, h4⟩ := h
  refine (sx_tup (n := 5) (B := 411000) fun d hd => ?_).le (by decide) (by show 3 * 411000 + 2 * 3 + 3 ≤ 1240000; decide)
  simp only [List.mem_cons, List.not_mem_nil, or_false] at hd
  rcases hd with rfl | rfl | rfl
  · exact (sx_rk hr).le (by decide) (by decide)
  · refine (sx_list (n := 3) (B := 5000) fun d hd => ?_).le (by decide) ?_
    · obtain ⟨f, hf, rfl⟩ := List.mem_map.mp hd
      exact sx_fm (h2 f hf)
    · rw [List.length_map]
      omega
  · exact sx_pcs h3 h4
theorem sh_sv {sev : List Wy} (hl : sev.length ≤ 5) (h : ∀ w ∈ sev, OkWy w ∧ RkOk w) : ShX (svD sev) := by
  refine (sx_list (n := 6) (B := 1240000) fun d hd => ?_).sh (by decide) ?_
  · obtain ⟨w, hw, rfl⟩ := List.mem_map.mp hd
    exact sx_wy (h w hw).1 (h w hw).2
  · rw [List.length_map]
    omega
theorem sh_er {x : Str} {p q : Int} (hx : (PyData.shown (.str x)).length ≤ 10) (hp : p.natAbs < 2 ^ 50) (hq : q.natAbs < 2 ^ 50) : ShX (erD x p q) := by
  refine (sx_list (n := 2) (B := 140) fun d hd => ?_).sh (by decide) (by show 4 * 140 + 2 * 4 + 3 ≤ 10000000; decide)
  simp only [List.mem_cons, List.not_mem_nil, or_false] at hd
  rcases hd with rfl | rfl | rfl | rfl
  · exact (sx_str hx).le (by decide) (by decide)
  · exact sx_tt hp hq
  · exact (sx_bool _).le (by decide) (by decide)
  · exact (sx_bool _).le (by decide) (by decide)
def anD (p q : Int) (w : Wy) : PyData := .tuple [wD w.rk, .list ((w.fms.map (fmV p q)).map frD)]
theorem fm_fb {p q : Int} {f : Fm} (ho : OkFm f) (hq : Qn p q) (p0 : 0 < p) : Fb 4300 (fmV p q f) := by
  obtain ⟨q1, q2, q3⟩ := ho
  have b1 := vl_b1 hq q1
  have b2 := vl_b2 hq q1
  have b3 := vl_b1 hq q2
  have b4 := vl_b2 hq q2
  have p1 := vl_pos (p := p) hq.1 f.1
  have p2 := vl_ne hq.1 (q3 p q p0 hq.1)
  unfold fmV ratN
  generalize (vl p q f.1).1 = u1 at *
  generalize (vl p q f.1).2 = u2 at *
  generalize (vl p q f.2).1 = l1 at *
  generalize (vl p q f.2).2 = l2 at *
  have c1 : (u1 * l2).natAbs < 2 ^ 4300 := mul_b b1 b4 (by decide)
  have c2 : (u2 * l1).natAbs < 2 ^ 4300 := mul_b b2 b3 (by decide)
  have ne : u2 * l1 ≠ 0 := fun z => by
    rcases Int.mul_eq_zero.mp z with h | h
    · exact absurd h (Int.ne_of_gt p1)
    · exact p2 h
  split
  · rename_i hn
    have pos : 0 < -(u2 * l1) := by omega
    refine ⟨fr_pos pos, Nat.lt_of_le_of_lt (fr_abs1 pos) ?_, Nat.lt_of_le_of_lt (fr_abs2 pos) ?_⟩
    · rw [Int.natAbs_neg]; exact c1
    · rw [Int.natAbs_neg]; exact c2
  · have pos : 0 < u2 * l1 := by omega
    exact ⟨fr_pos pos, Nat.lt_of_le_of_lt (fr_abs1 pos) c1, Nat.lt_of_le_of_lt (fr_abs2 pos) c2⟩
theorem sh_an {p q : Int} {w : Wy} (ho : OkWy w) (hr : RkOk w) (hq : Qn p q) (p0 : 0 < p) : ShX (anD p q w) := by
  have h1 := sx_frs (xs := []) (B := 4300) (fs := w.fms.map (fmV p q)) (by decide) (by decide) (by rw [List.length_map]; have := ho.1; omega) (fun f hf => by
    obtain ⟨g, hg, rfl⟩ := List.mem_map.mp hf
    exact fm_fb (ho.2.1 g hg) hq p0) (.inl rfl)
  rw [List.append_nil] at h1
  refine (sx_tup (n := 3) (B := 600000) fun d hd => ?_).sh (by decide) (by show 2 * 600000 + 2 * 2 + 3 ≤ 10000000; decide)
  simp only [List.mem_cons, List.not_mem_nil, or_false] at hd
  rcases hd with rfl | rfl
  · exact (sx_rk hr).le (by decide) (by decide)
  · exact h1
theorem dqa_fr {H : Hp} : ∀ (as : List Addr) (fs : List (Int × Int)), as.length = fs.length → (∀ (i : Nat) (a : Addr) (f : Int × Int), as[i]? = some a → fs[i]? = some f → Fr H a f.1 f.2) → DqAll H (as.map V.ref) (fs.map frD)
  | [], [], _, _ => .nil
  | [], _ :: _, h, _ => by cases h
  | _ :: _, [], h, _ => by cases h
  | a :: as, f :: fs, h, g => .cons (.tup (g 0 a f rfl rfl) (.cons (.int _) (.cons (.int _) .nil))) (dqa_fr as fs (Nat.succ.inj h) fun i b e x y => g (i + 1) b e x y)
theorem dq_wD {H : Hp} (w : Option Int) : Dq H (wV w) (wD w) := by
  cases w with
  | none => exact .non
  | some z => exact .int z
theorem dq_an {H : Hp} {t D : Addr} {p q : Int} {w : Wy} (ht : H t = some (.tup [wV w.rk, .ref D])) (hD : PrAt H D (w.fms.map (fmV p q))) : Dq H (.ref t) (anD p q w) := by
  obtain ⟨as, h1, h2, h3⟩ := hD
  exact .tup ht (.cons (dq_wD _) (.cons (.lst h1 (dqa_fr as _ h2 h3)) .nil))
/-! ## the list of ways as it grows -/
structure Row where
  t : Addr
  R : Addr
  w : Wy
def zl (sk A : Addr) (rows : List Row) : List Addr := sk :: A :: rows.map Row.R
def RowAt (z : List Addr) (H : Hp) (r : Row) : Prop := ∃ (F : Addr) (fs items : List V), woL z H r.t = some (.tup [wV r.w.rk, .ref F, .ref r.R]) ∧ woL z H F = some (.lst fs) ∧ DqAll (woL z H) fs (r.w.fms.map fmD) ∧ H r.R = some (.lst items) ∧ DqAll (woL z H) items (r.w.pcs.map pcD)
structure Sv (sk A : Addr) (rows : List Row) (H : Hp) : Prop where
  hA : H A = some (.lst (rows.map fun r => V.ref r.t))
  row : ∀ r ∈ rows, RowAt (zl sk A rows) H r
  nd : (rows.map Row.R).Nodup
  nA : A ∉ rows.map Row.R
  nS : sk ∉ rows.map Row.R
  ok : ∀ r ∈ rows, OkWy r.w ∧ RkOk r.w
  sA : A ≠ sk
theorem zl_sk {sk A : Addr} {rows : List Row} : sk ∈ zl sk A rows := List.mem_cons_self
theorem zl_A {sk A : Addr} {rows : List Row} : A ∈ zl sk A rows := List.mem_cons_of_mem _ List.mem_cons_self
theorem zl_R {sk A : Addr} {rows : List Row} {R : Addr} (h : R ∈ rows.map Row.R) : R ∈ zl sk A rows := List.mem_cons_of_mem _ (List.mem_cons_of_mem _ h)
theorem RowAt.go {z y : List Addr} {H H' : Hp} {r : Row} (h : RowAt z H r) (e : Evl.Ex (woL z H) (woL y H')) (hR : ∀ xs, H r.R = some (.lst xs) → H' r.R = some (.lst xs)) : RowAt y H' r := by
  obtain ⟨F, fs, items, h1, h2, h3, h4, h5⟩ := h
  exact ⟨F, fs, items, e _ _ h1, e _ _ h2, h3.go e, hR _ h4, h5.go e⟩
theorem Sv.but {sk A : Addr} {rows : List Row} {H H' : Hp} (h : Sv sk A rows H) (b : But sk H H') : Sv sk A rows H' where
  hA := b _ _ h.sA h.hA
  row r hr := (h.row r hr).go (woL_but zl_sk b) fun xs q => b _ _ (fun z => h.nS (z ▸ List.mem_map_of_mem (f := Row.R) hr)) q
  nd := h.nd
  nA := h.nA
  nS := h.nS
  ok := h.ok
  sA := h.sA
theorem Sv.dq {sk A : Addr} {rows : List Row} {H : Hp} (h : Sv sk A rows H) : Dq H (.ref A) (svD (rows.map Row.w)) := by
  refine .lst h.hA ?_
  have hrow := h.row
  clear h
  generalize zl sk A rows = z at hrow
  induction rows with
  | nil => exact .nil
  | cons r rs ih =>
    obtain ⟨F, fs, items, h1, h2, h3, h4, h5⟩ := hrow r List.mem_cons_self
    exact .cons (.tup (woL_ex _ _ h1) (.cons (dq_wD _) (.cons (.lst (woL_ex _ _ h2) (h3.go woL_ex)) (.cons (.lst h4 (h5.go woL_ex)) .nil)))) (ih fun r' h' => hrow r' (List.mem_cons_of_mem _ h'))
theorem Sv.oks {sk A : Addr} {rows : List Row} {H : Hp} (h : Sv sk A rows H) : ∀ w ∈ rows.map Row.w, OkWy w ∧ RkOk w := fun w hw => by
  obtain ⟨r, hr, rfl⟩ := List.mem_map.mp hw
  exact h.ok r hr
theorem Sv.add {sk A t R F : Addr} {rows : List Row} {H0 H : Hp} {w : Wy} {fs : List V} (h : Sv sk A rows H0) (b : But sk H0 H) (hR0 : H0 R = none) (hRs : R ≠ sk) (hR : H R = some (.lst [])) (hpc : w.pcs = []) (hok : OkWy w ∧ RkOk w)
    (ht : woL (zl sk A rows ++ [R]) H t = some (.tup [wV w.rk, .ref F, .ref R])) (hF : woL (zl sk A rows ++ [R]) H F = some (.lst fs)) (hD : DqAll (woL (zl sk A rows ++ [R]) H) fs (w.fms.map fmD)) :
    Sv sk A (rows ++ [⟨t, R, w⟩]) (upd H A (.lst ((rows.map fun r => V.ref r.t) ++ [.ref t]))) := by
  have ez : zl sk A (rows ++ [⟨t, R, w⟩]) = zl sk A rows ++ [R] := by
    unfold zl
    rw [List.map_append]
    rfl
  have RA : R ≠ A := fun z => by rw [z, h.hA] at hR0; cases hR0
  have up : Evl.Ex (woL (zl sk A rows ++ [R]) H) (woL (zl sk A rows ++ [R]) (upd H A (.lst ((rows.map fun r => V.ref r.t) ++ [.ref t])))) := woL_set (List.mem_append_left _ zl_A)
  have old : Evl.Ex (woL (zl sk A rows) H0) (woL (zl sk A rows ++ [R]) H) := fun c o z => by
    have z1 := woL_ne z
    have z2 := woL_ex _ _ z
    refine woL_at (fun m => ?_) (b _ _ (fun e => z1 (e ▸ zl_sk)) z2)
    rcases List.mem_append.mp m with m | m
    · exact z1 m
    · rw [List.mem_singleton.mp m, hR0] at z2
      cases z2
  refine ⟨?_, ?_, ?_, ?_, ?_, ?_, h.sA⟩
  · rw [upd_same, List.map_append]
    rfl
  · intro r hr
    rw [ez]
    rcases List.mem_append.mp hr with hr | hr
    · refine (h.row r hr).go (old.trans up) fun xs q => ?_
      have rm := List.mem_map_of_mem (f := Row.R) hr
      exact Eq.trans (upd_ne fun z => h.nA (z ▸ rm)) (b _ _ (fun z => h.nS (z ▸ rm)) q)
    · rw [List.mem_singleton.mp hr]
      refine ⟨F, fs, [], up _ _ ht, up _ _ hF, hD.go up, Eq.trans (upd_ne RA) hR, ?_⟩
      show DqAll _ [] (w.pcs.map pcD)
      rw [hpc]
      exact .nil
  · rw [List.map_append]
    refine nodup_app h.nd (List.nodup_cons.mpr ⟨List.not_mem_nil, List.nodup_nil⟩) fun a ha hb => ?_
    obtain ⟨r, hr, rfl⟩ := List.mem_map.mp ha
    have e : r.R = R := List.mem_singleton.mp hb
    obtain ⟨_, _, items, _, _, _, h4, _⟩ := h.row r hr
    rw [e, hR0] at h4
    cases h4
  · rw [List.map_append]
    intro m
    rcases List.mem_append.mp m with m | m
    · exact h.nA m
    · exact RA (List.mem_singleton.mp m).symm
  · rw [List.map_append]
    intro m
    rcases List.mem_append.mp m with m | m
    · exact h.nS m
    · exact hRs (List.mem_singleton.mp m).symm
  · intro r hr
    rcases List.mem_append.mp hr with hr | hr
    · exact h.ok r hr
    · rw [List.mem_singleton.mp hr]
      exact hok
theorem set_same {α : Type} : ∀ {l : List α} {k : Nat} {x : α}, l[k]? = some x → l.set k x = l
  | [], _, _, h => by cases h
  | y :: l, 0, x, h => by cases h; rfl
  | y :: l, k + 1, x, h => by
    have : (y :: l).set (k + 1) x = y :: l.set k x := rfl
    rw [this, set_same (l := l) h]
theorem Sv.put {sk A : Addr} {rows : List Row} {H : Hp} {k : Nat} {r : Row} {items : List V} {pcs : List Pc} (h : Sv sk A rows H) (hk : rows[k]? = some r) (hD : DqAll (woL (zl sk A rows) H) items (pcs.map pcD)) (hl : pcs.length ≤ 100) (hok : ∀ c ∈ pcs, OkPc c) :
    Sv sk A (rows.set k ⟨r.t, r.R, ⟨r.w.rk, r.w.fms, pcs⟩⟩) (upd H r.R (.lst items)) ∧ zl sk A (rows.set k ⟨r.t, r.R, ⟨r.w.rk, r.w.fms, pcs⟩⟩) = zl sk A rows := by
  have hr := List.mem_of_getElem? hk
  have rm := List.mem_map_of_mem (f := Row.R) hr
  have e1 : (rows.set k ⟨r.t, r.R, ⟨r.w.rk, r.w.fms, pcs⟩⟩).map Row.R = rows.map Row.R := by
    rw [List.map_set]
    exact set_same (by rw [List.getElem?_map, hk]; rfl)
  have e2 : (rows.set k ⟨r.t, r.R, ⟨r.w.rk, r.w.fms, pcs⟩⟩).map (fun r => V.ref r.t) = rows.map fun r => V.ref r.t := by
    rw [List.map_set]
    exact set_same (by rw [List.getElem?_map, hk]; rfl)
  have ez : zl sk A (rows.set k ⟨r.t, r.R, ⟨r.w.rk, r.w.fms, pcs⟩⟩) = zl sk A rows := by
    unfold zl
    rw [e1]
  have up : Evl.Ex (woL (zl sk A rows) H) (woL (zl sk A rows) (upd H r.R (.lst items))) := woL_set (zl_R rm)
  obtain ⟨F, fs, its, h1, h2, h3, h4, h5⟩ := h.row r hr
  have old := h.ok r hr
  refine ⟨⟨?_, ?_, ?_, ?_, ?_, ?_, h.sA⟩, ez⟩
  · rw [e2]
    exact Eq.trans (upd_ne fun z => h.nA (z ▸ rm)) h.hA
  · intro r2 hr2
    rw [ez]
    obtain ⟨j, hj⟩ := List.getElem?_of_mem hr2
    rw [List.getElem?_set] at hj
    split at hj
    · split at hj
      · cases hj
        exact ⟨F, fs, items, up _ _ h1, up _ _ h2, h3.go up, upd_same, hD.go up⟩
      · cases hj
    · rename_i hkj
      have hm := List.mem_of_getElem? hj
      refine (h.row r2 hm).go up fun xs q => Eq.trans (upd_ne fun z => hkj ?_) q
      have hlt := (List.getElem?_eq_some_iff.mp hk).1
      have hlm : k < (rows.map Row.R).length := by rw [List.length_map]; exact hlt
      refine (List.getElem?_inj hlm h.nd).mp ?_
      rw [List.getElem?_map, List.getElem?_map, hk, hj]
      show some r.R = some r2.R
      rw [z]
  · rw [e1]; exact h.nd
  · rw [e1]; exact h.nA
  · rw [e1]; exact h.nS
  · intro r2 hr2
    rcases List.mem_or_eq_of_mem_set hr2 with hm | rfl
    · exact h.ok r2 hm
    · exact ⟨⟨old.1.1, old.1.2.1, hl, hok⟩, old.2⟩
theorem dqall_take {H : Hp} : ∀ {n : Nat} {ds : List PyData} {vs : List V}, DqAll H vs ds → DqAll H (vs.take n) (ds.take n)
  | 0, _, _, _ => by rw [List.take_zero, List.take_zero]; exact .nil
  | n + 1, [], _, .nil => .nil
  | n + 1, _ :: _, _, .cons a b => .cons a (dqall_take b)
theorem dqall_drop {H : Hp} : ∀ {n : Nat} {ds : List PyData} {vs : List V}, DqAll H vs ds → DqAll H (vs.drop n) (ds.drop n)
  | 0, _, _, h => h
  | n + 1, [], _, .nil => .nil
  | n + 1, _ :: _, _, .cons a b => dqall_drop (n := n) b
end V2


namespace V2
open PySem L2
open PySem.Spec PyProof.Rows
/-! ## a list of ways at widths is right -/
def gWR2 {α : Type} : List α → List α
  | [p, q] => [p, q]
  | _ => []
def spRight19 : Sp := fun vs H Q _ => ∃ (p : Addr) (m : Nat), vs = [.ref p] ∧ Sk H p m ∧ m ≤ 1000 ∧ ∀ H', But p H H' → Q (.bl true) H'
/-- told widths -/
def Sps (H : Hp) (l : Addr) (as : List Addr) : Prop := H l = some (.lst (as.map V.ref)) ∧ ∀ a ∈ as, ∃ p q : Int, Fr H a p q ∧ Qn p q ∧ 0 < p
theorem Sps.ex {H H' : Hp} {l : Addr} {as : List Addr} (h : Sps H l as) (e : Evl.Ex H H') : Sps H' l as := ⟨e _ _ h.1, fun a ha => by
  obtain ⟨p, q, h1, h2⟩ := h.2 a ha
  exact ⟨p, q, e _ _ h1, h2⟩⟩
theorem Sps.more {sk l t : Addr} {H : Hp} {as : List Addr} {p q : Int} (h : Sps (wo sk H) l as) (hf : Fr (wo sk H) t p q) (hq : Qn p q) (p0 : 0 < p) : H l = some (.lst (as.map V.ref)) ∧ Sps (wo sk (upd H l (.lst (as.map V.ref ++ [.ref t])))) l (as ++ [t]) := by
  have lsk : l ≠ sk := fun z => by
    have := h.1
    unfold wo at this
    rw [if_pos z] at this
    cases this
  have hl := wo_ex _ _ h.1
  have up : ∀ (c : Addr) (o : HO), c ≠ l → wo sk H c = some o → wo sk (upd H l (.lst (as.map V.ref ++ [.ref t]))) c = some o := wo_upd (x := .lst (as.map V.ref ++ [.ref t]))
  have frk : ∀ {a : Addr} {u b : Int}, Fr (wo sk H) a u b → Fr (wo sk (upd H l (.lst (as.map V.ref ++ [.ref t])))) a u b := fun {a u b} h => up _ _ (fun z => by
    have h2 := wo_ex _ _ h
    rw [z, hl] at h2
    cases h2) h
  refine ⟨hl, wo_at lsk (Eq.trans upd_same (by rw [List.map_append]; rfl)), fun a ha => ?_⟩
  rcases List.mem_append.mp ha with h' | h'
  · obtain ⟨p', q', h1, h2⟩ := h.2 a h'
    exact ⟨p', q', frk h1, h2⟩
  · rw [List.mem_singleton.mp h']
    exact ⟨p, q, frk hf, hq, p0⟩
theorem err_same {σ : L2.St} {H : Hp} {Q : Bool → Hp → Prop} {A g : Addr} {j : Nat} {p q : Int} {sev : List Wy} {x : Str} (h2 : σ[2]? = some (some (.ref A))) (hj : σ[j]? = some (some (.ref g))) (hv : Dq H (.ref A) (svD sev)) (h8 : sev.length ≤ 8) (ok : ∀ w ∈ sev, OkWy w) (hg : Fr H g p q) (hp : p.natAbs < 2 ^ 50) (hq : q.natAbs < 2 ^ 50)
    (hc : x = "fraction" ∧ ¬ (frB p q = true ∧ 0 < p) ∨ x = "range" ∧ Qn p q ∧ 0 < p ∧ owed p q sev = none) (hx : (PyData.shown (.str x)).length ≤ 10) (k : ∀ H', Evl.Ex H H' → Q false H') :
    tTest (tOp rNe (tCB rShowW (tCons (tCall spError [] E0 (tCons (tVar 2) (tCons (tVar j) tNil))) tNil)) (tCB rShowW (tCons (tLst (tCons (tC (.str x)) (tCons (tVar j) (tCons (tC (.bl true)) (tCons (tC (.bl false)) tNil))))) tNil))) σ H Q := by
  obtain ⟨w1, w2, w3⟩ := sh_er hx hp hq
  have four : 4 ≤ sizeLine := by show 4 ≤ sizeLine; decide
  refine ⟨_, h2, _, hj, .ref A, g, p, q, sev, x, rfl, hv, h8, ok, hg, hc, fun r H1 e1 hr => ⟨r, _, rfl, hr, w1, w2, w3, _, hj, four, fun q5 hq5 => ?_⟩⟩
  have e5 := Evl.Ex.new (o := .lst [.str x, .ref g, .bl true, .bl false]) hq5
  have e15 := e1.trans e5
  refine ⟨q5, erD x p q, rfl, .lst upd_same (.cons (.str x) (.cons (.tup (e15 _ _ hg) (.cons (.int p) (.cons (.int q) .nil))) (.cons (.bl true) (.cons (.bl false) .nil)))), w1, w2, w3, rfl, _, rfl, ?_⟩
  show Q (!decide (V.str (erD x p q).shown = V.str (erD x p q).shown)) _
  rw [decide_eq_true rfl]
  exact k _ e15
/-- what is owed, so far -/
def Ow (H : Hp) (p q : Int) (sev : List Wy) (v : V) : Prop := (v = .non ∧ owed p q sev = none) ∨ ∃ (w : Wy) (t : Addr), v = .ref t ∧ owed p q sev = some w ∧ Dq H (.ref t) (anD p q w)
theorem Sv.pres {sk A : Addr} {rows : List Row} {H : Hp} {n : Nat} (h : Sv sk A rows H) (s : Sk H sk n) : ∀ a ∈ zl sk A rows, H a ≠ none := fun a ha => by
  rcases List.mem_cons.mp ha with rfl | ha
  · obtain ⟨_, _, _, h1, _⟩ := s
    rw [h1]
    exact fun z => by cases z
  rcases List.mem_cons.mp ha with rfl | ha
  · rw [h.hA]
    exact fun z => by cases z
  · obtain ⟨r, hr, rfl⟩ := List.mem_map.mp ha
    obtain ⟨_, _, _, _, _, _, h1, _⟩ := h.row r hr
    rw [h1]
    exact fun z => by cases z
theorem nw_woN {z : List Addr} {H H' : Hp} (hz : ∀ a ∈ z, H a ≠ none) : Evl.Ex (Nw H H') (woL z H') := fun c o h => woL_at (fun m => hz c m (nw_none h)) (Nw.ex _ _ h)
theorem ends_at {H : Hp} {ys : List V} {pls : List Plc} (h : DqAll H ys (pls.map plD)) : ys.length = pls.length := by rw [dqall_lenN h, List.length_map]
theorem rk_pick {v : V} (hv : v ∈ [V.non, .int 0, .int 1, .int 5]) : ∃ rk : Option Int, v = wV rk ∧ ∀ z, rk = some z → 0 ≤ z ∧ z ≤ 1000 := by
  simp only [List.mem_cons, List.not_mem_nil, or_false] at hv
  rcases hv with rfl | rfl | rfl | rfl
  · exact ⟨none, rfl, fun z h => by cases h⟩
  · exact ⟨some 0, rfl, fun z h => by cases h; decide⟩
  · exact ⟨some 1, rfl, fun z h => by cases h; decide⟩
  · exact ⟨some 5, rfl, fun z h => by cases h; decide⟩
section
variable {base : Heap} {mg : Str → Option Value} {K : PySem.W.Frag} {w : World} {P : Program}
theorem ok_right19 {f : Addr} {fd : FuncData} (F : Fun K "_law_right" "_law_right" s_l_right f fd) (hN : NoDig K) (mRe : mg "repr" = none) (mR : mg "range" = none) (mL : mg "len" = none)
    (cC : Cal P w K mg base 1 "_law_coin" p_l_coin spCoin) (cEn : Cal P w K mg base 3 "_law_ends" p_l_ends spEnds) (cF : Cal P w K mg base 3 "_law_form" p_l_form spFormL) (cP : Cal P w K mg base 1 "_law_pieces" p_l_pieces spPieces) (cW : Cal P w K mg base 3 "_law_wl_width" p_l_width (spWid 90000 4)) (cR : Cal P w K mg base 2 "_law_wl_ratio" p_l_ratio spRatio)
    (cO : Cal P w K mg base 5 "_law_owed" p_l_owed spOwed) (cE : Cal P w K mg base 8 "_law_error" p_l_error spError) (cWa : Cal P w K mg base 7 "way_at" p_way_at spWay) (cWk : CalK P w K mg base 7 "way_at" p_way_at ["told", "width"] gWR2 spWay) (cWw : Cal P w K mg base 2 "_law_wl_wrong_width" p_l_wrong_width spWw) : FnG P w K mg base 9 f fd p_l_right spRight19 := by
  refine Fun.okG F sc_l_right (fun vs H Q E h => ?_) (fun cdv A0 outer s H vs Q E hg hr h => ?_)
  · obtain ⟨p, m, rfl, _⟩ := h
    rfl
  · obtain ⟨sk, m, rfl, hS, hm, kk⟩ := h
    have nd := sc_l_right.nd
    have n200 := n200e
    have two : 2 ≤ sizeLine := by show 2 ≤ sizeLine; decide
    have three : 3 ≤ sizeLine := by show 3 ≤ sizeLine; decide
    have r1 : Room 1 _ := hr.mono (by decide)
    have r2 : Room 2 _ := hr.mono (by decide)
    have r3 : Room 3 _ := hr.mono (by decide)
    have r5 : Room 5 _ := hr.mono (by decide)
    have r7 : Room 7 _ := hr.mono (by decide)
    have r8 : Room 8 _ := hr.mono (by decide)
    refine ⟨_, pss_cons (ps_par (i := 1) (j := 2) rfl nd rfl rfl (by decide) rfl rfl (pa_cons (pe_c cEn r3 (pa_cons (pv 0) pa_nil)) (pa_cons (pe_lst pa_nil) pa_nil)) (by rfl))
      (pss_cons (ps_for PassesOwn.never rfl (pi_range1 (by rfl) mR (pa_cons (pe_op op_add pe_int (pe_c cC r1 (pa_cons (pv 0) (pa_cons pe_int pa_nil)))) pa_nil)) (pg_name (i := 3) nd rfl (Or.inl rfl)) (pss_cons (ps_setLc (i := 4) (own := [("turn", 14)]) (g := (gName 14)) (tt := tYes) (te := (tCall spFormL [] E0 (tCons (tVar 0) tNil))) rfl nd rfl rfl (sw_true rfl rfl rfl (by decide +kernel)) (pi_range1 (by rfl) mR (pa_cons (pe_c cC r1 (pa_cons (pv 0) (pa_cons pe_int pa_nil))) pa_nil)) (blkOk_by (N := n_l_right) (sc := defScope s_l_right) (by decide +kernel)) (fun _ _ _ _ _ => (pg_name (i := 14) nd rfl (Or.inl rfl))) (fun _ _ _ _ _ => pts_nil) (fun _ _ _ _ _ => (pe_c cF r3 (pa_cons (pv 0) pa_nil))))
      (pss_one (ps_expr (pe_bm PySem.F.plainAttrs_list PySem.F.slot_list_append PySem.F.type_list_append mt_append (pv 2) (pa_cons (pe_tup (pa_cons (pe_ix ix_list (pe_lst (pa_cons pe_non (pa_cons pe_int (pa_cons pe_int (pa_cons pe_int pa_nil))))) (pe_c cC r1 (pa_cons (pv 0) (pa_cons pe_int pa_nil))) (fun _ _ => rfl)) (pa_cons (pv 4) (pa_cons (pe_lst pa_nil) pa_nil)))) pa_nil))))))
      (pss_cons (ps_for PassesOwn.never rfl (pi_list (pe_c cP r1 (pa_cons (pv 1) pa_nil))) (pg_name (i := 5) nd rfl (Or.inl rfl)) (pss_cons (ps_set (i := 6) nd rfl (Or.inl rfl) (pe_c cC r1 (pa_cons (pv 0) (pa_cons (pe_op op_add (pe_callB call_len_seq (by rfl) mL PySem.boot_len (pa_cons (pv 2) pa_nil)) pe_int) pa_nil))))
      (pss_one (ps_if (pt_cmpR op_lt (pv 6) (pe_callB call_len_seq (by rfl) mL PySem.boot_len (pa_cons (pv 2) pa_nil)) (nomark _)) (pss_one (ps_expr (pe_bm PySem.F.plainAttrs_list PySem.F.slot_list_insert PySem.F.type_list_insert mt_insert (pe_ix ix_tup (pe_ix ix_list (pv 2) (pv 6) (fun _ _ => rfl)) pe_int (fun _ _ => rfl)) (pa_cons (pe_c cC r1 (pa_cons (pv 0) (pa_cons (pe_op op_add (pe_callB call_len_seq (by rfl) mL PySem.boot_len (pa_cons (pe_ix ix_tup (pe_ix ix_list (pv 2) (pv 6) (fun _ _ => rfl)) pe_int (fun _ _ => rfl)) pa_nil)) pe_int) pa_nil))) (pa_cons (pv 5) pa_nil))))) pss_nil))))
      (pss_cons (ps_set (i := 7) nd rfl (Or.inl rfl) (pe_op op_cat (pe_lc (own := [("place", 15)]) (g := (gName 15)) (tt := (tTest (tOp rEq (tCB (Evl.rLenS K) (tCons (tVar 15) tNil)) (tC (.int 2))))) (te := (tVar 15)) rfl nd (pi_list (pv 1)) (blkOk_by (N := n_l_right) (sc := defScope s_l_right) (by decide +kernel)) (fun _ _ _ _ _ => (pg_name (i := 15) nd rfl (Or.inl rfl))) (fun _ _ _ _ _ => pts_one (pt_cmpR op_eq (pe_callB call_len_seq (by rfl) mL PySem.boot_len (pa_cons (pv 15) pa_nil)) pe_int (nomark _))) (fun _ _ _ _ _ => (pv 15))) (pe_lc (own := [("turn", 14)]) (g := (gName 14)) (tt := tYes) (te := (tCall (spWid 90000 4) [] E0 (tCons (tVar 0) tNil))) rfl nd (pi_range1 (by rfl) mR (pa_cons pe_int pa_nil)) (blkOk_by (N := n_l_right) (sc := defScope s_l_right) (by decide +kernel)) (fun _ _ _ _ _ => (pg_name (i := 14) nd rfl (Or.inl rfl))) (fun _ _ _ _ _ => pts_nil) (fun _ _ _ _ _ => (pe_c cW r3 (pa_cons (pv 0) pa_nil))))))
      (pss_cons (ps_expr (pe_bm PySem.F.plainAttrs_list PySem.F.slot_list_append PySem.F.type_list_append mt_append (pv 7) (pa_cons (pe_c cR r2 (pa_cons (pe_op op_add pe_int (pe_c cC r1 (pa_cons (pv 0) (pa_cons pe_int pa_nil)))) (pa_cons pe_int pa_nil))) pa_nil)))
      (pss_cons (ps_set (i := 8) nd rfl (Or.inl rfl) (pe_callB (call_showW hN hg hr.units) (by rfl) mRe (by decide +kernel) (pa_cons (pv 2) pa_nil)))
      (pss_cons (ps_for PassesOwn.never rfl (pi_list (pe_op op_cat (pv 7) (pe_slice sl_list (pv 7) po_none (po_some pe_int)))) (pg_name (i := 9) nd rfl (Or.inl rfl)) (Evl.pss_cut (ps_set (i := 10) nd rfl (Or.inl rfl) (pe_c cO r5 (pa_cons (pv 2) (pa_cons (pv 9) pa_nil))))
      (Evl.pss_cut (ps_if (PW.pt (pw_and (pt_cmp (pc_isN (pv 10))) (pw_and1 (pt_cmpR op_ne (pe_callB (call_showW hN hg hr.units) (by rfl) mRe (by decide +kernel) (pa_cons (pe_c cE r8 (pa_cons (pv 2) (pa_cons (pv 9) pa_nil))) pa_nil)) (pe_callB (call_showW hN hg hr.units) (by rfl) mRe (by decide +kernel) (pa_cons (pe_lst (pa_cons pe_str (pa_cons (pv 9) (pa_cons pe_bl (pa_cons pe_bl pa_nil))))) pa_nil)) (nomark _))))) (pss_one (ps_ret pe_bl)) pss_nil)
      (Evl.pss_cut (ps_if (pt_cmp (pc_notN (pv 10))) (pss_cons (ps_set (i := 11) nd rfl (Or.inl rfl) (pe_c cWa r7 (pa_cons (pv 2) (pa_cons (pv 9) pa_nil))))
      (pss_cons (ps_if (PW.pt (pw_or (pt_cmpR op_ne (pe_callB (call_showW hN hg hr.units) (by rfl) mRe (by decide +kernel) (pa_cons (pv 11) pa_nil)) (pe_callB (call_showW hN hg hr.units) (by rfl) mRe (by decide +kernel) (pa_cons (pv 10) pa_nil)) (nomark _)) (pw_or1 (pt_cmpR op_ne (pe_callB (call_showW hN hg hr.units) (by rfl) mRe (by decide +kernel) (pa_cons (pe_ck cWk r7 (pk_cons (pv 2) (pk_cons (pv 9) pk_nil))) pa_nil)) (pe_callB (call_showW hN hg hr.units) (by rfl) mRe (by decide +kernel) (pa_cons (pv 10) pa_nil)) (nomark _))))) (pss_one (ps_ret pe_bl)) pss_nil)
      (pss_one (ps_expr (pe_bm PySem.F.plainAttrs_list PySem.F.slot_list_append PySem.F.type_list_append mt_append (pe_ix ix_tup (pv 11) pe_int (fun _ _ => rfl)) (pa_cons (pe_tup (pa_cons pe_int (pa_cons pe_int pa_nil))) pa_nil)))))) pss_nil)
      (pss_cons (ps_set (i := 12) nd rfl (Or.inl rfl) (pe_c cWw r2 (pa_cons (pv 0) pa_nil)))
      (pss_one (ps_if (pt_cmpR op_ne (pe_callB (call_showW hN hg hr.units) (by rfl) mRe (by decide +kernel) (pa_cons (pe_c cE r8 (pa_cons (pv 2) (pa_cons (pv 12) pa_nil))) pa_nil)) (pe_callB (call_showW hN hg hr.units) (by rfl) mRe (by decide +kernel) (pa_cons (pe_lst (pa_cons pe_str (pa_cons (pv 12) (pa_cons pe_bl (pa_cons pe_bl pa_nil))))) pa_nil)) (nomark _)) (pss_one (ps_ret pe_bl)) pss_nil)))))))
      (pss_cons (ps_if (pt_cmpR op_ne (pe_callB (call_showW hN hg hr.units) (by rfl) mRe (by decide +kernel) (pa_cons (pv 2) pa_nil)) (pv 8) (nomark _)) (pss_one (ps_ret pe_bl)) pss_nil)
      (pss_cons (ps_set (i := 13) nd rfl (Or.inl rfl) (pe_c cC r1 (pa_cons (pv 0) (pa_cons (pe_callB call_len_seq (by rfl) mL PySem.boot_len (pa_cons (pv 2) pa_nil)) pa_nil))))
      (pss_cons (ps_expr (pe_bm0 PySem.F.plainAttrs_list PySem.F.slot_list_clear PySem.F.type_list_clear mt_clear (pe_ix ix_tup (pe_ix ix_list (pv 2) (pv 13) (fun _ _ => rfl)) pe_int (fun _ _ => rfl))))
      (pss_cons (ps_for PassesOwn.never rfl (pi_list (pv 7)) (pg_name (i := 9) nd rfl (Or.inl rfl)) (Evl.pss_cut (ps_set (i := 10) nd rfl (Or.inl rfl) (pe_c cO r5 (pa_cons (pv 2) (pa_cons (pv 9) pa_nil))))
      (Evl.pss_cut (ps_if (PW.pt (pw_and (pt_cmp (pc_isN (pv 10))) (pw_and1 (pt_cmpR op_ne (pe_callB (call_showW hN hg hr.units) (by rfl) mRe (by decide +kernel) (pa_cons (pe_c cE r8 (pa_cons (pv 2) (pa_cons (pv 9) pa_nil))) pa_nil)) (pe_callB (call_showW hN hg hr.units) (by rfl) mRe (by decide +kernel) (pa_cons (pe_lst (pa_cons pe_str (pa_cons (pv 9) (pa_cons pe_bl (pa_cons pe_bl pa_nil))))) pa_nil)) (nomark _))))) (pss_one (ps_ret pe_bl)) pss_nil)
      (pss_one (ps_if (PW.pt (pw_and (pt_cmp (pc_notN (pv 10))) (pw_and1 (pt_cmpR op_ne (pe_callB (call_showW hN hg hr.units) (by rfl) mRe (by decide +kernel) (pa_cons (pe_c cWa r7 (pa_cons (pv 2) (pa_cons (pv 9) pa_nil))) pa_nil)) (pe_callB (call_showW hN hg hr.units) (by rfl) mRe (by decide +kernel) (pa_cons (pv 10) pa_nil)) (nomark _))))) (pss_one (ps_ret pe_bl)) pss_nil)))))
      (pss_one (ps_ret pe_bl)))))))))))), ?_⟩
    refine ⟨_, rfl, sk, m, rfl, hS, by omega, fun E ys pls H1 b1 s1 hE0 hE hys hpl hok => ⟨Nat.zero_le _, fun A hA => ⟨_, _, rfl, ?_⟩⟩⟩
    have hylen := ends_at hys
    have hA0 := but_none b1 s1 hA
    have Ask := sk_ne s1 hA
    have f1 := Evl.Ex.new (o := .lst []) hA
    have g1 := upd_same (H := H1) (a := A) (o := .lst [])
    have o1 : Evl.Ex (wo sk H1) (woL (zl sk A []) (upd H1 A (.lst []))) := fun c o z => woL_at (fun mm => by
      have z2 := wo_ex _ _ z
      have z3 := wo_ne z
      simp only [zl, List.map_nil, List.mem_cons, List.not_mem_nil, or_false] at mm
      rcases mm with rfl | rfl
      · exact z3 rfl
      · rw [hA] at z2
        cases z2) (f1 _ _ (wo_ex _ _ z))
    generalize upd H1 A (.lst []) = H2 at f1 g1 o1
    have b2 := b1.trans (But.of_ex (p := sk) f1)
    have s2 := s1.ex f1
    have v2 : Sv sk A [] H2 := ⟨g1, fun r h => (by cases h), List.nodup_nil, List.not_mem_nil, List.not_mem_nil, fun r h => (by cases h), Ask⟩
    refine ⟨_, rfl, sk, 4, m + 100, rfl, s2, by omega, by decide, by decide, fun c0 H3 c00 c01 b3 s3 z3 => ⟨_, _, rfl, rfl, 1 + c0, rfl, by omega, by omega, ?_⟩⟩
    have b03 := b2.trans b3
    refine for_range (n := (1 + c0).toNat) (fun i σ H' => ∃ (rows : List Row) (v3 v4 : Option V), σ = [some (.ref sk), some (.ref E), some (.ref A), v3, v4, none, none, none, none, none, none, none, none, none, none, none] ∧ But sk H H' ∧ Sk H' sk (m + 101 + 300 * i) ∧ Sv sk A rows H' ∧ rows.length = i ∧ Evl.Ex (wo sk H1) (woL (zl sk A rows) H') ∧ ∀ r ∈ rows, H r.R = none ∧ r.w.pcs = [])
      ⟨[], none, none, rfl, b03, s3, v2.but b3, rfl, o1.trans (woL_but zl_sk b3), fun r h => by cases h⟩ ?_ ?_
    · rintro i σ H4 hi ⟨rows, v3, v4, rfl, b4, s4, sv4, hl4, o4, hr4⟩
      refine ⟨_, rfl, sk, 5, _, rfl, s4, by omega, by decide, by decide, fun cnt H5 n0 n1 b5 s5 z5 => ⟨cnt, rfl, by omega, by omega, fun D hD => ?_⟩⟩
      have sv5 := sv4.but b5
      have pr5 := sv5.pres s5
      have Dz : D ∉ zl sk A rows := fun mm => pr5 D mm hD
      have Dsk := sk_ne s5 hD
      have e5 := Evl.Ex.new (o := .lst []) hD
      refine lc_range (n := cnt.toNat) (fun j H' => ∃ (acc : List V) (fs : List Fm), But sk H5 H' ∧ Sk H' sk (m + 101 + 300 * i + 1 + 50 * j) ∧ H' D = some (.lst acc) ∧ DqAll (woL (D :: zl sk A rows) H') acc (fs.map fmD) ∧ fs.length = j ∧ ∀ f ∈ fs, OkFm f) ⟨[], [], But.of_ex e5, s5.ex e5, upd_same, .nil, rfl, fun f h => by cases h⟩ ?_ ?_
      · rintro j H6 hj ⟨acc, fs, b6, s6, h6, hA6, hl6, ok6⟩
        refine ⟨rfl, ?_⟩
        unfold tYes
        refine if_t rfl ?_
        refine ⟨_, rfl, sk, _, rfl, s6, by omega, fun t f H7 b7 s7 ht hf okf => ?_⟩
        have h7 := b7 _ _ Dsk h6
        have sv6 := sv5.but b6
        have pr6 : ∀ a ∈ D :: zl sk A rows, H6 a ≠ none := fun a ha => by
          rcases List.mem_cons.mp ha with rfl | ha
          · rw [h6]; exact fun z => by cases z
          · exact sv6.pres s6 a ha
        obtain ⟨x, y, q1, q2, q3⟩ := hf
        have dqf : Dq (Nw H6 H7) (.ref t) (fmD f) := .tup q1 (.cons (.lst q2 (dqi _)) (.cons (.lst q3 (dqi _)) .nil))
        refine ⟨acc, h7, ?_, acc ++ [.ref t], fs ++ [f], but_upd (H := H7) (b6.trans b7) hD, (s7.upd Dsk).le (by omega), upd_same, ?_, by rw [List.length_append, hl6]; rfl, fun f' hf' => ?_⟩
        · rw [dqall_lenN hA6, List.length_map, hl6]
          exact Nat.lt_of_lt_of_le (show j < 100 by omega) (by decide)
        · rw [List.map_append]
          have up := woL_set (z := D :: zl sk A rows) (H := H7) (o := .lst (acc ++ [.ref t])) (L := D) List.mem_cons_self
          exact dqall_snoc ((hA6.go (woL_but (List.mem_cons_of_mem _ zl_sk) b7)).go up) ((dqf.go (nw_woN pr6)).go up)
        · rcases List.mem_append.mp hf' with h | h
          · exact ok6 f' h
          · rw [List.mem_singleton.mp h]
            exact okf
      rintro H6 ⟨acc, fs, b6, s6, h6, hA6, hl6, ok6⟩
      have sv6 := sv5.but b6
      refine ⟨_, rfl, .inl ⟨rfl, _, SqL.of sv6.hA⟩, ?_⟩
      show tOp (rIxL K) (tLst _) (tCall spCoin [] E0 _) _ _ _
      refine pick_read (xs := [.non, .int 0, .int 1, .int 5]) rfl (by decide) (by decide) rfl s6 (by omega) (fun _ _ q => q) fun v H7 hv b7 s7 => ?_
      obtain ⟨rk, rfl, hrk⟩ := rk_pick hv
      have sv7 := sv6.but b7
      have h7 := b7 _ _ Dsk h6
      have hA7 := hA6.go (woL_but (List.mem_cons_of_mem _ zl_sk) b7)
      refine ⟨_, rfl, Nat.zero_le _, fun R hR => ⟨three, fun t ht => ?_⟩⟩
      have q1 := Evl.Ex.new (o := .lst []) hR
      have p1 := upd_same (H := H7) (a := R) (o := .lst [])
      have pr7 := sv7.pres s7
      have Rz : R ∉ zl sk A rows := fun mm => pr7 R mm hR
      have RD : R ≠ D := fun z => by rw [z, h7] at hR; cases hR
      have Rsk := sk_ne s7 hR
      generalize upd H7 R (.lst []) = H8 at q1 p1 ht
      have q2 := Evl.Ex.new (o := .tup [wV rk, .ref D, .ref R]) ht
      have p2 := upd_same (H := H8) (a := t) (o := .tup [wV rk, .ref D, .ref R])
      have tz : t ∉ zl sk A rows ++ [R] := fun mm => by
        rcases List.mem_append.mp mm with mm | mm
        · exact pr7 t mm (Evl.fresh_back q1 ht)
        · rw [List.mem_singleton.mp mm, p1] at ht
          cases ht
      generalize upd H8 t (.tup [wV rk, .ref D, .ref R]) = H9 at q2 p2
      have q12 := q1.trans q2
      have hD9 := q12 _ _ h7
      have Dz2 : D ∉ zl sk A rows ++ [R] := fun mm => by
        rcases List.mem_append.mp mm with mm | mm
        · exact Dz mm
        · exact RD (List.mem_singleton.mp mm).symm
      have old : Evl.Ex (woL (D :: zl sk A rows) H7) (woL (zl sk A rows ++ [R]) H9) := fun c o z => by
        have z1 := woL_ne z
        have z2 := woL_ex _ _ z
        refine woL_at (fun mm => ?_) (q12 _ _ z2)
        rcases List.mem_append.mp mm with mm | mm
        · exact z1 (List.mem_cons_of_mem _ mm)
        · rw [List.mem_singleton.mp mm, hR] at z2
          cases z2
      have b09 := (((b4.trans b5).trans b6).trans b7).trans (But.of_ex (p := sk) q12)
      have svn := sv7.add (w := ⟨rk, fs, []⟩) (But.of_ex q12) hR Rsk (q2 _ _ p1) rfl ⟨⟨by show fs.length ≤ 8; omega, ok6, Nat.zero_le _, fun c h => by cases h⟩, hrk⟩ (woL_at tz p2) (woL_at Dz2 hD9) (hA7.go old)
      have hA9 := q12 _ _ sv7.hA
      have s9 := s7.ex q12
      have ez : zl sk A (rows ++ [⟨t, R, ⟨rk, fs, []⟩⟩]) = zl sk A rows ++ [R] := by
        unfold zl
        rw [List.map_append]
        rfl
      have b47 := (b5.trans b6).trans b7
      refine ⟨A, _, _, rfl, rfl, hA9, ?_, rows ++ [⟨t, R, ⟨rk, fs, []⟩⟩], _, _, rfl, but_upd (H := H9) b09 hA0, (s9.upd Ask).le (by omega), svn, by rw [List.length_append, hl4]; rfl, ?_, fun r hr => ?_⟩
      · rw [List.length_map, hl4]
        exact Nat.lt_of_lt_of_le (show i < 100 by omega) (by decide)
      · rw [ez]
        refine (o4.trans (fun c o z => ?_)).trans (woL_set (List.mem_append_left _ zl_A))
        have z1 := woL_ne z
        have z2 := woL_ex _ _ z
        have z3 := b47 _ _ (fun e => z1 (e ▸ zl_sk)) z2
        refine woL_at (fun mm => ?_) (q12 _ _ z3)
        rcases List.mem_append.mp mm with mm | mm
        · exact z1 mm
        · rw [List.mem_singleton.mp mm, hR] at z3
          cases z3
      · rcases List.mem_append.mp hr with h | h
        · exact hr4 r h
        · rw [List.mem_singleton.mp h]
          exact ⟨but_none ((b4.trans b5).trans (b6.trans b7)) s7 hR, rfl⟩
    rintro σ H4 ⟨rows, v3, v4, rfl, b4, s4, sv4, hl4, o4, hr4⟩
    clear o1 v2 g1 f1 b2 s2 b3 s3 b03
    have sA4 := sv4.pres s4
    have hys4 := hys.go o4
    have hE4 : H4 E = some (.lst ys) := woL_ex _ _ (o4 _ _ hE)
    have hokp : ∀ p ∈ pls, OkPl p := fun p hp => (hok p hp).1
    refine ⟨_, rfl, E, ys, pls, zl sk A rows, rfl, hE4, hys4, sA4, by omega, hokp, fun L ps cs H5 e5 hL0 hL hcs okc hlen => ⟨L, rfl, ⟨_, SqL.of hL⟩, ?_⟩⟩
    generalize hZ : zl sk A rows = Z at *
    have Lz : L ∉ Z := fun mm => sA4 L mm hL0
    have Zsk : sk ∈ Z := hZ ▸ zl_sk
    have sv5 := sv4.but (But.of_ex e5)
    obtain ⟨hpl2, hps⟩ := dqall_get hcs
    refine for_list (xs := ps) (fun i σ H' => ∃ (rows : List Row) (v3 v4 v5 v6 : Option V), σ = [some (.ref sk), some (.ref E), some (.ref A), v3, v4, v5, v6, none, none, none, none, none, none, none, none, none] ∧ But sk H H' ∧ Sk H' sk (m + 1700 + 2 * i) ∧ Sv sk A rows H' ∧ zl sk A rows = Z ∧ rows.length = (1 + c0).toNat ∧ Evl.Ex (woL Z H5) (woL Z H') ∧ ∀ r ∈ rows, H r.R = none ∧ r.w.pcs.length ≤ i)
      ⟨rows, v3, v4, none, none, rfl, b4.trans (But.of_ex e5), (s4.ex e5).le (by omega), sv5, hZ, hl4, Evl.Ex.refl _, fun r hr => ⟨(hr4 r hr).1, by rw [(hr4 r hr).2]; exact Nat.zero_le _⟩⟩ (fun i σ H' _ ⟨_, _, _, _, _, _, _, _, _, _, _, e, _⟩ => SqL.of (woL_ex _ _ (e _ _ (woL_at Lz hL)))) ?_ ?_
    · clear sv4 sv5 hZ hr4 hl4 o4 b4 s4
      clear rows v3 v4
      rintro i x σ H6 hi ⟨rows, v3, v4, v5, v6, rfl, b6, s6, sv6, hZ, hl6, e6, hr6⟩
      obtain ⟨c, hc, hdc⟩ := hps i x hi
      have hlt : i < cs.length := (List.getElem?_eq_some_iff.mp hc).1
      have many : ((rows.map fun r => V.ref r.t).length : Int) = (rows.length : Int) := by rw [List.length_map]
      refine ⟨_, rfl, _, rfl, A, _, rfl, .inl (SqL.of sv6.hA), _, _, rfl, rfl, sk, _, m + 1700 + 2 * i, rfl, s6, by omega, by omega, by rw [n200]; omega, fun pk H7 k0 k1 b7 s7 z7 => ?_⟩
      have sv7 := sv6.but b7
      have e67 := e6.trans (woL_but Zsk b7)
      refine ⟨_, rfl, _, rfl, A, _, rfl, .inl (SqL.of sv7.hA), _, _, rfl, rfl, _, rfl, ?_⟩
      by_cases hpk : pk < (rows.length : Int)
      rotate_left
      · exact if_f (decide_eq_false (by rw [many]; exact hpk)) ⟨rows, _, _, _, _, rfl, b6.trans b7, s7.le (by omega), sv7, hZ, hl6, e67, fun r hr => ⟨(hr6 r hr).1, Nat.le_succ_of_le (hr6 r hr).2⟩⟩
      refine if_t (decide_eq_true (by rw [many]; exact hpk)) ?_
      obtain ⟨n, rfl⟩ : ∃ n : Nat, pk = (n : Int) := ⟨pk.toNat, by omega⟩
      obtain ⟨r, hr⟩ : ∃ r, rows[n]? = some r := ⟨_, List.getElem?_eq_getElem (by omega)⟩
      have rm := List.mem_of_getElem? hr
      have hat : (rows.map fun r => V.ref r.t)[n]? = some (.ref r.t) := by rw [List.getElem?_map, hr]; rfl
      obtain ⟨F, fs, items, q1, q2, q3, q4, q5⟩ := sv7.row r rm
      have il : items.length = r.w.pcs.length := by rw [dqall_lenN q5, List.length_map]
      have pl := (hr6 r rm).2
      refine ⟨_, rfl, _, rfl, A, _, _, .ref r.t, rfl, rfl, SqL.of sv7.hA, atI_nat hat, r.t, _, _, .ref r.R, rfl, rfl, SqT.of (woL_ex _ _ q1), rfl, .inl ⟨rfl, _, SqL.of q4⟩, ?_⟩
      refine ⟨_, rfl, _, rfl, _, rfl, A, _, _, .ref r.t, rfl, rfl, SqL.of sv7.hA, atI_nat hat, r.t, _, _, .ref r.R, rfl, rfl, SqT.of (woL_ex _ _ q1), rfl, r.R, _, rfl, .inl (SqL.of q4), _, _, rfl, rfl, sk, _, m + 1700 + 2 * i + 1, rfl, s7, by omega, by omega, by rw [n200]; omega, fun j H8 j0 j1 b8 s8 z8 => ?_⟩
      have sv8 := sv7.but b8
      obtain ⟨J, rfl⟩ : ∃ J : Nat, j = (J : Int) := ⟨j.toNat, by omega⟩
      have Rsk : r.R ≠ sk := fun z => sv7.nS (z ▸ List.mem_map_of_mem (f := Row.R) rm)
      have q48 := b8 _ _ Rsk q4
      have e68 := e67.trans (woL_but Zsk b8)
      refine ⟨_, rfl, r.R, items, (J : Int), x, rfl, rfl, q48, ?_, by omega, by omega, ?_⟩
      · rw [il]
        exact Nat.lt_of_le_of_lt (show _ ≤ 100 by omega) (by decide)
      rw [hZ] at q5
      have i8 := q5.go (woL_but Zsk b8)
      have x8 := hdc.go e68
      have jl : J ≤ items.length := by omega
      have okr := (sv7.ok r rm).1
      have newD : DqAll (woL (zl sk A rows) H8) (items.take J ++ [x] ++ items.drop J) ((r.w.pcs.take J ++ [c] ++ r.w.pcs.drop J).map pcD) := by
        rw [hZ, List.map_append, List.map_append, List.map_take, List.map_drop]
        exact dqall_app (dqall_app (dqall_take i8) (.cons x8 .nil)) (dqall_drop i8)
      have nl : (r.w.pcs.take J ++ [c] ++ r.w.pcs.drop J).length = r.w.pcs.length + 1 := by
        rw [List.length_append, List.length_append, List.length_take, List.length_drop]
        show min J r.w.pcs.length + 1 + (r.w.pcs.length - J) = _
        omega
      obtain ⟨svn, ezn⟩ := sv8.put hr newD (by omega) (fun d hd => by
        rcases List.mem_append.mp hd with h | h
        · rcases List.mem_append.mp h with h | h
          · exact okr.2.2.2 d (List.mem_of_mem_take h)
          · rw [List.mem_singleton.mp h]
            exact okc c (List.mem_of_getElem? hc)
        · exact okr.2.2.2 d (List.mem_of_mem_drop h))
      refine ⟨_, _, _, _, _, rfl, but_upd (H := H8) ((b6.trans b7).trans b8) (hr6 r rm).1, (s8.upd Rsk).le (by omega), svn, ezn.trans hZ, by rw [List.length_set]; exact hl6, e68.trans (woL_set (hZ ▸ zl_R (List.mem_map_of_mem (f := Row.R) rm))), fun r2 hr2 => ?_⟩
      rcases List.mem_or_eq_of_mem_set hr2 with h | rfl
      · exact ⟨(hr6 r2 h).1, Nat.le_succ_of_le (hr6 r2 h).2⟩
      · exact ⟨(hr6 r rm).1, by show (r.w.pcs.take J ++ [c] ++ r.w.pcs.drop J).length ≤ i + 1; omega⟩
    rintro σ H6 ⟨rowsN, v3', v4', v5, v6, rfl, b6, s6, sv6, hZ6, hl6, e6, hr6⟩
    rw [hpl2] at s6
    have s6 := s6.le (show m + 1700 + 2 * cs.length ≤ m + 1800 by omega)
    have o6 := (o4.trans (woL_go e5)).trans e6
    have okN := sv6.ok
    have rlen : rowsN.length ≤ 4 := by omega
    have rpos : 0 < rowsN.length := by omega
    have rN := fun r hr => (hr6 r hr).1
    clear hr6 sv4 sv5 hr4 hl4 o4 b4 s4 hZ e6 e5 hys4 hE4 sA4 hcs hps
    -- the widths that are asked
    obtain ⟨_, hyi⟩ := dqall_get hys
    have hE6 : H6 E = some (.lst ys) := woL_ex _ _ (o6 _ _ hE)
    have Esk : E ≠ sk := wo_ne hE
    refine ⟨_, rfl, E, rfl, ⟨_, SqL.of hE6⟩, fun D1 hD1 => ?_⟩
    have D1sk := sk_ne s6 hD1
    refine lc_list (xs := ys) (fun i H' => Evl.Ex H6 H' ∧ ∃ as : List Addr, H' D1 = some (.lst (as.map V.ref)) ∧ as.length ≤ i ∧ ∀ a ∈ as, ∃ p q : Int, Fr (wo sk H6) a p q ∧ Qn p q ∧ 0 < p) ⟨Evl.Ex.new hD1, [], upd_same, Nat.le_refl _, fun a h => by cases h⟩ (fun i H' _ q => SqL.of (q.1 _ _ hE6)) ?_ ?_
    · rintro i x H7 hi ⟨e7, as, h7, hl7, hf7⟩
      obtain ⟨pl, hpl', hd⟩ := hyi i x hi
      have hlt : i < pls.length := (List.getElem?_eq_some_iff.mp hpl').1
      obtain ⟨a, rfl, ha⟩ := dq_pl (hd.go o6)
      have okE := hok pl (List.mem_of_getElem? hpl')
      refine ⟨rfl, ?_⟩
      cases pl with
      | fr p q =>
        have ha : Fr (woL Z H6) a p q := ha
        have ha2 : Fr (wo sk H6) a p q := woL_wo Zsk _ _ ha
        show tTest (tOp rEq (tCB (Evl.rLenS K) (tCons (tVar 15) tNil)) (tC (.int 2))) _ _ _
        refine ⟨_, rfl, a, _, rfl, .inr (SqT.of (e7 _ _ (wo_ex _ _ ha2))), rfl, _, rfl, if_t (by rfl) ?_⟩
        show tVar 15 _ _ _
        obtain ⟨hq, p0⟩ := okE.2 p q rfl
        refine ⟨_, rfl, as.map V.ref, h7, ?_, Evl.Ex.mut e7 hD1, as ++ [a], Eq.trans upd_same (by rw [List.map_append]; rfl), by rw [List.length_append]; show as.length + 1 ≤ i + 1; omega, fun a' ha' => ?_⟩
        · rw [List.length_map]
          exact Nat.lt_of_le_of_lt (show as.length ≤ 100 by omega) (by decide)
        · rcases List.mem_append.mp ha' with h | h
          · exact hf7 a' h
          · rw [List.mem_singleton.mp h]
            exact ⟨p, q, ha2, hq, p0⟩
      | rt n f mm =>
        obtain ⟨l, x, y, z1, z2, z3, z4⟩ := ha
        show tTest (tOp rEq (tCB (Evl.rLenS K) (tCons (tVar 15) tNil)) (tC (.int 2))) _ _ _
        refine ⟨_, rfl, a, _, rfl, .inr (SqT.of (e7 _ _ (woL_ex _ _ z1))), rfl, _, rfl, if_f (by rfl) ⟨e7, as, h7, Nat.le_succ_of_le hl7, hf7⟩⟩
    rintro H7 ⟨e7, as, h7, hl7, hf7⟩
    have s7 := s6.ex e7
    have b67 := But.of_ex (p := sk) e7
    have sp7 : Sps (wo sk H7) D1 as := ⟨wo_at D1sk h7, fun a ha => by
      obtain ⟨p, q, z1, z2, z3⟩ := hf7 a ha
      exact ⟨p, q, b67.wo _ _ z1, z2, z3⟩⟩
    have asl : as.length ≤ 15 := by omega
    refine ⟨3, rfl, by decide, by decide, fun D2 hD2 => ?_⟩
    have D2sk := sk_ne s7 hD2
    refine lc_range (n := 3) (fun i H' => ∃ bs : List Addr, But sk H7 H' ∧ Sk H' sk (m + 1800 + 4 * i) ∧ Sps (wo sk H') D2 bs ∧ bs.length = i)
      ⟨[], But.of_ex (Evl.Ex.new hD2), (s7.ex (Evl.Ex.new hD2)).le (by omega), ⟨wo_at D2sk upd_same, fun a h => (by cases h)⟩, rfl⟩ ?_ ?_
    · rintro i H8 hi ⟨bs, b8, s8, h8, hl8⟩
      refine ⟨rfl, ?_⟩
      unfold tYes
      refine if_t rfl ?_
      show tCall (spWid 90000 4) [] E0 _ _ _ _
      refine ⟨_, rfl, sk, _, rfl, s8, by omega, fun t u b H9 b9 s9 ht hf hq hu => ?_⟩
      obtain ⟨z1, z2⟩ := (h8.ex b9.wo).more hf hq hu
      refine ⟨bs.map V.ref, z1, ?_, bs ++ [t], but_upd (H := H9) (b8.trans b9) hD2, (s9.upd D2sk).le (by omega), z2, by rw [List.length_append, hl8]; rfl⟩
      rw [List.length_map, hl8]
      exact Nat.lt_of_lt_of_le (show i < 100 by omega) (by decide)
    rintro H8 ⟨bs, b8, s8, sp8, hl8⟩
    have sp78 := sp7.ex b8.wo
    refine ⟨D1, D2, _, _, rfl, rfl, wo_ex _ _ sp78.1, wo_ex _ _ sp8.1, ?_, fun S hS0 => ?_⟩
    · rw [List.length_map, List.length_map]
      exact Nat.le_trans (show as.length + bs.length ≤ 100 by omega) (by decide)
    have Ssk := sk_ne s8 hS0
    have e9 := Evl.Ex.new (o := .lst (as.map V.ref ++ bs.map V.ref)) hS0
    have b69 := (b67.trans b8).trans (But.of_ex (p := sk) e9)
    have sp9 : Sps (wo sk (upd H8 S (.lst (as.map V.ref ++ bs.map V.ref)))) S (as ++ bs) := ⟨wo_at Ssk (Eq.trans upd_same (by rw [List.map_append])), fun a ha => by
      rcases List.mem_append.mp ha with h | h
      · obtain ⟨p, q, z1, z2, z3⟩ := sp78.2 a h
        exact ⟨p, q, (But.of_ex (p := sk) e9).wo _ _ z1, z2, z3⟩
      · obtain ⟨p, q, z1, z2, z3⟩ := sp8.2 a h
        exact ⟨p, q, (But.of_ex (p := sk) e9).wo _ _ z1, z2, z3⟩⟩
    have s9 := s8.ex e9
    have S6 : H6 S = none := but_none (b67.trans b8) s8 hS0
    have abl : (as ++ bs).length ≤ 18 := by rw [List.length_append]; omega
    generalize as ++ bs = ss at sp9 abl
    generalize upd H8 S (.lst (as.map V.ref ++ bs.map V.ref)) = H9 at e9 b69 sp9 s9
    have hS9 := wo_ex _ _ sp9.1
    refine ⟨_, rfl, .inl ⟨rfl, _, SqL.of hS9⟩, ?_⟩
    refine ⟨_, rfl, sk, 30, m + 1812, rfl, s9.le (by omega), by omega, by decide, by decide, fun u HA u0 u1 bA sA zA => ⟨_, _, rfl, rfl, ?_⟩⟩
    refine ⟨1 + u, 6, rfl, bigN (n := 10) (Nat.lt_of_lt_of_le (show (1 + u).natAbs < 100 by omega) (by decide)) (by decide), bigN (n := 10) (by decide) (by decide), by decide, fun t HB ht eB hB => ?_⟩
    have bB := bA.trans (But.of_ex (p := sk) eB)
    have sB := sA.ex eB
    have tsk := sk_ne sA ht
    obtain ⟨_, fe⟩ := fr_end (x := 1 + u) (y := 6) (by omega) (by decide) (by omega) (by decide)
    obtain ⟨fq, f0⟩ := fe _ _ rfl
    have spB := sp9.ex bB.wo
    obtain ⟨z1, spC⟩ := spB.more (wo_at tsk hB) fq f0
    refine ⟨S, ss.map V.ref, _, rfl, rfl, z1, ?_, ?_⟩
    · rw [List.length_map]
      exact Nat.lt_of_le_of_lt (show ss.length ≤ 100 by omega) (by decide)
    have bC : But sk H6 (upd HB S (.lst (ss.map V.ref ++ [.ref t]))) := but_upd (H := HB) (b69.trans bB) S6
    have sC := (sB.upd Ssk (o := .lst (ss.map V.ref ++ [.ref t]))).le (show _ ≤ m + 1820 by omega)
    have ssl : (ss ++ [t]).length ≤ 19 := by rw [List.length_append]; show ss.length + 1 ≤ 19; omega
    have ssp : 0 < (ss ++ [t]).length := by rw [List.length_append]; show 0 < ss.length + 1; omega
    generalize ss ++ [t] = sp at spC ssl ssp
    generalize upd HB S (.lst (ss.map V.ref ++ [.ref t])) = HC at bC spC sC
    clear sp9 spB sp8 sp78 sp7 b69 b67 b8 bA bB e9 e7 hf7 hS9 hB eB
    have svC := sv6.but bC
    have b0C := b6.trans bC
    have sevl : (rowsN.map Row.w).length ≤ 5 := by rw [List.length_map]; omega
    have sev8 : (rowsN.map Row.w).length ≤ 8 := by omega
    have okS := svC.oks
    have okW : ∀ w ∈ rowsN.map Row.w, OkWy w := fun w hw => (okS w hw).1
    obtain ⟨y1, y2, y3⟩ := sh_sv sevl okS
    refine ⟨_, rfl, A, _, rfl, svC.dq, y1, y2, y3, ?_⟩
    generalize hBS : (svD (rowsN.map Row.w)).shown = BS
    have hSC := wo_ex _ _ spC.1
    refine ⟨_, rfl, _, rfl, 1, rfl, S, _, rfl, SqL.of hSC, fun p4 hp4 => ?_⟩
    have eD := Evl.Ex.new (o := .lst (cutV (sp.map V.ref) none (some 1))) hp4
    have gD : upd HC p4 (.lst (cutV (sp.map V.ref) none (some 1))) p4 = some (.lst ((sp.take 1).map V.ref)) := Eq.trans upd_same (by rw [show (1 : Int) = ((1 : Nat) : Int) from rfl, cut_min, List.map_take])
    generalize upd HC p4 (.lst (cutV (sp.map V.ref) none (some 1))) = HD at eD gD
    refine ⟨S, p4, _, _, rfl, rfl, eD _ _ hSC, gD, ?_, fun L3 hL3 => ?_⟩
    · rw [List.length_map, List.length_map, List.length_take]
      exact Nat.le_trans (show sp.length + min 1 sp.length ≤ 100 by omega) (by decide)
    have L3sk := sk_ne (sC.ex eD) hL3
    have eE := Evl.Ex.new (o := .lst (sp.map V.ref ++ (sp.take 1).map V.ref)) hL3
    have gE : upd HD L3 (.lst (sp.map V.ref ++ (sp.take 1).map V.ref)) L3 = some (.lst ((sp ++ sp.take 1).map V.ref)) := Eq.trans upd_same (by rw [List.map_append])
    generalize upd HD L3 (.lst (sp.map V.ref ++ (sp.take 1).map V.ref)) = HE at eE gE
    have eCE := eD.trans eE
    have bCE := But.of_ex (p := sk) eCE
    have sE := sC.ex eCE
    have svE := svC.but bCE
    have spE := spC.ex bCE.wo
    have all : ∀ a ∈ sp ++ sp.take 1, ∃ p q : Int, Fr (wo sk HE) a p q ∧ Qn p q ∧ 0 < p := fun a ha => by
      rcases List.mem_append.mp ha with h | h
      · exact spE.2 a h
      · exact spE.2 a (List.mem_of_mem_take h)
    have l20 : (sp ++ sp.take 1).length ≤ 20 := by rw [List.length_append, List.length_take]; omega
    generalize sp ++ sp.take 1 = sq at gE all l20
    refine ⟨L3, rfl, ⟨_, SqL.of gE⟩, for_list (xs := sq.map V.ref) (fun i σ H' => ∃ (v9 v10 v11 v12 : Option V), σ = [some (.ref sk), some (.ref E), some (.ref A), v3', v4', v5, v6, some (.ref S), some (.str BS), v9, v10, v11, v12, none, none, none] ∧ But sk HE H' ∧ Sk H' sk (m + 1820 + 3 * i))
      ⟨none, none, none, none, rfl, But.refl _ _, sE.le (by omega)⟩ (fun i σ H' _ ⟨_, _, _, _, _, b, _⟩ => SqL.of (b _ _ L3sk gE)) ?_ ?_⟩
    · rintro i x σ HF hi ⟨v9, v10, v11, v12, rfl, bF, sF⟩
      obtain ⟨g, hgi, rfl⟩ : ∃ g, sq[i]? = some g ∧ x = .ref g := by
        rw [List.getElem?_map] at hi
        cases e : sq[i]? with
        | none => rw [e] at hi; cases hi
        | some g => rw [e] at hi; cases hi; exact ⟨g, rfl, rfl⟩
      have i20 : i < 20 := Nat.lt_of_lt_of_le (List.getElem?_eq_some_iff.mp hgi).1 l20
      obtain ⟨p, q, hgf, hq, p0⟩ := all g (List.mem_of_getElem? hgi)
      have hgF := bF.wo _ _ hgf
      have svF := svE.but bF
      refine ⟨fun σ H' => ∃ v, σ = [some (.ref sk), some (.ref E), some (.ref A), v3', v4', v5, v6, some (.ref S), some (.str BS), some (.ref g), some v, v11, v12, none, none, none] ∧ Evl.Ex HF H' ∧ Ow H' p q (rowsN.map Row.w) v, ⟨_, rfl, _, rfl, .ref A, g, p, q, _, rfl, svF.dq, sev8, okW, wo_ex _ _ hgF, hq, p0, fun hn H1 e1 => ⟨_, rfl, e1, .inl ⟨rfl, hn⟩⟩, fun w hw t D H1 e1 ht h1 hP => ⟨_, rfl, e1, .inr ⟨w, t, rfl, hw, dq_an h1 hP⟩⟩⟩, ?_⟩
      rintro σ HG ⟨v, rfl, eG, how⟩
      have svG := svF.but (But.of_ex eG)
      have hgG := eG _ _ (wo_ex _ _ hgF)
      refine ⟨fun σ H' => σ = [some (.ref sk), some (.ref E), some (.ref A), v3', v4', v5, v6, some (.ref S), some (.str BS), some (.ref g), some v, v11, v12, none, none, none] ∧ Evl.Ex HF H' ∧ Ow H' p q (rowsN.map Row.w) v, ?_, ?_⟩
      · rcases how with ⟨rfl, hn⟩ | ⟨w, t, rfl, hw, hd⟩
        · exact ⟨_, rfl, _, rfl, if_t rfl (err_same rfl rfl svG.dq sev8 okW hgG hq.2.2.1 hq.2.2.2 (.inr ⟨rfl, hq, p0, hn⟩) (by decide +kernel) fun H' e' => if_f rfl ⟨rfl, eG.trans e', .inl ⟨rfl, hn⟩⟩)⟩
        · exact ⟨_, rfl, _, rfl, if_f rfl (if_f rfl ⟨rfl, eG, .inr ⟨w, t, rfl, hw, hd⟩⟩)⟩
      rintro σ HH ⟨rfl, eH, how⟩
      have svH := svF.but (But.of_ex eH)
      have hgH := eH _ _ (wo_ex _ _ hgF)
      refine ⟨fun σ H' => ∃ v11, σ = [some (.ref sk), some (.ref E), some (.ref A), v3', v4', v5, v6, some (.ref S), some (.str BS), some (.ref g), some v, v11, v12, none, none, none] ∧ Evl.Ex HF H', ?_, ?_⟩
      · rcases how with ⟨rfl, hn⟩ | ⟨w, t, rfl, hw, hd⟩
        · exact ⟨_, rfl, _, rfl, if_f rfl ⟨_, rfl, eH⟩⟩
        · have okw := okS w (List.mem_of_find?_eq_some hw)
          obtain ⟨w1, w2, w3⟩ := sh_an okw.1 okw.2 hq p0
          refine ⟨_, rfl, _, rfl, if_t rfl ?_⟩
          refine ⟨_, rfl, _, rfl, .ref A, g, p, q, _, w, rfl, svH.dq, sev8, okW, hgH, hq, p0, hw, fun t2 D2 H2 e2 ht2 hD2 h2 hP2 => ?_⟩
          refine ⟨_, rfl, t2, _, rfl, dq_an h2 hP2, w1, w2, w3, _, rfl, t, _, rfl, hd.go e2, w1, w2, w3, rfl, _, rfl, if_f (by simp) ?_⟩
          have sv2 := svH.but (But.of_ex e2)
          refine ⟨_, rfl, _, rfl, rfl, .ref A, g, p, q, _, w, rfl, sv2.dq, sev8, okW, e2 _ _ hgH, hq, p0, hw, fun t3 D3 H3 e3 ht3 hD3 h3 hP3 => ?_⟩
          refine ⟨t3, _, rfl, dq_an h3 hP3, w1, w2, w3, _, rfl, t, _, rfl, (hd.go e2).go e3, w1, w2, w3, rfl, _, rfl, if_f (by simp) ?_⟩
          obtain ⟨as2, hDD, hDl, _⟩ := hP2
          refine ⟨_, rfl, t2, _, _, .ref D2, rfl, rfl, SqT.of (e3 _ _ h2), rfl, .inl ⟨rfl, _, SqL.of (e3 _ _ hDD)⟩, two, fun u hu => ?_⟩
          have e4 := Evl.Ex.new (o := .tup [.int 1, .int 1]) hu
          refine ⟨D2, _, _, rfl, rfl, e4 _ _ (e3 _ _ hDD), ?_, _, rfl, Evl.Ex.mut (((eH.trans e2).trans e3).trans e4) (Evl.fresh_back eH hD2)⟩
          rw [List.length_map]
          exact Nat.lt_of_le_of_lt (by have := okw.1.1; have h5 := hDl; rw [List.length_map] at h5; omega) (show 100 < sizeLine by decide)
      rintro σ HI ⟨w11, rfl, eI⟩
      have sI := sF.ex eI
      have svI := svF.but (But.of_ex eI)
      refine ⟨_, rfl, sk, _, rfl, sI, by omega, fun t p' q' HJ bJ sJ ht hf hbad hp hq' => ?_⟩
      have svJ := svI.but bJ
      have hno : ¬ (frB p' q' = true ∧ 0 < p') := fun z => by
        obtain ⟨z1, z2⟩ := z
        unfold frB at z1
        rw [Bool.and_eq_true] at z1
        have q1 := of_decide_eq_true z1.1
        have q2 := of_decide_eq_true z1.2
        rcases hbad with h | h | h
        · omega
        · omega
        · exact h q2
      have pb : p'.natAbs < 2 ^ 50 := Nat.lt_of_le_of_lt hp (by decide)
      have qb : q'.natAbs < 2 ^ 50 := Nat.lt_of_le_of_lt hq' (by decide)
      exact err_same rfl rfl svJ.dq sev8 okW (wo_ex _ _ hf) pb qb (.inl ⟨rfl, hno⟩) (by decide +kernel) fun H' e' => if_f rfl ⟨_, _, _, _, rfl, ((bF.trans (But.of_ex eI)).trans bJ).trans (But.of_ex e'), (sJ.ex e').le (by omega)⟩
    · rintro σ HF ⟨v9, v10, v11, v12, rfl, bF, sF⟩
      rw [List.length_map] at sF
      have sF := sF.le (show m + 1820 + 3 * sq.length ≤ m + 1900 by omega)
      have svF := svE.but bF
      have b0F := (b0C.trans bCE).trans bF
      have spF := spE.ex bF.wo
      refine ⟨_, rfl, A, _, rfl, svF.dq, y1, y2, y3, _, rfl, rfl, _, rfl, if_f (by rw [hBS]; simp) ?_⟩
      refine ⟨_, rfl, _, rfl, A, _, rfl, .inl (SqL.of svF.hA), sk, _, m + 1900, rfl, sF, by omega, by rw [List.length_map]; omega, by rw [List.length_map, n200]; omega, fun rk HG k0 k1 bG sG zG => ?_⟩
      rw [List.length_map] at k1
      have svG := svF.but bG
      obtain ⟨n, rfl⟩ : ∃ n : Nat, rk = (n : Int) := ⟨rk.toNat, by omega⟩
      obtain ⟨r, hr⟩ : ∃ r, rowsN[n]? = some r := ⟨_, List.getElem?_eq_getElem (by omega)⟩
      have rm := List.mem_of_getElem? hr
      have hat : (rowsN.map fun r => V.ref r.t)[n]? = some (.ref r.t) := by rw [List.getElem?_map, hr]; rfl
      obtain ⟨F, fs, items, q1, q2, q3, q4, q5⟩ := svG.row r rm
      have Rsk : r.R ≠ sk := fun z => svG.nS (z ▸ List.mem_map_of_mem (f := Row.R) rm)
      refine ⟨_, rfl, _, rfl, A, _, _, .ref r.t, rfl, rfl, SqL.of svG.hA, atI_nat hat, r.t, _, _, .ref r.R, rfl, rfl, SqT.of (woL_ex _ _ q1), rfl, .inl ⟨rfl, _, SqL.of q4⟩, r.R, _, rfl, rfl, q4, ?_⟩
      obtain ⟨svH, ezH⟩ := svG.put hr (items := []) (pcs := []) .nil (Nat.zero_le _) (fun c h => by cases h)
      have S0 : S ∉ zl sk A rowsN := fun mm => sv6.pres s6 S mm S6
      have spG := spF.ex bG.wo
      have bH0 : But sk H (upd HG r.R (.lst [])) := but_upd (H := HG) (b0F.trans bG) (rN r rm)
      have sH := sG.upd Rsk (o := .lst [])
      have SR : S ≠ r.R := fun z => S0 (z ▸ zl_R (List.mem_map_of_mem (f := Row.R) rm))
      have spH : Sps (wo sk (upd HG r.R (.lst []))) S sp := ⟨wo_at Ssk (Eq.trans (upd_ne SR) (wo_ex _ _ spG.1)), fun a ha => by
        obtain ⟨p, q, z1, z2, z3⟩ := spG.2 a ha
        have z1' := wo_ex _ _ z1
        refine ⟨p, q, wo_at (wo_ne z1) (Eq.trans (upd_ne fun z => ?_) z1'), z2, z3⟩
        rw [z, q4] at z1'
        cases z1'⟩
      generalize upd HG r.R (.lst []) = HH at svH bH0 sH spH
      generalize rowsN.set n ⟨r.t, r.R, ⟨r.w.rk, r.w.fms, []⟩⟩ = rowsM at svH ezH
      have okS := svH.oks
      have okW : ∀ w ∈ rowsM.map Row.w, OkWy w := fun w hw => (okS w hw).1
      have sev8 : (rowsM.map Row.w).length ≤ 8 := by
        have e1 := congrArg List.length ezH
        unfold zl at e1
        simp only [List.length_cons, List.length_map] at e1
        rw [List.length_map]
        omega
      have hSH := wo_ex _ _ spH.1
      refine ⟨_, rfl, S, rfl, ⟨_, SqL.of hSH⟩, for_list (xs := sp.map V.ref) (fun i σ H' => ∃ (v9 v10 v11 v12 v13 : Option V), σ = [some (.ref sk), some (.ref E), some (.ref A), v3', v4', v5, v6, some (.ref S), some (.str BS), v9, v10, v11, v12, v13, none, none] ∧ Evl.Ex HH H')
        ⟨_, _, _, _, _, rfl, Evl.Ex.refl _⟩ (fun i σ H' _ ⟨_, _, _, _, _, _, b⟩ => SqL.of (b _ _ hSH)) ?_ ?_⟩
      · rintro i x σ HF' hi ⟨v9, v10, v11, v12, v13, rfl, eF⟩
        obtain ⟨g, hgi, rfl⟩ : ∃ g, sp[i]? = some g ∧ x = .ref g := by
          rw [List.getElem?_map] at hi
          cases e : sp[i]? with
          | none => rw [e] at hi; cases hi
          | some g => rw [e] at hi; cases hi; exact ⟨g, rfl, rfl⟩
        obtain ⟨p, q, hgf, hq, p0⟩ := spH.2 g (List.mem_of_getElem? hgi)
        have hgF := eF _ _ (wo_ex _ _ hgf)
        have svF := svH.but (But.of_ex eF)
        refine ⟨fun σ H' => ∃ v, σ = [some (.ref sk), some (.ref E), some (.ref A), v3', v4', v5, v6, some (.ref S), some (.str BS), some (.ref g), some v, v11, v12, v13, none, none] ∧ Evl.Ex HF' H' ∧ Ow H' p q (rowsM.map Row.w) v, ⟨_, rfl, _, rfl, .ref A, g, p, q, _, rfl, svF.dq, sev8, okW, hgF, hq, p0, fun hn H1 e1 => ⟨_, rfl, e1, .inl ⟨rfl, hn⟩⟩, fun w hw t D H1 e1 ht h1 hP => ⟨_, rfl, e1, .inr ⟨w, t, rfl, hw, dq_an h1 hP⟩⟩⟩, ?_⟩
        rintro σ HG ⟨v, rfl, eG, how⟩
        have svG := svF.but (But.of_ex eG)
        have hgG := eG _ _ hgF
        refine ⟨fun σ H' => σ = [some (.ref sk), some (.ref E), some (.ref A), v3', v4', v5, v6, some (.ref S), some (.str BS), some (.ref g), some v, v11, v12, v13, none, none] ∧ Evl.Ex HF' H' ∧ Ow H' p q (rowsM.map Row.w) v, ?_, ?_⟩
        · rcases how with ⟨rfl, hn⟩ | ⟨w, t, rfl, hw, hd⟩
          · exact ⟨_, rfl, _, rfl, if_t rfl (err_same rfl rfl svG.dq sev8 okW hgG hq.2.2.1 hq.2.2.2 (.inr ⟨rfl, hq, p0, hn⟩) (by decide +kernel) fun H' e' => if_f rfl ⟨rfl, eG.trans e', .inl ⟨rfl, hn⟩⟩)⟩
          · exact ⟨_, rfl, _, rfl, if_f rfl (if_f rfl ⟨rfl, eG, .inr ⟨w, t, rfl, hw, hd⟩⟩)⟩
        rintro σ HH' ⟨rfl, eH, how⟩
        have svH' := svF.but (But.of_ex eH)
        have hgH := eH _ _ hgF
        rcases how with ⟨rfl, hn⟩ | ⟨w, t, rfl, hw, hd⟩
        · exact ⟨_, rfl, _, rfl, if_f rfl (if_f rfl ⟨_, _, _, _, _, rfl, eF.trans eH⟩)⟩
        · have okw := okS w (List.mem_of_find?_eq_some hw)
          obtain ⟨w1, w2, w3⟩ := sh_an okw.1 okw.2 hq p0
          refine ⟨_, rfl, _, rfl, if_t rfl ?_⟩
          refine ⟨_, rfl, _, rfl, .ref A, g, p, q, _, w, rfl, svH'.dq, sev8, okW, hgH, hq, p0, hw, fun t2 D2 H2 e2 ht2 hD2 h2 hP2 => ?_⟩
          exact ⟨t2, _, rfl, dq_an h2 hP2, w1, w2, w3, _, rfl, t, _, rfl, hd.go e2, w1, w2, w3, rfl, _, rfl, if_f (by simp) ⟨_, _, _, _, _, rfl, (eF.trans eH).trans e2⟩⟩
      · rintro σ HI ⟨v9, v10, v11, v12, v13, rfl, eI⟩
        exact kk HI (bH0.trans (But.of_ex eI))
end
end V2


namespace V2
open PySem L2
open PySem.Spec PyProof.Rows
theorem nodig_ok {K : PySem.W.Frag} (c : bNoDig K = true) : NoDig K := He.eqO_ok c
theorem rel_gWR2 {zs : List V} {ws : List Value} (r2 : Vals zs ws) : Vals (gWR2 zs) (gWR2 ws) := by
  cases r2 with
  | nil => exact .nil
  | cons b r2 =>
    cases r2 with
    | nil => exact .nil
    | cons c r2 =>
      cases r2 with
      | nil => exact .cons b (.cons c .nil)
      | cons d r2 => exact .nil
section
variable {base : Heap} {mg : Str → Option Value} {K : PySem.W.Frag} {w : World} {P : Program}
theorem Lay.calX {x : Str} {st : Stmt} {ps : List Str} {k : Nat} {sp : Sp} (L : Lay K mg x st ps) (h : ∀ f fd, Fun K x x st f fd → FnOk P w K mg base (L2.CX P w) k f fd ps sp) : CalX P w K mg base k x ps sp := by
  obtain ⟨f, fd, F, m, kp, b⟩ := L
  exact ⟨f, fd, h f fd F, m, kp, b⟩
theorem ok_law19 {f : Addr} {fd : FuncData} (F : Fun K "law" "law" s_law f fd) (T : T6 mg) (cP : Cal P w K mg base 1 "_law_purse" p_l_purse (spSack K)) (cR : CalG P w K mg base 9 "_law_right" p_l_right spRight19) : FnG P w K mg base 10 f fd p_law (spLaw K) := by
  refine Fun.okG F sc_law (fun vs H Q E h => ?_) (fun cdv A outer s H vs Q E hg hr h => ?_)
  · obtain ⟨a, ns, rfl, _⟩ := h
    rfl
  · obtain ⟨a, ns, rfl, hS, hl, k⟩ := h
    have nd := sc_law.nd
    have r1 : Room 1 _ := hr.mono (by decide)
    refine ⟨_, pss_cons (ps_for PassesOwn.never rfl (pi_range1 (by rfl) T.rng (pa_cons (pe_callB (call_max2 rfl) (by rfl) T.max (by decide +kernel) (pa_cons pe_int (pa_cons (pe_callB (call_min2 rfl) (by rfl) T.min (by decide +kernel) (pa_cons pe_int (pa_cons (pe_callB call_len_seq (by rfl) T.len PySem.boot_len (pa_cons (pv 0) pa_nil)) pa_nil))) pa_nil))) pa_nil)) (pg_name (i := 1) nd rfl (Or.inl rfl)) (pss_cons (ps_set (i := 2) nd rfl (Or.inl rfl) (pe_c cP r1 (pa_cons (pv 0) (pa_cons (pv 1) pa_nil))))
      (pss_one (ps_if (pt_not (pt_val (pe_cg cR hg hr (pa_cons (pv 2) pa_nil)))) (pss_one (ps_ret pe_bl)) pss_nil))))
      (pss_one (ps_ret pe_bl)), ?_⟩
    refine ⟨_, rfl, a, _, rfl, .inl hS, _, _, rfl, _, _, rfl, _, rfl, ?_, ?_, ?_⟩
    · split <;> split <;> omega
    · split <;> split <;> omega
    have hb : (if (if ((iV ns).length : Int) < 6 then ((iV ns).length : Int) else 6) > 1 then (if ((iV ns).length : Int) < 6 then ((iV ns).length : Int) else 6) else 1 : Int) ≤ 6 := by split <;> split <;> omega
    generalize (if (if ((iV ns).length : Int) < 6 then ((iV ns).length : Int) else 6) > 1 then (if ((iV ns).length : Int) < 6 then ((iV ns).length : Int) else 6) else 1 : Int) = n at hb
    refine for_range (n := n.toNat) (fun i σ H' => ∃ v1 v2, σ = [some (.ref a), v1, v2] ∧ SqL K H' a (iV ns)) ⟨none, none, rfl, hS⟩ ?_ ?_
    · rintro i σ H1 hi ⟨v1, v2, rfl, hS1⟩
      refine ⟨_, rfl, _, rfl, a, ns, i, ?_, hS1, hl, by omega, fun q H2 hq e2 h2 => ?_⟩
      · rw [Int.zero_add]
        rfl
      exact ⟨_, rfl, q, 0, rfl, h2, by omega, fun H3 b3 => ⟨true, rfl, if_f rfl ⟨_, _, rfl, sq_ex_but hS1 hq e2 b3⟩⟩⟩
    · rintro σ H1 ⟨v1, v2, rfl, hS1⟩
      exact k H1
end
theorem whole {P : Program} {w : World} {K : PySem.W.Frag} {h : Heap} {mg : Str → Option Value} {fa : Addr} (X : K.In h) (G : h.Ns mainGlobals mg) (hfa : mg ("law" : Str) = some (.ref fa)) (c : lk.seen K = lk.due w) :
    ∃ fd : FuncData, (∀ (s : Shared) (v : Value), BindsTo s fd ⟨[v], []⟩ [("script", v)]) ∧ ∀ base : Heap, K.In base → base.Ns mainGlobals mg → FnG P w K mg base 10 fa fd p_law (spLaw K) := by
  have z_len : mg "len" = none := (He.free_ok X G (Lk.fact c 73 (f := bFree "len") rfl))
  have z_max : mg "max" = none := (He.free_ok X G (Lk.fact c 75 (f := bFree "max") rfl))
  have z_min : mg "min" = none := (He.free_ok X G (Lk.fact c 76 (f := bFree "min") rfl))
  have z_abs : mg "abs" = none := (He.free_ok X G (Lk.fact c 67 (f := bFree "abs") rfl))
  have z_int : mg "int" = none := (He.free_ok X G (Lk.fact c 71 (f := bFree "int") rfl))
  have z_range : mg "range" = none := (He.free_ok X G (Lk.fact c 77 (f := bFree "range") rfl))
  have z_list : mg "list" = none := (He.free_ok X G (Lk.fact c 74 (f := bFree "list") rfl))
  have z_isinstance : mg "isinstance" = none := (He.free_ok X G (Lk.fact c 72 (f := bFree "isinstance") rfl))
  have z_bool : mg "bool" = none := (He.free_ok X G (Lk.fact c 69 (f := bFree "bool") rfl))
  have z_tuple : mg "tuple" = none := (He.free_ok X G (Lk.fact c 79 (f := bFree "tuple") rfl))
  have z_all : mg "all" = none := (He.free_ok X G (Lk.fact c 82 (f := bFree "all") rfl))
  have z_any : mg "any" = none := (He.free_ok X G (Lk.fact c 68 (f := bFree "any") rfl))
  have z_repr : mg "repr" = none := (He.free_ok X G (Lk.fact c 78 (f := bFree "repr") rfl))
  have z_enumerate : mg "enumerate" = none := (He.free_ok X G (Lk.fact c 70 (f := bFree "enumerate") rfl))
  have z_gcd : mg "gcd" = some (.builtin "math.gcd") := (blt_ok X G (Lk.fact c 80 (f := bBlt "gcd" "math.gcd") rfl))
  have t0 : T0 mg := ⟨z_len, z_max, z_abs, z_int⟩
  have t3 : T3 mg := ⟨z_isinstance, z_int, z_bool, z_list, z_tuple, z_len, z_all, z_gcd⟩
  have t5 : T5 mg := ⟨z_isinstance, z_list, z_tuple⟩
  have hND : NoDig K := nodig_ok (Lk.fact c 81 (f := bNoDig) rfl)
  have L_fraction : Lay K mg "fraction" s_fraction p_fraction := lay_of X G c 0 0 rfl rfl (fun _ _ _ _ _ _ us hl => match us, hl with | [_, _], _ => rfl)
  have L_order_of_fractions : Lay K mg "order_of_fractions" s_order_of_fractions p_order_of_fractions := lay_of X G c 1 1 rfl rfl (fun _ _ _ _ _ _ us hl => match us, hl with | [_, _], _ => rfl)
  have L_sign_of : Lay K mg "sign_of" s_sign_of p_sign_of := lay_of X G c 2 2 rfl rfl (fun _ _ _ _ _ _ us hl => match us, hl with | [_], _ => rfl)
  have L_scaled_value : Lay K mg "scaled_value" s_scaled_value p_scaled_value := lay_of X G c 3 3 rfl rfl (fun _ _ _ _ _ _ us hl => match us, hl with | [_, _], _ => rfl)
  have L_value_at : Lay K mg "value_at" s_value_at p_value_at := lay_of X G c 4 4 rfl rfl (fun _ _ _ _ _ _ us hl => match us, hl with | [_, _], _ => rfl)
  have L_sign_at_fraction : Lay K mg "sign_at_fraction" s_sign_at_fraction p_sign_at_fraction := lay_of X G c 5 5 rfl rfl (fun _ _ _ _ _ _ us hl => match us, hl with | [_, _], _ => rfl)
  have L_is_root : Lay K mg "is_root" s_is_root p_is_root := lay_of X G c 6 6 rfl rfl (fun _ _ _ _ _ _ us hl => match us, hl with | [_], _ => rfl)
  have L_order_of_places : Lay K mg "order_of_places" s_order_of_places p_order_of_places := lay_of X G c 7 7 rfl rfl (fun _ _ _ _ _ _ us hl => match us, hl with | [_, _], _ => rfl)
  have L_order_by_fraction : Lay K mg "order_by_fraction" s_order_by_fraction p_order_by_fraction := lay_of X G c 8 8 rfl rfl (fun _ _ _ _ _ _ us hl => match us, hl with | [_, _], _ => rfl)
  have L_order_of_roots : Lay K mg "order_of_roots" s_order_of_roots p_order_of_roots := lay_of X G c 9 9 rfl rfl (fun _ _ _ _ _ _ us hl => match us, hl with | [_, _], _ => rfl)
  have L_copied : Lay K mg "copied" s_copied p_copied := lay_of X G c 10 10 rfl rfl (fun _ _ _ _ _ _ us hl => match us, hl with | [_], _ => rfl)
  have L_is_integer : Lay K mg "is_integer" s_is_integer p_is_integer := lay_of X G c 11 11 rfl rfl (fun _ _ _ _ _ _ us hl => match us, hl with | [_], _ => rfl)
  have L_is_fraction : Lay K mg "is_fraction" s_is_fraction p_is_fraction := lay_of X G c 12 12 rfl rfl (fun _ _ _ _ _ _ us hl => match us, hl with | [_], _ => rfl)
  have L_check_width : Lay K mg "check_width" s_check_width p_check_width := lay_of X G c 13 13 rfl rfl (fun _ _ _ _ _ _ us hl => match us, hl with | [_], _ => rfl)
  have L_form_at : Lay K mg "form_at" s_form_at p_form_at := lay_of X G c 14 14 rfl rfl (fun _ _ _ _ _ _ us hl => match us, hl with | [_, _], _ => rfl)
  have L_side : Lay K mg "side" s_side p_side := lay_of X G c 15 15 rfl rfl (fun _ _ _ _ _ _ us hl => match us, hl with | [_, _], _ => rfl)
  have L_lies_in : Lay K mg "lies_in" s_lies_in p_lies_in := lay_of X G c 16 16 rfl rfl (fun _ _ _ _ _ _ us hl => match us, hl with | [_, _], _ => rfl)
  have L_way_at : Lay K mg "way_at" s_way_at p_way_at := lay_of X G c 17 17 rfl rfl (fun _ _ _ _ _ _ us hl => match us, hl with | [_, _], _ => rfl)
  have L_l_purse : Lay K mg "_law_purse" s_l_purse p_l_purse := lay_of X G c 18 18 rfl rfl (fun _ _ _ _ _ _ us hl => match us, hl with | [_, _], _ => rfl)
  have L_l_coin : Lay K mg "_law_coin" s_l_coin p_l_coin := lay_of X G c 19 19 rfl rfl (fun _ _ _ _ _ _ us hl => match us, hl with | [_, _], _ => rfl)
  have L_l_divisor : Lay K mg "_law_wl_divisor" s_l_divisor p_l_divisor := lay_of X G c 20 20 rfl rfl (fun _ _ _ _ _ _ us hl => match us, hl with | [_, _], _ => rfl)
  have L_l_ratio : Lay K mg "_law_wl_ratio" s_l_ratio p_l_ratio := lay_of X G c 21 21 rfl rfl (fun _ _ _ _ _ _ us hl => match us, hl with | [_, _], _ => rfl)
  have L_l_plus : Lay K mg "_law_wl_plus" s_l_plus p_l_plus := lay_of X G c 22 22 rfl rfl (fun _ _ _ _ _ _ us hl => match us, hl with | [_, _], _ => rfl)
  have L_l_times : Lay K mg "_law_wl_times" s_l_times p_l_times := lay_of X G c 23 23 rfl rfl (fun _ _ _ _ _ _ us hl => match us, hl with | [_, _], _ => rfl)
  have L_l_less : Lay K mg "_law_wl_less" s_l_less p_l_less := lay_of X G c 24 24 rfl rfl (fun _ _ _ _ _ _ us hl => match us, hl with | [_, _], _ => rfl)
  have L_l_trim : Lay K mg "_law_wl_trim" s_l_trim p_l_trim := lay_of X G c 25 25 rfl rfl (fun _ _ _ _ _ _ us hl => match us, hl with | [_], _ => rfl)
  have L_l_sign_at : Lay K mg "_law_wl_sign_at" s_l_sign_at p_l_sign_at := lay_of X G c 26 26 rfl rfl (fun _ _ _ _ _ _ us hl => match us, hl with | [_, _], _ => rfl)
  have L_l_value : Lay K mg "_law_wl_value" s_l_value p_l_value := lay_of X G c 27 27 rfl rfl (fun _ _ _ _ _ _ us hl => match us, hl with | [_, _], _ => rfl)
  have L_l_width : Lay K mg "_law_wl_width" s_l_width p_l_width := lay_of X G c 28 28 rfl rfl (fun _ _ _ _ _ _ us hl => match us, hl with | [_], _ => rfl)
  have L_l_wrong_width : Lay K mg "_law_wl_wrong_width" s_l_wrong_width p_l_wrong_width := lay_of X G c 29 29 rfl rfl (fun _ _ _ _ _ _ us hl => match us, hl with | [_], _ => rfl)
  have L_l_nums : Lay K mg "_law_nums" s_l_nums p_l_nums := lay_of X G c 30 30 rfl rfl (fun _ _ _ _ _ _ us hl => match us, hl with | [_, _], _ => rfl)
  have L_l_foot : Lay K mg "_law_foot" s_l_foot p_l_foot := lay_of X G c 31 31 rfl rfl (fun _ _ _ _ _ _ us hl => match us, hl with | [_], _ => rfl)
  have L_l_form : Lay K mg "_law_form" s_l_form p_l_form := lay_of X G c 32 32 rfl rfl (fun _ _ _ _ _ _ us hl => match us, hl with | [_], _ => rfl)
  have L_l_ends : Lay K mg "_law_ends" s_l_ends p_l_ends := lay_of X G c 33 33 rfl rfl (fun _ _ _ _ _ _ us hl => match us, hl with | [_], _ => rfl)
  have L_l_side : Lay K mg "_law_side" s_l_side p_l_side := lay_of X G c 34 34 rfl rfl (fun _ _ _ _ _ _ us hl => match us, hl with | [_, _], _ => rfl)
  have L_l_pieces : Lay K mg "_law_pieces" s_l_pieces p_l_pieces := lay_of X G c 35 35 rfl rfl (fun _ _ _ _ _ _ us hl => match us, hl with | [_], _ => rfl)
  have L_l_in : Lay K mg "_law_in" s_l_in p_l_in := lay_of X G c 36 36 rfl rfl (fun _ _ _ _ _ _ us hl => match us, hl with | [_, _], _ => rfl)
  have L_l_error : Lay K mg "_law_error" s_l_error p_l_error := lay_of X G c 37 37 rfl rfl (fun _ _ _ _ _ _ us hl => match us, hl with | [_, _], _ => rfl)
  have L_l_owed : Lay K mg "_law_owed" s_l_owed p_l_owed := lay_of X G c 38 38 rfl rfl (fun _ _ _ _ _ _ us hl => match us, hl with | [_, _], _ => rfl)
  have L_l_right : Lay K mg "_law_right" s_l_right p_l_right := lay_of X G c 39 39 rfl rfl (fun _ _ _ _ _ _ us hl => match us, hl with | [_], _ => rfl)
  obtain ⟨fd_TE_init, F_TE_init, b_TE_init⟩ : LayM K "__init__" "TankError.__init__" s_TE_init _ p_TE_init := laym_of c 41 rfl (fun _ _ _ _ _ _ us hl => match us, hl with | [_, _], _ => rfl)
  obtain ⟨fdw, Fw⟩ := Lk.df c 40 rfl
  have efa := hfa.symm.trans (He.glo_ok X G (Lk.fact c 40 (f := bGlo "law") rfl))
  cases efa
  have main : ∀ base : Heap, K.In base → base.Ns mainGlobals mg → FnG P w K mg base 10 (He.ga K "law") fdw p_law (spLaw K) := fun base _ _ => by
    have isint : Cal P w K mg base 1 "is_integer" p_is_integer spInt := L_is_integer.cal fun f fd F => ok_is_integer F t3
    have isfr : Cal P w K mg base 2 "is_fraction" p_is_fraction spIsFr := L_is_fraction.cal fun f fd F => ok_is_fraction F t3 isint
    have sgn_ : Cal P w K mg base 1 "sign_of" p_sign_of spSgn := L_sign_of.cal fun f fd F => ok_sign_of F
    have ord_ : Cal P w K mg base 2 "order_of_fractions" p_order_of_fractions spOrd := L_order_of_fractions.cal fun f fd F => ok_order F sgn_
    have chkW : Cal P w K mg base 3 "check_width" p_check_width spCw := L_check_width.cal fun f fd F => ok_check_width F isfr
    have frac : Cal P w K mg base 1 "fraction" p_fraction spRatio := L_fraction.cal fun f fd F => ok_fractionN F z_gcd
    have scal : Cal P w K mg base 1 "scaled_value" p_scaled_value spScN := L_scaled_value.cal fun f fd F => ok_scaledN F z_enumerate
    have valat : Cal P w K mg base 2 "value_at" p_value_at spValN := L_value_at.cal fun f fd F => ok_value_atN F scal frac
    have sgat : Cal P w K mg base 2 "sign_at_fraction" p_sign_at_fraction spSgA := L_sign_at_fraction.cal fun f fd F => ok_sign_atN F sgn_ scal
    have format : Cal P w K mg base 3 "form_at" p_form_at spFormAt := L_form_at.cal fun f fd F => ok_form_at F valat frac
    have isr : Cal P w K mg base 1 "is_root" p_is_root spIsR := L_is_root.cal fun f fd F => ok_is_root F
    have nor : Cal P w K mg base 1 "order_of_roots" p_order_of_roots spNo := L_order_of_roots.cal fun f fd F => ok_no_roots F
    have obf_ : Cal P w K mg base 3 "order_by_fraction" p_order_by_fraction spObf := L_order_by_fraction.cal fun f fd F => ok_order_by F ord_ sgat
    have oop : Cal P w K mg base 4 "order_of_places" p_order_of_places spOop := L_order_of_places.cal fun f fd F => ok_order_of_places F isr nor obf_ ord_
    have side_ : Cal P w K mg base 5 "side" p_side spSideN := L_side.cal fun f fd F => ok_sideN F oop
    have lies : Cal P w K mg base 6 "lies_in" p_lies_in spLies := L_lies_in.cal fun f fd F => ok_lies_in F z_any side_
    have way : Cal P w K mg base 7 "way_at" p_way_at spWay := L_way_at.cal fun f fd F => ok_way_at F chkW lies format
    have wayk : CalK P w K mg base 7 "way_at" p_way_at ["told", "width"] gWR2 spWay := by
      obtain ⟨f, fd, F, m, kp, b⟩ := L_way_at
      refine ⟨f, fd, fun _ ws => gWR2 ws, ok_way_at F chkW lies format, m, kp, ?_⟩
      obtain ⟨ow, oe, kw, dc, pn, am, cdv, cu, sl, rfl, lk, hcd⟩ := F.ex
      exact ⟨fun s us ws X h1 h2 => match us, ws, h1, h2 with | [], [_, _], _, _ => .of_eq rfl, fun r1 r2 => rel_gWR2 r2⟩
    have ec_InvalidFraction : EC K (He.ga K "InvalidFraction") (eI K) := err_ok (Lk.fact c 51 (f := bErr "InvalidFraction") rfl)
    have gl_InvalidFraction : mg "InvalidFraction" = some (.ref (He.ga K "InvalidFraction")) := (He.glo_ok X G (Lk.fact c 50 (f := bGlo "InvalidFraction") rfl))
    have ec_InvalidRange : EC K (He.ga K "InvalidRange") (eI K) := err_ok (Lk.fact c 59 (f := bErr "InvalidRange") rfl)
    have gl_InvalidRange : mg "InvalidRange" = some (.ref (He.ga K "InvalidRange")) := (He.glo_ok X G (Lk.fact c 58 (f := bGlo "InvalidRange") rfl))
    have gl_TankError : mg "TankError" = some (.ref (He.ga K "TankError")) := (He.glo_ok X G (Lk.fact c 42 (f := bGlo "TankError") rfl))
    have eg : EG K (eI K) := eg_ok (Lk.fact c 41 (f := bEG) rfl)
    have ti := ok_TE_init (P := P) (w := w) (mg := mg) (base := base) F_TE_init
    have ct0 : Cal P w K mg base 1 "copied" p_copied (spCt 0) := L_copied.cal fun f fd F => ok_ct0 F t5
    have ct1 : Cal P w K mg base 2 "copied" p_copied (spCt 1) := L_copied.cal fun f fd F => ok_ctS F t5 ct0
    have isfrB : Cal P w K mg base 2 "is_fraction" p_is_fraction spIsFrB := L_is_fraction.cal fun f fd F => ok_is_fractionB F t3 isint
    have chkWX : CalX P w K mg base 3 "check_width" p_check_width (spWidX (He.ga K "InvalidFraction")) := L_check_width.calX fun f fd F => ok_check_widthX F isfrB ct1 ec_InvalidFraction eg gl_InvalidFraction ti b_TE_init
    obtain ⟨fWa, fdWa, FWa, mWa, kWa, bWa⟩ := id L_way_at
    have wayX := ok_way_atX (P := P) (w := w) (mg := mg) (base := base) FWa chkWX lies ec_InvalidRange eg gl_InvalidRange ti b_TE_init
    have l_coin : Cal P w K mg base 1 "_law_coin" p_l_coin spCoin := L_l_coin.cal fun f fd F => ok_coinL F t0
    have l_purse : Cal P w K mg base 1 "_law_purse" p_l_purse (spSack K) := L_l_purse.cal fun f fd F => ok_purse F t0
    have l_div : Cal P w K mg base 1 "_law_wl_divisor" p_l_divisor spShared := L_l_divisor.cal fun f fd F => ok_divisor F t0
    have l_ratio : Cal P w K mg base 2 "_law_wl_ratio" p_l_ratio spRatio := L_l_ratio.cal fun f fd F => ok_ratioL F l_div
    have l_ratioS : Cal P w K mg base 2 "_law_wl_ratio" p_l_ratio spRatN := L_l_ratio.cal fun f fd F => ok_ratioS F l_div
    have l_plus : Cal P w K mg base 3 "_law_wl_plus" p_l_plus (spFp fun p q x y => fr (p * y + x * q) (q * y)) := L_l_plus.cal fun f fd F => ok_plusL F l_ratio
    have l_times : Cal P w K mg base 3 "_law_wl_times" p_l_times (spFp fun p q x y => fr (p * x) (q * y)) := L_l_times.cal fun f fd F => ok_timesL F l_ratio
    have l_less : Cal P w K mg base 1 "_law_wl_less" p_l_less spLess := L_l_less.cal fun f fd F => ok_lessL F
    have l_trim : Cal P w K mg base 1 "_law_wl_trim" p_l_trim spTrimL := L_l_trim.cal fun f fd F => ok_trimL F z_list
    have l_sat : Cal P w K mg base 1 "_law_wl_sign_at" p_l_sign_at spSaL := L_l_sign_at.cal fun f fd F => ok_sign_atL F z_int
    have l_val : Cal P w K mg base 4 "_law_wl_value" p_l_value spValN := L_l_value.cal fun f fd F => ok_valueL F l_plus l_times
    have l_side : Cal P w K mg base 2 "_law_side" p_l_side spLside := L_l_side.cal fun f fd F => ok_sideL F z_len z_int l_less l_sat
    have l_in : Cal P w K mg base 3 "_law_in" p_l_in spIn := L_l_in.cal fun f fd F => ok_in F l_side
    have l_pcs : Cal P w K mg base 1 "_law_pieces" p_l_pieces spPieces := L_l_pieces.cal fun f fd F => ok_pieces F
    have l_owed : Cal P w K mg base 5 "_law_owed" p_l_owed spOwed := L_l_owed.cal fun f fd F => ok_owed F l_in l_val l_ratioS
    have l_nums : Cal P w K mg base 2 "_law_nums" p_l_nums spNumsL := L_l_nums.cal fun f fd F => ok_nums F z_range l_coin
    have l_foot : Cal P w K mg base 2 "_law_foot" p_l_foot spFootL := L_l_foot.cal fun f fd F => ok_foot F z_range l_coin l_trim
    have l_form : Cal P w K mg base 3 "_law_form" p_l_form spFormL := L_l_form.cal fun f fd F => ok_form F l_coin l_nums l_foot
    have l_ends : Cal P w K mg base 3 "_law_ends" p_l_ends spEnds := L_l_ends.cal fun f fd F => ok_ends F z_range l_coin l_ratio
    have l_width : Cal P w K mg base 3 "_law_wl_width" p_l_width (spWid 90000 4) := L_l_width.cal fun f fd F => ok_width F l_coin l_ratio
    have l_ww : Cal P w K mg base 2 "_law_wl_wrong_width" p_l_wrong_width spWw := L_l_wrong_width.cal fun f fd F => ok_wrong_width F l_coin
    have l_err : Cal P w K mg base 8 "_law_error" p_l_error spError := L_l_error.cal fun f fd F => ok_error F wayX mWa kWa bWa ec_InvalidFraction ec_InvalidRange eg gl_InvalidFraction gl_TankError gl_InvalidRange z_isinstance (sub_ok (Lk.fact c 61 (f := bSub "InvalidRange" "InvalidRange" true) rfl)) (sub_ok (Lk.fact c 53 (f := bSub "InvalidFraction" "InvalidRange" false) rfl)) (sub_ok (Lk.fact c 54 (f := bSub "InvalidFraction" "InvalidFraction" true) rfl)) (kit_ok (Lk.fact c 63 (f := bKit "InvalidRange" "TankError" true) rfl)) (kit_ok (Lk.fact c 64 (f := bKit "InvalidRange" "InvalidFraction" false) rfl)) (kit_ok (Lk.fact c 55 (f := bKit "InvalidFraction" "TankError" true) rfl)) (kit_ok (Lk.fact c 57 (f := bKit "InvalidFraction" "InvalidRange" false) rfl))
    have l_right : CalG P w K mg base 9 "_law_right" p_l_right spRight19 := L_l_right.calG fun f fd F => ok_right19 F hND z_repr z_range z_len l_coin l_ends l_form l_pcs l_width l_ratio l_owed l_err way wayk l_ww
    exact ok_law19 Fw ⟨z_range, z_len, z_max, z_min⟩ l_purse l_right
  obtain ⟨ow, oe, kw, dc, pn, am, cdv, cu, sl, rfl, lk, hcd⟩ := Fw.ex
  exact ⟨_, fun s v => .of_eq rfl, main⟩
end V2


open PySem PySem.W PySem.Calls PyProof.Rows in
set_option maxRecDepth 99000 in
set_option maxHeartbeats 0 in
theorem PySem.Challenge.cw_valvelevels_k19_a_list_of_ways_at_a_widt_holds : PySem.Challenge.rw_valvelevels_k19_a_list_of_ways_at_a_widt.Holds := by
  w_on
  o_law
  refine HandSHeadRun.head_imp (r := PySem.W.OpenLaw.row PySem.Challenge.rw_valvelevels_k19_a_list_of_ways_at_a_widt) (q := V2.vwK) (H := V2.lk.hook 900) (ob := fun s => V2.lk.off 900 (HandSHeadRun.getT s)) (M := 12000) (loose := V2.nms) (d := HandSHeadRun.topDef (PySem.W.OpenLaw.row PySem.Challenge.rw_valvelevels_k19_a_list_of_ways_at_a_widt).prog 65) (kwd := [])
    (fun s => V2.Lk.off_eq (HandSHeadRun.getT_eq s)) V2.runK (by kernel_rfl) (by kernel_rfl) (by kernel_rfl) (by rfl) (by first | assumption | decide +kernel) (by decide +kernel) ⟨rfl, rfl, rfl, rfl, rfl, by decide +kernel⟩ ?hw ?hc
  case hw => w_witness2
  case hc =>
    refine V2.walk_GE (l := PySem.Challenge.rw_valvelevels_k19_a_list_of_ways_at_a_widt) (n := 63) (k := 10) (x := "script") rfl (by decide) (by kernel_rfl) ⟨rfl, by decide, by decide⟩ ?F
    intro w mg fa h Y G hmg0
    obtain ⟨K, KX, c⟩ := Y
    have hmg : mg ("law" : PySem.Str) = some (.ref fa) := by
      have e : (HandSHeadRun.topDef (PySem.W.OpenLaw.row PySem.Challenge.rw_valvelevels_k19_a_list_of_ways_at_a_widt).prog 65).name = ("law" : PySem.Str) := by kernel_rfl
      rw [← e]
      exact hmg0
    obtain ⟨fd, hb, hF⟩ := V2.whole (P := (PySem.Challenge.rw_valvelevels_k19_a_list_of_ways_at_a_widt).prog) (w := w) KX G hmg c
    exact ⟨K, fd, V2.spLaw K, KX, hb, fun H a ns hl _ hS => ⟨a, ns, rfl, hS, hl, fun _ => rfl⟩, hF⟩


