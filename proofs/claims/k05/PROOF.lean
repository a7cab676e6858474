import PyProof.Rows.All
import Wide.All
import OpenK.AllK
import Wide.FinOn
import HandS.ForMost
import HandS.ForExc
import HandS.Wide
import HandS.Gcd
import HandS.IsInst
import HandS.Defaults
import HandS.Flow
import HandS.EndBits
import PySem.Challenge.RW_valvelevels_k05_rows_of_rests_and_turns
import HandS.Evl
import HandS.Steps
import HandS.Walk
import HandS.Style
import PyProof.ReprRoads
import PyProof.ReprLen
set_option Elab.async false
set_option linter.all false
set_option maxRecDepth 100000
set_option maxHeartbeats 5000000
set_option exponentiation.threshold 100000
namespace V2
open PySem L2
/-! the text by its places -/
def topS (i : Nat) : Stmt := PySem.Challenge.pw_valvelevels_k05_rows_of_rests_and_turns.main.body.getD i (.Pass ⟨0, 0, 0, 0⟩)
abbrev s_sign_of : Stmt := topS 2
abbrev n_sign_of : List Str := ["number"]
abbrev p_sign_of : List Str := ["number"]
theorem sc_sign_of : FnScope n_sign_of p_sign_of (defScope s_sign_of) := ⟨rfl, rfl, rfl, by decide +kernel, rfl, by decide +kernel, by decide +kernel⟩
abbrev s_cut : Stmt := topS 3
abbrev n_cut : List Str := ["numbers", "many"]
abbrev p_cut : List Str := ["numbers"]
theorem sc_cut : FnScope n_cut p_cut (defScope s_cut) := ⟨rfl, rfl, rfl, by decide +kernel, rfl, by decide +kernel, by decide +kernel⟩
abbrev s_negated : Stmt := topS 4
abbrev n_negated : List Str := ["one", "number"]
abbrev p_negated : List Str := ["one"]
theorem sc_negated : FnScope n_negated p_negated (defScope s_negated) := ⟨rfl, rfl, rfl, by decide +kernel, rfl, by decide +kernel, by decide +kernel⟩
abbrev s_slope : Stmt := topS 5
abbrev n_slope : List Str := ["one", "k", "number"]
abbrev p_slope : List Str := ["one"]
theorem sc_slope : FnScope n_slope p_slope (defScope s_slope) := ⟨rfl, rfl, rfl, by decide +kernel, rfl, by decide +kernel, by decide +kernel⟩
abbrev s_scaled_value : Stmt := topS 6
abbrev n_scaled_value : List Str := ["one", "spot", "above", "below", "total", "power", "k", "number"]
abbrev p_scaled_value : List Str := ["one", "spot"]
theorem sc_scaled_value : FnScope n_scaled_value p_scaled_value (defScope s_scaled_value) := ⟨rfl, rfl, rfl, by decide +kernel, rfl, by decide +kernel, by decide +kernel⟩
abbrev s_content : Stmt := topS 7
abbrev n_content : List Str := ["one", "factor", "number"]
abbrev p_content : List Str := ["one"]
theorem sc_content : FnScope n_content p_content (defScope s_content) := ⟨rfl, rfl, rfl, by decide +kernel, rfl, by decide +kernel, by decide +kernel⟩
abbrev s_primitive : Stmt := topS 8
abbrev n_primitive : List Str := ["one", "factor", "number"]
abbrev p_primitive : List Str := ["one"]
theorem sc_primitive : FnScope n_primitive p_primitive (defScope s_primitive) := ⟨rfl, rfl, rfl, by decide +kernel, rfl, by decide +kernel, by decide +kernel⟩
abbrev s_remainder : Stmt := topS 9
abbrev n_remainder : List Str := ["one", "other", "left", "lead", "factor", "grow", "take", "behind", "taken", "number", "k"]
abbrev p_remainder : List Str := ["one", "other"]
theorem sc_remainder : FnScope n_remainder p_remainder (defScope s_remainder) := ⟨rfl, rfl, rfl, by decide +kernel, rfl, by decide +kernel, by decide +kernel⟩
abbrev s_signed_rests : Stmt := topS 15
abbrev n_signed_rests : List Str := ["one", "other", "told", "following"]
abbrev p_signed_rests : List Str := ["one", "other"]
theorem sc_signed_rests : FnScope n_signed_rests p_signed_rests (defScope s_signed_rests) := ⟨rfl, rfl, rfl, by decide +kernel, rfl, by decide +kernel, by decide +kernel⟩
abbrev s_row_of : Stmt := topS 16
abbrev n_row_of : List Str := ["one"]
abbrev p_row_of : List Str := ["one"]
theorem sc_row_of : FnScope n_row_of p_row_of (defScope s_row_of) := ⟨rfl, rfl, rfl, by decide +kernel, rfl, by decide +kernel, by decide +kernel⟩
abbrev s_leading : Stmt := topS 17
abbrev n_leading : List Str := ["one", "spot", "number"]
abbrev p_leading : List Str := ["one", "spot"]
theorem sc_leading : FnScope n_leading p_leading (defScope s_leading) := ⟨rfl, rfl, rfl, by decide +kernel, rfl, by decide +kernel, by decide +kernel⟩
abbrev s_turns_of : Stmt := topS 18
abbrev n_turns_of : List Str := ["told", "spot", "last", "many", "one", "sign"]
abbrev p_turns_of : List Str := ["told", "spot"]
theorem sc_turns_of : FnScope n_turns_of p_turns_of (defScope s_turns_of) := ⟨rfl, rfl, rfl, by decide +kernel, rfl, by decide +kernel, by decide +kernel⟩
abbrev s_copied : Stmt := topS 20
abbrev n_copied : List Str := ["thing", "part"]
abbrev p_copied : List Str := ["thing"]
theorem sc_copied : FnScope n_copied p_copied (defScope s_copied) := ⟨rfl, rfl, rfl, by decide +kernel, rfl, by decide +kernel, by decide +kernel⟩
abbrev s_is_integer : Stmt := topS 21
abbrev n_is_integer : List Str := ["thing"]
abbrev p_is_integer : List Str := ["thing"]
theorem sc_is_integer : FnScope n_is_integer p_is_integer (defScope s_is_integer) := ⟨rfl, rfl, rfl, by decide +kernel, rfl, by decide +kernel, by decide +kernel⟩
abbrev s_is_fraction : Stmt := topS 22
abbrev n_is_fraction : List Str := ["thing", "above", "below"]
abbrev p_is_fraction : List Str := ["thing"]
theorem sc_is_fraction : FnScope n_is_fraction p_is_fraction (defScope s_is_fraction) := ⟨rfl, rfl, rfl, by decide +kernel, rfl, by decide +kernel, by decide +kernel⟩
abbrev s_is_polynomial : Stmt := topS 23
abbrev n_is_polynomial : List Str := ["thing", "number"]
abbrev p_is_polynomial : List Str := ["thing"]
theorem sc_is_polynomial : FnScope n_is_polynomial p_is_polynomial (defScope s_is_polynomial) := ⟨rfl, rfl, rfl, by decide +kernel, rfl, by decide +kernel, by decide +kernel⟩
abbrev s_check_polynomials : Stmt := topS 24
abbrev n_check_polynomials : List Str := ["told", "one"]
abbrev p_check_polynomials : List Str := ["told"]
theorem sc_check_polynomials : FnScope n_check_polynomials p_check_polynomials (defScope s_check_polynomials) := ⟨rfl, rfl, rfl, by decide +kernel, rfl, by decide +kernel, by decide +kernel⟩
abbrev s_check_not_zero : Stmt := topS 25
abbrev n_check_not_zero : List Str := ["one"]
abbrev p_check_not_zero : List Str := ["one"]
theorem sc_check_not_zero : FnScope n_check_not_zero p_check_not_zero (defScope s_check_not_zero) := ⟨rfl, rfl, rfl, by decide +kernel, rfl, by decide +kernel, by decide +kernel⟩
abbrev s_check_fraction : Stmt := topS 26
abbrev n_check_fraction : List Str := ["spot"]
abbrev p_check_fraction : List Str := ["spot"]
theorem sc_check_fraction : FnScope n_check_fraction p_check_fraction (defScope s_check_fraction) := ⟨rfl, rfl, rfl, by decide +kernel, rfl, by decide +kernel, by decide +kernel⟩
abbrev s_row : Stmt := topS 28
abbrev n_row : List Str := ["one"]
abbrev p_row : List Str := ["one"]
theorem sc_row : FnScope n_row p_row (defScope s_row) := ⟨rfl, rfl, rfl, by decide +kernel, rfl, by decide +kernel, by decide +kernel⟩
abbrev s_turns : Stmt := topS 29
abbrev n_turns : List Str := ["told", "spot"]
abbrev p_turns : List Str := ["told", "spot"]
theorem sc_turns : FnScope n_turns p_turns (defScope s_turns) := ⟨rfl, rfl, rfl, by decide +kernel, rfl, by decide +kernel, by decide +kernel⟩
abbrev s_l_sack : Stmt := topS 31
abbrev n_l_sack : List Str := ["script", "rank", "cell"]
abbrev p_l_sack : List Str := ["script", "rank"]
theorem sc_l_sack : FnScope n_l_sack p_l_sack (defScope s_l_sack) := ⟨rfl, rfl, rfl, by decide +kernel, rfl, by decide +kernel, by decide +kernel⟩
abbrev s_l_coin : Stmt := topS 32
abbrev n_l_coin : List Str := ["sack", "many", "drawn", "stirred"]
abbrev p_l_coin : List Str := ["sack", "many"]
theorem sc_l_coin : FnScope n_l_coin p_l_coin (defScope s_l_coin) := ⟨rfl, rfl, rfl, by decide +kernel, rfl, by decide +kernel, by decide +kernel⟩
abbrev s_l_shared : Stmt := topS 33
abbrev n_l_shared : List Str := ["left", "right", "turn"]
abbrev p_l_shared : List Str := ["left", "right"]
theorem sc_l_shared : FnScope n_l_shared p_l_shared (defScope s_l_shared) := ⟨rfl, rfl, rfl, by decide +kernel, rfl, by decide +kernel, by decide +kernel⟩
abbrev s_l_ratio : Stmt := topS 34
abbrev n_l_ratio : List Str := ["up", "down", "shared"]
abbrev p_l_ratio : List Str := ["up", "down"]
theorem sc_l_ratio : FnScope n_l_ratio p_l_ratio (defScope s_l_ratio) := ⟨rfl, rfl, rfl, by decide +kernel, rfl, by decide +kernel, by decide +kernel⟩
abbrev s_l_add : Stmt := topS 35
abbrev n_l_add : List Str := ["left", "right"]
abbrev p_l_add : List Str := ["left", "right"]
theorem sc_l_add : FnScope n_l_add p_l_add (defScope s_l_add) := ⟨rfl, rfl, rfl, by decide +kernel, rfl, by decide +kernel, by decide +kernel⟩
abbrev s_l_mul : Stmt := topS 36
abbrev n_l_mul : List Str := ["left", "right"]
abbrev p_l_mul : List Str := ["left", "right"]
theorem sc_l_mul : FnScope n_l_mul p_l_mul (defScope s_l_mul) := ⟨rfl, rfl, rfl, by decide +kernel, rfl, by decide +kernel, by decide +kernel⟩
abbrev s_l_trim : Stmt := topS 37
abbrev n_l_trim : List Str := ["some", "size", "turn"]
abbrev p_l_trim : List Str := ["some"]
theorem sc_l_trim : FnScope n_l_trim p_l_trim (defScope s_l_trim) := ⟨rfl, rfl, rfl, by decide +kernel, rfl, by decide +kernel, by decide +kernel⟩
abbrev s_l_product : Stmt := topS 38
abbrev n_l_product : List Str := ["left", "right", "found", "k", "piece", "m", "part"]
abbrev p_l_product : List Str := ["left", "right"]
theorem sc_l_product : FnScope n_l_product p_l_product (defScope s_l_product) := ⟨rfl, rfl, rfl, by decide +kernel, rfl, by decide +kernel, by decide +kernel⟩
abbrev s_l_slope : Stmt := topS 39
abbrev n_l_slope : List Str := ["poly", "k", "piece"]
abbrev p_l_slope : List Str := ["poly"]
theorem sc_l_slope : FnScope n_l_slope p_l_slope (defScope s_l_slope) := ⟨rfl, rfl, rfl, by decide +kernel, rfl, by decide +kernel, by decide +kernel⟩
abbrev s_l_at : Stmt := topS 40
abbrev n_l_at : List Str := ["poly", "ratio", "found", "power", "piece"]
abbrev p_l_at : List Str := ["poly", "ratio"]
theorem sc_l_at : FnScope n_l_at p_l_at (defScope s_l_at) := ⟨rfl, rfl, rfl, by decide +kernel, rfl, by decide +kernel, by decide +kernel⟩
abbrev s_l_thin : Stmt := topS 41
abbrev n_l_thin : List Str := ["poly", "shared", "piece"]
abbrev p_l_thin : List Str := ["poly"]
theorem sc_l_thin : FnScope n_l_thin p_l_thin (defScope s_l_thin) := ⟨rfl, rfl, rfl, by decide +kernel, rfl, by decide +kernel, by decide +kernel⟩
abbrev s_l_left : Stmt := topS 42
abbrev n_l_left : List Str := ["poly", "by", "piece", "found", "turn", "factor", "taken", "lowest", "k"]
abbrev p_l_left : List Str := ["poly", "by"]
theorem sc_l_left : FnScope n_l_left p_l_left (defScope s_l_left) := ⟨rfl, rfl, rfl, by decide +kernel, rfl, by decide +kernel, by decide +kernel⟩
abbrev s_l_chain : Stmt := topS 43
abbrev n_l_chain : List Str := ["poly", "found", "turn", "piece", "part"]
abbrev p_l_chain : List Str := ["poly"]
theorem sc_l_chain : FnScope n_l_chain p_l_chain (defScope s_l_chain) := ⟨rfl, rfl, rfl, by decide +kernel, rfl, by decide +kernel, by decide +kernel⟩
abbrev s_l_mark : Stmt := topS 44
abbrev n_l_mark : List Str := ["poly", "end", "piece", "some"]
abbrev p_l_mark : List Str := ["poly", "end"]
theorem sc_l_mark : FnScope n_l_mark p_l_mark (defScope s_l_mark) := ⟨rfl, rfl, rfl, by decide +kernel, rfl, by decide +kernel, by decide +kernel⟩
abbrev s_l_flips : Stmt := topS 45
abbrev n_l_flips : List Str := ["chain", "end", "marks", "poly", "piece", "k"]
abbrev p_l_flips : List Str := ["chain", "end"]
theorem sc_l_flips : FnScope n_l_flips p_l_flips (defScope s_l_flips) := ⟨rfl, rfl, rfl, by decide +kernel, rfl, by decide +kernel, by decide +kernel⟩
abbrev s_l_poly : Stmt := topS 46
abbrev n_l_poly : List Str := ["sack", "size", "top", "found", "turn"]
abbrev p_l_poly : List Str := ["sack", "size"]
theorem sc_l_poly : FnScope n_l_poly p_l_poly (defScope s_l_poly) := ⟨rfl, rfl, rfl, by decide +kernel, rfl, by decide +kernel, by decide +kernel⟩
abbrev s_l_any_ratio : Stmt := topS 47
abbrev n_l_any_ratio : List Str := ["sack", "top", "base"]
abbrev p_l_any_ratio : List Str := ["sack"]
theorem sc_l_any_ratio : FnScope n_l_any_ratio p_l_any_ratio (defScope s_l_any_ratio) := ⟨rfl, rfl, rfl, by decide +kernel, rfl, by decide +kernel, by decide +kernel⟩
abbrev s_l_copied : Stmt := topS 48
abbrev n_l_copied : List Str := ["thing", "part"]
abbrev p_l_copied : List Str := ["thing"]
theorem sc_l_copied : FnScope n_l_copied p_l_copied (defScope s_l_copied) := ⟨rfl, rfl, rfl, by decide +kernel, rfl, by decide +kernel, by decide +kernel⟩
abbrev s_l_lists : Stmt := topS 49
abbrev n_l_lists : List Str := ["thing", "found", "part"]
abbrev p_l_lists : List Str := ["thing"]
theorem sc_l_lists : FnScope n_l_lists p_l_lists (defScope s_l_lists) := ⟨rfl, rfl, rfl, by decide +kernel, rfl, by decide +kernel, by decide +kernel⟩
abbrev s_l_marked : Stmt := topS 50
abbrev n_l_marked : List Str := ["thing", "some", "k"]
abbrev p_l_marked : List Str := ["thing"]
theorem sc_l_marked : FnScope n_l_marked p_l_marked (defScope s_l_marked) := ⟨rfl, rfl, rfl, by decide +kernel, rfl, by decide +kernel, by decide +kernel⟩
abbrev s_l_right : Stmt := topS 51
abbrev n_l_right : List Str := ["found", "due"]
abbrev p_l_right : List Str := ["found", "due"]
theorem sc_l_right : FnScope n_l_right p_l_right (defScope s_l_right) := ⟨rfl, rfl, rfl, by decide +kernel, rfl, by decide +kernel, by decide +kernel⟩
abbrev s_l_power : Stmt := topS 52
abbrev n_l_power : List Str := ["base", "many", "found", "turn"]
abbrev p_l_power : List Str := ["base", "many"]
theorem sc_l_power : FnScope n_l_power p_l_power (defScope s_l_power) := ⟨rfl, rfl, rfl, by decide +kernel, rfl, by decide +kernel, by decide +kernel⟩
abbrev s_l_whole_root : Stmt := topS 53
abbrev n_l_whole_root : List Str := ["base", "many", "k"]
abbrev p_l_whole_root : List Str := ["base", "many"]
theorem sc_l_whole_root : FnScope n_l_whole_root p_l_whole_root (defScope s_l_whole_root) := ⟨rfl, rfl, rfl, by decide +kernel, rfl, by decide +kernel, by decide +kernel⟩
abbrev s_l_number : Stmt := topS 54
abbrev n_l_number : List Str := ["up", "down", "many", "prime", "left", "right"]
abbrev p_l_number : List Str := ["up", "down", "many"]
theorem sc_l_number : FnScope n_l_number p_l_number (defScope s_l_number) := ⟨rfl, rfl, rfl, by decide +kernel, rfl, by decide +kernel, by decide +kernel⟩
abbrev s_l_drawn_number : Stmt := topS 55
abbrev n_l_drawn_number : List Str := ["sack", "top", "many", "most"]
abbrev p_l_drawn_number : List Str := ["sack", "top"]
theorem sc_l_drawn_number : FnScope n_l_drawn_number p_l_drawn_number (defScope s_l_drawn_number) := ⟨rfl, rfl, rfl, by decide +kernel, rfl, by decide +kernel, by decide +kernel⟩
abbrev s_l_base : Stmt := topS 56
abbrev n_l_base : List Str := ["number"]
abbrev p_l_base : List Str := ["number"]
theorem sc_l_base : FnScope n_l_base p_l_base (defScope s_l_base) := ⟨rfl, rfl, rfl, by decide +kernel, rfl, by decide +kernel, by decide +kernel⟩
abbrev s_l_factor : Stmt := topS 57
abbrev n_l_factor : List Str := ["sack", "kind", "up", "down", "side", "number", "found"]
abbrev p_l_factor : List Str := ["sack"]
theorem sc_l_factor : FnScope n_l_factor p_l_factor (defScope s_l_factor) := ⟨rfl, rfl, rfl, by decide +kernel, rfl, by decide +kernel, by decide +kernel⟩
abbrev s_l_factors : Stmt := topS 58
abbrev n_l_factors : List Str := ["sack", "degree", "found", "size", "turn", "fresh", "weight", "piece"]
abbrev p_l_factors : List Str := ["sack", "degree"]
theorem sc_l_factors : FnScope n_l_factors p_l_factors (defScope s_l_factors) := ⟨rfl, rfl, rfl, by decide +kernel, rfl, by decide +kernel, by decide +kernel⟩
abbrev s_l_multiplied : Stmt := topS 59
abbrev n_l_multiplied : List Str := ["factors", "by", "found", "poly", "roots"]
abbrev p_l_multiplied : List Str := ["factors", "by"]
theorem sc_l_multiplied : FnScope n_l_multiplied p_l_multiplied (defScope s_l_multiplied) := ⟨rfl, rfl, rfl, by decide +kernel, rfl, by decide +kernel, by decide +kernel⟩
abbrev s_l_checked : Stmt := topS 60
abbrev n_l_checked : List Str := ["sack", "left", "kept", "due", "some", "chain", "end", "flips", "turn"]
abbrev p_l_checked : List Str := ["sack"]
theorem sc_l_checked : FnScope n_l_checked p_l_checked (defScope s_l_checked) := ⟨rfl, rfl, rfl, by decide +kernel, rfl, by decide +kernel, by decide +kernel⟩
abbrev s_law : Stmt := topS 61
abbrev n_law : List Str := ["script", "rank"]
abbrev p_law : List Str := ["script"]
theorem sc_law : FnScope n_law p_law (defScope s_law) := ⟨rfl, rfl, rfl, by decide +kernel, rfl, by decide +kernel, by decide +kernel⟩
end V2


namespace V2
open PySem L2
open PySem.Spec PyProof.Rows
/-! ## rules of our own -/
def CPowX (i j : Int) : Prop := 0 ≤ j ∧ (Builtin.Int.intBits i : Int) * j ≤ 2 ^ 27
theorem op_powX {X : Cx} : OpR X (binaryOp .Pow) (rI CPowX fun i j => .int (i ^ j.toNat)) :=
  opI fun _ _ _ _ _ _ _ hc q => pow_int hc.1 hc.2 q
theorem pow_ok {i : Int} {k n : Nat} (hi : i.natAbs < 2 ^ k) (h : k * n ≤ 134217728) : CPowX i (n : Int) := by
  (refine ⟨Int.natCast_nonneg _, ?_⟩)
  have h1 := intBits_le hi
  have h2 : Builtin.Int.intBits i * n ≤ k * n := Nat.mul_le_mul_right n h1
  have h3 : ((Builtin.Int.intBits i * n : Nat) : Int) ≤ 134217728 := by omega
  have e : (2 : Int) ^ 27 = 134217728 := (by decide)
  rw [e, ← Int.natCast_mul]
  exact h3
/-- all but the list at p is as it was (and there may be new things) -/
def But (p : Addr) (H H' : Hp) : Prop := ∀ b o, b ≠ p → H b = some o → H' b = some o
theorem But.refl (p : Addr) (H : Hp) : But p H H := fun _ _ _ h => h
theorem But.trans {p : Addr} {H H1 H2 : Hp} (a : But p H H1) (b : But p H1 H2) : But p H H2 := fun c o n h => b c o n (a c o n h)
theorem But.of_ex {p : Addr} {H H' : Hp} (e : Evl.Ex H H') : But p H H' := fun b o _ h => e b o h
theorem But.upd {p : Addr} {H : Hp} {o : HO} : But p H (upd H p o) := fun b u n h => by
  rw [upd_ne n]; exact h
/-- the law's sack at p: three ints, at most m draws so far -/
def Sk (H : Hp) (p : Addr) (m : Nat) : Prop := ∃ a b c : Int, H p = some (.lst [.int a, .int b, .int c]) ∧ 0 ≤ a ∧ 0 ≤ b ∧ b < 2 ^ 80 ∧ 0 ≤ c ∧ c ≤ m
theorem Sk.le {H : Hp} {p : Addr} {m n : Nat} (h : Sk H p m) (l : m ≤ n) : Sk H p n := by
  obtain ⟨a, b, c, h1, h2, h3, h4, h5, h6⟩ := h
  exact ⟨a, b, c, h1, h2, h3, h4, h5, by omega⟩
theorem Sk.ex {H H' : Hp} {p : Addr} {m : Nat} (h : Sk H p m) (e : Evl.Ex H H') : Sk H' p m := by
  obtain ⟨a, b, c, h1, h2⟩ := h
  exact ⟨a, b, c, e _ _ h1, h2⟩
/-- a draw: any number below many, the sack goes on -/
def spCoin : Sp := fun vs H Q _ => ∃ (p : Addr) (many : Int) (m : Nat), vs = [.ref p, .int many] ∧ Sk H p m ∧ m ≤ 100000 ∧ 0 < many ∧ many.natAbs < 2 ^ 200 ∧
  ∀ (r : Int) (H' : Hp), 0 ≤ r → r < many → But p H H' → Sk H' p (m + 1) → (∀ q, H q = none → H' q = none) → Q (.int r) H'
structure T0 (mg : Str → Option Value) : Prop where
  len : mg "len" = none
  max : mg "max" = none
  abs : mg "abs" = none
  int : mg "int" = none
theorem at0 {a b c : V} : atI [a, b, c] 0 = some a := by rfl
theorem at1 {a b c : V} : atI [a, b, c] 1 = some b := by rfl
theorem at2 {a b c : V} : atI [a, b, c] 2 = some c := by rfl
theorem ixN3 (j : Nat) (h : j < 3) : ixN 3 (j : Int) = some j := Evl.ixN_nat h
section
variable {base : Heap} {mg : Str → Option Value} {K : PySem.W.Frag} {w : World} {P : Program}
theorem ok_coin {f : Addr} {fd : FuncData} (F : Fun K "_law_pv_coin" "_law_pv_coin" s_l_coin f fd) (T : T0 mg) : FnOk P w K mg base CX0 1 f fd p_l_coin spCoin := by
  refine F.ok sc_l_coin (fun vs H Q E h => ?_) (fun cdv A outer s H vs Q E hr h => ?_)
  · obtain ⟨p, many, m, rfl, _⟩ := h
    rfl
  · obtain ⟨p, many, m, rfl, ⟨a, b, c, hp, ha, hb, hb2, hc, hc2⟩, hm, h0, h200, k⟩ := h
    have nd := sc_l_coin.nd
    refine ⟨_, pss_cons (ps_if (pt_cmpR op_gt (pe_ix ix_list (pv 0) pe_int (fun _ _ => rfl)) pe_int (nomark _))
        (pss_cons (ps_set (i := 2) nd rfl (Or.inl rfl) (pe_op op_mod (pe_callTy call_int1 (by rfl) T.int (by decide +kernel) (pa_cons (pe_ix ix_list (pv 0) pe_int (fun _ _ => rfl)) pa_nil)) (pv 1)))
        (pss_cons (ps_asg (pe_op op_fdivW (pe_ix ix_list (pv 0) pe_int (fun _ _ => rfl)) (pv 1)) (pg_sub (pv 0) pe_int set_list))
        (pss_one (ps_ret (pv 2))))) pss_nil)
      (pss_cons (ps_asg (pe_op op_add (pe_ix ix_list (pv 0) pe_int (fun _ _ => rfl)) pe_int) (pg_sub (pv 0) pe_int set_list))
      (pss_cons (ps_set (i := 3) nd rfl (Or.inl rfl) (pe_op op_mod (pe_op op_powX (pe_callTy call_int1 (by rfl) T.int (by decide +kernel) (pa_cons (pe_op op_add (pe_ix ix_list (pv 0) pe_int (fun _ _ => rfl)) (pe_op op_mul pe_int (pe_ix ix_list (pv 0) pe_int (fun _ _ => rfl)))) pa_nil)) pe_int) (pe_op op_add (pe_op op_powX pe_int pe_int) pe_int)))
      (pss_cons (ps_set (i := 3) nd rfl (Or.inl rfl) (pe_op op_mod (pe_op op_powX (pe_callTy call_int1 (by rfl) T.int (by decide +kernel) (pa_cons (pe_op op_add (pv 3) (pe_op op_mul pe_int (pe_ix ix_list (pv 0) pe_int (fun _ _ => rfl)))) pa_nil)) pe_int) (pe_op op_add (pe_op op_powX pe_int pe_int) pe_int)))
      (pss_one (ps_ret (pe_op op_mod (pe_callTy call_int1 (by rfl) T.int (by decide +kernel) (pa_cons (pe_op op_fdivW (pv 3) pe_int) pa_nil)) (pv 1))))))), ?_⟩
    refine ⟨_, rfl, p, _, _, _, rfl, rfl, SqL.of hp, at0, _, _, rfl, rfl, _, rfl, ?_⟩
    refine ite2 (fun q => ?_) (fun _ => ?_)
    · have q0 : 0 < a := by simpa using q
      refine ⟨_, rfl, p, _, _, _, rfl, rfl, SqL.of hp, at0, .inl ⟨_, rfl, _, rfl, _, _, rfl, rfl, h0, ?_⟩⟩
      refine ⟨_, rfl, p, _, _, _, rfl, rfl, SqL.of hp, at0, _, rfl, _, _, rfl, rfl, wide_div h0 h200 (by decide) (by decide), _, rfl, p, _, 0, 0, rfl, rfl, hp, ixN3 0 (by decide), ?_⟩
      refine ⟨_, rfl, k _ _ (Int.emod_nonneg _ (by omega)) (Int.emod_lt_of_pos _ h0) But.upd ⟨a / many, b, c, upd_same, Int.ediv_nonneg ha (by omega), hb, hb2, hc, by omega⟩ (fun q hq => ?_)⟩
      rw [upd_ne (fun z => by rw [z, hp] at hq; cases hq)]; exact hq
    · have e24 : ((10 : Int) ^ (24 : Int).toNat + 7) = 1000000000000000000000007 := by decide
      have e25 : ((10 : Int) ^ (25 : Int).toNat + 13) = 10000000000000000000000013 := by decide
      have p80 : (2 : Int) ^ 80 = 1208925819614629174706176 := by decide
      have n81 : (2 : Nat) ^ 81 = 2417851639229258349412352 := by decide
      have n85 : (2 : Nat) ^ 85 = 38685626227668133590597632 := by decide
      rw [p80] at hb2
      have w1 : CPowX (b + 1640531527 * (c + 1)) 3 := pow_ok (k := 81) (n := 3) (by rw [n81]; omega) (by decide)
      have w25 : CPowX 10 25 := pow_ok (k := 4) (n := 25) (by decide) (by decide)
      have w24 : CPowX 10 24 := pow_ok (k := 4) (n := 24) (by decide) (by decide)
      have hp2 : upd H p (.lst [.int a, .int b, .int (c + 1)]) p = some (.lst [.int a, .int b, .int (c + 1)]) := upd_same
      refine ⟨_, rfl, p, _, _, _, rfl, rfl, SqL.of hp, at2, _, _, rfl, rfl, _, rfl, p, _, 2, 2, rfl, rfl, hp, ixN3 2 (by decide), ?_⟩
      refine ⟨_, rfl, p, _, _, _, rfl, rfl, SqL.of hp2, at1, _, rfl, p, _, _, _, rfl, rfl, SqL.of hp2, at2, _, _, rfl, rfl, .inl ⟨by decide, by decide⟩, _, _, rfl, rfl, .inl ⟨_, rfl, ?_⟩⟩
      have g25 : (0 : Int) < 10 ^ (25 : Int).toNat + 13 := by rw [e25]; decide
      have g24 : (0 : Int) < 10 ^ (24 : Int).toNat + 7 := by rw [e24]; decide
      refine ⟨_, 3, rfl, rfl, w1, 10, 25, rfl, rfl, w25, _, 13, rfl, rfl, _, _, rfl, rfl, g25, ?_⟩
      have x0 : 0 ≤ (b + 1640531527 * (c + 1)) ^ (3 : Int).toNat % (10 ^ (25 : Int).toNat + 13) := Int.emod_nonneg _ (by omega)
      have x1 : (b + 1640531527 * (c + 1)) ^ (3 : Int).toNat % (10 ^ (25 : Int).toNat + 13) < 10000000000000000000000013 := by rw [← e25]; exact Int.emod_lt_of_pos _ g25
      have w2 : CPowX ((b + 1640531527 * (c + 1)) ^ (3 : Int).toNat % (10 ^ (25 : Int).toNat + 13) + 805459861 * (c + 1)) 2 := pow_ok (k := 85) (n := 2) (by rw [n85]; omega) (by decide)
      refine ⟨_, rfl, _, rfl, p, _, _, _, rfl, rfl, SqL.of hp2, at2, _, _, rfl, rfl, .inl ⟨by decide, by decide⟩, _, _, rfl, rfl, .inl ⟨_, rfl, ?_⟩⟩
      refine ⟨_, 2, rfl, rfl, w2, 10, 24, rfl, rfl, w24, _, 7, rfl, rfl, _, _, rfl, rfl, g24, ?_⟩
      refine ⟨_, rfl, _, 1024, rfl, rfl, wide_div (b := 11) (by decide) (by decide) (by decide) (by decide), .inl ⟨_, rfl, _, rfl, _, _, rfl, rfl, h0, ?_⟩⟩
      refine k _ _ (Int.emod_nonneg _ (by omega)) (Int.emod_lt_of_pos _ h0) But.upd ⟨a, b, c + 1, hp2, ha, hb, by rw [p80]; exact hb2, by omega, by omega⟩ (fun q hq => ?_)
      rw [upd_ne (fun z => by rw [z, hp] at hq; cases hq)]; exact hq
end
end V2


namespace V2
/-! ## plain mathematics -/
/-- how many zeros a list begins with -/
def zer : List Int → Nat
  | [] => 0
  | x :: r => if x = 0 then zer r + 1 else 0
theorem zer_le : ∀ l : List Int, zer l ≤ l.length
  | [] => Nat.le_refl _
  | x :: r => by
    unfold zer
    split
    · have := zer_le r; simp only [List.length_cons]; omega
    · exact Nat.zero_le _
theorem zer_in : ∀ (l : List Int) (j : Nat), j < zer l → l[j]? = some 0
  | [], j, h => absurd h (Nat.not_lt_zero _)
  | x :: r, j, h => by
    unfold zer at h
    split at h
    · rename_i e
      cases j with
      | zero => simp [e]
      | succ j => simpa using zer_in r j (by omega)
    · exact absurd h (Nat.not_lt_zero _)
theorem zer_at : ∀ (l : List Int), zer l < l.length → ∃ x, l[zer l]? = some x ∧ x ≠ 0
  | [], h => absurd h (Nat.not_lt_zero _)
  | x :: r, h => by
    unfold zer at h ⊢
    split
    · rename_i e
      rw [if_pos e, List.length_cons] at h
      obtain ⟨y, h1, h2⟩ := zer_at r (by omega)
      exact ⟨y, by simpa using h1, h2⟩
    · rename_i e
      exact ⟨x, rfl, e⟩
/-- how many zeros stand at the end -/
def tz (ns : List Int) : Nat := zer ns.reverse
theorem tz_le (ns : List Int) : tz ns ≤ ns.length := by
  have := zer_le ns.reverse
  rwa [List.length_reverse] at this
theorem tz_in (ns : List Int) (j : Nat) (h : j < tz ns) : ns[ns.length - 1 - j]? = some 0 := by
  have h1 := zer_in ns.reverse j h
  have h2 := tz_le ns
  rwa [List.getElem?_reverse (by omega)] at h1
theorem tz_at (ns : List Int) (h : tz ns < ns.length) : ∃ x, ns[ns.length - 1 - tz ns]? = some x ∧ x ≠ 0 := by
  have h1 := zer_at ns.reverse (by rwa [List.length_reverse])
  obtain ⟨x, h2, h3⟩ := h1
  refine ⟨x, ?_, h3⟩
  change ns.reverse[tz ns]? = some x at h2
  rwa [List.getElem?_reverse h] at h2
/-- without the zeros at the end -/
def trm (ns : List Int) : List Int := ns.take (ns.length - tz ns)
/-- no 0 at the end -/
def Pol (ns : List Int) : Prop := ∀ x, ns[ns.length - 1]? = some x → x ≠ 0
theorem tz_pol {ns : List Int} (h : Pol ns) : tz ns = 0 := by
  cases e : tz ns with
  | zero => rfl
  | succ k =>
    exact absurd rfl (h 0 (by have := tz_in ns 0 (by omega); simpa using this))
theorem trm_pol {ns : List Int} (h : Pol ns) : trm ns = ns := by
  unfold trm
  rw [tz_pol h, Nat.sub_zero, List.take_length]
theorem pol_trm (ns : List Int) : Pol (trm ns) := by
  intro x h
  unfold trm at h
  have h2 := tz_le ns
  rw [List.length_take, Nat.min_eq_left (Nat.sub_le _ _)] at h
  by_cases h3 : tz ns < ns.length
  · obtain ⟨y, h4, h5⟩ := tz_at ns h3
    rw [List.getElem?_take, if_pos (by omega), show ns.length - tz ns - 1 = ns.length - 1 - tz ns by omega, h4] at h
    cases h; exact h5
  · rw [List.getElem?_take, if_neg (by omega)] at h
    cases h
theorem trm_len (ns : List Int) : (trm ns).length ≤ ns.length := by
  unfold trm; rw [List.length_take]; omega
theorem trm_mem {ns : List Int} {x : Int} (h : x ∈ trm ns) : x ∈ ns := List.mem_of_mem_take h
/-! ### Euclid -/
theorem mod_half {l r : Nat} (h0 : 0 < r) (h : r < l) : r * (l % r) * 2 ≤ l * r := by
  have h1 := Nat.mod_lt l h0
  have h2 : l % r + r ≤ l := by
    have := Nat.div_add_mod l r
    have h3 : 1 ≤ l / r := Nat.div_pos (Nat.le_of_lt h) h0
    have h4 : r * 1 ≤ r * (l / r) := Nat.mul_le_mul_left r h3
    omega
  have h5 : (l % r) * 2 ≤ l := by omega
  calc r * (l % r) * 2 = r * ((l % r) * 2) := by rw [Nat.mul_assoc]
    _ ≤ r * l := Nat.mul_le_mul_left r h5
    _ = l * r := Nat.mul_comm _ _
/-- behind i turns -/
def Euc (B x y i l r : Nat) : Prop := Nat.gcd l r = Nat.gcd x y ∧ l < 2 ^ B ∧ r < 2 ^ B ∧ (i = 0 ∨ (r < l ∧ l * r * 2 ^ (i - 1) < 2 ^ (2 * B)))
theorem euc_0 {B x y : Nat} (hx : x < 2 ^ B) (hy : y < 2 ^ B) : Euc B x y 0 x y := ⟨rfl, hx, hy, .inl rfl⟩
theorem euc_s {B x y i l r : Nat} (h : Euc B x y i l r) (h0 : 0 < r) : Euc B x y (i + 1) r (l % r) := by
  obtain ⟨hg, hl, hr, hi⟩ := h
  have hm := Nat.mod_lt l h0
  refine ⟨?_, hr, Nat.lt_trans hm hr, .inr ⟨hm, ?_⟩⟩
  · rw [← hg, Nat.gcd_comm r, ← Nat.gcd_rec, Nat.gcd_comm]
  · rw [Nat.add_sub_cancel]
    rcases hi with rfl | ⟨hlt, hb⟩
    · rw [Nat.pow_zero, Nat.mul_one, Nat.two_mul, Nat.pow_add]
      exact Nat.mul_lt_mul'' hr (Nat.lt_trans hm hr)
    · cases i with
      | zero =>
        rw [Nat.pow_zero, Nat.mul_one, Nat.two_mul, Nat.pow_add]
        exact Nat.mul_lt_mul'' hr (Nat.lt_trans hm hr)
      | succ i =>
        rw [Nat.add_sub_cancel] at hb
        refine Nat.lt_of_le_of_lt ?_ hb
        rw [Nat.pow_succ, Nat.mul_comm (2 ^ i) 2, ← Nat.mul_assoc]
        exact Nat.mul_le_mul_right _ (mod_half h0 hlt)
theorem euc_end {B x y i l r : Nat} (h : Euc B x y i l r) (hi : 2 * B + 1 ≤ i) : r = 0 := by
  obtain ⟨_, _, _, h | ⟨hlt, hb⟩⟩ := h
  · omega
  · rcases Nat.eq_zero_or_pos r with e | e
    · exact e
    · exfalso
      have h1 : 1 * 2 ^ (2 * B) ≤ l * r * 2 ^ (i - 1) := Nat.mul_le_mul (Nat.mul_pos (by omega) e) (Nat.pow_le_pow_right (by decide) (by omega))
      omega
theorem euc_val {B x y i l : Nat} (h : Euc B x y i l 0) : l = Nat.gcd x y := by
  rw [← h.1, Nat.gcd_zero_right]
/-! ### fractions in lowest terms -/
def fr (u d : Int) : Int × Int := (u / (Int.gcd u d : Int), d / (Int.gcd u d : Int))
theorem gcd_pos {u d : Int} (h : 0 < d) : (0 : Int) < (Int.gcd u d : Int) := by
  have := Int.gcd_pos_of_ne_zero_right u (show d ≠ 0 by omega)
  omega
theorem fr_mul {u d : Int} (h : 0 < d) : u = (fr u d).1 * (Int.gcd u d : Int) ∧ d = (fr u d).2 * (Int.gcd u d : Int) :=
  ⟨(Int.ediv_mul_cancel (Int.gcd_dvd_left ..)).symm, (Int.ediv_mul_cancel (Int.gcd_dvd_right ..)).symm⟩
theorem fr_pos {u d : Int} (h : 0 < d) : 0 < (fr u d).2 := by
  have g := gcd_pos (u := u) h
  have e := (fr_mul (u := u) h).2
  rcases Int.lt_or_le 0 (fr u d).2 with h1 | h1
  · exact h1
  · exfalso
    have : (fr u d).2 * (Int.gcd u d : Int) ≤ 0 := Int.mul_nonpos_of_nonpos_of_nonneg h1 (by omega)
    omega
theorem fr_cop {u d : Int} (h : 0 < d) : Int.gcd (fr u d).1 (fr u d).2 = 1 := by
  have g := gcd_pos (u := u) h
  unfold fr
  exact Int.gcd_ediv_gcd_ediv_gcd (by omega)
/-- two fractions in lowest terms that are one number are one -/
theorem cop_eq {a b c d : Int} (hb : 0 < b) (hd : 0 < d) (h1 : Int.gcd a b = 1) (h2 : Int.gcd c d = 1) (e : a * d = c * b) : a = c ∧ b = d := by
  have hbd : b ∣ d := by
    have h3 : b ∣ a * d := ⟨c, by rw [e, Int.mul_comm]⟩
    have h4 := Int.dvd_gcd_mul_iff_dvd_mul.mpr h3
    rw [Int.gcd_comm, h1] at h4
    simpa using h4
  have hdb : d ∣ b := by
    have h3 : d ∣ c * b := ⟨a, by rw [← e, Int.mul_comm]⟩
    have h4 := Int.dvd_gcd_mul_iff_dvd_mul.mpr h3
    rw [Int.gcd_comm, h2] at h4
    simpa using h4
  have ebd : b = d := Int.dvd_antisymm (by omega) (by omega) hbd hdb
  subst ebd
  exact ⟨Int.eq_of_mul_eq_mul_right (by omega) e, rfl⟩
theorem fr_eq {a b c d : Int} (hb : 0 < b) (hd : 0 < d) (e : a * d = c * b) : fr a b = fr c d := by
  have g1 := gcd_pos (u := a) hb
  have g2 := gcd_pos (u := c) hd
  obtain ⟨a1, b1⟩ := fr_mul (u := a) hb
  obtain ⟨c1, d1⟩ := fr_mul (u := c) hd
  have k : (fr a b).1 * (fr c d).2 = (fr c d).1 * (fr a b).2 := by
    have z : ((fr a b).1 * (fr c d).2) * ((Int.gcd a b : Int) * (Int.gcd c d : Int)) = ((fr c d).1 * (fr a b).2) * ((Int.gcd a b : Int) * (Int.gcd c d : Int)) := by
      calc ((fr a b).1 * (fr c d).2) * ((Int.gcd a b : Int) * (Int.gcd c d : Int)) = ((fr a b).1 * (Int.gcd a b : Int)) * ((fr c d).2 * (Int.gcd c d : Int)) := by simp only [Int.mul_assoc, Int.mul_comm, Int.mul_left_comm]
        _ = a * d := by rw [← a1, ← d1]
        _ = c * b := e
        _ = ((fr c d).1 * (Int.gcd c d : Int)) * ((fr a b).2 * (Int.gcd a b : Int)) := by rw [← c1, ← b1]
        _ = _ := by simp only [Int.mul_assoc, Int.mul_comm, Int.mul_left_comm]
    exact Int.eq_of_mul_eq_mul_right (Int.ne_of_gt (Int.mul_pos g1 g2)) z
  obtain ⟨h1, h2⟩ := cop_eq (fr_pos hb) (fr_pos hd) (fr_cop hb) (fr_cop hd) k
  exact Prod.ext h1 h2
theorem fr_same {a b : Int} (hb : 0 < b) (h : Int.gcd a b = 1) : fr a b = (a, b) := by
  unfold fr
  rw [h]
  simp
theorem fr_val {a b : Int} (hb : 0 < b) : (fr a b).1 * b = a * (fr a b).2 := by
  obtain ⟨h1, h2⟩ := fr_mul (u := a) hb
  generalize (Int.gcd a b : Int) = g at h1 h2
  calc (fr a b).1 * b = (fr a b).1 * ((fr a b).2 * g) := by rw [← h2]
    _ = ((fr a b).1 * g) * (fr a b).2 := by simp only [Int.mul_assoc, Int.mul_comm, Int.mul_left_comm]
    _ = a * (fr a b).2 := by rw [← h1]
theorem fr_abs1 {a b : Int} (hb : 0 < b) : (fr a b).1.natAbs ≤ a.natAbs := by
  obtain ⟨h1, _⟩ := fr_mul (u := a) hb
  have g := gcd_pos (u := a) hb
  generalize Int.gcd a b = n at h1 g
  have e : a.natAbs = (fr a b).1.natAbs * n := by
    have := congrArg Int.natAbs h1
    rw [Int.natAbs_mul, Int.natAbs_natCast] at this
    exact this
  rw [e]
  exact Nat.le_mul_of_pos_right _ (by omega)
theorem fr_abs2 {a b : Int} (hb : 0 < b) : (fr a b).2.natAbs ≤ b.natAbs := by
  obtain ⟨_, h1⟩ := fr_mul (u := a) hb
  have g := gcd_pos (u := a) hb
  generalize Int.gcd a b = n at h1 g
  have e : b.natAbs = (fr a b).2.natAbs * n := by
    have := congrArg Int.natAbs h1
    rw [Int.natAbs_mul, Int.natAbs_natCast] at this
    exact this
  rw [e]
  exact Nat.le_mul_of_pos_right _ (by omega)
end V2


namespace V2
open PySem L2
open PySem.Spec PyProof.Rows
def RetU (xs : List V) (H : Hp) (Q : VK) : Prop := ∀ p H2, H p = none → Evl.Ex H H2 → H2 p = some (.tup xs) → Q (.ref p) H2
def iV (ns : List Int) : List V := ns.map V.int
theorem iV_len (ns : List Int) : (iV ns).length = ns.length := List.length_map ..
theorem iV_at {ns : List Int} {j : Nat} {n : Int} (h : ns[j]? = some n) : (iV ns)[j]? = some (.int n) := by
  unfold iV; rw [List.getElem?_map, h]; rfl
theorem cut_to (xs : List V) {k : Nat} (h : k ≤ xs.length) : cutV xs none (some (k : Int)) = xs.take k := by
  unfold cutV HT.sIx
  have e1 : Int.toNat (k : Int) = k := Int.toNat_natCast k
  simp
  first
    | done
    | (split <;> simp_all <;> omega)
    | omega
/-- the script, the rank: a new sack -/
def spSack (K : PySem.W.Frag) : Sp := fun vs H Q _ => ∃ (a : Addr) (ns : List Int) (r : Nat), vs = [.ref a, .int (r : Int)] ∧ SqL K H a (iV ns) ∧ ns.length ≤ 63 ∧ r ≤ 63 ∧
  ∀ (q : Addr) (H' : Hp), H q = none → Evl.Ex H H' → Sk H' q 0 → Q (.ref q) H'
def spShared : Sp := fun vs H Q _ => ∃ x y : Int, vs = [.int x, .int y] ∧ x.natAbs < 2 ^ 9000 ∧ y.natAbs < 2 ^ 9000 ∧ Evl.RetV (.int (Int.gcd x y : Int)) H Q
def spRatio : Sp := fun vs H Q _ => ∃ x y : Int, vs = [.int x, .int y] ∧ x.natAbs < 2 ^ 9000 ∧ y.natAbs < 2 ^ 9000 ∧ 0 < y ∧ RetU [.int (fr x y).1, .int (fr x y).2] H Q
structure T1 (mg : Str → Option Value) (fS fR : Addr) : Prop extends T0 mg where
  rng : mg "range" = none
  lst : mg "list" = none
  gS : mg "_law_pv_shared" = some (.ref fS)
  gR : mg "_law_pv_ratio" = some (.ref fR)
section
variable {base : Heap} {mg : Str → Option Value} {K : PySem.W.Frag} {w : World} {P : Program}
theorem ok_sack {f : Addr} {fd : FuncData} (F : Fun K "_law_pv_sack" "_law_pv_sack" s_l_sack f fd) (T : T0 mg) : FnOk P w K mg base CX0 1 f fd p_l_sack (spSack K) := by
  refine F.ok sc_l_sack (fun vs H Q E h => ?_) (fun cdv A outer s H vs Q E hr h => ?_)
  · obtain ⟨a, ns, r, rfl, _⟩ := h
    rfl
  · obtain ⟨a, ns, r, rfl, hS, hl, hr63, k⟩ := h
    have nd := sc_l_sack.nd
    refine ⟨_, pss_cons (ps_set (i := 2) nd rfl (Or.inl rfl) (pe_ifExp (pt_cmpR op_lt (pv 1) (pe_callB call_len_seq (by rfl) T.len PySem.boot_len (pa_cons (pv 0) pa_nil)) (nomark _)) (pe_ix ix_list (pv 0) (pv 1) (fun _ _ => rfl)) pe_int))
      (pss_one (ps_ret (pe_lst (pa_cons (pe_callB (call_max2 rfl) (by rfl) T.max (by decide +kernel) (pa_cons pe_int (pa_cons (pe_op op_sub (pe_callB call_abs (by rfl) T.abs (by decide +kernel) (pa_cons (pv 2) pa_nil)) (pe_op op_powX pe_int pe_int)) pa_nil)))
        (pa_cons (pe_op op_mod (pe_callTy call_int1 (by rfl) T.int (by decide +kernel) (pa_cons (pe_op op_add (pe_op op_add (pe_op op_mul (pv 2) pe_int) (pe_op op_mul (pv 1) pe_int)) pe_int) pa_nil)) (pe_op op_add (pe_op op_powX pe_int pe_int) pe_int))
        (pa_cons pe_int pa_nil)))))), ?_⟩
    have w18 : CPowX 10 18 := pow_ok (k := 4) (n := 18) (by decide) (by decide)
    have w24 : CPowX 10 24 := pow_ok (k := 4) (n := 24) (by decide) (by decide)
    have e24 : ((10 : Int) ^ (24 : Int).toNat + 7) = 1000000000000000000000007 := by decide
    have g24 : (0 : Int) < 10 ^ (24 : Int).toNat + 7 := by rw [e24]; decide
    have p80 : (2 : Int) ^ 80 = 1208925819614629174706176 := by decide
    (refine ⟨_, rfl, _, rfl, a, _, rfl, .inl hS, _, _, rfl, rfl, _, rfl, ?_⟩)
    refine ite2 (fun q => ?_) (fun _ => ?_)
    · have q2 : r < ns.length := by
        have q1 := of_decide_eq_true q
        rw [iV_len] at q1
        omega
      refine ⟨_, rfl, _, rfl, a, _, _, _, rfl, rfl, hS, atI_nat (iV_at (List.getElem?_eq_getElem q2)), ?_⟩
      refine ⟨_, rfl, _, rfl, 10, 18, rfl, rfl, w18, _, _, rfl, rfl, _, _, rfl, ?_⟩
      refine ⟨_, rfl, _, 69857, rfl, rfl, .inr ⟨by decide, by decide⟩, _, rfl, _, 9176291, rfl, rfl, .inr ⟨by decide, by decide⟩, _, _, rfl, rfl, _, _, rfl, rfl, .inl ⟨_, rfl, ?_⟩⟩
      refine ⟨10, 24, rfl, rfl, w24, _, 7, rfl, rfl, _, _, rfl, rfl, g24, ?_⟩
      refine ⟨by show 3 ≤ sizeLine; decide, fun q hq => ?_⟩
      refine k q _ hq (Evl.Ex.new hq) ⟨_, _, _, upd_same, ?_, Int.emod_nonneg _ (by omega), Int.lt_trans (Int.emod_lt_of_pos _ g24) (by rw [e24, p80]; decide), Int.le_refl _, Int.le_refl _⟩
      split <;> omega
    · refine ⟨_, rfl, _, rfl, 10, 18, rfl, rfl, w18, _, _, rfl, rfl, _, _, rfl, ?_⟩
      refine ⟨_, rfl, _, 69857, rfl, rfl, .inr ⟨by decide, by decide⟩, _, rfl, _, 9176291, rfl, rfl, .inr ⟨by decide, by decide⟩, _, _, rfl, rfl, _, _, rfl, rfl, .inl ⟨_, rfl, ?_⟩⟩
      refine ⟨10, 24, rfl, rfl, w24, _, 7, rfl, rfl, _, _, rfl, rfl, g24, ?_⟩
      refine ⟨by show 3 ≤ sizeLine; decide, fun q hq => ?_⟩
      refine k q _ hq (Evl.Ex.new hq) ⟨_, _, _, upd_same, ?_, Int.emod_nonneg _ (by omega), Int.lt_trans (Int.emod_lt_of_pos _ g24) (by rw [e24, p80]; decide), Int.le_refl _, Int.le_refl _⟩
      split <;> omega
theorem ok_shared {f : Addr} {fd : FuncData} (F : Fun K "_law_pv_shared" "_law_pv_shared" s_l_shared f fd) {fS fR : Addr} (T : T1 mg fS fR) : FnOk P w K mg base CX0 1 f fd p_l_shared spShared := by
  refine F.ok sc_l_shared (fun vs H Q E h => ?_) (fun cdv A outer s H vs Q E hr h => ?_)
  · obtain ⟨x, y, rfl, _⟩ := h
    rfl
  · obtain ⟨x, y, rfl, hx, hy, k⟩ := h
    have nd := sc_l_shared.nd
    refine ⟨_, pss_cons (ps_par (i := 0) (j := 1) rfl nd rfl rfl (by decide) rfl rfl (pa_cons (pe_callB call_abs (by rfl) T.abs (by decide +kernel) (pa_cons (pv 0) pa_nil)) (pa_cons (pe_callB call_abs (by rfl) T.abs (by decide +kernel) (pa_cons (pv 1) pa_nil)) pa_nil)) (by rfl))
      (pss_cons (ps_for PassesOwn.never rfl (pi_range1 (by rfl) T.rng (pa_cons pe_int pa_nil)) (pg_name (i := 2) nd rfl (Or.inl rfl))
        (pss_cons (ps_if (pt_cmpR op_eq (pv 1) pe_int (nomark _)) (pss_one (ps_ret (pv 0))) pss_nil)
        (pss_one (ps_par (i := 0) (j := 1) rfl nd rfl rfl (by decide) rfl rfl (pa_cons (pv 1) (pa_cons (pe_op op_mod (pe_callTy call_int1 (by rfl) T.int (by decide +kernel) (pa_cons (pv 0) pa_nil)) (pe_callTy call_int1 (by rfl) T.int (by decide +kernel) (pa_cons (pv 1) pa_nil))) pa_nil)) (by rfl)))))
      (pss_one (ps_ret (pv 0)))), ?_⟩
    have ab : ∀ z : Int, (if z < 0 then -z else z) = (z.natAbs : Int) := fun z => by split <;> omega
    refine ⟨_, rfl, _, rfl, _, rfl, _, rfl, _, _, rfl, ?_⟩
    rw [ab, ab]
    refine ⟨20000, rfl, by decide, by decide, for_range (n := 20000) (fun i σ H' => H' = H ∧ ∃ (l r : Nat) (v : Option V), σ = [some (.int l), some (.int r), v] ∧ Euc 9000 x.natAbs y.natAbs i l r)
      ⟨rfl, _, _, none, rfl, euc_0 hx hy⟩ ?_ ?_⟩
    · rintro i σ H' hi ⟨rfl, l, r, v, rfl, he⟩
      (refine ⟨_, rfl, rfl, _, rfl, ?_⟩)
      refine ite2 (fun q => ?_) (fun q => ?_)
      · have q1 : r = 0 := by
          have := of_decide_eq_true q
          injection this with h1
          omega
        subst q1
        refine ⟨_, rfl, ?_⟩
        have e : (l : Int) = (Int.gcd x y : Int) := by rw [euc_val he]; rfl
        rw [e]
        exact k _ (Evl.Ex.refl _)
      · have q1 : 0 < r := by
          rcases Nat.eq_zero_or_pos r with e | e
          · subst e; exact absurd (by decide) q
          · exact e
        refine ⟨_, rfl, _, rfl, .inl ⟨_, rfl, _, rfl, .inl ⟨_, rfl, _, _, rfl, rfl, (by show (0 : Int) < (r : Int); omega), _, _, rfl, ?_⟩⟩⟩
        exact ⟨rfl, r, l % r, _, rfl, euc_s he q1⟩
    · rintro σ H' ⟨rfl, l, r, v, rfl, he⟩
      have := euc_end he (by decide)
      subst this
      refine ⟨_, rfl, ?_⟩
      have e : (l : Int) = (Int.gcd x y : Int) := by rw [euc_val he]; rfl
      rw [e]
      exact k _ (Evl.Ex.refl _)
end
end V2


namespace V2
open PySem L2
open PySem.Spec PyProof.Rows
/-- a def that may be called by its name x -/
def Cal (P : Program) (w : World) (K : PySem.W.Frag) (mg : Str → Option Value) (base : Heap) (k : Nat) (x : Str) (ps : List Str) (sp : Sp) : Prop :=
  ∃ (f : Addr) (fd : FuncData), FnOk P w K mg base CX0 k f fd ps sp ∧ mg x = some (.ref f) ∧ PySem.W.keepIn K (.ref f) = true ∧ Binds K fd ps []
theorem pe_c {X : Cx} {k : Nat} {x : Str} {ps : List Str} {sp : Sp} {e : Expr} {es : List Expr} {t : TA} {p pos : Pos} (c : Cal X.prog X.w X.K X.mg X.base k x ps sp) (hr : Room k X.A) (ha : PA X (e :: es) t) (hg : Gl X x := by rfl)
    (he : starEach (e :: es) X.env = (false, eval e X.env) :: starEach es X.env := by rfl)
    (hpl : (backTo pos (starEach es X.env)).any (fun b => b.1) = false := by rfl) (hdb : (x == ("__debug__" : Str)) = false := by decide) :
    PE X (.Call (.Name x p) (e :: es) [] pos) (tCall sp [] E0 t) := by
  obtain ⟨f, fd, F, hm, hk, hb⟩ := c
  exact pe_call F hr hg hm hk hb .nil pass0 ha hdb he hpl
def spAdd : Sp := fun vs H Q _ => ∃ (l r : Addr) (a b c d : Int), vs = [.ref l, .ref r] ∧ SqL2 H l a b ∧ SqL2 H r c d ∧ a.natAbs < 2 ^ 4000 ∧ b.natAbs < 2 ^ 4000 ∧ c.natAbs < 2 ^ 4000 ∧ d.natAbs < 2 ^ 4000 ∧ 0 < b ∧ 0 < d ∧
  RetU [.int (fr (a * d + c * b) (b * d)).1, .int (fr (a * d + c * b) (b * d)).2] H Q
where SqL2 (H : Hp) (l : Addr) (a b : Int) : Prop := H l = some (.tup [.int a, .int b])
def spMul : Sp := fun vs H Q _ => ∃ (l r : Addr) (a b c d : Int), vs = [.ref l, .ref r] ∧ H l = some (.tup [.int a, .int b]) ∧ H r = some (.tup [.int c, .int d]) ∧ a.natAbs < 2 ^ 4000 ∧ b.natAbs < 2 ^ 4000 ∧ c.natAbs < 2 ^ 4000 ∧ d.natAbs < 2 ^ 4000 ∧ 0 < b ∧ 0 < d ∧
  RetU [.int (fr (a * c) (b * d)).1, .int (fr (a * c) (b * d)).2] H Q
/-- a list of ints without the zeros at its end, new -/
def spTrim (K : PySem.W.Frag) : Sp := fun vs H Q _ => ∃ (a : Addr) (ns : List Int), vs = [.ref a] ∧ SqL K H a (iV ns) ∧ ns.length ≤ 1000 ∧ Evl.RetL (iV (trm ns)) H Q
theorem at2_0 {a b : V} : atI [a, b] 0 = some a := by rfl
theorem at2_1 {a b : V} : atI [a, b] 1 = some b := by rfl
theorem pw_mul {i j : Int} {n m k : Nat} (h1 : i.natAbs < 2 ^ n) (h2 : j.natAbs < 2 ^ m) (h : n + m ≤ k) : (i * j).natAbs < 2 ^ k :=
  Nat.lt_of_lt_of_le (wide_lt h1 h2) (Nat.pow_le_pow_right (by decide) h)
theorem pw_add {i j : Int} {n k : Nat} (h1 : i.natAbs < 2 ^ n) (h2 : j.natAbs < 2 ^ n) (h : n + 1 ≤ k) : (i + j).natAbs < 2 ^ k := by
  have h3 : (2 : Nat) ^ (n + 1) ≤ 2 ^ k := Nat.pow_le_pow_right (by decide) h
  rw [Nat.pow_succ] at h3
  omega
section
variable {base : Heap} {mg : Str → Option Value} {K : PySem.W.Frag} {w : World} {P : Program}
theorem ok_ratio {f : Addr} {fd : FuncData} (F : Fun K "_law_pv_ratio" "_law_pv_ratio" s_l_ratio f fd) (T : T0 mg) (cS : Cal P w K mg base 1 "_law_pv_shared" p_l_shared spShared) : FnOk P w K mg base CX0 2 f fd p_l_ratio spRatio := by
  refine F.ok sc_l_ratio (fun vs H Q E h => ?_) (fun cdv A outer s H vs Q E hr h => ?_)
  · obtain ⟨x, y, rfl, _⟩ := h
    rfl
  · obtain ⟨x, y, rfl, hx, hy, y0, k⟩ := h
    have nd := sc_l_ratio.nd
    refine ⟨_, pss_cons (ps_set (i := 2) nd rfl (Or.inl rfl) (pe_op op_mul (pe_c cS hr (pa_cons (pv 0) (pa_cons (pv 1) pa_nil))) (pe_op op_sub pe_int (pe_op op_mul pe_int (pe_callTy call_int1 (by rfl) T.int (by decide +kernel) (pa_cons (pe_cmpR op_lt (pv 1) pe_int (nomark _)) pa_nil))))))
      (pss_one (ps_ret (pe_tup (pa_cons (pe_op op_fdivW (pv 0) (pv 2)) (pa_cons (pe_op op_fdivW (pv 1) (pv 2)) pa_nil))))), ?_⟩
    have e0 : (1 - 2 * (if decide (y < 0) = true then (1 : Int) else 0)) = 1 := by rw [decide_eq_false (by omega)]; rfl
    have g := gcd_pos (u := x) y0
    have gb : (Int.gcd x y : Int).natAbs < 2 ^ 9000 := by
      rw [Int.natAbs_natCast]
      exact Nat.lt_of_le_of_lt (Nat.gcd_le_right _ (by omega)) hy
    have eG : (Int.gcd x y : Int) * (1 - 2 * (if decide (y < 0) = true then (1 : Int) else 0)) = (Int.gcd x y : Int) := by rw [e0, Int.mul_one]
    have cD : CDivW x ((Int.gcd x y : Int) * (1 - 2 * (if decide (y < 0) = true then (1 : Int) else 0))) := by rw [eG]; exact wide_div g gb (by decide) (by decide)
    refine ⟨_, rfl, _, rfl, x, y, rfl, hx, hy, fun H2 e2 => ?_⟩
    refine ⟨_, rfl, _, _, rfl, rfl, .inr ⟨_, rfl, 2, _, rfl, rfl, .inl ⟨by decide, by decide⟩, 1, _, rfl, rfl, _, _, rfl, rfl, .inr ⟨by rw [e0]; decide, by rw [e0]; decide⟩, ?_⟩⟩
    refine ⟨_, rfl, _, rfl, _, _, rfl, rfl, cD, _, rfl, _, rfl, _, _, rfl, rfl, cD, (by show 2 ≤ sizeLine; decide), fun p hp => ?_⟩
    refine k p _ (Evl.fresh_back e2 hp) (e2.trans (Evl.Ex.new hp)) ?_
    rw [upd_same]
    show some (HO.tup [V.int (x / ((Int.gcd x y : Int) * (1 - 2 * (if decide (y < 0) = true then (1 : Int) else 0)))), V.int (y / ((Int.gcd x y : Int) * (1 - 2 * (if decide (y < 0) = true then (1 : Int) else 0))))]) = _
    rw [eG]
    rfl
theorem ok_add {f : Addr} {fd : FuncData} (F : Fun K "_law_pv_add" "_law_pv_add" s_l_add f fd) (cR : Cal P w K mg base 2 "_law_pv_ratio" p_l_ratio spRatio) : FnOk P w K mg base CX0 3 f fd p_l_add spAdd := by
  refine F.ok sc_l_add (fun vs H Q E h => ?_) (fun cdv A outer s H vs Q E hr h => ?_)
  · obtain ⟨l, r, a, b, c, d, rfl, _⟩ := h
    rfl
  · obtain ⟨l, r, a, b, c, d, rfl, hl, hr2, ha, hb, hc, hd, b0, d0, k⟩ := h
    have sl : SqT K H l [.int a, .int b] := SqT.of hl
    have sr : SqT K H r [.int c, .int d] := SqT.of hr2
    refine ⟨_, pss_one (ps_ret (pe_c cR hr (pa_cons (pe_op op_add (pe_op op_mulW (pe_ix ix_tup (pv 0) pe_int (fun _ _ => rfl)) (pe_ix ix_tup (pv 1) pe_int (fun _ _ => rfl))) (pe_op op_mulW (pe_ix ix_tup (pv 1) pe_int (fun _ _ => rfl)) (pe_ix ix_tup (pv 0) pe_int (fun _ _ => rfl))))
      (pa_cons (pe_op op_mulW (pe_ix ix_tup (pv 0) pe_int (fun _ _ => rfl)) (pe_ix ix_tup (pv 1) pe_int (fun _ _ => rfl))) pa_nil)))), ?_⟩
    have m1 := wide_mul ha hd (by decide) (by decide) (by decide)
    have m2 := wide_mul hc hb (by decide) (by decide) (by decide)
    have m3 := wide_mul hb hd (by decide) (by decide) (by decide)
    refine ⟨_, rfl, l, _, _, _, rfl, rfl, sl, at2_0, _, rfl, r, _, _, _, rfl, rfl, sr, at2_1, _, _, rfl, rfl, m1, ?_⟩
    refine ⟨_, rfl, r, _, _, _, rfl, rfl, sr, at2_0, _, rfl, l, _, _, _, rfl, rfl, sl, at2_1, _, _, rfl, rfl, m2, _, _, rfl, rfl, ?_⟩
    refine ⟨_, rfl, l, _, _, _, rfl, rfl, sl, at2_1, _, rfl, r, _, _, _, rfl, rfl, sr, at2_1, _, _, rfl, rfl, m3, ?_⟩
    exact ⟨_, _, rfl, pw_add (n := 8000) (pw_mul ha hd (by decide)) (pw_mul hc hb (by decide)) (by decide), pw_mul hb hd (by decide), Int.mul_pos b0 d0, k⟩
theorem ok_mul {f : Addr} {fd : FuncData} (F : Fun K "_law_pv_mul" "_law_pv_mul" s_l_mul f fd) (cR : Cal P w K mg base 2 "_law_pv_ratio" p_l_ratio spRatio) : FnOk P w K mg base CX0 3 f fd p_l_mul spMul := by
  refine F.ok sc_l_mul (fun vs H Q E h => ?_) (fun cdv A outer s H vs Q E hr h => ?_)
  · obtain ⟨l, r, a, b, c, d, rfl, _⟩ := h
    rfl
  · obtain ⟨l, r, a, b, c, d, rfl, hl, hr2, ha, hb, hc, hd, b0, d0, k⟩ := h
    have sl : SqT K H l [.int a, .int b] := SqT.of hl
    have sr : SqT K H r [.int c, .int d] := SqT.of hr2
    refine ⟨_, pss_one (ps_ret (pe_c cR hr (pa_cons (pe_op op_mulW (pe_ix ix_tup (pv 0) pe_int (fun _ _ => rfl)) (pe_ix ix_tup (pv 1) pe_int (fun _ _ => rfl)))
      (pa_cons (pe_op op_mulW (pe_ix ix_tup (pv 0) pe_int (fun _ _ => rfl)) (pe_ix ix_tup (pv 1) pe_int (fun _ _ => rfl))) pa_nil)))), ?_⟩
    have m1 := wide_mul ha hc (by decide) (by decide) (by decide)
    have m3 := wide_mul hb hd (by decide) (by decide) (by decide)
    refine ⟨_, rfl, l, _, _, _, rfl, rfl, sl, at2_0, _, rfl, r, _, _, _, rfl, rfl, sr, at2_0, _, _, rfl, rfl, m1, ?_⟩
    refine ⟨_, rfl, l, _, _, _, rfl, rfl, sl, at2_1, _, rfl, r, _, _, _, rfl, rfl, sr, at2_1, _, _, rfl, rfl, m3, ?_⟩
    exact ⟨_, _, rfl, pw_mul ha hc (by decide), pw_mul hb hd (by decide), Int.mul_pos b0 d0, k⟩
theorem ok_trim {f : Addr} {fd : FuncData} (F : Fun K "_law_pv_trim" "_law_pv_trim" s_l_trim f fd) {fS fR : Addr} (T : T1 mg fS fR) : FnOk P w K mg base CX0 1 f fd p_l_trim (spTrim K) := by
  refine F.ok sc_l_trim (fun vs H Q E h => ?_) (fun cdv A outer s H vs Q E hr h => ?_)
  · obtain ⟨a, ns, rfl, _⟩ := h
    rfl
  · obtain ⟨a, ns, rfl, hS, hl, k⟩ := h
    have nd := sc_l_trim.nd
    refine ⟨_, pss_cons (ps_set (i := 1) nd rfl (Or.inl rfl) (pe_callB call_len_seq (by rfl) T.len PySem.boot_len (pa_cons (pv 0) pa_nil)))
      (pss_cons (ps_for PassesOwn.never rfl (pi_range1 (by rfl) T.rng (pa_cons (pe_callB call_len_seq (by rfl) T.len PySem.boot_len (pa_cons (pv 0) pa_nil)) pa_nil)) (pg_name (i := 2) nd rfl (Or.inl rfl))
        (pss_one (ps_if (PW.pt (pw_and (pt_cmpR op_gt (pv 1) pe_int (nomark _)) (pw_and1 (pt_cmpR op_eq (pe_ix ix_list (pv 0) (pe_op op_sub (pv 1) pe_int) (fun _ _ => rfl)) pe_int (nomark _)))))
          (pss_one (ps_set (i := 1) nd rfl (Or.inl rfl) (pe_op op_sub (pv 1) pe_int))) pss_nil)))
      (pss_one (ps_ret (pe_callTy call_list_of (by rfl) T.lst (by decide +kernel) (pa_cons (pe_slice sl_list (pv 0) po_none (po_some (pv 1))) pa_nil))))), ?_⟩
    have hz := tz_le ns
    refine ⟨_, rfl, a, _, rfl, .inl hS, _, rfl, a, _, rfl, .inl hS, _, rfl, by rw [iV_len]; omega, by rw [iV_len]; omega, ?_⟩
    rw [Int.toNat_natCast, iV_len]
    refine for_range (n := ns.length) (fun i σ H' => H' = H ∧ ∃ (v : Option V), σ = [some (.ref a), some (.int ((ns.length - min i (tz ns) : Nat) : Int)), v]) ⟨rfl, none, by rw [← iV_len ns]; simp [L2.start]⟩ ?_ ?_
    · rintro i σ H' hi ⟨rfl, v, rfl⟩
      (refine ⟨_, rfl, _, _, rfl, rfl, _, rfl, ?_⟩)
      have sp : 0 < ns.length - min i (tz ns) := by omega
      refine ite2 (fun _ => ?_) (fun q => absurd (decide_eq_true (by omega : (0 : Int) < ((ns.length - min i (tz ns) : Nat) : Int))) q)
      obtain ⟨x, hx, h1, h2⟩ : ∃ x, ns[ns.length - 1 - min i (tz ns)]? = some x ∧ (i < tz ns → x = 0) ∧ (tz ns ≤ i → x ≠ 0) := by
        by_cases c : i < tz ns
        · refine ⟨0, ?_, fun _ => rfl, fun z => absurd c (by omega)⟩
          rw [Nat.min_eq_left (by omega)]
          exact tz_in ns i c
        · rw [Nat.min_eq_right (by omega)]
          obtain ⟨x, h3, h4⟩ := tz_at ns (by omega)
          exact ⟨x, h3, fun z => absurd z c, fun _ => h4⟩
      have ei : (((ns.length - min i (tz ns) : Nat) : Int) - 1) = ((ns.length - 1 - min i (tz ns) : Nat) : Int) := by omega
      refine ⟨_, rfl, _, rfl, _, _, rfl, rfl, a, _, _, .int x, rfl, rfl, hS, ?_, rfl, _, rfl, ?_⟩
      · show atI (iV ns) (((ns.length - min i (tz ns) : Nat) : Int) - 1) = _
        rw [ei]
        exact atI_nat (iV_at hx)
      · refine ite2 (fun q => ?_) (fun q => ?_)
        · have x0 : x = 0 := by
            have := of_decide_eq_true q
            injection this
          have c : i < tz ns := by
            rcases Nat.lt_or_ge i (tz ns) with c | c
            · exact c
            · exact absurd x0 (h2 c)
          refine ⟨_, rfl, _, _, rfl, rfl, rfl, some (.int (0 + (i : Int))), ?_⟩
          show [some (V.ref a), some (V.int (((ns.length - min i (tz ns) : Nat) : Int) - 1)), some (V.int (0 + (i : Int)))] = _
          rw [ei, show ns.length - 1 - min i (tz ns) = ns.length - min (i + 1) (tz ns) by omega]
        · have x0 : x ≠ 0 := fun e => q (decide_eq_true (by rw [e]))
          have c : tz ns ≤ i := by
            rcases Nat.lt_or_ge i (tz ns) with c | c
            · exact absurd (h1 c) x0
            · exact c
          refine ⟨rfl, some (.int (0 + (i : Int))), ?_⟩
          rw [show min (i + 1) (tz ns) = min i (tz ns) by omega]
          rfl
    · rintro σ H' ⟨rfl, v, rfl⟩
      rw [Nat.min_eq_right hz]
      refine ⟨_, rfl, _, rfl, _, rfl, a, _, rfl, hS, fun p hp => ?_⟩
      refine ⟨p, _, rfl, .inl (SqL.of upd_same), fun q hq => ?_⟩
      have qp : upd H' p (.lst (cutV (iV ns) none (some ((ns.length - tz ns : Nat) : Int)))) q = none := hq
      refine k q _ (Evl.fresh_back (Evl.Ex.new hp) hq) ((Evl.Ex.new hp).trans (Evl.Ex.new hq)) ?_
      rw [upd_same, cut_to _ (by rw [iV_len]; omega)]
      unfold trm iV
      rw [List.map_take]
end
end V2


namespace V2
/-! ## lists by their places; sums and products of polynomials -/
def vec (N : Nat) (f : Nat → Int) : List Int := (List.range N).map f
theorem vec_len (N : Nat) (f : Nat → Int) : (vec N f).length = N := by unfold vec; simp
theorem vec_get {N : Nat} {f : Nat → Int} {i : Nat} (h : i < N) : (vec N f)[i]? = some (f i) := by
  unfold vec; simp [h]
theorem vec_ext {N : Nat} {f : Nat → Int} {l : List Int} (hl : l.length = N) (h : ∀ i, i < N → l[i]? = some (f i)) : l = vec N f := by
  apply List.ext_getElem?
  intro i
  by_cases hi : i < N
  · rw [h i hi, vec_get hi]
  · rw [List.getElem?_eq_none (by omega), List.getElem?_eq_none (by rw [vec_len]; omega)]
theorem vec_congr {N : Nat} {f g : Nat → Int} (h : ∀ i, i < N → f i = g i) : vec N f = vec N g :=
  vec_ext (vec_len N f) fun i hi => by rw [vec_get hi, h i hi]
theorem vec_set {N : Nat} {f g : Nat → Int} {p : Nat} {v : Int} (hv : g p = v) (h : ∀ i, i ≠ p → g i = f i) : (vec N f).set p v = vec N g := by
  refine vec_ext (by rw [List.length_set, vec_len]) fun i hi => ?_
  by_cases e : i = p
  · subst e
    rw [List.getElem?_set_self (by rw [vec_len]; exact hi), hv]
  · rw [List.getElem?_set_ne (fun z => e z.symm), vec_get hi, h i e]
theorem vec_zero (N : Nat) : vec N (fun _ => 0) = List.replicate N 0 := by
  symm
  refine vec_ext (by simp) fun i hi => by simp [hi]
theorem getD_at {l : List Int} {k : Nat} {x : Int} (h : l[k]? = some x) : l.getD k 0 = x := by
  rw [List.getD_eq_getElem?_getD, h]; rfl
theorem getD_out {l : List Int} {k : Nat} (h : l.length ≤ k) : l.getD k 0 = 0 := by
  rw [List.getD_eq_getElem?_getD, List.getElem?_eq_none h]; rfl
/-- the sum, zeros at the end and all -/
def padd (xs ys : List Int) : List Int := vec (max xs.length ys.length) fun k => xs.getD k 0 + ys.getD k 0
/-- the first k rows of a product, at place i -/
def cf (xs ys : List Int) : Nat → Nat → Int
  | 0, _ => 0
  | k + 1, i => cf xs ys k i + (if k ≤ i then xs.getD k 0 * ys.getD (i - k) 0 else 0)
/-- k rows, and j places of the next -/
def rw_ (xs ys : List Int) (k j i : Nat) : Int := cf xs ys k i + (if k ≤ i ∧ i < k + j then xs.getD k 0 * ys.getD (i - k) 0 else 0)
theorem rw_0 (xs ys : List Int) (k i : Nat) : rw_ xs ys k 0 i = cf xs ys k i := by
  unfold rw_; rw [if_neg (by omega), Int.add_zero]
theorem rw_end (xs ys : List Int) (k i : Nat) : rw_ xs ys k ys.length i = rw_ xs ys (k + 1) 0 i := by
  rw [rw_0]
  unfold rw_
  show _ = cf xs ys k i + (if k ≤ i then xs.getD k 0 * ys.getD (i - k) 0 else 0)
  by_cases h1 : k ≤ i
  · by_cases h2 : i < k + ys.length
    · rw [if_pos ⟨h1, h2⟩, if_pos h1]
    · rw [if_neg (by omega), if_pos h1, getD_out (l := ys) (k := i - k) (by omega), Int.mul_zero]
  · rw [if_neg (by omega), if_neg h1]
theorem rw_step {xs ys : List Int} {k j : Nat} : rw_ xs ys k (j + 1) (k + j) = rw_ xs ys k j (k + j) + xs.getD k 0 * ys.getD j 0 := by
  unfold rw_
  rw [if_pos (by omega), if_neg (by omega), Int.add_zero, show k + j - k = j by omega]
theorem rw_other {xs ys : List Int} {k j i : Nat} (h : i ≠ k + j) : rw_ xs ys k (j + 1) i = rw_ xs ys k j i := by
  unfold rw_
  by_cases h1 : k ≤ i ∧ i < k + j
  · rw [if_pos h1, if_pos (by omega)]
  · rw [if_neg h1, if_neg (by omega)]
/-- the product, at N places -/
def pmul (xs ys : List Int) : List Int := vec (xs.length + ys.length - 1) (cf xs ys xs.length)
theorem cf_nil_right (xs : List Int) : ∀ k i, cf xs [] k i = 0
  | 0, _ => rfl
  | k + 1, i => by
    show cf xs [] k i + _ = 0
    rw [cf_nil_right xs k i]
    simp
theorem tz_vec0 (N : Nat) : trm (vec N fun _ => 0) = [] := by
  have h : ∀ l : List Int, (∀ x ∈ l, x = 0) → zer l = l.length := by
    intro l
    induction l with
    | nil => intro _; rfl
    | cons x r ih =>
      intro h
      unfold zer
      rw [if_pos (h x List.mem_cons_self), ih fun y hy => h y (List.mem_cons_of_mem _ hy)]
      rfl
  unfold trm tz
  rw [h _ (fun x hx => by
    rw [List.mem_reverse, vec_zero] at hx
    exact List.eq_of_mem_replicate hx), List.length_reverse, Nat.sub_self, List.take_zero]
theorem pmul_nil (xs : List Int) : trm (pmul xs []) = [] := by
  unfold pmul
  rw [vec_congr (g := fun _ => 0) fun i _ => cf_nil_right xs _ i]
  exact tz_vec0 _
theorem nil_pmul (ys : List Int) : trm (pmul [] ys) = [] := tz_vec0 _
/-- beyond the last row nothing -/
theorem cf_high {xs ys : List Int} : ∀ (k i : Nat), k + ys.length ≤ i + 1 → k < xs.length → cf xs ys k i = 0
  | 0, _, _, _ => rfl
  | k + 1, i, h, hk => by
    show cf xs ys k i + _ = 0
    rw [cf_high k i (by omega) (by omega)]
    by_cases h1 : k ≤ i
    · rw [if_pos h1, getD_out (l := ys) (k := i - k) (by omega)]
      simp
    · rw [if_neg h1]; rfl
theorem pol_pmul {xs ys : List Int} (hx : Pol xs) (hy : Pol ys) (nx : xs ≠ []) (ny : ys ≠ []) : Pol (pmul xs ys) := by
  intro z h
  have lx : 0 < xs.length := List.length_pos_iff.mpr nx
  have ly : 0 < ys.length := List.length_pos_iff.mpr ny
  unfold pmul at h
  rw [vec_len, vec_get (by omega)] at h
  have h := Option.some.inj h
  obtain ⟨n, en⟩ : ∃ n, xs.length = n + 1 := ⟨xs.length - 1, by omega⟩
  rw [en] at h
  have h2 : cf xs ys n (n + 1 + ys.length - 1 - 1) + (if n ≤ n + 1 + ys.length - 1 - 1 then xs.getD n 0 * ys.getD (n + 1 + ys.length - 1 - 1 - n) 0 else 0) = z := h
  rw [cf_high n _ (by omega) (by omega), if_pos (by omega), show n + 1 + ys.length - 1 - 1 - n = ys.length - 1 by omega, Int.zero_add] at h2
  have ex : xs[n]? = some xs[n] := List.getElem?_eq_getElem (by omega)
  have ey : ys[ys.length - 1]? = some ys[ys.length - 1] := List.getElem?_eq_getElem (by omega)
  rw [getD_at ex, getD_at ey] at h2
  rw [← h2]
  exact Int.mul_ne_zero (hx _ (by simpa [show xs.length - 1 = n by omega] using ex)) (hy _ ey)
end V2


namespace V2
open PySem L2
open PySem.Spec PyProof.Rows
section
variable {base : Heap} {mg : Str → Option Value} {K : PySem.W.Frag} {w : World} {P : Program}
theorem if_t {c : Bool} {A B : Prop} (hc : c = true) (h : A) : if c = true then A else B := by
  rw [if_pos hc]; exact h
theorem if_f {c : Bool} {A B : Prop} (hc : c = false) (h : B) : if c = true then A else B := by
  rw [hc, if_neg Bool.false_ne_true]; exact h
theorem ok_cut {f : Addr} {fd : FuncData} (F : Fun K "cut" "cut" s_cut f fd) (mL : mg "len" = none) : FnOk P w K mg base CX0 1 f fd p_cut (spTrim K) := by
  refine F.ok sc_cut (fun vs H Q E h => ?_) (fun cdv A outer s H vs Q E hr h => ?_)
  · obtain ⟨a, ns, rfl, _⟩ := h
    rfl
  · obtain ⟨a, ns, rfl, hS, hl, k⟩ := h
    have nd := sc_cut.nd
    refine ⟨_, pss_cons (ps_set (i := 1) nd rfl (Or.inl rfl) (pe_callB call_len_seq (by rfl) mL PySem.boot_len (pa_cons (pv 0) pa_nil)))
      (pss_cons (ps_while PassesOwn.never (PW.pt (pw_and (pt_cmpR op_gt (pv 1) pe_int (nomark _)) (pw_and1 (pt_cmpR op_eq (pe_ix ix_list (pv 0) (pe_op op_sub (pv 1) pe_int) (fun _ _ => rfl)) pe_int (nomark _)))))
          (pss_one (ps_aug (i := 1) nd rfl (.inl rfl) pe_int ip_sub)))
      (pss_one (ps_ret (pe_slice sl_list (pv 0) po_none (po_some (pv 1)))))), ?_⟩
    have hz := tz_le ns
    refine ⟨_, rfl, a, _, rfl, .inl hS, ?_⟩
    refine ⟨fun m σ H' => H' = H ∧ ns.length - tz ns ≤ m ∧ m ≤ ns.length ∧ σ = [some (.ref a), some (.int (m : Int))], ⟨ns.length, rfl, by omega, Nat.le_refl _, by rw [← iV_len ns]; simp [L2.start]⟩, ?_⟩
    rintro m σ H' ⟨rfl, h1, h2, rfl⟩
    have fin : ns.length - tz ns = m → Q = Q := fun _ => rfl
    (refine ⟨_, rfl, _, _, rfl, rfl, _, rfl, ?_⟩)
    by_cases hm : 0 < m
    · refine if_t (decide_eq_true (by omega)) ?_
      obtain ⟨x, hx, q1, q2⟩ : ∃ x, ns[m - 1]? = some x ∧ (ns.length - tz ns < m → x = 0) ∧ (m = ns.length - tz ns → x ≠ 0) := by
        by_cases c : ns.length - tz ns < m
        · have := tz_in ns (ns.length - m) (by omega)
          rw [show ns.length - 1 - (ns.length - m) = m - 1 by omega] at this
          exact ⟨0, this, fun _ => rfl, fun z => by omega⟩
        · obtain ⟨x, h3, h4⟩ := tz_at ns (by omega)
          rw [show ns.length - 1 - tz ns = m - 1 by omega] at h3
          exact ⟨x, h3, fun z => absurd z c, fun _ => h4⟩
      have ei : ((m : Int) - 1) = ((m - 1 : Nat) : Int) := by omega
      refine ⟨_, rfl, _, rfl, _, _, rfl, rfl, a, _, _, .int x, rfl, rfl, hS, ?_, rfl, _, rfl, ?_⟩
      · show atI (iV ns) ((m : Int) - 1) = _
        rw [ei]
        exact atI_nat (iV_at hx)
      · by_cases e : x = 0
        · subst e
          refine if_t (decide_eq_true rfl) ?_
          have c : ns.length - tz ns < m := by
            rcases Nat.lt_or_ge (ns.length - tz ns) m with c | c
            · exact c
            · exact absurd rfl (q2 (by omega))
          refine ⟨fun σ H2 => H2 = H' ∧ σ = [some (.ref a), some (.int ((m - 1 : Nat) : Int))], fun σ H2 z => ⟨m - 1, by omega, z.1, by omega, by omega, z.2⟩, ?_⟩
          refine ⟨_, rfl, _, _, rfl, rfl, rfl, ?_⟩
          show [some (V.ref a), some (V.int ((m : Int) - 1))] = _
          rw [ei]
        · refine if_f (decide_eq_false fun z => e (by injection z)) ?_
          have c : m = ns.length - tz ns := by
            rcases Nat.lt_or_ge (ns.length - tz ns) m with c | c
            · exact absurd (q1 c) e
            · omega
          refine ⟨_, rfl, _, rfl, _, rfl, a, _, rfl, hS, fun p hp => k p _ hp (Evl.Ex.new hp) ?_⟩
          rw [upd_same, cut_to _ (by rw [iV_len]; omega), c]
          unfold trm iV
          rw [List.map_take]
    · refine if_f (decide_eq_false (by omega)) ?_
      have c : m = ns.length - tz ns := by omega
      refine ⟨_, rfl, _, rfl, _, rfl, a, _, rfl, hS, fun p hp => k p _ hp (Evl.Ex.new hp) ?_⟩
      rw [upd_same, cut_to _ (by rw [iV_len]; omega), c]
      unfold trm iV
      rw [List.map_take]
end
end V2


namespace V2
open PySem L2
open PySem.Spec PyProof.Rows
/-- a list of ints at a -/
def Li (H : Hp) (a : Addr) (ns : List Int) : Prop := H a = some (.lst (iV ns))
theorem Li.sq {K : PySem.W.Frag} {H : Hp} {a : Addr} {ns : List Int} (h : Li H a ns) : SqL K H a (iV ns) := SqL.of h
theorem iV_set (ns : List Int) (j : Nat) (v : Int) : (iV ns).set j (.int v) = iV (ns.set j v) := by
  unfold iV; rw [List.map_set]
theorem iV_get {ns : List Int} {i : Nat} {x : V} (h : (iV ns)[i]? = some x) : ∃ n, ns[i]? = some n ∧ x = .int n := by
  unfold iV at h
  rw [List.getElem?_map] at h
  cases e : ns[i]? with
  | none =>
    rw [e] at h
    cases h
  | some n => rw [e] at h; exact ⟨n, rfl, (Option.some.inj h).symm⟩
theorem rep_flat (k : Nat) (x : V) : (List.replicate k [x]).flatten = List.replicate k x := by simp
theorem iV_rep (k : Nat) : iV (List.replicate k 0) = List.replicate k (.int 0) := by unfold iV; simp
/-- the mutual rows of a product, as the loops of both texts run them -/
def tRowsIn (K : PySem.W.Frag) : TS := tAsg (tOp (rI0 fun i j => .int (i + j)) (tOp (rIxL K) (tVar 2) (tOp (rI0 fun i j => .int (i + j)) (tVar 3) (tVar 5))) (tOp (rI CMul fun i j => .int (i * j)) (tVar 4) (tVar 6))) (gSub (tVar 2) (tOp (rI0 fun i j => .int (i + j)) (tVar 3) (tVar 5)) rSetL)
def tRows (K : PySem.W.Frag) : TS := tFor (iEnum K (tCons (tVar 0) tNil)) (gTup K 2 (gCons (gName 3) (gCons (gName 4) gNil))) (tFor (iEnum K (tCons (tVar 1) tNil)) (gTup K 2 (gCons (gName 5) (gCons (gName 6) gNil))) (tRowsIn K))
theorem rows_read {K : PySem.W.Frag} {D : Ends} {H : Hp} {a b l : Addr} {xs ys : List Int} {N : Nat} {u3 u4 u5 u6 : Option V} (ha : Li H a xs) (hb : Li H b ys) (hl : Li H l (vec N fun _ => 0)) (na : a ≠ l) (nb : b ≠ l) (hN : xs.length + ys.length ≤ N + 1)
    (hx : ∀ x ∈ xs, -(2 ^ 64) < x ∧ x < 2 ^ 64) (k : ∀ (H' : Hp) v3 v4 v5 v6, But l H H' → Li H' l (vec N (cf xs ys xs.length)) → D.nx [some (.ref a), some (.ref b), some (.ref l), v3, v4, v5, v6] H') :
    tRows K D [some (.ref a), some (.ref b), some (.ref l), u3, u4, u5, u6] H := by
  refine ⟨_, rfl, a, _, rfl, ha.sq, for_it walk_enum (fun i σ H' => ∃ v3 v4 v5 v6, σ = [some (.ref a), some (.ref b), some (.ref l), v3, v4, v5, v6] ∧ But l H H' ∧ Li H' l (vec N (rw_ xs ys i 0)))
    ⟨_, _, _, _, rfl, But.refl _ _, ?_⟩ (fun i σ H' _ ⟨_, _, _, _, _, q, _⟩ => SqL.of (q _ _ na ha)) ?_ ?_⟩
  · rw [vec_congr (g := fun _ => 0) fun i _ => by rw [rw_0]; rfl]
    exact hl
  · rintro i x σ H' H2 hi ⟨v3, v4, v5, v6, rfl, q, hL⟩ ⟨T, z, y, rfl, hT, rfl, hz, hy⟩
    obtain rfl := (Option.some.inj hz).symm
    obtain ⟨n, hn, rfl⟩ := iV_get hy
    rw [iV_len] at hi
    have nTl : T ≠ l := (ne_of_none hL hT).symm
    have q2 : But l H (upd H' T (.tup [.int (i : Nat), .int n])) := fun c o nc e => by
      rw [upd_ne (ne_of_none (q c o nc e) hT)]; exact q c o nc e
    refine ⟨T, _, rfl, SqT.of upd_same, rfl, _, _, rfl, _, _, rfl, rfl, ?_⟩
    have hL2 : Li (upd H' T (.tup [.int (i : Nat), .int n])) l (vec N (rw_ xs ys i 0)) := Eq.trans (upd_ne nTl.symm) hL
    refine ⟨_, rfl, b, _, rfl, SqL.of (q2 _ _ nb hb), for_it walk_enum (fun j σ H3 => ∃ v5 v6, σ = [some (.ref a), some (.ref b), some (.ref l), some (.int (i : Nat)), some (.int n), v5, v6] ∧ But l H H3 ∧ Li H3 l (vec N (rw_ xs ys i j)))
      ⟨_, _, rfl, q2, hL2⟩ (fun i σ H' _ ⟨_, _, _, q, _⟩ => SqL.of (q _ _ nb hb)) ?_ ?_⟩
    · rintro j x σ H3 H4 hj ⟨v5, v6, rfl, q3, hL3⟩ ⟨T2, z, y, rfl, hT2, rfl, hz, hy⟩
      obtain rfl := (Option.some.inj hz).symm
      obtain ⟨m, hm, rfl⟩ := iV_get hy
      rw [iV_len] at hj
      have nTl2 : T2 ≠ l := (ne_of_none hL3 hT2).symm
      refine ⟨T2, _, rfl, SqT.of upd_same, rfl, _, _, rfl, _, _, rfl, rfl, ?_⟩
      have hL4 : Li (upd H3 T2 (.tup [.int (j : Nat), .int m])) l (vec N (rw_ xs ys i j)) := Eq.trans (upd_ne nTl2.symm) hL3
      have hp : i + j < N := by omega
      have ep : ((i : Nat) : Int) + ((j : Nat) : Int) = ((i + j : Nat) : Int) := by omega
      refine ⟨_, rfl, _, rfl, _, rfl, _, _, rfl, rfl, l, _, _, .int (rw_ xs ys i j (i + j)), rfl, rfl, SqL.of hL4, ?_, _, rfl, _, rfl, n, m, rfl, rfl, .inl (hx n (List.mem_of_getElem? hn)), _, _, rfl, rfl, ?_⟩
      · show atI _ (((i : Nat) : Int) + ((j : Nat) : Int)) = _
        rw [ep]
        exact atI_nat (iV_at (vec_get hp))
      refine ⟨_, rfl, _, rfl, _, rfl, _, _, rfl, rfl, l, _, _, i + j, rfl, rfl, hL4, ?_, ?_⟩
      · show ixN _ (((i : Nat) : Int) + ((j : Nat) : Int)) = _
        rw [ep]
        exact Evl.ixN_nat (by rw [iV_len, vec_len]; exact hp)
      refine ⟨_, _, rfl, fun c o nc e => ?_, ?_⟩
      · rw [upd_ne nc, upd_ne (ne_of_none (q3 c o nc e) hT2)]
        exact q3 c o nc e
      · unfold Li
        rw [upd_same]
        show some (HO.lst ((iV (vec N (rw_ xs ys i j))).set (i + j) (.int (rw_ xs ys i j (i + j) + n * m)))) = _
        rw [iV_set, vec_set (g := rw_ xs ys i (j + 1)) (by rw [rw_step, getD_at hn, getD_at hm]) fun p hp => rw_other hp]
    · rintro σ H3 ⟨v5, v6, rfl, q3, hL3⟩
      refine ⟨_, _, _, _, rfl, q3, ?_⟩
      rw [iV_len, vec_congr (g := rw_ xs ys (i + 1) 0) fun p _ => rw_end xs ys i p] at hL3
      exact hL3
  · rintro σ H' ⟨v3, v4, v5, v6, rfl, q, hL⟩
    rw [iV_len, vec_congr (g := cf xs ys xs.length) fun i _ => rw_0 _ _ _ _] at hL
    exact k H' v3 v4 v5 v6 q hL
/-- a polynomial that may be handed over: at most 16 numbers below 2 ^ 64 -/
def Pn (ns : List Int) : Prop := Pol ns ∧ ns.length ≤ 16 ∧ ∀ x ∈ ns, -(2 ^ 64) < x ∧ x < 2 ^ 64
def spTwo (m : List Int → List Int → List Int) : Sp := fun vs H Q _ => ∃ (a b : Addr) (xs ys : List Int), vs = [.ref a, .ref b] ∧ Li H a xs ∧ Li H b ys ∧ Pn xs ∧ Pn ys ∧ Evl.RetL (iV (m xs ys)) H Q
structure T2 (mg : Str → Option Value) : Prop where
  len : mg "len" = none
  max : mg "max" = none
  rng : mg "range" = none
  enu : mg "enumerate" = none
section
variable {base : Heap} {mg : Str → Option Value} {K : PySem.W.Frag} {w : World} {P : Program}
theorem tru_list {H : Hp} {a : Addr} {ns : List Int} (h : Li H a ns) : TruV K (.ref a) H (!(iV ns).isEmpty) := .inl ⟨_, SqL.of h, rfl⟩
end
end V2


namespace V2
open PySem L2
open PySem.Spec PyProof.Rows
theorem max_len (n m : Nat) : (if (m : Int) > (n : Int) then (m : Int) else (n : Int)) = ((max n m : Nat) : Int) := by
  split <;> omega
theorem gt_len (n m k : Nat) (h : k = max n m) : (if (m : Int) > (n : Int) then (m : Int) else (n : Int)) = (k : Int) := by
  rw [h]; exact max_len n m
/-- a list made longer by zeros -/
def pad (ns : List Int) (N : Nat) : List Int := ns ++ List.replicate (N - ns.length) 0
theorem pad_at {ns : List Int} {N i : Nat} (h : i < N) (hl : ns.length ≤ N) : (pad ns N)[i]? = some (ns.getD i 0) := by
  unfold pad
  by_cases h1 : i < ns.length
  · rw [List.getElem?_append_left h1, List.getD_eq_getElem?_getD, List.getElem?_eq_getElem h1]; rfl
  · rw [List.getElem?_append_right (by omega), getD_out (by omega), List.getElem?_replicate, if_pos (by omega)]
theorem iV_app (xs ys : List Int) : iV xs ++ iV ys = iV (xs ++ ys) := by unfold iV; rw [List.map_append]
theorem given_vec (n : Nat) (g : Nat → Int) : Evl.given n (fun _ => true) (fun i => .int (g i)) = iV (vec n g) := by
  unfold Evl.given iV vec
  rw [List.filter_eq_self.mpr (by simp), List.map_map]
  rfl
/-- xs + [0] * (n - len(xs)) -/
theorem el_pad {K : PySem.W.Frag} {σ : L2.St} {H : Hp} {i j : Nat} {a : Addr} {xs : List Int} {n : Nat} (hi : σ[i]? = some (some (.ref a))) (hj : σ[j]? = some (some (.int (n : Int)))) (ha : Li H a xs) (hl : xs.length ≤ n) (hn : n ≤ 100) :
    Evl.EvL (tOp rCat (tVar i) (tOp rRep (tLst (tCons (tC (.int 0)) tNil)) (tOp (rI0 fun i j => .int (i - j)) (tVar j) (tCB (Evl.rLenS K) (tCons (tVar i) tNil))))) σ H (iV (pad xs n)) := by
  intro H1 e1 Q k
  have ha1 : Li H1 a xs := e1 _ _ ha
  refine ⟨_, hi, (by show 1 ≤ sizeLine; decide), fun p hp => ?_⟩
  have e2 : Evl.Ex H1 (upd H1 p (.lst [.int 0])) := Evl.Ex.new hp
  refine ⟨_, hj, _, hi, a, _, rfl, .inl (SqL.of (e2 _ _ ha1)), _, _, rfl, rfl, p, _, _, rfl, rfl, upd_same, by rw [iV_len]; omega, by rw [iV_len]; omega, ?_, fun q hq => ?_⟩
  · rw [iV_len]
    show 1 * _ ≤ sizeLine
    exact Nat.le_trans (by omega) (show 100 ≤ sizeLine by decide)
  have e3 := e2.trans (Evl.Ex.new (o := .lst (List.replicate ((n : Int) - ((iV xs).length : Int)).toNat [V.int 0]).flatten) hq)
  refine ⟨a, q, _, _, rfl, rfl, e3 _ _ ha1, upd_same, ?_, fun r hr2 => ?_⟩
  · simp only [iV_len, rep_flat, List.length_replicate]
    exact Nat.le_trans (by omega) (show 100 ≤ sizeLine by decide)
  refine k r _ (Evl.fresh_back e3 hr2) (e3.trans (Evl.Ex.new hr2)) ?_
  rw [upd_same, rep_flat, iV_len, ← iV_rep, iV_app, show ((n : Int) - (xs.length : Int)).toNat = n - xs.length by omega]
  rfl
/-- [mine[k] + yours[k] for k in range(n)] -/
theorem el_sums {K : PySem.W.Frag} {σ : L2.St} {H : Hp} {im iy jn jk : Nat} {a b : Addr} {xs ys : List Int} {n : Nat} (hn : σ[jn]? = some (some (.int (n : Int)))) (ha : Li H a (pad xs n)) (hb : Li H b (pad ys n)) (hx : xs.length ≤ n) (hy : ys.length ≤ n) (h100 : n ≤ 100)
    (hw : ∀ x, wipe ((wipe σ [jk]).set jk (some x)) [jk] = wipe σ [jk]) (hm : ∀ x, ((wipe σ [jk]).set jk (some x))[im]? = some (some (.ref a))) (hyy : ∀ x, ((wipe σ [jk]).set jk (some x))[iy]? = some (some (.ref b))) (hk : ∀ x, ((wipe σ [jk]).set jk (some x))[jk]? = some (some x)) :
    Evl.EvL (tLc (iRng1 (tCons (tVar jn) tNil)) (gName jk) tYes (tOp (rI0 fun i j => .int (i + j)) (tOp (rIxL K) (tVar im) (tVar jk)) (tOp (rIxL K) (tVar iy) (tVar jk))) [jk]) σ H (iV (vec n fun k => xs.getD k 0 + ys.getD k 0)) := by
  have h := Evl.el_lcR1 (σ := σ) (H := H) (ta := tCons (tVar jn) tNil) (j := jk) (vs := [jk]) (t := tYes) (te := tOp (rI0 fun i j => .int (i + j)) (tOp (rIxL K) (tVar im) (tVar jk)) (tOp (rIxL K) (tVar iy) (tVar jk))) (n := (n : Int)) (fun _ => true) (fun k => .int (xs.getD k 0 + ys.getD k 0))
    (Evl.ea_cons (Evl.ev_var hn) Evl.ea_nil) ⟨by omega, by omega⟩ hw (fun i H1 _ _ => fun H2 e2 Q q => q H2 (Evl.Ex.refl _)) (fun i H1 e1 hi _ => ?_)
  · rw [Int.toNat_natCast, given_vec] at h
    exact h
  · have hi : i < n := by omega
    exact Evl.ev_op (Evl.ev_op (Evl.ev_var (hm _)) (Evl.ev_var (hk _)) (Evl.rv_ixL (SqL.of (e1 _ _ ha)) (atI_nat (iV_at (pad_at hi hx)))))
      (Evl.ev_op (Evl.ev_var (hyy _)) (Evl.ev_var (hk _)) (Evl.rv_ixL (SqL.of (e1 _ _ hb)) (atI_nat (iV_at (pad_at hi hy))))) Evl.rv_I0
section
variable {base : Heap} {mg : Str → Option Value} {K : PySem.W.Frag} {w : World} {P : Program}
theorem ok_product {f : Addr} {fd : FuncData} (F : Fun K "_law_pv_product" "_law_pv_product" s_l_product f fd) (T : T2 mg) (cT : Cal P w K mg base 1 "_law_pv_trim" p_l_trim (spTrim K)) : FnOk P w K mg base CX0 2 f fd p_l_product (spTwo fun xs ys => trm (pmul xs ys)) := by
  refine F.ok sc_l_product (fun vs H Q E h => ?_) (fun cdv A outer s H vs Q E hr h => ?_)
  · obtain ⟨a, b, xs, ys, rfl, _⟩ := h
    rfl
  · obtain ⟨a, b, xs, ys, rfl, ha, hb, hx, hy, k⟩ := h
    have k : Evl.RetL (iV (trm (pmul xs ys))) H Q := k
    have nd := sc_l_product.nd
    refine ⟨_, pss_cons (ps_set (i := 2) nd rfl (Or.inl rfl) (pe_op op_rep (pe_lst (pa_cons pe_int pa_nil)) (pe_callB (call_max2 rfl) (by rfl) T.max (by decide +kernel) (pa_cons pe_int (pa_cons (pe_op op_sub (pe_op op_add (pe_callB call_len_seq (by rfl) T.len PySem.boot_len (pa_cons (pv 0) pa_nil)) (pe_callB call_len_seq (by rfl) T.len PySem.boot_len (pa_cons (pv 1) pa_nil))) pe_int) pa_nil)))))
      (pss_cons (ps_for PassesOwn.never rfl (pi_enum (by rfl) T.enu (pa_cons (pv 0) pa_nil)) (pg_tup rfl (pgs_cons (pg_name (i := 3) nd rfl (Or.inl rfl)) (pgs_cons (pg_name (i := 4) nd rfl (Or.inl rfl)) pgs_nil)))
        (pss_one (ps_for PassesOwn.never rfl (pi_enum (by rfl) T.enu (pa_cons (pv 1) pa_nil)) (pg_tup rfl (pgs_cons (pg_name (i := 5) nd rfl (Or.inl rfl)) (pgs_cons (pg_name (i := 6) nd rfl (Or.inl rfl)) pgs_nil)))
          (pss_one (ps_asg (pe_op op_add (pe_ix ix_list (pv 2) (pe_op op_add (pv 3) (pv 5)) (fun _ _ => rfl)) (pe_op op_mul (pv 4) (pv 6))) (pg_sub (pv 2) (pe_op op_add (pv 3) (pv 5)) set_list))))))
      (pss_one (ps_ret (pe_c cT hr (pa_cons (pv 2) pa_nil))))), ?_⟩
    obtain ⟨px, hx2, hx3⟩ := hx
    obtain ⟨py, hy2, hy3⟩ := hy
    refine ⟨(by show 1 ≤ sizeLine; decide), fun p hp => ?_⟩
    have ha1 : Li (upd H p (.lst [.int 0])) a xs := Eq.trans (upd_ne (ne_of_none ha hp)) ha
    have hb1 : Li (upd H p (.lst [.int 0])) b ys := Eq.trans (upd_ne (ne_of_none hb hp)) hb
    have eN : (if ((iV xs).length : Int) + ((iV ys).length : Int) - 1 > 0 then ((iV xs).length : Int) + ((iV ys).length : Int) - 1 else (0 : Int)) = ((xs.length + ys.length - 1 : Nat) : Int) := by
      rw [iV_len, iV_len]; split <;> omega
    refine ⟨_, rfl, a, _, rfl, .inl ha1.sq, _, rfl, b, _, rfl, .inl hb1.sq, _, _, rfl, rfl, _, _, rfl, rfl, _, _, rfl, p, _, _, rfl, rfl, upd_same, by rw [eN]; omega, by rw [eN]; omega, ?_, fun l hl => ?_⟩
    · rw [eN]
      show 1 * _ ≤ sizeLine
      refine Nat.le_trans ?_ (show 100 ≤ sizeLine by decide)
      omega
    refine rows_read (K := K) (N := xs.length + ys.length - 1) (Eq.trans (upd_ne (ne_of_none ha1 hl)) ha1) (Eq.trans (upd_ne (ne_of_none hb1 hl)) hb1) ?_ (ne_of_none ha1 hl) (ne_of_none hb1 hl) (by omega) hx3 fun H' v3 v4 v5 v6 q hL => ?_
    · unfold Li
      rw [upd_same, eN, Int.toNat_natCast, rep_flat, vec_zero, iV_rep]
    · refine ⟨_, rfl, l, _, rfl, hL.sq, by rw [vec_len]; omega, fun r H2 hr e2 h2 => ?_⟩
      have e0 : Evl.Ex H H' := fun c o e => by
        have e1 : upd H p (.lst [.int 0]) c = some o := Eq.trans (upd_ne (ne_of_none e hp)) e
        exact q c o (ne_of_none e1 hl) (Eq.trans (upd_ne (ne_of_none e1 hl)) e1)
      exact k r H2 (Evl.fresh_back e0 hr) (e0.trans e2) h2
end
end V2


namespace V2
/-! ## what a polynomial is at a fraction p by q -/
def hT (p q : Int) : List Int → Int
  | [] => 0
  | a :: r => hT p q r * p + a * q ^ r.length
def hA (p q : Int) : List Int → Int
  | [] => 0
  | a :: r => a * q ^ (r.length + 1) + p * hA p q r
theorem hT_hA (p q : Int) : ∀ l : List Int, hT p q l * q = hA p q l
  | [] => by show (0 : Int) * q = 0; exact Int.zero_mul q
  | a :: r => by
    show (hT p q r * p + a * q ^ r.length) * q = a * q ^ (r.length + 1) + p * hA p q r
    rw [← hT_hA p q r, Int.pow_succ, Int.add_mul, Int.add_comm]
    congr 1
    · rw [Int.mul_assoc]
    · rw [Int.mul_comm (hT p q r) p, Int.mul_assoc]
theorem hA_snoc (p q : Int) (a : Int) : ∀ l : List Int, hA p q (l ++ [a]) = hA p q l * q + a * p ^ l.length * q
  | [] => by
    show a * q ^ (0 + 1) + p * 0 = 0 * q + a * p ^ 0 * q
    simp [Int.pow_succ]
  | b :: r => by
    show b * q ^ ((r ++ [a]).length + 1) + p * hA p q (r ++ [a]) = (b * q ^ (r.length + 1) + p * hA p q r) * q + a * p ^ (r.length + 1) * q
    rw [hA_snoc p q a r, List.length_append, List.length_singleton, Int.pow_succ q (r.length + 1), Int.pow_succ p, Int.add_mul, Int.mul_add]
    have e1 : b * (q ^ (r.length + 1) * q) = b * q ^ (r.length + 1) * q := by rw [Int.mul_assoc]
    have e2 : p * (hA p q r * q) = p * hA p q r * q := by rw [Int.mul_assoc]
    have e3 : p * (a * p ^ r.length * q) = a * (p ^ r.length * p) * q := by simp only [Int.mul_assoc, Int.mul_comm, Int.mul_left_comm]
    rw [e1, e2, e3, Int.add_assoc]
theorem hT_drop (p q : Int) (l : List Int) (k : Nat) (x : Int) (hk : k < l.length) (h : l[l.length - 1 - k]? = some x) : hT p q (l.drop (l.length - (k + 1))) = hT p q (l.drop (l.length - k)) * p + x * q ^ k := by
  have e1 : l.drop (l.length - (k + 1)) = x :: l.drop (l.length - k) := by
    have h2 : l.length - (k + 1) < l.length := by omega
    rw [List.drop_eq_getElem_cons h2]
    have h3 : l[l.length - (k + 1)] = x := by
      have : l[l.length - (k + 1)]? = some x := by rw [show l.length - (k + 1) = l.length - 1 - k by omega]; exact h
      rw [List.getElem?_eq_getElem h2] at this
      exact Option.some.inj this
    rw [h3, show l.length - (k + 1) + 1 = l.length - k by omega]
  rw [e1]
  show hT p q (l.drop (l.length - k)) * p + x * q ^ (l.drop (l.length - k)).length = _
  rw [List.length_drop, show l.length - (l.length - k) = k by omega]
theorem npow_lt {q : Int} {n : Nat} (h : q.natAbs < 2 ^ n) : ∀ k, (q ^ k).natAbs < 2 ^ (n * k + 1)
  | 0 => by
    rw [Nat.mul_zero, Nat.zero_add, Int.pow_zero]
    decide
  | k + 1 => by
    rw [Int.pow_succ, Int.natAbs_mul, Nat.mul_succ, show n * k + n + 1 = n * k + 1 + n by omega, Nat.pow_add]
    exact Nat.mul_lt_mul'' (npow_lt h k) h
theorem hT_lt {p q : Int} (hp : p.natAbs < 2 ^ 50) (hq : q.natAbs < 2 ^ 50) : ∀ (l : List Int), (∀ x ∈ l, x.natAbs < 2 ^ 64) → (hT p q l).natAbs < 2 ^ (65 + 51 * l.length)
  | [], _ => by show (0 : Int).natAbs < _; exact Nat.pow_pos (by decide)
  | a :: r, h => by
    have h1 := hT_lt hp hq r fun x hx => h x (List.mem_cons_of_mem _ hx)
    have h2 := npow_lt hq r.length
    have ha := h a List.mem_cons_self
    have m1 : (hT p q r * p).natAbs < 2 ^ (65 + 51 * r.length + 50) := by
      (rw [Int.natAbs_mul, Nat.pow_add])
      exact Nat.mul_lt_mul'' h1 hp
    have m2 : (a * q ^ r.length).natAbs < 2 ^ (64 + (50 * r.length + 1)) := by
      (rw [Int.natAbs_mul, Nat.pow_add])
      exact Nat.mul_lt_mul'' ha h2
    have m3 : (2 : Nat) ^ (64 + (50 * r.length + 1)) ≤ 2 ^ (65 + 51 * r.length + 50) := Nat.pow_le_pow_right (by decide) (by omega)
    have m4 : (2 : Nat) ^ (65 + 51 * (r.length + 1)) = 2 ^ (65 + 51 * r.length + 50) * 2 := by
      rw [← Nat.pow_succ]; congr 1
    show (hT p q r * p + a * q ^ r.length).natAbs < 2 ^ (65 + 51 * (r.length + 1))
    rw [m4]
    omega
theorem hA_lt {p q : Int} (hp : p.natAbs < 2 ^ 50) (hq : q.natAbs < 2 ^ 50) {l : List Int} (h : ∀ x ∈ l, x.natAbs < 2 ^ 64) : (hA p q l).natAbs < 2 ^ (115 + 51 * l.length) := by
  rw [← hT_hA, Int.natAbs_mul, show 115 + 51 * l.length = 65 + 51 * l.length + 50 by omega, Nat.pow_add]
  exact Nat.mul_lt_mul'' (hT_lt hp hq l h) hq
theorem qpos {q : Int} (h : 0 < q) (k : Nat) : 0 < q ^ k := Int.pow_pos h
/-- one step of the law's sum -/
theorem at_step {p q : Int} (hq : 0 < q) (pre : List Int) (a : Int) :
    let F := fr (hA p q pre) (q ^ pre.length)
    let W := fr (p ^ pre.length) (q ^ pre.length)
    let M := fr (a * W.1) (1 * W.2)
    fr (F.1 * M.2 + M.1 * F.2) (F.2 * M.2) = fr (hA p q (pre ++ [a])) (q ^ (pre.length + 1)) := by
  intro F W M
  have qk := qpos hq pre.length
  have f2 : 0 < F.2 := fr_pos qk
  have w2 : 0 < W.2 := fr_pos qk
  have w2' : 0 < 1 * W.2 := by omega
  have m2 : 0 < M.2 := fr_pos w2'
  have e1 : F.1 * q ^ pre.length = hA p q pre * F.2 := fr_val qk
  have e2 : W.1 * q ^ pre.length = p ^ pre.length * W.2 := fr_val qk
  have e3 : M.1 * (1 * W.2) = a * W.1 * M.2 := fr_val w2'
  refine fr_eq (Int.mul_pos f2 m2) (qpos hq _) ?_
  generalize F.1 = x1 at *
  generalize F.2 = x2 at *
  generalize M.1 = y1 at *
  generalize M.2 = y2 at *
  generalize W.1 = z1 at *
  generalize W.2 = z2 at *
  rw [hA_snoc, Int.pow_succ]
  generalize hA p q pre = A at *
  generalize p ^ pre.length = pk at *
  generalize q ^ pre.length = Qk at *
  rw [Int.one_mul] at e3
  have e4 : y1 * Qk = a * pk * y2 := by
    refine Int.eq_of_mul_eq_mul_right (Int.ne_of_gt w2) ?_
    calc y1 * Qk * z2 = (y1 * z2) * Qk := by simp only [Int.mul_assoc, Int.mul_comm, Int.mul_left_comm]
      _ = a * z1 * y2 * Qk := by rw [e3]
      _ = a * y2 * (z1 * Qk) := by simp only [Int.mul_assoc, Int.mul_comm, Int.mul_left_comm]
      _ = a * y2 * (pk * z2) := by rw [e2]
      _ = a * pk * y2 * z2 := by simp only [Int.mul_assoc, Int.mul_comm, Int.mul_left_comm]
  calc (x1 * y2 + y1 * x2) * (Qk * q) = (x1 * Qk) * (y2 * q) + (y1 * Qk) * (x2 * q) := by rw [Int.add_mul]; congr 1 <;> simp only [Int.mul_assoc, Int.mul_comm, Int.mul_left_comm]
    _ = (A * x2) * (y2 * q) + (a * pk * y2) * (x2 * q) := by rw [e1, e4]
    _ = (A * q + a * pk * q) * (x2 * y2) := by rw [Int.add_mul]; congr 1 <;> simp only [Int.mul_assoc, Int.mul_comm, Int.mul_left_comm]
theorem pw_step {p q : Int} (hq : 0 < q) (hc : Int.gcd p q = 1) (k : Nat) : fr ((fr (p ^ k) (q ^ k)).1 * p) ((fr (p ^ k) (q ^ k)).2 * q) = fr (p ^ (k + 1)) (q ^ (k + 1)) := by
  have qk := qpos hq k
  have e := fr_val (a := p ^ k) qk
  have f2 := fr_pos (u := p ^ k) qk
  refine fr_eq (Int.mul_pos f2 hq) (qpos hq _) ?_
  rw [Int.pow_succ, Int.pow_succ]
  generalize (fr (p ^ k) (q ^ k)).1 = x at *
  generalize (fr (p ^ k) (q ^ k)).2 = y at *
  generalize p ^ k = pk at *
  generalize q ^ k = Qk at *
  calc x * p * (Qk * q) = (x * Qk) * (p * q) := by simp only [Int.mul_assoc, Int.mul_comm, Int.mul_left_comm]
    _ = (pk * y) * (p * q) := by rw [e]
    _ = pk * p * (y * q) := by simp only [Int.mul_assoc, Int.mul_comm, Int.mul_left_comm]
/-- both tell one number -/
theorem val_same {p q : Int} (hq : 0 < q) (l : List Int) (h : l ≠ []) : fr (hT p q l) (q ^ (l.length - 1)) = fr (hA p q l) (q ^ l.length) := by
  refine fr_eq (qpos hq _) (qpos hq _) ?_
  obtain ⟨n, e⟩ : ∃ n, l.length = n + 1 := ⟨l.length - 1, by have := List.length_pos_iff.mpr h; omega⟩
  rw [e, Nat.add_sub_cancel, Int.pow_succ, ← hT_hA]
  simp only [Int.mul_assoc, Int.mul_comm, Int.mul_left_comm]
end V2


namespace V2
open PySem L2
open PySem.Spec PyProof.Rows
/-- a fraction's tuple at a -/
def Fr (H : Hp) (a : Addr) (p q : Int) : Prop := H a = some (.tup [.int p, .int q])
def Qn (p q : Int) : Prop := 0 < q ∧ Int.gcd p q = 1 ∧ p.natAbs < 2 ^ 50 ∧ q.natAbs < 2 ^ 50
/-- the value of a polynomial at a fraction, a new fraction -/
def spVal : Sp := fun vs H Q _ => ∃ (a b : Addr) (xs : List Int) (p q : Int), vs = [.ref a, .ref b] ∧ Li H a xs ∧ Fr H b p q ∧ Pn xs ∧ Qn p q ∧ RetU [.int (fr (hA p q xs) (q ^ xs.length)).1, .int (fr (hA p q xs) (q ^ xs.length)).2] H Q
/-- its numerator and denominator, not in lowest terms -/
def spScaled : Sp := fun vs H Q _ => ∃ (a b : Addr) (xs : List Int) (p q : Int), vs = [.ref a, .ref b] ∧ Li H a xs ∧ Fr H b p q ∧ Pn xs ∧ Qn p q ∧ RetU [.int (hT p q xs), .int (q ^ (xs.length - 1))] H Q
theorem n64 {x : Int} (h : -(2 ^ 64) < x ∧ x < 2 ^ 64) : x.natAbs < 2 ^ 64 := by
  have e : (2 : Int) ^ 64 = 18446744073709551616 := by decide
  have e2 : (2 : Nat) ^ 64 = 18446744073709551616 := by decide
  rw [e] at h
  rw [e2]
  omega
section
variable {base : Heap} {mg : Str → Option Value} {K : PySem.W.Frag} {w : World} {P : Program}
theorem ok_scaled {f : Addr} {fd : FuncData} (F : Fun K "scaled_value" "scaled_value" s_scaled_value f fd) (T : T2 mg) : FnOk P w K mg base CX0 1 f fd p_scaled_value spScaled := by
  refine F.ok sc_scaled_value (fun vs H Q E h => ?_) (fun cdv A outer s H vs Q E hr h => ?_)
  · obtain ⟨a, b, xs, p, q, rfl, _⟩ := h
    rfl
  · obtain ⟨a, b, xs, p, q, rfl, ha, hb, ⟨hx1, hx2, hx3⟩, ⟨q0, qc, pb, qb⟩, k⟩ := h
    have nd := sc_scaled_value.nd
    refine ⟨_, pss_cons (ps_asg (pv 1) (pg_tup rfl (pgs_cons (pg_name (i := 2) nd rfl (Or.inl rfl)) (pgs_cons (pg_name (i := 3) nd rfl (Or.inl rfl)) pgs_nil))))
      (pss_cons (ps_asg (pe_tup (pa_cons pe_int (pa_cons pe_int pa_nil))) (pg_tup rfl (pgs_cons (pg_name (i := 4) nd rfl (Or.inl rfl)) (pgs_cons (pg_name (i := 5) nd rfl (Or.inl rfl)) pgs_nil))))
      (pss_cons (ps_for PassesOwn.never rfl (pi_enum (by rfl) T.enu (pa_cons (pe_revL (pv 0)) pa_nil)) (pg_tup rfl (pgs_cons (pg_name (i := 6) nd rfl (Or.inl rfl)) (pgs_cons (pg_name (i := 7) nd rfl (Or.inl rfl)) pgs_nil)))
        (pss_cons (ps_if (pt_cmpR op_gt (pv 6) pe_int (nomark _)) (pss_one (ps_set (i := 5) nd rfl (Or.inl rfl) (pe_op op_mulW (pv 5) (pv 3)))) pss_nil)
        (pss_one (ps_set (i := 4) nd rfl (Or.inl rfl) (pe_op op_add (pe_op op_mulW (pv 4) (pv 2)) (pe_op op_mulW (pv 7) (pv 5)))))))
      (pss_one (ps_ret (pe_tup (pa_cons (pv 4) (pa_cons (pv 5) pa_nil))))))), ?_⟩
    have h64 : ∀ x ∈ xs, x.natAbs < 2 ^ 64 := fun x hx => n64 (hx3 x hx)
    have hTb : ∀ j, (hT p q (xs.drop j)).natAbs < 2 ^ 881 := fun j => by
      have := hT_lt pb qb (xs.drop j) fun x hx => h64 x (List.mem_of_mem_drop hx)
      refine Nat.lt_of_lt_of_le this (Nat.pow_le_pow_right (by decide) ?_)
      rw [List.length_drop]; omega
    have qk : ∀ j, j ≤ 16 → (q ^ j).natAbs < 2 ^ 801 := fun j hj => Nat.lt_of_lt_of_le (npow_lt qb j) (Nat.pow_le_pow_right (by decide) (by omega))
    refine ⟨_, rfl, b, _, rfl, SqT.of hb, rfl, _, _, rfl, _, _, rfl, rfl, ?_⟩
    refine ⟨(by show 2 ≤ sizeLine; decide), fun c hc => ?_⟩
    have e0 : Evl.Ex H (upd H c (.tup [.int 0, .int 1])) := Evl.Ex.new hc
    refine ⟨c, _, rfl, SqT.of upd_same, rfl, _, _, rfl, _, _, rfl, rfl, ?_⟩
    refine ⟨_, rfl, a, _, rfl, SqL.of (e0 _ _ ha), fun l hl => ⟨l, _, rfl, SqL.of upd_same, ?_⟩⟩
    have e1 : Evl.Ex H (upd (upd H c (.tup [.int 0, .int 1])) l (.lst (iV xs).reverse)) := e0.trans (Evl.Ex.new hl)
    have erev : (iV xs).reverse = iV xs.reverse := by unfold iV; rw [List.map_reverse]
    rw [erev] at e1 ⊢
    refine for_it walk_enum (fun i σ H' => ∃ v6 v7, σ = [some (.ref a), some (.ref b), some (.int p), some (.int q), some (.int (hT p q (xs.drop (xs.length - i)))), some (.int (q ^ (i - 1))), v6, v7] ∧ Evl.Ex (upd (upd H c (.tup [.int 0, .int 1])) l (.lst (iV xs.reverse))) H')
      ⟨none, none, ?_, Evl.Ex.refl _⟩ (fun i σ H' _ ⟨_, _, _, q⟩ => SqL.of (q _ _ upd_same)) ?_ ?_
    · rw [Nat.sub_zero, List.drop_length, show (0 - 1 : Nat) = 0 from rfl, Int.pow_zero]; rfl
    · rintro i x σ H' H2 hi ⟨v6, v7, rfl, e2⟩ ⟨T, z, y, rfl, hT2, rfl, hz, hy⟩
      obtain rfl := (Option.some.inj hz).symm
      obtain ⟨n, hn, rfl⟩ := iV_get hy
      rw [iV_len, List.length_reverse] at hi
      rw [List.getElem?_reverse hi] at hn
      have e3 := e2.trans (Evl.Ex.new (o := .tup [.int (i : Nat), .int n]) hT2)
      have st := hT_drop p q xs i n hi hn
      have b1 := hTb (xs.length - i)
      have nb := h64 n (List.mem_of_getElem? hn)
      refine ⟨T, _, rfl, SqT.of upd_same, rfl, _, _, rfl, _, _, rfl, rfl, ?_⟩
      (refine ⟨_, rfl, _, _, rfl, rfl, _, rfl, ?_⟩)
      (refine ite2 (fun c => ?_) (fun c => ?_))
      · have c1 : 0 < i := by have := of_decide_eq_true c; omega
        have eq1 : q ^ (i - 1) * q = q ^ i := by rw [← Int.pow_succ]; congr 1; omega
        refine ⟨_, rfl, _, rfl, _, _, rfl, rfl, wide_mul (qk (i - 1) (by omega)) qb (by decide) (by decide) (by decide), ?_⟩
        refine ⟨_, rfl, _, rfl, _, _, rfl, rfl, wide_mul b1 pb (by decide) (by decide) (by decide), _, rfl, _, rfl, n, _, rfl, rfl, ?_, _, _, rfl, rfl, ?_⟩
        · show CMulW n (q ^ (i - 1) * q)
          rw [eq1]
          exact wide_mul nb (qk i (by omega)) (by decide) (by decide) (by decide)
        · refine ⟨some (.int (i : Nat)), some (.int n), ?_, e3⟩
          rw [st, Nat.add_sub_cancel, ← eq1]
          rfl
      · have c1 : i = 0 := by
          rcases Nat.eq_zero_or_pos i with e | e
          · exact e
          · exact absurd (decide_eq_true (by omega)) c
        subst c1
        refine ⟨_, rfl, _, rfl, _, _, rfl, rfl, wide_mul b1 pb (by decide) (by decide) (by decide), _, rfl, _, rfl, n, _, rfl, rfl, ?_, _, _, rfl, rfl, ?_⟩
        · exact wide_mul nb (qk 0 (by omega)) (by decide) (by decide) (by decide)
        · refine ⟨some (.int (0 : Nat)), some (.int n), ?_, e3⟩
          rw [st]
          rfl
    · rintro σ H' ⟨v6, v7, rfl, e2⟩
      rw [iV_len, List.length_reverse, Nat.sub_self, List.drop_zero]
      refine ⟨_, rfl, _, rfl, (by show 2 ≤ sizeLine; decide), fun t ht => ?_⟩
      have e4 := e1.trans e2
      exact k t _ (Evl.fresh_back e4 ht) (e4.trans (Evl.Ex.new ht)) upd_same
end
end V2


namespace V2
open PySem L2
open PySem.Spec PyProof.Rows
theorem big {x : Int} {n m : Nat} (h : x.natAbs < 2 ^ n) (l : n ≤ m) : x.natAbs < 2 ^ m := Nat.lt_of_lt_of_le h (Nat.pow_le_pow_right (by decide) l)
theorem take_len {xs : List Int} {i : Nat} (h : i ≤ xs.length) : (xs.take i).length = i := by rw [List.length_take]; omega
theorem take_snoc {xs : List Int} {i : Nat} {x : Int} (h : xs[i]? = some x) : xs.take (i + 1) = xs.take i ++ [x] := by
  rw [List.take_add_one, h]; rfl
section
variable {base : Heap} {mg : Str → Option Value} {K : PySem.W.Frag} {w : World} {P : Program}
theorem ok_at {f : Addr} {fd : FuncData} (F : Fun K "_law_pv_at" "_law_pv_at" s_l_at f fd) (cA : Cal P w K mg base 3 "_law_pv_add" p_l_add spAdd) (cM : Cal P w K mg base 3 "_law_pv_mul" p_l_mul spMul) : FnOk P w K mg base CX0 4 f fd p_l_at spVal := by
  refine F.ok sc_l_at (fun vs H Q E h => ?_) (fun cdv A outer s H vs Q E hr h => ?_)
  · obtain ⟨a, b, xs, p, q, rfl, _⟩ := h
    rfl
  · obtain ⟨a, b, xs, p, q, rfl, ha, hb, ⟨hx1, hx2, hx3⟩, ⟨q0, qc, pb, qb⟩, k⟩ := h
    have nd := sc_l_at.nd
    refine ⟨_, pss_cons (ps_asg (pe_tup (pa_cons (pe_tup (pa_cons pe_int (pa_cons pe_int pa_nil))) (pa_cons (pe_tup (pa_cons pe_int (pa_cons pe_int pa_nil))) pa_nil))) (pg_tup rfl (pgs_cons (pg_name (i := 2) nd rfl (Or.inl rfl)) (pgs_cons (pg_name (i := 3) nd rfl (Or.inl rfl)) pgs_nil))))
      (pss_cons (ps_for PassesOwn.never rfl (pi_list (pv 0)) (pg_name (i := 4) nd rfl (Or.inl rfl))
        (pss_cons (ps_set (i := 2) nd rfl (Or.inl rfl) (pe_c cA hr (pa_cons (pv 2) (pa_cons (pe_c cM hr (pa_cons (pe_tup (pa_cons (pv 4) (pa_cons pe_int pa_nil))) (pa_cons (pv 3) pa_nil))) pa_nil))))
        (pss_one (ps_set (i := 3) nd rfl (Or.inl rfl) (pe_c cM hr (pa_cons (pv 3) (pa_cons (pv 1) pa_nil)))))))
      (pss_one (ps_ret (pv 2)))), ?_⟩
    have h64 : ∀ x ∈ xs, x.natAbs < 2 ^ 64 := fun x hx => n64 (hx3 x hx)
    have two : 2 ≤ sizeLine := by show 2 ≤ sizeLine; decide
    refine ⟨two, fun t1 ht1 => ⟨two, fun t2 ht2 => ⟨two, fun t3 ht3 => ?_⟩⟩⟩
    have e1 : Evl.Ex H (upd H t1 (.tup [.int 0, .int 1])) := Evl.Ex.new ht1
    have e2 := Evl.Ex.new (o := .tup [.int 1, .int 1]) ht2
    have e3 := Evl.Ex.new (o := .tup [.ref t1, .ref t2]) ht3
    have e0 := (e1.trans e2).trans e3
    refine ⟨t3, _, rfl, SqT.of upd_same, rfl, _, _, rfl, _, _, rfl, rfl, ?_⟩
    have qk : ∀ i, i ≤ 16 → (q ^ i).natAbs < 2 ^ 801 := fun j hj => big (npow_lt qb j) (by omega)
    have pk : ∀ i, i ≤ 16 → (p ^ i).natAbs < 2 ^ 801 := fun j hj => big (npow_lt pb j) (by omega)
    refine ⟨_, rfl, a, rfl, ⟨_, SqL.of (e0 _ _ ha)⟩, for_list (xs := iV xs) (fun i σ H' => ∃ (f w : Addr) (v : Option V), σ = [some (.ref a), some (.ref b), some (.ref f), some (.ref w), v] ∧ Evl.Ex H H' ∧ H f = none ∧
        Fr H' f (fr (hA p q (xs.take i)) (q ^ i)).1 (fr (hA p q (xs.take i)) (q ^ i)).2 ∧ Fr H' w (fr (p ^ i) (q ^ i)).1 (fr (p ^ i) (q ^ i)).2)
      ⟨t1, t2, none, rfl, e0, ht1, ?_, ?_⟩ (fun i σ H' _ ⟨_, _, _, _, e, _⟩ => SqL.of (e _ _ ha)) ?_ ?_⟩
    · rw [List.take_zero, Int.pow_zero, show fr (hA p q []) 1 = (0, 1) from (fr_same (by decide) (by decide) : fr 0 1 = (0, 1))]
      exact e3 _ _ (e2 _ _ upd_same)
    · rw [Int.pow_zero, Int.pow_zero, show fr 1 1 = (1, 1) from fr_same (by decide) (by decide)]
      exact e3 _ _ upd_same
    · rintro i x σ H' hi ⟨f, w', v, rfl, ee, hf, hF, hW⟩
      obtain ⟨n, hn, rfl⟩ := iV_get hi
      have hl : i < xs.length := (List.getElem?_eq_some_iff.mp hn).1
      have tl := take_len (xs := xs) (i := i) (by omega)
      have hAb : (hA p q (xs.take i)).natAbs < 2 ^ 1000 := big (hA_lt pb qb fun x hx => h64 x (List.mem_of_mem_take hx)) (by omega)
      have nb := h64 n (List.mem_of_getElem? hn)
      have qi := qpos q0 i
      have st := at_step (p := p) q0 (xs.take i) n
      rw [tl, ← take_snoc hn] at st
      dsimp only at st
      have ps := pw_step (p := p) q0 qc i
      have F1 : (fr (hA p q (xs.take i)) (q ^ i)).1.natAbs < 2 ^ 1000 := Nat.lt_of_le_of_lt (fr_abs1 qi) hAb
      have F2 : (fr (hA p q (xs.take i)) (q ^ i)).2.natAbs < 2 ^ 1000 := Nat.lt_of_le_of_lt (fr_abs2 qi) (big (qk i (by omega)) (by decide))
      have W1 : (fr (p ^ i) (q ^ i)).1.natAbs < 2 ^ 801 := Nat.lt_of_le_of_lt (fr_abs1 qi) (pk i (by omega))
      have W2 : (fr (p ^ i) (q ^ i)).2.natAbs < 2 ^ 801 := Nat.lt_of_le_of_lt (fr_abs2 qi) (qk i (by omega))
      have Fp := fr_pos (u := hA p q (xs.take i)) qi
      have Wp := fr_pos (u := p ^ i) qi
      generalize (fr (hA p q (xs.take i)) (q ^ i)).1 = x1 at *
      generalize (fr (hA p q (xs.take i)) (q ^ i)).2 = x2 at *
      generalize (fr (p ^ i) (q ^ i)).1 = z1 at *
      generalize (fr (p ^ i) (q ^ i)).2 = z2 at *
      have Wp' : 0 < 1 * z2 := by omega
      have M1 : (fr (n * z1) (1 * z2)).1.natAbs < 2 ^ 1000 := Nat.lt_of_le_of_lt (fr_abs1 Wp') (pw_mul nb W1 (by decide))
      have M2 : (fr (n * z1) (1 * z2)).2.natAbs < 2 ^ 1000 := Nat.lt_of_le_of_lt (fr_abs2 Wp') (by rw [Int.one_mul]; exact big W2 (by decide))
      have Mp := fr_pos (u := n * z1) Wp'
      refine ⟨_, rfl, _, rfl, two, fun t4 ht4 => ⟨_, rfl, t4, w', n, 1, z1, z2, rfl, upd_same, Evl.Ex.new ht4 _ _ hW, big nb (by decide), by decide, big W1 (by decide), big W2 (by decide), by decide, Wp, fun m H3 hm e5 h3 => ?_⟩⟩
      have e4 := Evl.Ex.new (o := .tup [.int n, .int 1]) ht4
      have e45 := e4.trans e5
      refine ⟨f, m, x1, x2, _, _, rfl, e45 _ _ hF, h3, big F1 (by decide), big F2 (by decide), big M1 (by decide), big M2 (by decide), Fp, Mp, fun g H4 hg e6 h4 => ?_⟩
      rw [st] at h4
      have e456 := e45.trans e6
      refine ⟨_, rfl, _, rfl, w', b, z1, z2, p, q, rfl, e456 _ _ hW, (ee.trans e456) _ _ hb, big W1 (by decide), big W2 (by decide), big pb (by decide), big qb (by decide), Wp, q0, fun u H5 hu e7 h5 => ?_⟩
      rw [ps] at h5
      exact ⟨g, u, _, rfl, (ee.trans e456).trans e7, Evl.fresh_back (ee.trans e45) hg, e7 _ _ h4, h5⟩
    · rintro σ H' ⟨f, w', v, rfl, ee, hf, hF, hW⟩
      rw [iV_len, List.take_length] at hF
      exact ⟨_, rfl, k f H' hf ee hF⟩
end
end V2


namespace V2
open PySem L2
open PySem.Spec PyProof.Rows
structure T3 (mg : Str → Option Value) : Prop where
  isi : mg "isinstance" = none
  int : mg "int" = none
  bool : mg "bool" = none
  lst : mg "list" = none
  tup : mg "tuple" = none
  len : mg "len" = none
  all : mg "all" = none
  gcd : mg "gcd" = some (.builtin "math.gcd")
def spInt : Sp := fun vs H Q _ => ∃ n : Int, vs = [.int n] ∧ Evl.RetV (.bl true) H Q
def spPol : Sp := fun vs H Q _ => ∃ (a : Addr) (ns : List Int), vs = [.ref a] ∧ Li H a ns ∧ Pn ns ∧ Evl.RetV (.bl true) H Q
def spIsFr : Sp := fun vs H Q _ => ∃ (a : Addr) (p q : Int), vs = [.ref a] ∧ Fr H a p q ∧ Qn p q ∧ Evl.RetV (.bl true) H Q
def spChk : Sp := fun vs H Q _ => ∃ (l : Addr) (as : List Addr), vs = [.ref l] ∧ H l = some (.lst (as.map V.ref)) ∧ as.length ≤ 10 ∧ (∀ a ∈ as, ∃ ns, Li H a ns ∧ Pn ns) ∧ Evl.RetV .non H Q
def spChkFr : Sp := fun vs H Q _ => ∃ (a : Addr) (p q : Int), vs = [.ref a] ∧ Fr H a p q ∧ Qn p q ∧ Evl.RetV .non H Q
theorem atI_end {ns : List Int} (h0 : ns ≠ []) : ∃ x, ns[ns.length - 1]? = some x ∧ atI (iV ns) (-1) = some (.int x) := by
  have e := List.dropLast_concat_getLast h0
  refine ⟨ns.getLast h0, ?_, ?_⟩
  · rw [← List.getLast?_eq_getElem?, List.getLast?_eq_some_getLast h0]
  · have e2 : iV ns = iV ns.dropLast ++ [.int (ns.getLast h0)] := by
      conv => lhs; rw [← e]
      unfold iV
      rw [List.map_append]
      rfl
    rw [e2]
    exact atI_last _ _
theorem rep_snoc (n : Nat) (x : V) : List.replicate n x ++ [x] = List.replicate (n + 1) x := by
  rw [List.replicate_succ']
section
variable {base : Heap} {mg : Str → Option Value} {K : PySem.W.Frag} {w : World} {P : Program}
theorem ok_is_integer {f : Addr} {fd : FuncData} (F : Fun K "is_integer" "is_integer" s_is_integer f fd) (T : T3 mg) : FnOk P w K mg base CX0 1 f fd p_is_integer spInt := by
  refine F.ok sc_is_integer (fun vs H Q E h => ?_) (fun cdv A outer s H vs Q E hr h => ?_)
  · obtain ⟨n, rfl, _⟩ := h
    rfl
  · obtain ⟨n, rfl, k⟩ := h
    refine ⟨_, pss_one (ps_ret (pe_and (pe_callB call_isi (by rfl) T.isi (by decide +kernel) (pa_cons (pv 0) (pa_cons (pe_bltn (v := .ty "int") (by rfl) T.int (by decide +kernel) rfl) pa_nil)))
      (pe_one (pe_not (pe_callB call_isi (by rfl) T.isi (by decide +kernel) (pa_cons (pv 0) (pa_cons (pe_bltn (v := .ty "bool") (by rfl) T.bool (by decide +kernel) rfl) pa_nil))))))), ?_⟩
    refine ⟨_, rfl, _, _, _, _, true, rfl, .ty "int", .base (.int n), kit_ty (by decide +kernel), true, rfl, if_t rfl ?_⟩
    refine ⟨_, rfl, _, _, _, _, false, rfl, .ty "bool", .base (.int n), kit_ty (by decide +kernel), false, rfl, ?_⟩
    exact k _ (Evl.Ex.refl _)
theorem ok_is_polynomial {f : Addr} {fd : FuncData} (F : Fun K "is_polynomial" "is_polynomial" s_is_polynomial f fd) (T : T3 mg) (cI : Cal P w K mg base 1 "is_integer" p_is_integer spInt) : FnOk P w K mg base CX0 2 f fd p_is_polynomial spPol := by
  refine F.ok sc_is_polynomial (fun vs H Q E h => ?_) (fun cdv A outer s H vs Q E hr h => ?_)
  · obtain ⟨a, ns, rfl, _⟩ := h
    rfl
  · obtain ⟨a, ns, rfl, ha, hp, k⟩ := h
    have nd := sc_is_polynomial.nd
    refine ⟨_, pss_cons (ps_if (PW.pt (pw_or (pt_not (pt_val (pe_callB call_isi (by rfl) T.isi (by decide +kernel) (pa_cons (pv 0) (pa_cons (pe_bltn (v := .ty "list") (by rfl) T.lst (by decide +kernel) rfl) pa_nil)))))
        (pw_or1 (pt_not (pt_val (pe_callB (cr_all rfl) (by rfl) T.all (by decide +kernel) (pa_cons (pe_lc (own := [("number", 1)]) (g := gName 1) (tt := tYes) (te := tCall spInt [] E0 (tCons (tVar 1) tNil)) rfl nd (pi_list (pv 0)) (blkOk_by (N := n_is_polynomial) (sc := defScope s_is_polynomial) (by decide +kernel)) (fun _ _ _ _ _ => pg_name (i := 1) nd rfl (Or.inl rfl)) (fun _ _ _ _ _ => pts_nil)
          (fun _ _ _ _ _ => pe_c cI hr (pa_cons (pv 1) pa_nil))) pa_nil))))))) (pss_one (ps_ret pe_bl)) pss_nil)
      (pss_one (ps_ret (pe_or (pe_notT (pv 0)) (pe_one (pe_cmpR op_ne (pe_ix ix_list (pv 0) (pe_un un_neg pe_int) (fun _ _ => rfl)) pe_int (nomark _)))))), ?_⟩
    obtain ⟨p1, p2, p3⟩ := hp
    refine ⟨_, rfl, _, _, _, _, true, rfl, .ty "list", .base (.lst ha), kit_ty (by decide +kernel), true, rfl, if_f rfl ?_⟩
    refine ⟨_, rfl, a, rfl, ⟨_, ha.sq⟩, fun D hD => lc_list (xs := iV ns) (fun i H' => Evl.Ex H H' ∧ H' D = some (.lst (List.replicate i (.bl true)))) ⟨Evl.Ex.new hD, upd_same⟩ (fun i H' _ q => SqL.of (q.1 _ _ ha)) ?_ ?_⟩
    · rintro i x H' hi ⟨e1, h1⟩
      obtain ⟨n, hn, rfl⟩ := iV_get hi
      have hl : i < ns.length := (List.getElem?_eq_some_iff.mp hn).1
      refine ⟨rfl, ?_⟩
      show tCall spInt [] E0 (tCons (tVar 1) tNil) _ _ _
      refine ⟨_, rfl, n, rfl, fun H2 e2 => ⟨_, e2 _ _ h1, ?_, ?_, ?_⟩⟩
      · rw [List.length_replicate]; exact Nat.lt_of_lt_of_le (show i < 100 by omega) (by decide)
      · exact Evl.Ex.mut (e1.trans e2) hD
      · rw [upd_same, rep_snoc]
    · rintro H' ⟨e1, h1⟩
      rw [iV_len] at h1
      refine ⟨D, List.replicate ns.length true, rfl, SqL.of (by rw [h1, List.map_replicate]), true, by simp, ?_⟩
      refine if_f rfl ?_
      by_cases h0 : ns = []
      · refine ⟨_, rfl, false, .inl ⟨_, SqL.of (e1 _ _ ha), by rw [h0]; rfl⟩, _, rfl, if_t rfl ?_⟩
        exact k _ e1
      · obtain ⟨x, hx, hx2⟩ := atI_end h0
        refine ⟨_, rfl, true, .inl ⟨_, SqL.of (e1 _ _ ha), by cases ns with | nil => exact absurd rfl h0 | cons _ _ => rfl⟩, _, rfl, if_f rfl ?_⟩
        refine ⟨_, rfl, _, rfl, a, _, _, _, rfl, rfl, SqL.of (e1 _ _ ha), hx2, rfl, ?_⟩
        have e : (!decide (V.int x = V.int 0)) = true := by
          rw [decide_eq_false fun z => p1 x hx (by injection z)]; rfl
        show Q (.bl (!decide (V.int x = V.int 0))) H'
        rw [e]
        exact k _ e1
theorem ok_is_fraction {f : Addr} {fd : FuncData} (F : Fun K "is_fraction" "is_fraction" s_is_fraction f fd) (T : T3 mg) (cI : Cal P w K mg base 1 "is_integer" p_is_integer spInt) : FnOk P w K mg base CX0 2 f fd p_is_fraction spIsFr := by
  refine F.ok sc_is_fraction (fun vs H Q E h => ?_) (fun cdv A outer s H vs Q E hr h => ?_)
  · obtain ⟨a, p, q, rfl, _⟩ := h
    rfl
  · obtain ⟨a, p, q, rfl, ha, ⟨q0, qc, pb, qb⟩, k⟩ := h
    have nd := sc_is_fraction.nd
    refine ⟨_, pss_cons (ps_if (PW.pt (pw_or (pt_not (pt_val (pe_callB call_isi (by rfl) T.isi (by decide +kernel) (pa_cons (pv 0) (pa_cons (pe_bltn (v := .ty "tuple") (by rfl) T.tup (by decide +kernel) rfl) pa_nil)))))
        (pw_or1 (pt_cmpR op_ne (pe_callB call_len_seq (by rfl) T.len PySem.boot_len (pa_cons (pv 0) pa_nil)) pe_int (nomark _))))) (pss_one (ps_ret pe_bl)) pss_nil)
      (pss_cons (ps_asg (pv 0) (pg_tup rfl (pgs_cons (pg_name (i := 1) nd rfl (Or.inl rfl)) (pgs_cons (pg_name (i := 2) nd rfl (Or.inl rfl)) pgs_nil))))
      (pss_one (ps_ret (pe_and (pe_c cI hr (pa_cons (pv 1) pa_nil)) (pe_and (pe_c cI hr (pa_cons (pv 2) pa_nil)) (pe_and (pe_cmpR op_ge (pv 2) pe_int (nomark _)) (pe_one (pe_cmpR op_eq (pe_callBfun cr_gcd (by rfl) T.gcd (pa_cons (pv 1) (pa_cons (pv 2) pa_nil))) pe_int (nomark _))))))))), ?_⟩
    refine ⟨_, rfl, _, _, _, _, true, rfl, .ty "tuple", .base (.tup ha), kit_ty (by decide +kernel), true, rfl, if_f rfl ?_⟩
    refine ⟨_, rfl, a, _, rfl, .inr (SqT.of ha), rfl, false, rfl, if_f rfl ?_⟩
    refine ⟨_, rfl, a, _, rfl, SqT.of ha, rfl, _, _, rfl, _, _, rfl, rfl, ?_⟩
    refine ⟨_, rfl, p, rfl, fun H1 e1 => ⟨_, rfl, if_t rfl ⟨_, rfl, q, rfl, fun H2 e2 => ⟨_, rfl, if_t rfl ⟨_, rfl, _, _, rfl, rfl, _, rfl, if_t (decide_eq_true (by omega)) ?_⟩⟩⟩⟩⟩
    refine ⟨_, rfl, _, rfl, p, q, rfl, rfl, ?_⟩
    have e : decide (V.int ((Nat.gcd p.natAbs q.natAbs : Nat) : Int) = V.int 1) = true := decide_eq_true (by
      have : Nat.gcd p.natAbs q.natAbs = 1 := qc
      rw [this]; rfl)
    show Q (.bl (decide (V.int ((Nat.gcd p.natAbs q.natAbs : Nat) : Int) = V.int 1))) H2
    rw [e]
    exact k _ (e1.trans e2)
theorem ok_check_polynomials {f : Addr} {fd : FuncData} (F : Fun K "check_polynomials" "check_polynomials" s_check_polynomials f fd) (cP : Cal P w K mg base 2 "is_polynomial" p_is_polynomial spPol) : FnOk P w K mg base CX0 3 f fd p_check_polynomials spChk := by
  refine F.ok sc_check_polynomials (fun vs H Q E h => ?_) (fun cdv A outer s H vs Q E hr h => ?_)
  · obtain ⟨l, as, rfl, _⟩ := h
    rfl
  · obtain ⟨l, as, rfl, hl, h10, ha, k⟩ := h
    have nd := sc_check_polynomials.nd
    refine ⟨_, pss_one (ps_for PassesOwn.never rfl (pi_list (pv 0)) (pg_name (i := 1) nd rfl (Or.inl rfl))
      (pss_one (ps_if (pt_not (pt_val (pe_c cP hr (pa_cons (pv 1) pa_nil)))) (pss_one ps_never) pss_nil))), ?_⟩
    refine ⟨_, rfl, l, rfl, ⟨_, SqL.of hl⟩, for_list (xs := as.map V.ref) (fun i σ H' => Evl.Ex H H' ∧ ∃ v, σ = [some (.ref l), v]) ⟨Evl.Ex.refl _, none, rfl⟩ (fun i σ H' _ q => SqL.of (q.1 _ _ hl)) ?_ ?_⟩
    · rintro i x σ H' hi ⟨e1, v, rfl⟩
      rw [List.getElem?_map] at hi
      obtain ⟨a, h1, rfl⟩ : ∃ a, as[i]? = some a ∧ x = .ref a := by
        cases e : as[i]? with
        | none => rw [e] at hi; cases hi
        | some a => rw [e] at hi; exact ⟨a, rfl, (Option.some.inj hi).symm⟩
      obtain ⟨ns, hL, hP⟩ := ha a (List.mem_of_getElem? h1)
      refine ⟨_, rfl, a, ns, rfl, e1 _ _ hL, hP, fun H2 e2 => ⟨true, rfl, if_f rfl ⟨e1.trans e2, _, rfl⟩⟩⟩
    · rintro σ H' ⟨e1, v, rfl⟩
      exact k _ e1
theorem ok_check_fraction {f : Addr} {fd : FuncData} (F : Fun K "check_fraction" "check_fraction" s_check_fraction f fd) (cF : Cal P w K mg base 2 "is_fraction" p_is_fraction spIsFr) : FnOk P w K mg base CX0 3 f fd p_check_fraction spChkFr := by
  refine F.ok sc_check_fraction (fun vs H Q E h => ?_) (fun cdv A outer s H vs Q E hr h => ?_)
  · obtain ⟨a, p, q, rfl, _⟩ := h
    rfl
  · obtain ⟨a, p, q, rfl, ha, hq, k⟩ := h
    refine ⟨_, pss_one (ps_if (pt_not (pt_val (pe_c cF hr (pa_cons (pv 0) pa_nil)))) (pss_one ps_never) pss_nil), ?_⟩
    exact ⟨_, rfl, a, p, q, rfl, ha, hq, fun H2 e2 => ⟨true, rfl, if_f rfl (k _ e2)⟩⟩
end
end V2


namespace V2
open PySem L2
open PySem.Spec PyProof.Rows
/-- keywords alone -/
def CalK (P : Program) (w : World) (K : PySem.W.Frag) (mg : Str → Option Value) (base : Heap) (k : Nat) (x : Str) (ps ks : List Str) (gV : List V → List V) (sp : Sp) : Prop :=
  ∃ (f : Addr) (fd : FuncData) (g : List Value → List Value → List Value), FnOk P w K mg base CX0 k f fd ps sp ∧ mg x = some (.ref f) ∧ PySem.W.keepIn K (.ref f) = true ∧ KBn K fd ps 0 ks g (fun _ zs => gV zs)
theorem pe_ck {X : Cx} {k : Nat} {x : Str} {ps ks : List Str} {gV : List V → List V} {sp : Sp} {kws : List Keyword} {t : TA} {p pos : Pos} (c : CalK X.prog X.w X.K X.mg X.base k x ps ks gV sp) (hr : Room k X.A) (hkw : PK X kws t) (hg : Gl X x := by rfl)
    (hall : (backToKw pos (keywordEach kws X.env)).all (fun b => b.1.isSome) = true := by rfl)
    (hks : (backToKw pos (keywordEach kws X.env)).filterMap (fun b => b.1) = ks := by rfl) (hdb : (x == ("__debug__" : Str)) = false := by decide)
    (hpl : ((backTo pos (starEach [] X.env)).any (fun b => b.1) || (backToKw pos (keywordEach kws X.env)).any (fun b => b.1.isNone)) = false := by rfl) :
    PE X (.Call (.Name x p) [] kws pos) (fun σ H Q => t σ H fun zs H1 => zs.length = ks.length ∧ sp (gV zs) H1 Q E0) := by
  obtain ⟨f, fd, g, F, hm, hk, hb⟩ := c
  constructor
  intro pins s σ H Q I h
  apply wpAny_Call_Name_kw
  apply ld_glob I hg hm _ hdb
  apply PySem.W.callWith_KW0 (h₀ := X.base) I.ok.mod.kin hk hall _ hpl
  apply thn (hkw.run pos pins s σ H _ I h)
  rintro ws s2 ⟨zs, H2, I2, rz, l2, q2⟩
  rw [hks]
  exact ⟨I2.kIn, run_fnN (us := []) (vs := []) F hr hb pass0 I2 .nil rz rfl l2 q2⟩
section
variable {base : Heap} {mg : Str → Option Value} {K : PySem.W.Frag} {w : World} {P : Program}
end
end V2


namespace V2
open PySem L2
open PySem.Spec PyProof.Rows
/-! ## defs that show things: they are called where no repr is under way -/
structure FnG (P : Program) (w : World) (K : PySem.W.Frag) (mg : Str → Option Value) (base : Heap) (k : Nat) (f : Addr) (fd : FuncData) (ps : List Str) (sp : Sp) : Prop where
  len : ∀ vs H Qv Ee, sp vs H Qv Ee → vs.length = ps.length
  run : ∀ (A : Around) (outer : List Env) (s : Shared) (H : Hp) (args : Args) (us : List Value) (vs : List V) (Q : VK) (E : XK), A.guards = some [] → Room k A → Env0 P w K mg base A outer s H → BindsTo s fd args (ps.zip us) → Vals vs us → sp vs H Q E →
    codeAny (model P w) A (.call (.ref f) args) (CR CX0 outer P w H s Q E) s
theorem guards_deeper (A : Around) (env : Env) : (A.deeper env).guards = A.guards := rfl
/-- a def by its body, the way in told -/
theorem Fun.okG {P : Program} {w : World} {K : PySem.W.Frag} {mg : Str → Option Value} {base : Heap} {x qual : Str} {st : Stmt} {f : Addr} {fd : FuncData} {N ps : List Str} {k : Nat} {sp : Sp} (F : Fun K x qual st f fd) (S : FnScope N ps (defScope st))
    (len : ∀ vs H Qv Ee, sp vs H Qv Ee → vs.length = ps.length)
    (hbody : ∀ (cdv : Value) (A : Around) (outer : List Env) (s : Shared) (H : Hp) (vs : List V) (Q : VK) (E : XK), A.guards = some [] → Room k (A.deeper (envOfC qual (defScope st) s.heap.objs.size f cdv)) → sp vs H Q E →
      ∃ t, PSs (cxOf CX0 P w K mg base N qual (defScope st) f cdv A outer s H E).nox (defBody st) t ∧ t { nx := fun _ H' => Q .non H', rt := Q } (start N vs) H) :
    FnG P w K mg base (k + 1) f fd ps sp := by
  obtain ⟨ow, oe, kw, dc, pn, am, cdv, cu, sl, rfl, lk, hcd⟩ := F.ex
  constructor
  · exact len
  intro A outer s H args us vs Q E hg hr e0 hb r hsp
  have hl := len vs H Q E hsp
  have st1 : ∀ b o, base.get? b = some o → s.heap.get? b = some o := fun b o e => (e0.bs b o e).1
  have KX : K.In s.heap := e0.mod.kin.keeps st1
  have lim := e0.mod.nolimit.keeps st1
  have kinds : ∀ y ∈ ps.zip us, (defScope st).names.lookup y.1 = some .local ∨ ((defScope st).names.lookup y.1 = some .cell ∧ ((cellsFrom (s.heap.objs.size + 1) (defScope st).names []).lookup y.1).isSome = true) := by
    rintro ⟨n, v⟩ hy
    cases S.par n (List.of_mem_zip hy).1 with
    | inl q => exact .inl q
    | inr q => exact .inr ⟨q, PySem.W.cellsFrom_some _ _ _ (.inl q)⟩
  apply codeAny_call_function hr.depth (KX _ _ lk) rfl S.co S.gen rfl (PySem.W.codeRec_of KX hcd)
  apply hb
  apply wpAny_newFunctionEnv_cells S.kind kinds
  rintro env rfl s1 ic
  constructor
  · exact lim.keeps ic.toInCall.keep
  apply codeAny_func
  obtain ⟨t, ht, hq⟩ := hbody cdv A outer s H vs Q E hg (hr.deeper _) hsp
  have I := inv_start (CX := CX0) (E := E) (qual := qual) (f := f) (cd := cdv) S hr.hd e0 hl r ic
  apply wpAny_mono (ht.nox.run [] s1 (start N vs) H _ I hq)
  · intro fl s' hs
    cases fl with
    | ret u =>
      obtain ⟨v, σ', Hb, J, rr, q⟩ := hs
      exact ⟨v, Hb, J.os, J.bare, J.base, J.hok, rr, q⟩
    | next =>
      obtain ⟨σ', H', J, q⟩ := hs
      exact ⟨V.non, H', J.os, J.bare, J.base, J.hok, rfl, q⟩
    | brk => exact hs.elim fun _ z => z.elim fun _ z => z.2.elim
    | cont => exact hs.elim fun _ z => z.elim fun _ z => z.2.elim
  · exact fun e s' hs => hs
theorem FnOk.toG {P : Program} {w : World} {K : PySem.W.Frag} {mg : Str → Option Value} {base : Heap} {k : Nat} {f : Addr} {fd : FuncData} {ps : List Str} {sp : Sp} (F : FnOk P w K mg base CX0 k f fd ps sp) : FnG P w K mg base k f fd ps sp :=
  ⟨F.len, fun A outer s H args us vs Q E _ => F.run A outer s H args us vs Q E⟩
def CalG (P : Program) (w : World) (K : PySem.W.Frag) (mg : Str → Option Value) (base : Heap) (k : Nat) (x : Str) (ps : List Str) (sp : Sp) : Prop :=
  ∃ (f : Addr) (fd : FuncData), FnG P w K mg base k f fd ps sp ∧ mg x = some (.ref f) ∧ PySem.W.keepIn K (.ref f) = true ∧ Binds K fd ps []
theorem pe_cg {X : Cx} {k : Nat} {x : Str} {ps : List Str} {sp : Sp} {e : Expr} {es : List Expr} {t : TA} {p pos : Pos} (c : CalG X.prog X.w X.K X.mg X.base k x ps sp) (hgd : X.A.guards = some []) (hr : Room k X.A) (ha : PA X (e :: es) t) (hg : Gl X x := by rfl)
    (he : starEach (e :: es) X.env = (false, eval e X.env) :: starEach es X.env := by rfl)
    (hpl : (backTo pos (starEach es X.env)).any (fun b => b.1) = false := by rfl) (hdb : (x == ("__debug__" : Str)) = false := by decide) :
    PE X (.Call (.Name x p) (e :: es) [] pos) (tCall sp [] E0 t) := by
  obtain ⟨f, fd, F, hm, hk, hb⟩ := c
  constructor
  intro pins s σ H Q I h
  apply wpAny_Call_Name_kw
  apply ld_glob I hg hm _ hdb
  refine PySem.W.callWith_K (h₀ := X.base) I.ok.mod.kin hk ?_ he hpl
  apply thn (ha.run pos pins s σ H _ I h)
  rintro us s1 ⟨vs, H1, I1, r, q⟩
  refine ⟨I1.kIn, ?_⟩
  (show wpAny _ _ (call (.ref f) us) _ _ _)
  have q : sp (vs ++ []) H1 Q E0 := q
  rw [List.append_nil] at q
  have hl : us.length = ps.length := by rw [← Paired.length r]; exact F.len _ _ _ _ q
  have bb := hb s1 us I1.kIn (by rw [List.append_nil]; exact hl)
  rw [List.append_nil] at bb
  apply wpAny_call
  apply codeAny_mono (F.run X.A X.stack s1 H1 ⟨us, []⟩ us vs Q E0 hgd hr I1.env0 bb r q)
  intro r' s' hq
  cases r' with
  | error e => exact hq.elim
  | ok fl =>
    cases fl with
    | ret u => exact I1.after hq
    | next => exact hq.elim
    | brk => exact hq.elim
    | cont => exact hq.elim
/-- repr of what is data -/
def rShow (K : PySem.W.Frag) : List V → Hp → VK → Prop := fun xs H Q => ∃ (a : Addr) (d : PyData), xs = [.ref a] ∧ Dp K H (.ref a) d ∧ d.showable = true ∧ d.hasDict = false ∧ d.depth ≤ 60 ∧ d.shown.length ≤ sizeLine ∧ Q (.str d.shown) H
theorem call_show {X : Cx} (hgd : X.A.guards = some []) (hu : X.A.units + 64 < cLine) : CallR X (.builtin "repr") (rShow X.K) := by
  intro pins
  intro s σ H xs us Q I r h
  obtain ⟨a, d, rfl, hd, hs, hn, hp, hz, q⟩ := h
  obtain ⟨u, rfl, ru⟩ : ∃ u, us = [u] ∧ RelV (.ref a) u := by
    cases r with
    | cons ra rb =>
      cases rb
      exact ⟨_, rfl, ra⟩
  have eu : u = Value.ref a := ru
  subst eu
  obtain ⟨as, rd⟩ := Dp.reads I d (.ref a) (.ref a) hd rfl
  apply repr_of_reads' rd hs (fun z => by rw [hn] at z; cases z) hgd (by omega) (fun _ _ e => e) _ hz
  intro h' u tk k
  exact ⟨.str d.shown, H, I.kept (t' := tk) k, ⟨u, rfl⟩, q⟩
end V2


namespace V2
open PySem L2
open PySem.Spec PyProof.Rows
/-! ## the law's own call -/
/-- it says True and leaves what it found -/
def Fine (s₁ : Shared) : Result → Shared → Prop := fun r s2 =>
  r = .ok (.ret (.bool true)) ∧ OldK s₁.heap s2.heap ∧ s2.os = s₁.os ∧ AllBare s2.gens
section
variable {P : Program} {w : World} {K : PySem.W.Frag} {mg mb : Str → Option Value} {k : Nat} {fa a : Addr} {fd : FuncData} {x : Str} {sp : Sp} {s₁ : Shared} {vs : List Value} {ns : List Int}
/-- from an abstract heap that tracks the script at most -/
theorem core_G (KX : K.In s₁.heap) (hns : s₁.heap.Ns mainGlobals mg) (hb : s₁.heap.Ns builtinsNs mb) (hbb : ∀ x : Str, x ≠ "__name__" → mb x = bootBuiltins x) (hlim : s₁.heap.NoLimit) (hg : s₁.gens = #[])
    (ha : s₁.heap.get? a = some { cls := .type "list", data := .seq vs.toArray }) (hr : Room k callerA)
    (F : ∀ base : Heap, K.In base → base.Ns mainGlobals mg → FnG P w K mg base k fa fd [x] sp) (hbind : ∀ (s : Shared) (u : Value), BindsTo s fd ⟨[u], []⟩ [(x, u)])
    (H : Hp) (hO : Only H) (hq : sp [.ref a] H (fun v _ => v = .bl true) fun _ _ _ => False) (hok : HOk P w H s₁.heap) (hA : ∀ b u, H b = some u → b = a) (hK : ∀ u, H a = some u → K.lookup a = none) :
    codeAny (model P w) callerA (.call (.ref fa) ⟨[.ref a], []⟩) (Fine s₁) s₁ := by
  have dictNo : ∀ {b : Addr} {o : Obj} {es : Array DictEntry} {ep : Nat}, s₁.heap.get? b = some o → o.data = .dict es ep → H b = none := by
    intro b o es ep e d
    cases q : H b with
    | none => rfl
    | some u =>
      obtain rfl := hA b u q
      rw [ha] at e
      cases e
      cases d
  have hideNs : ∀ {b : Addr} {m : Str → Option Value}, s₁.heap.Ns b m → (hidT s₁.heap H).Ns b m := by
    rintro b m ⟨o, es, ep, e, d, r⟩
    exact ⟨o, es, ep, hidT_get e (dictNo e d), d, r⟩
  have hKb : K.In (hidT s₁.heap H) := by
    intro b o e
    apply hidT_get (KX b o e)
    cases q : H b with
    | none => rfl
    | some u =>
      obtain rfl := hA b u q
      rw [hK u q] at e
      cases e
  have hM : Mod K mg (hidT s₁.heap H) := by
    obtain ⟨mc, h1, h2⟩ := hlim
    exact ⟨hKb, hideNs hns, ⟨mb, hideNs hb, hbb⟩, ⟨mc, hideNs h1, h2⟩⟩
  have none_ : ∀ b ∈ frs [], H b = none := by
    intro b hb
    cases (show b ∈ ([] : List Addr) from hb)
  have e0 : Env0 P w K mg (hidT s₁.heap H) callerA [] s₁ H := ⟨rfl, hM, fun b o e => of_hidT e, Nat.le_of_eq (hidT_size _ _), trivial, none_, hok, .of_eq hg⟩
  apply codeAny_mono ((F _ hKb (hideNs hns)).run callerA [] s₁ H ⟨[.ref a], []⟩ [.ref a] [.ref a] _ _ rfl hr e0 (hbind s₁ (.ref a)) (.cons rfl .nil) hq)
  intro r s' h
  cases r with
  | error e => exact h.elim
  | ok fl =>
    cases fl with
    | next => exact h.elim
    | brk => exact h.elim
    | cont => exact h.elim
    | ret u =>
      obtain ⟨v, H', os, bare, un, hok', r', rfl⟩ := h
      have eu : u = Value.bool true := r'
      subst eu
      refine ⟨rfl, OldK.of_keep ?_, os, bare⟩
      intro b o e
      cases q : H b with
      | none => exact un.keep b o e q (by intro z; cases (show b ∈ ([] : List Addr) from z)) (by intro z; cases z)
      | some u =>
        (rcases hO b with z | ⟨ob, xs, z⟩)
        · rw [q] at z; cases z
        · have e1 := (hok b _ z).1
          have e2 := (hok' b _ (un.frzs b ob _ z)).1
          rw [e] at e1
          cases e1
          exact e2
theorem law_G (KX : K.In s₁.heap) (hns : s₁.heap.Ns mainGlobals mg) (hb : s₁.heap.Ns builtinsNs mb) (hbb : ∀ x : Str, x ≠ "__name__" → mb x = bootBuiltins x) (hlim : s₁.heap.NoLimit) (hg : s₁.gens = #[])
    (ha : s₁.heap.get? a = some { cls := .type "list", data := .seq vs.toArray })
    (hi : IntsAre vs ns) (hl : ns.length ≤ sizeLine) (hr : Room k callerA)
    (F : ∀ base : Heap, K.In base → base.Ns mainGlobals mg → FnG P w K mg base k fa fd [x] sp) (hbind : ∀ (s : Shared) (u : Value), BindsTo s fd ⟨[u], []⟩ [(x, u)])
    (hsp : ∀ H : Hp, Only H → SqL K H a (ns.map V.int) → sp [.ref a] H (fun v _ => v = .bl true) fun _ _ _ => False) :
    codeAny (model P w) callerA (.call (.ref fa) ⟨[.ref a], []⟩) (Fine s₁) s₁ := by
  have rv := vals_ints hi
  have lenV := hi.length
  cases hk : K.lookup a with
  | some o =>
    have e := KX a o hk
    rw [ha] at e
    cases e
    have hS : SqL K (fun _ => none) a (ns.map V.int) := .inr ⟨_, vs.toArray, _, hk, rfl, rfl, rfl, by rw [List.size_toArray, lenV]; exact hl, by simpa using rv⟩
    have hO : Only (fun _ => none) := fun _ => .inl rfl
    exact core_G KX hns hb hbb hlim hg ha hr F hbind _ hO (hsp _ hO hS) (fun b u z => by cases (show (none : Option HO) = some u from z)) (fun b u z => by cases (show (none : Option HO) = some u from z)) fun u z => by cases (show (none : Option HO) = some u from z)
  | none =>
    let H : Hp := fun b => if b = a then some (.frz { cls := .type "list", data := .seq vs.toArray } (.lst (ns.map V.int))) else none
    have at_a : H a = some (.frz { cls := .type "list", data := .seq vs.toArray } (.lst (ns.map V.int))) := if_pos rfl
    have off : ∀ b u, H b = some u → b = a := by
      intro b u z
      by_cases e : b = a
      · exact e
      · rw [show H b = none from if_neg e] at z; cases z
    have hO : Only H := by
      intro b
      by_cases e : b = a
      · exact .inr ⟨_, _, by rw [e]; exact at_a⟩
      · exact .inl (if_neg e)
    have hok : HOk P w H s₁.heap := by
      intro b u z
      obtain rfl := off b u z
      rw [at_a] at z
      cases z
      (exact ⟨ha, by rw [List.length_map]; exact hl, vs, _, rv, ha⟩)
    exact core_G KX hns hb hbb hlim hg ha hr F hbind H hO (hsp H hO (.inl (.inr ⟨_, at_a⟩))) hok off fun _ _ => hk
end
theorem walk_G {l : PySem.W.OpenLaw} {n k : Nat} {q : Program} {loose : List Str} {XP : (Str → Option Value) → Heap → Prop} {YP : World → Heap → Prop} {d : DefRec} {K : Params → PySem.W.Frag} {sp : PySem.W.Frag → Sp} {x : Str}
    (hn : l.most = some n) (hn2 : n ≤ sizeLine)
    (hdf : d.params.defaults = []) (hr : Room k callerA)
    (hY : ∀ (w : World) (hp : Heap), YP w hp → (K w.params).In hp)
    (F : ∀ (w : World) (mg : Str → Option Value) (fa : Addr) (hp : Heap), (K w.params).In hp → hp.Ns mainGlobals mg → mg d.name = some (.ref fa) →
      ∃ fd : FuncData, (∀ (s : Shared) (u : Value), BindsTo s fd ⟨[u], []⟩ [(x, u)]) ∧ ∀ base : Heap, (K w.params).In base → base.Ns mainGlobals mg → FnG l.prog w (K w.params) mg base k fa fd [x] (sp (K w.params)))
    (hsp : ∀ (K : PySem.W.Frag) (H : Hp) (a : Addr) (ns : List Int), ns.length ≤ n → Only H → SqL K H a (ns.map V.int) → sp K [.ref a] H (fun v _ => v = .bl true) fun _ _ _ => False) :
    PySem.W.WalkO q loose XP YP l.row.toRowW d []
      (fun f us => PySem.call f us) := by
  apply Att.attach_call hn hdf
  intro w s₀ s₁ mg mb fa o pm cd doc a vs ns G Y ho hd hcd hmg hobj hints hlen hg
  obtain ⟨fd, hb, hF⟩ := F w mg fa _ (hY w _ Y) G.T.g hmg
  exact law_G (hY w _ Y) G.T.g G.T.b G.T.builtins G.T.nolimit hg hobj hints (Nat.le_trans hlen hn2) hr hF hb fun H hO hS => hsp _ H a ns hlen hO hS
end V2


namespace V2
open PySem L2
open PySem.Spec PyProof.Rows
/-! ## flat lists and tuples of ints, and lists of such -/
abbrev Itm := Bool × Addr × List Int
def ItAt (H : Hp) (i : Itm) : Prop := H i.2.1 = some (if i.1 = true then .lst (iV i.2.2) else .tup (iV i.2.2))
def itD (i : Itm) : PyData := if i.1 = true then .list (i.2.2.map .int) else .tuple (i.2.2.map .int)
def refs (its : List Itm) : List V := its.map fun i => .ref i.2.1
def TreeAt (H : Hp) (a : Addr) (its : List Itm) : Prop := H a = some (.lst (refs its)) ∧ ∀ i ∈ its, ItAt H i
def treeD (its : List Itm) : PyData := .list (its.map itD)
def lsts (its : List Itm) : List (Addr × List Int) := its.filterMap fun i => if i.1 = true then some (i.2.1, i.2.2) else none
def goM : Nat → List Itm → List PyData
  | _, [] => []
  | k, (true, _, ns) :: r => .list ((ns ++ [(k : Int)]).map .int) :: goM (k + 1) r
  | k, (false, _, ns) :: r => .tuple (ns.map .int) :: goM k r
def markD (its : List Itm) : PyData := .list (goM 1 its ++ [.int 0])
/-- all that is marked: the list itself, then its lists -/
def CL (a : Addr) (its : List Itm) : List (Addr × List V) := (a, refs its) :: (lsts its).map fun p => (p.1, iV p.2)
def Dst (a : Addr) (its : List Itm) : Prop := ((CL a its).map (·.1)).Nodup
def Off (S : List Addr) (H H' : Hp) : Prop := ∀ b o, b ∉ S → H b = some o → H' b = some o
theorem ItAt.ex {H H' : Hp} {i : Itm} (h : ItAt H i) (e : Evl.Ex H H') : ItAt H' i := e _ _ h
theorem TreeAt.ex {H H' : Hp} {a : Addr} {its : List Itm} (h : TreeAt H a its) (e : Evl.Ex H H') : TreeAt H' a its := ⟨e _ _ h.1, fun i hi => (h.2 i hi).ex e⟩
theorem lsts_mem {its : List Itm} {b : Addr} {ns : List Int} (h : (b, ns) ∈ lsts its) : (true, b, ns) ∈ its := by
  obtain ⟨i, hi, e⟩ := List.mem_filterMap.mp h
  obtain ⟨k, c, ms⟩ := i
  cases k with
  | true => simp at e; obtain ⟨rfl, rfl⟩ := e; exact hi
  | false => simp at e
theorem dpI {K : PySem.W.Frag} {H : Hp} : ∀ ns : List Int, DpAll K H (iV ns) (ns.map .int)
  | [] => .nil
  | n :: r => .cons (.int n) (dpI r)
theorem dp_it {K : PySem.W.Frag} {H : Hp} {i : Itm} (h : ItAt H i) : Dp K H (.ref i.2.1) (itD i) := by
  obtain ⟨b, a, ns⟩ := i
  cases b with
  | true => exact .lst (SqL.of h) (dpI ns)
  | false => exact .tup (SqT.of h) (dpI ns)
theorem dp_tree {K : PySem.W.Frag} {H : Hp} {a : Addr} {its : List Itm} (h : TreeAt H a its) : Dp K H (.ref a) (treeD its) := by
  refine .lst (SqL.of h.1) ?_
  have key : ∀ l : List Itm, (∀ i ∈ l, ItAt H i) → DpAll K H (refs l) (l.map itD) := by
    intro l
    induction l with
    | nil => intro _; exact .nil
    | cons i r ih => intro q; exact .cons (dp_it (q i List.mem_cons_self)) (ih fun j hj => q j (List.mem_cons_of_mem _ hj))
  exact key its h.2
/-- behind the marking -/
theorem dp_go {K : PySem.W.Frag} {H : Hp} : ∀ (its : List Itm) (k : Nat), (∀ j b ns, (lsts its)[j]? = some (b, ns) → H b = some (.lst (iV (ns ++ [((k + j : Nat) : Int)])))) → (∀ i ∈ its, i.1 = false → H i.2.1 = some (.tup (iV i.2.2))) → DpAll K H (refs its) (goM k its)
  | [], _, _, _ => .nil
  | (true, b, ns) :: r, k, h1, h2 => by
    have e : lsts ((true, b, ns) :: r) = (b, ns) :: lsts r := by unfold lsts; rw [List.filterMap_cons_some (by rfl)]
    have h0 := h1 0 b ns (by rw [e]; rfl)
    refine .cons (.lst (SqL.of h0) (dpI _)) (dp_go r (k + 1) (fun j c ms hj => ?_) fun i hi => h2 i (List.mem_cons_of_mem _ hi))
    have := h1 (j + 1) c ms (by rw [e]; exact hj)
    rw [show k + (j + 1) = k + 1 + j by omega] at this
    exact this
  | (false, b, ns) :: r, k, h1, h2 => by
    have e : lsts ((false, b, ns) :: r) = lsts r := by unfold lsts; rw [List.filterMap_cons_none (by rfl)]
    exact .cons (.tup (SqT.of (h2 (false, b, ns) List.mem_cons_self rfl)) (dpI _)) (dp_go r k (fun j c ms hj => h1 j c ms (by rw [e]; exact hj)) fun i hi => h2 i (List.mem_cons_of_mem _ hi))
theorem go_shape : ∀ (k : Nat) (l m : List Itm), l.map (fun i => (i.1, i.2.2)) = m.map (fun i => (i.1, i.2.2)) → goM k l = goM k m
  | _, [], [], _ => rfl
  | _, [], _ :: _, h => by simp at h
  | _, _ :: _, [], h => by simp at h
  | k, (b, x, ns) :: l, (c, y, ms) :: m, h => by
    simp only [List.map_cons, List.cons.injEq, Prod.mk.injEq] at h
    obtain ⟨⟨rfl, rfl⟩, h2⟩ := h
    cases b with
    | true => show _ :: goM (k + 1) l = _ :: goM (k + 1) m; rw [go_shape (k + 1) l m h2]
    | false => show _ :: goM k l = _ :: goM k m; rw [go_shape k l m h2]
theorem tree_shape {l m : List Itm} (h : l.map (fun i => (i.1, i.2.2)) = m.map (fun i => (i.1, i.2.2))) : treeD l = treeD m := by
  have e : ∀ k : List Itm, k.map itD = (k.map fun i => (i.1, i.2.2)).map fun p => if p.1 = true then PyData.list (p.2.map .int) else .tuple (p.2.map .int) := fun k => by rw [List.map_map]; rfl
  unfold treeD
  rw [e, e, h]
theorem mark_shape {l m : List Itm} (h : l.map (fun i => (i.1, i.2.2)) = m.map (fun i => (i.1, i.2.2))) : markD l = markD m := by
  unfold markD; rw [go_shape 1 l m h]
theorem kA_int {K : PySem.W.Frag} : PySem.W.kitAny K (.type "int") [.type "list", .type "tuple"] = some false := kitAny_cons (b := false) (kit_ty (by decide +kernel)) (fun _ => kitAny_cons (b := false) (kit_ty (by decide +kernel)) (fun _ => kitAny_nil) (fun h => by cases h)) (fun h => by cases h)
theorem kA_lst {K : PySem.W.Frag} : PySem.W.kitAny K (.type "list") [.type "list", .type "tuple"] = some true := kitAny_cons (b := true) (kit_ty (by decide +kernel)) (fun h => by cases h) (fun _ => rfl)
theorem kA_tup {K : PySem.W.Frag} : PySem.W.kitAny K (.type "tuple") [.type "list", .type "tuple"] = some true := kitAny_cons (b := false) (kit_ty (by decide +kernel)) (fun _ => kitAny_cons (b := true) (kit_ty (by decide +kernel)) (fun h => by cases h) (fun _ => rfl)) (fun h => by cases h)
structure T4 (mg : Str → Option Value) : Prop where
  isi : mg "isinstance" = none
  lst : mg "list" = none
  tup : mg "tuple" = none
  len : mg "len" = none
  rng : mg "range" = none
  rep : mg "repr" = none
def spL0 : Sp := fun vs H Q _ => ∃ n : Int, vs = [.int n] ∧ Evl.RetL [] H Q
def spL1 : Sp := fun vs H Q _ => ∃ i : Itm, vs = [.ref i.2.1] ∧ ItAt H i ∧ i.2.2.length ≤ 100 ∧ Evl.RetL (if i.1 = true then [.ref i.2.1] else []) H Q
def spL2 : Sp := fun vs H Q _ => ∃ (a : Addr) (its : List Itm), vs = [.ref a] ∧ TreeAt H a its ∧ its.length ≤ 100 ∧ (∀ i ∈ its, i.2.2.length ≤ 100) ∧ Evl.RetL ((CL a its).map fun p => .ref p.1) H Q
def spC0 : Sp := fun vs H Q _ => ∃ n : Int, vs = [.int n] ∧ Evl.RetV (.int n) H Q
def spC1 : Sp := fun vs H Q _ => ∃ i : Itm, vs = [.ref i.2.1] ∧ ItAt H i ∧ i.2.2.length ≤ 100 ∧ ∀ p H2, H p = none → Evl.Ex H H2 → ItAt H2 (i.1, p, i.2.2) → Q (.ref p) H2
def spC2 : Sp := fun vs H Q _ => ∃ (a : Addr) (its : List Itm), vs = [.ref a] ∧ TreeAt H a its ∧ its.length ≤ 100 ∧ (∀ i ∈ its, i.2.2.length ≤ 100) ∧
  ∀ p jts H2, H p = none → Evl.Ex H H2 → TreeAt H2 p jts → Dst p jts → (∀ x ∈ CL p jts, H x.1 = none) → jts.map (fun i => (i.1, i.2.2)) = its.map (fun i => (i.1, i.2.2)) → Q (.ref p) H2
def lrefs (its : List Itm) : List V := (lsts its).map fun p => .ref p.1
theorem lrefs_snoc {its : List Itm} {i : Nat} {x : Itm} (h : its[i]? = some x) : lrefs (its.take (i + 1)) = lrefs (its.take i) ++ (if x.1 = true then [.ref x.2.1] else []) := by
  rw [List.take_add_one, h]
  unfold lrefs lsts
  rw [List.filterMap_append, List.map_append]
  congr 1
  obtain ⟨b, a, ns⟩ := x
  cases b <;> rfl
theorem lrefs_len (its : List Itm) : (lrefs its).length ≤ its.length := by
  unfold lrefs lsts
  rw [List.length_map]
  exact List.length_filterMap_le _ _
theorem refs_get {its : List Itm} {i : Nat} {x : V} (h : (refs its)[i]? = some x) : ∃ j, its[i]? = some j ∧ x = .ref j.2.1 := by
  unfold refs at h
  rw [List.getElem?_map] at h
  cases e : its[i]? with
  | none =>
    rw [e] at h
    cases h
  | some j => rw [e] at h; exact ⟨j, rfl, (Option.some.inj h).symm⟩
theorem refs_len (its : List Itm) : (refs its).length = its.length := List.length_map ..
theorem cl_refs (a : Addr) (its : List Itm) : ((CL a its).map fun p => V.ref p.1) = .ref a :: lrefs its := by
  unfold CL lrefs
  rw [List.map_cons, List.map_map]
  rfl
section
variable {base : Heap} {mg : Str → Option Value} {K : PySem.W.Frag} {w : World} {P : Program}
theorem ok_lists0 {f : Addr} {fd : FuncData} (F : Fun K "_law_pv_lists" "_law_pv_lists" s_l_lists f fd) (T : T4 mg) : FnOk P w K mg base CX0 1 f fd p_l_lists spL0 := by
  refine F.ok sc_l_lists (fun vs H Q E h => ?_) (fun cdv A outer s H vs Q E hr h => ?_)
  · obtain ⟨n, rfl, _⟩ := h
    rfl
  · obtain ⟨n, rfl, k⟩ := h
    have nd := sc_l_lists.nd
    refine ⟨_, pss_cons (ps_set (i := 1) nd rfl (Or.inl rfl) (pe_lst pa_nil))
      (pss_cons (ps_if (pt_val (pe_callB call_isi (by rfl) T.isi (by decide +kernel) (pa_cons (pv 0) (pa_cons (pe_bltn (v := .ty "list") (by rfl) T.lst (by decide +kernel) rfl) pa_nil)))) (pss_one ps_never) pss_nil)
      (pss_cons (ps_if (pt_val (pe_callB call_isiT (by rfl) T.isi (by decide +kernel) (pa_cons (pv 0) (pa_cons (pe_tup (pa_cons (pe_bltn (v := .ty "list") (by rfl) T.lst (by decide +kernel) rfl) (pa_cons (pe_bltn (v := .ty "tuple") (by rfl) T.tup (by decide +kernel) rfl) pa_nil))) pa_nil)))) (pss_one ps_never) pss_nil)
      (pss_one (ps_ret (pv 1))))), ?_⟩
    refine ⟨Nat.zero_le _, fun l hl => ⟨_, rfl, _, _, _, _, false, rfl, .ty "list", .base (.int n), kit_ty (by decide +kernel), false, rfl, if_f rfl ?_⟩⟩
    refine ⟨_, rfl, (by show 2 ≤ sizeLine; decide), fun t ht => ⟨_, t, _, _, _, false, rfl, upd_same, .cons (.ty "list") (.cons (.ty "tuple") .nil), .base (.int n), ?_, false, rfl, if_f rfl ?_⟩⟩
    · exact kA_int
    · refine ⟨_, rfl, k l _ hl ((Evl.Ex.new hl).trans (Evl.Ex.new ht)) ?_⟩
      exact Evl.Ex.new ht _ _ upd_same
theorem ok_lists1 {f : Addr} {fd : FuncData} (F : Fun K "_law_pv_lists" "_law_pv_lists" s_l_lists f fd) (T : T4 mg) (c0 : Cal P w K mg base 1 "_law_pv_lists" p_l_lists spL0) : FnOk P w K mg base CX0 2 f fd p_l_lists spL1 := by
  refine F.ok sc_l_lists (fun vs H Q E h => ?_) (fun cdv A outer s H vs Q E hr h => ?_)
  · obtain ⟨i, rfl, _⟩ := h
    rfl
  · obtain ⟨⟨b, a, ns⟩, rfl, hI, hz, k⟩ := h
    have nd := sc_l_lists.nd
    have two : 2 ≤ sizeLine := by show 2 ≤ sizeLine; decide
    cases b with
    | true =>
      have hI : H a = some (.lst (iV ns)) := hI
      have k : Evl.RetL [.ref a] H Q := k
      refine ⟨_, pss_cons (ps_set (i := 1) nd rfl (Or.inl rfl) (pe_lst pa_nil))
        (pss_cons (ps_if (pt_val (pe_callB call_isi (by rfl) T.isi (by decide +kernel) (pa_cons (pv 0) (pa_cons (pe_bltn (v := .ty "list") (by rfl) T.lst (by decide +kernel) rfl) pa_nil))))
          (pss_one (ps_expr (pe_bm PySem.F.plainAttrs_list PySem.F.slot_list_append PySem.F.type_list_append mt_append (pv 1) (pa_cons (pv 0) pa_nil)))) pss_nil)
        (pss_cons (ps_if (pt_val (pe_callB call_isiT (by rfl) T.isi (by decide +kernel) (pa_cons (pv 0) (pa_cons (pe_tup (pa_cons (pe_bltn (v := .ty "list") (by rfl) T.lst (by decide +kernel) rfl) (pa_cons (pe_bltn (v := .ty "tuple") (by rfl) T.tup (by decide +kernel) rfl) pa_nil))) pa_nil))))
          (pss_one (ps_for PassesOwn.never rfl (pi_list (pv 0)) (pg_name (i := 2) nd rfl (Or.inl rfl)) (pss_one (ps_set (i := 1) nd rfl (Or.inl rfl) (pe_op op_cat (pv 1) (pe_c c0 hr (pa_cons (pv 2) pa_nil))))))) pss_nil)
        (pss_one (ps_ret (pv 1))))), ?_⟩
      (refine ⟨Nat.zero_le _, fun l hl => ?_⟩)
      have e1 : Evl.Ex H (upd H l (.lst [])) := Evl.Ex.new hl
      refine ⟨_, rfl, _, _, _, _, true, rfl, .ty "list", .base (.lst (e1 _ _ hI)), kit_ty (by decide +kernel), true, rfl, if_t rfl ?_⟩
      refine ⟨_, rfl, .inl ⟨rfl, _, SqL.of upd_same⟩, _, rfl, l, _, _, rfl, rfl, upd_same, by show 0 < sizeLine; decide, ?_⟩
      rw [upd_upd]
      have e2 : Evl.Ex H (upd H l (.lst [.ref a])) := Evl.Ex.new hl
      refine ⟨_, rfl, two, fun t ht => ⟨_, t, _, _, _, true, rfl, upd_same, .cons (.ty "list") (.cons (.ty "tuple") .nil), .base (.lst (Evl.Ex.new ht _ _ (e2 _ _ hI))), kA_lst, true, rfl, if_t rfl ?_⟩⟩
      have e3 := e2.trans (Evl.Ex.new (o := .tup [.ty "list", .ty "tuple"]) ht)
      refine ⟨_, rfl, a, rfl, ⟨_, SqL.of (e3 _ _ hI)⟩, for_list (xs := iV ns) (fun i σ H' => Evl.Ex H H' ∧ ∃ q v, σ = [some (.ref a), some (.ref q), v] ∧ H q = none ∧ H' q = some (.lst [.ref a]))
        ⟨e3, l, none, rfl, hl, Evl.Ex.new ht _ _ upd_same⟩ (fun i σ H' _ q => SqL.of (q.1 _ _ hI)) ?_ ?_⟩
      · rintro i x σ H' hi ⟨e4, q, v, rfl, hq, hq2⟩
        obtain ⟨n, hn, rfl⟩ := iV_get hi
        refine ⟨_, rfl, _, rfl, n, rfl, fun z H2 hz2 e5 h5 => ⟨q, z, _, _, rfl, rfl, e5 _ _ hq2, h5, by show 1 ≤ sizeLine; decide, fun y hy => ?_⟩⟩
        refine ⟨(e4.trans e5).trans (Evl.Ex.new hy), y, _, rfl, Evl.fresh_back (e4.trans e5) hy, ?_⟩
        rw [upd_same]; rfl
      · rintro σ H' ⟨e4, q, v, rfl, hq, hq2⟩
        exact ⟨_, rfl, k q H' hq e4 hq2⟩
    | false =>
      have hI : H a = some (.tup (iV ns)) := hI
      have k : Evl.RetL [] H Q := k
      refine ⟨_, pss_cons (ps_set (i := 1) nd rfl (Or.inl rfl) (pe_lst pa_nil))
        (pss_cons (ps_if (pt_val (pe_callB call_isi (by rfl) T.isi (by decide +kernel) (pa_cons (pv 0) (pa_cons (pe_bltn (v := .ty "list") (by rfl) T.lst (by decide +kernel) rfl) pa_nil)))) (pss_one ps_never) pss_nil)
        (pss_cons (ps_if (pt_val (pe_callB call_isiT (by rfl) T.isi (by decide +kernel) (pa_cons (pv 0) (pa_cons (pe_tup (pa_cons (pe_bltn (v := .ty "list") (by rfl) T.lst (by decide +kernel) rfl) (pa_cons (pe_bltn (v := .ty "tuple") (by rfl) T.tup (by decide +kernel) rfl) pa_nil))) pa_nil))))
          (pss_one (ps_for PassesOwn.never rfl (pi_tup (pv 0)) (pg_name (i := 2) nd rfl (Or.inl rfl)) (pss_one (ps_set (i := 1) nd rfl (Or.inl rfl) (pe_op op_cat (pv 1) (pe_c c0 hr (pa_cons (pv 2) pa_nil))))))) pss_nil)
        (pss_one (ps_ret (pv 1))))), ?_⟩
      (refine ⟨Nat.zero_le _, fun l hl => ?_⟩)
      have e1 : Evl.Ex H (upd H l (.lst [])) := Evl.Ex.new hl
      refine ⟨_, rfl, _, _, _, _, false, rfl, .ty "list", .base (.tup (e1 _ _ hI)), kit_ty (by decide +kernel), false, rfl, if_f rfl ?_⟩
      refine ⟨_, rfl, two, fun t ht => ⟨_, t, _, _, _, true, rfl, upd_same, .cons (.ty "list") (.cons (.ty "tuple") .nil), .base (.tup (Evl.Ex.new ht _ _ (e1 _ _ hI))), kA_tup, true, rfl, if_t rfl ?_⟩⟩
      have e3 := e1.trans (Evl.Ex.new (o := .tup [.ty "list", .ty "tuple"]) ht)
      refine ⟨_, rfl, a, rfl, ⟨_, SqT.of (e3 _ _ hI)⟩, for_tup (xs := iV ns) (fun i σ H' => Evl.Ex H H' ∧ ∃ q v, σ = [some (.ref a), some (.ref q), v] ∧ H q = none ∧ H' q = some (.lst []))
        ⟨e3, l, none, rfl, hl, Evl.Ex.new ht _ _ upd_same⟩ (fun i σ H' _ q => SqT.of (q.1 _ _ hI)) ?_ ?_⟩
      · rintro i x σ H' hi ⟨e4, q, v, rfl, hq, hq2⟩
        obtain ⟨n, hn, rfl⟩ := iV_get hi
        refine ⟨_, rfl, _, rfl, n, rfl, fun z H2 hz2 e5 h5 => ⟨q, z, _, _, rfl, rfl, e5 _ _ hq2, h5, by show 0 ≤ sizeLine; decide, fun y hy => ?_⟩⟩
        refine ⟨(e4.trans e5).trans (Evl.Ex.new hy), y, _, rfl, Evl.fresh_back (e4.trans e5) hy, ?_⟩
        rw [upd_same]; rfl
      · rintro σ H' ⟨e4, q, v, rfl, hq, hq2⟩
        exact ⟨_, rfl, k q H' hq e4 hq2⟩
theorem ok_lists2 {f : Addr} {fd : FuncData} (F : Fun K "_law_pv_lists" "_law_pv_lists" s_l_lists f fd) (T : T4 mg) (c1 : Cal P w K mg base 2 "_law_pv_lists" p_l_lists spL1) : FnOk P w K mg base CX0 3 f fd p_l_lists spL2 := by
  refine F.ok sc_l_lists (fun vs H Q E h => ?_) (fun cdv A outer s H vs Q E hr h => ?_)
  · obtain ⟨a, its, rfl, _⟩ := h
    rfl
  · obtain ⟨a, its, rfl, ⟨hI, hIt⟩, hl100, hz, k⟩ := h
    rw [cl_refs] at k
    have nd := sc_l_lists.nd
    have two : 2 ≤ sizeLine := by show 2 ≤ sizeLine; decide
    refine ⟨_, pss_cons (ps_set (i := 1) nd rfl (Or.inl rfl) (pe_lst pa_nil))
      (pss_cons (ps_if (pt_val (pe_callB call_isi (by rfl) T.isi (by decide +kernel) (pa_cons (pv 0) (pa_cons (pe_bltn (v := .ty "list") (by rfl) T.lst (by decide +kernel) rfl) pa_nil))))
        (pss_one (ps_expr (pe_bm PySem.F.plainAttrs_list PySem.F.slot_list_append PySem.F.type_list_append mt_append (pv 1) (pa_cons (pv 0) pa_nil)))) pss_nil)
      (pss_cons (ps_if (pt_val (pe_callB call_isiT (by rfl) T.isi (by decide +kernel) (pa_cons (pv 0) (pa_cons (pe_tup (pa_cons (pe_bltn (v := .ty "list") (by rfl) T.lst (by decide +kernel) rfl) (pa_cons (pe_bltn (v := .ty "tuple") (by rfl) T.tup (by decide +kernel) rfl) pa_nil))) pa_nil))))
        (pss_one (ps_for PassesOwn.never rfl (pi_list (pv 0)) (pg_name (i := 2) nd rfl (Or.inl rfl)) (pss_one (ps_set (i := 1) nd rfl (Or.inl rfl) (pe_op op_cat (pv 1) (pe_c c1 hr (pa_cons (pv 2) pa_nil))))))) pss_nil)
      (pss_one (ps_ret (pv 1))))), ?_⟩
    (refine ⟨Nat.zero_le _, fun l hl => ?_⟩)
    have e1 : Evl.Ex H (upd H l (.lst [])) := Evl.Ex.new hl
    refine ⟨_, rfl, _, _, _, _, true, rfl, .ty "list", .base (.lst (e1 _ _ hI)), kit_ty (by decide +kernel), true, rfl, if_t rfl ?_⟩
    refine ⟨_, rfl, .inl ⟨rfl, _, SqL.of upd_same⟩, _, rfl, l, _, _, rfl, rfl, upd_same, by show 0 < sizeLine; decide, ?_⟩
    rw [upd_upd]
    have e2 : Evl.Ex H (upd H l (.lst [.ref a])) := Evl.Ex.new hl
    refine ⟨_, rfl, two, fun t ht => ⟨_, t, _, _, _, true, rfl, upd_same, .cons (.ty "list") (.cons (.ty "tuple") .nil), .base (.lst (Evl.Ex.new ht _ _ (e2 _ _ hI))), kA_lst, true, rfl, if_t rfl ?_⟩⟩
    have e3 := e2.trans (Evl.Ex.new (o := .tup [.ty "list", .ty "tuple"]) ht)
    refine ⟨_, rfl, a, rfl, ⟨_, SqL.of (e3 _ _ hI)⟩, for_list (xs := refs its) (fun i σ H' => Evl.Ex H H' ∧ ∃ q v, σ = [some (.ref a), some (.ref q), v] ∧ H q = none ∧ H' q = some (.lst (.ref a :: lrefs (its.take i))))
      ⟨e3, l, none, rfl, hl, Evl.Ex.new ht _ _ upd_same⟩ (fun i σ H' _ q => SqL.of (q.1 _ _ hI)) ?_ ?_⟩
    · rintro i x σ H' hi ⟨e4, q, v, rfl, hq, hq2⟩
      obtain ⟨j, hj, rfl⟩ := refs_get hi
      have hm := List.mem_of_getElem? hj
      have li := lrefs_len (its.take i)
      have lt : (its.take i).length ≤ 100 := by rw [List.length_take]; omega
      refine ⟨_, rfl, _, rfl, j, rfl, (hIt j hm).ex e4, hz j hm, fun z H2 hz2 e5 h5 => ⟨q, z, _, _, rfl, rfl, e5 _ _ hq2, h5, ?_, fun y hy => ?_⟩⟩
      · refine Nat.le_trans ?_ (show 200 ≤ sizeLine by decide)
        rw [List.length_cons]
        split <;> simp only [List.length_cons, List.length_nil] <;> omega
      · refine ⟨(e4.trans e5).trans (Evl.Ex.new hy), y, _, rfl, Evl.fresh_back (e4.trans e5) hy, ?_⟩
        rw [upd_same, lrefs_snoc hj]; rfl
    · rintro σ H' ⟨e4, q, v, rfl, hq, hq2⟩
      rw [refs_len, List.take_length] at hq2
      exact ⟨_, rfl, k q H' hq e4 hq2⟩
/-! copies -/
theorem ok_copied0 {f : Addr} {fd : FuncData} (F : Fun K "_law_pv_copied" "_law_pv_copied" s_l_copied f fd) (T : T4 mg) : FnOk P w K mg base CX0 1 f fd p_l_copied spC0 := by
  refine F.ok sc_l_copied (fun vs H Q E h => ?_) (fun cdv A outer s H vs Q E hr h => ?_)
  · obtain ⟨n, rfl, _⟩ := h
    rfl
  · obtain ⟨n, rfl, k⟩ := h
    refine ⟨_, pss_cons (ps_if (pt_val (pe_callB call_isi (by rfl) T.isi (by decide +kernel) (pa_cons (pv 0) (pa_cons (pe_bltn (v := .ty "list") (by rfl) T.lst (by decide +kernel) rfl) pa_nil)))) (pss_one ps_never) pss_nil)
      (pss_cons (ps_if (pt_val (pe_callB call_isi (by rfl) T.isi (by decide +kernel) (pa_cons (pv 0) (pa_cons (pe_bltn (v := .ty "tuple") (by rfl) T.tup (by decide +kernel) rfl) pa_nil)))) (pss_one ps_never) pss_nil)
      (pss_one (ps_ret (pv 0)))), ?_⟩
    refine ⟨_, rfl, _, _, _, _, false, rfl, .ty "list", .base (.int n), kit_ty (by decide +kernel), false, rfl, if_f rfl ?_⟩
    refine ⟨_, rfl, _, _, _, _, false, rfl, .ty "tuple", .base (.int n), kit_ty (by decide +kernel), false, rfl, if_f rfl ?_⟩
    exact ⟨_, rfl, k _ (Evl.Ex.refl _)⟩
theorem ok_copied1 {f : Addr} {fd : FuncData} (F : Fun K "_law_pv_copied" "_law_pv_copied" s_l_copied f fd) (T : T4 mg) (c0 : Cal P w K mg base 1 "_law_pv_copied" p_l_copied spC0) : FnOk P w K mg base CX0 2 f fd p_l_copied spC1 := by
  refine F.ok sc_l_copied (fun vs H Q E h => ?_) (fun cdv A outer s H vs Q E hr h => ?_)
  · obtain ⟨i, rfl, _⟩ := h
    rfl
  · obtain ⟨⟨b, a, ns⟩, rfl, hI, hz, k⟩ := h
    have hz : ns.length ≤ 100 := hz
    have nd := sc_l_copied.nd
    cases b with
    | true =>
      have hI : H a = some (.lst (iV ns)) := hI
      refine ⟨_, pss_cons (ps_if (pt_val (pe_callB call_isi (by rfl) T.isi (by decide +kernel) (pa_cons (pv 0) (pa_cons (pe_bltn (v := .ty "list") (by rfl) T.lst (by decide +kernel) rfl) pa_nil))))
          (pss_one (ps_ret (pe_lc (own := [("part", 1)]) (g := gName 1) (tt := tYes) (te := tCall spC0 [] E0 (tCons (tVar 1) tNil)) rfl nd (pi_list (pv 0)) (blkOk_by (N := n_l_copied) (sc := defScope s_l_copied) (by decide +kernel)) (fun _ _ _ _ _ => pg_name (i := 1) nd rfl (Or.inl rfl)) (fun _ _ _ _ _ => pts_nil)
            (fun _ _ _ _ _ => pe_c c0 hr (pa_cons (pv 1) pa_nil))))) pss_nil)
        (pss_cons ps_never (pss_one ps_never)), ?_⟩
      refine ⟨_, rfl, _, _, _, _, true, rfl, .ty "list", .base (.lst hI), kit_ty (by decide +kernel), true, rfl, if_t rfl ?_⟩
      refine ⟨_, rfl, a, rfl, ⟨_, SqL.of hI⟩, fun D hD => lc_list (xs := iV ns) (fun i H' => Evl.Ex H H' ∧ H' D = some (.lst (iV (ns.take i)))) ⟨Evl.Ex.new hD, upd_same⟩ (fun i H' _ q => SqL.of (q.1 _ _ hI)) ?_ ?_⟩
      · rintro i x H' hi ⟨e1, h1⟩
        obtain ⟨n, hn, rfl⟩ := iV_get hi
        have hl : i < ns.length := (List.getElem?_eq_some_iff.mp hn).1
        refine ⟨rfl, ?_⟩
        show tCall spC0 [] E0 (tCons (tVar 1) tNil) _ _ _
        refine ⟨_, rfl, n, rfl, fun H2 e2 => ⟨_, e2 _ _ h1, ?_, ?_, ?_⟩⟩
        · rw [iV_len, List.length_take]; exact Nat.lt_of_lt_of_le (show min i ns.length < 200 by omega) (by decide)
        · exact Evl.Ex.mut (e1.trans e2) hD
        · rw [upd_same, take_snoc hn]
          unfold iV
          rw [List.map_append]
          rfl
      · rintro H' ⟨e1, h1⟩
        rw [iV_len, List.take_length] at h1
        exact k D H' hD e1 h1
    | false =>
      have hI : H a = some (.tup (iV ns)) := hI
      refine ⟨_, pss_cons (ps_if (pt_val (pe_callB call_isi (by rfl) T.isi (by decide +kernel) (pa_cons (pv 0) (pa_cons (pe_bltn (v := .ty "list") (by rfl) T.lst (by decide +kernel) rfl) pa_nil)))) (pss_one ps_never) pss_nil)
        (pss_cons (ps_if (pt_val (pe_callB call_isi (by rfl) T.isi (by decide +kernel) (pa_cons (pv 0) (pa_cons (pe_bltn (v := .ty "tuple") (by rfl) T.tup (by decide +kernel) rfl) pa_nil))))
          (pss_one (ps_ret (pe_callTy call_tuple_of (by rfl) T.tup (by decide +kernel) (pa_cons (pe_lc (own := [("part", 1)]) (g := gName 1) (tt := tYes) (te := tCall spC0 [] E0 (tCons (tVar 1) tNil)) rfl nd (pi_tup (pv 0)) (blkOk_by (N := n_l_copied) (sc := defScope s_l_copied) (by decide +kernel)) (fun _ _ _ _ _ => pg_name (i := 1) nd rfl (Or.inl rfl)) (fun _ _ _ _ _ => pts_nil)
            (fun _ _ _ _ _ => pe_c c0 hr (pa_cons (pv 1) pa_nil))) pa_nil)))) pss_nil)
        (pss_one ps_never)), ?_⟩
      refine ⟨_, rfl, _, _, _, _, false, rfl, .ty "list", .base (.tup hI), kit_ty (by decide +kernel), false, rfl, if_f rfl ?_⟩
      refine ⟨_, rfl, _, _, _, _, true, rfl, .ty "tuple", .base (.tup hI), kit_ty (by decide +kernel), true, rfl, if_t rfl ?_⟩
      refine ⟨_, rfl, a, rfl, ⟨_, SqT.of hI⟩, fun D hD => lc_tup (xs := iV ns) (fun i H' => Evl.Ex H H' ∧ H' D = some (.lst (iV (ns.take i)))) ⟨Evl.Ex.new hD, upd_same⟩ (fun i H' _ q => SqT.of (q.1 _ _ hI)) ?_ ?_⟩
      · rintro i x H' hi ⟨e1, h1⟩
        obtain ⟨n, hn, rfl⟩ := iV_get hi
        have hl : i < ns.length := (List.getElem?_eq_some_iff.mp hn).1
        refine ⟨rfl, ?_⟩
        show tCall spC0 [] E0 (tCons (tVar 1) tNil) _ _ _
        refine ⟨_, rfl, n, rfl, fun H2 e2 => ⟨_, e2 _ _ h1, ?_, ?_, ?_⟩⟩
        · rw [iV_len, List.length_take]; exact Nat.lt_of_lt_of_le (show min i ns.length < 200 by omega) (by decide)
        · exact Evl.Ex.mut (e1.trans e2) hD
        · rw [upd_same, take_snoc hn]
          unfold iV
          rw [List.map_append]
          rfl
      · rintro H' ⟨e1, h1⟩
        rw [iV_len, List.take_length] at h1
        refine ⟨D, _, rfl, .inl ⟨SqL.of h1, fun l hl => ?_⟩⟩
        exact k l _ (Evl.fresh_back e1 hl) (e1.trans (Evl.Ex.new hl)) upd_same
end
end V2


namespace V2
open PySem L2
open PySem.Spec PyProof.Rows
def sh (i : Itm) : Bool × List Int := (i.1, i.2.2)
theorem lsts_fst (its : List Itm) : (lsts its).map (·.1) = (its.filter (·.1)).map (·.2.1) := by
  unfold lsts
  induction its with
  | nil => rfl
  | cons i r ih =>
    obtain ⟨b, a, ns⟩ := i
    cases b with
    | true => rw [List.filterMap_cons_some (by rfl), List.filter_cons_of_pos (by rfl), List.map_cons, List.map_cons, ih]
    | false => rw [List.filterMap_cons_none (by rfl), List.filter_cons_of_neg (by simp), ih]
theorem cl_fst (a : Addr) (its : List Itm) : (CL a its).map (·.1) = a :: (its.filter (·.1)).map (·.2.1) := by
  unfold CL
  rw [List.map_cons, List.map_map, ← lsts_fst]
  rfl
theorem cl_mem {a : Addr} {its : List Itm} {x : Addr × List V} (h : x ∈ CL a its) : x.1 = a ∨ ∃ i ∈ its, i.1 = true ∧ i.2.1 = x.1 := by
  have h2 : x.1 ∈ (CL a its).map (·.1) := List.mem_map_of_mem h
  rw [cl_fst] at h2
  rcases List.mem_cons.mp h2 with e | h2
  · exact .inl e
  · obtain ⟨i, hi, e⟩ := List.mem_map.mp h2
    have := List.mem_filter.mp hi
    exact .inr ⟨i, this.1, this.2, e⟩
theorem dst_of {a : Addr} {its : List Itm} (h : (its.map (·.2.1)).Nodup) (ha : ∀ i ∈ its, i.2.1 ≠ a) : Dst a its := by
  unfold Dst
  rw [cl_fst, List.nodup_cons]
  refine ⟨fun hm => ?_, ?_⟩
  · obtain ⟨i, hi, e⟩ := List.mem_map.mp hm
    exact ha i (List.mem_filter.mp hi).1 e
  · exact List.Nodup.sublist (List.Sublist.map _ List.filter_sublist) h
theorem dp_snoc {K : PySem.W.Frag} {H : Hp} : ∀ (vs : List V) (ds : List PyData), DpAll K H vs ds → DpAll K H (vs ++ [.int 0]) (ds ++ [.int 0])
  | [], _, h => by
    cases h
    exact .cons (.int 0) .nil
  | _ :: vs, _, h => by
    cases h with
    | cons h1 h2 => exact .cons h1 (dp_snoc vs _ h2)
/-- what may be shown -/
def Shw (d : PyData) : Prop := d.showable = true ∧ d.hasDict = false ∧ d.depth ≤ 60 ∧ d.shown.length ≤ sizeLine
def spM : Sp := fun vs H Q _ => ∃ (a : Addr) (its : List Itm), vs = [.ref a] ∧ TreeAt H a its ∧ Dst a its ∧ its.length ≤ 100 ∧ (∀ i ∈ its, i.2.2.length ≤ 100) ∧ Shw (markD its) ∧
  ∀ H', Off ((CL a its).map (·.1)) H H' → Q (.str (markD its).shown) H'
def spR : Sp := fun vs H Q _ => ∃ (a d : Addr) (its jts : List Itm), vs = [.ref a, .ref d] ∧ TreeAt H a its ∧ Dst a its ∧ TreeAt H d jts ∧ its.map sh = jts.map sh ∧ d ∉ (CL a its).map (·.1) ∧ (∀ j ∈ jts, j.2.1 ∉ (CL a its).map (·.1)) ∧
  its.length ≤ 100 ∧ (∀ i ∈ its, i.2.2.length ≤ 100) ∧ Shw (treeD its) ∧ Shw (markD its) ∧ ∀ H', Off ((CL a its).map (·.1)) H H' → Q (.bl true) H'
section
variable {base : Heap} {mg : Str → Option Value} {K : PySem.W.Frag} {w : World} {P : Program}
theorem ok_copied2 {f : Addr} {fd : FuncData} (F : Fun K "_law_pv_copied" "_law_pv_copied" s_l_copied f fd) (T : T4 mg) (c1 : Cal P w K mg base 2 "_law_pv_copied" p_l_copied spC1) : FnOk P w K mg base CX0 3 f fd p_l_copied spC2 := by
  refine F.ok sc_l_copied (fun vs H Q E h => ?_) (fun cdv A outer s H vs Q E hr h => ?_)
  · obtain ⟨a, its, rfl, _⟩ := h
    rfl
  · obtain ⟨a, its, rfl, ⟨hI, hIt⟩, hl100, hz, k⟩ := h
    have nd := sc_l_copied.nd
    refine ⟨_, pss_cons (ps_if (pt_val (pe_callB call_isi (by rfl) T.isi (by decide +kernel) (pa_cons (pv 0) (pa_cons (pe_bltn (v := .ty "list") (by rfl) T.lst (by decide +kernel) rfl) pa_nil))))
        (pss_one (ps_ret (pe_lc (own := [("part", 1)]) (g := gName 1) (tt := tYes) (te := tCall spC1 [] E0 (tCons (tVar 1) tNil)) rfl nd (pi_list (pv 0)) (blkOk_by (N := n_l_copied) (sc := defScope s_l_copied) (by decide +kernel)) (fun _ _ _ _ _ => pg_name (i := 1) nd rfl (Or.inl rfl)) (fun _ _ _ _ _ => pts_nil)
          (fun _ _ _ _ _ => pe_c c1 hr (pa_cons (pv 1) pa_nil))))) pss_nil)
      (pss_cons ps_never (pss_one ps_never)), ?_⟩
    refine ⟨_, rfl, _, _, _, _, true, rfl, .ty "list", .base (.lst hI), kit_ty (by decide +kernel), true, rfl, if_t rfl ?_⟩
    refine ⟨_, rfl, a, rfl, ⟨_, SqL.of hI⟩, fun D hD => lc_list (xs := refs its) (fun i H' => Evl.Ex H H' ∧ ∃ jts : List Itm, H' D = some (.lst (refs jts)) ∧ jts.map sh = (its.take i).map sh ∧ (∀ j ∈ jts, ItAt H' j ∧ H j.2.1 = none ∧ j.2.1 ≠ D) ∧ (jts.map (·.2.1)).Nodup)
      ⟨Evl.Ex.new hD, [], upd_same, by simp, (by intro j hj; cases hj), List.nodup_nil⟩ (fun i H' _ q => SqL.of (q.1 _ _ hI)) ?_ ?_⟩
    · rintro i x H' hi ⟨e1, jts, h1, h2, h3, h4⟩
      obtain ⟨j, hj, rfl⟩ := refs_get hi
      have hm := List.mem_of_getElem? hj
      have hl : i < its.length := (List.getElem?_eq_some_iff.mp hj).1
      refine ⟨rfl, ?_⟩
      show tCall spC1 [] E0 (tCons (tVar 1) tNil) _ _ _
      refine ⟨_, rfl, j, rfl, (hIt j hm).ex e1, hz j hm, fun p H2 hp e2 hp2 => ⟨_, e2 _ _ h1, ?_, Evl.Ex.mut (e1.trans e2) hD, jts ++ [(j.1, p, j.2.2)], ?_, ?_, ?_, ?_⟩⟩
      · have ej : jts.length = min i its.length := by
          have := congrArg List.length h2
          rw [List.length_map, List.length_map, List.length_take] at this
          exact this
        rw [refs_len, ej]
        exact Nat.lt_of_lt_of_le (show min i its.length < 200 by omega) (by decide)
      · rw [upd_same]; unfold refs; rw [List.map_append]; rfl
      · rw [List.map_append, h2, List.take_add_one, hj]; simp [sh]
      · intro y hy
        rcases (List.mem_append.mp hy) with hy | hy
        · obtain ⟨q1, q2, q3⟩ := h3 y hy
          refine ⟨?_, q2, q3⟩
          unfold ItAt
          rw [upd_ne q3]
          exact e2 _ _ q1
        · obtain rfl := List.mem_singleton.mp hy
          have np : p ≠ D := (ne_of_none h1 hp).symm
          refine ⟨?_, Evl.fresh_back e1 hp, np⟩
          unfold ItAt
          rw [upd_ne np]
          exact hp2
      · (rw [List.map_append, List.nodup_append])
        refine ⟨h4, by simp, ?_⟩
        intro x hx y hy e
        obtain ⟨z, hz1, rfl⟩ := List.mem_map.mp hx
        obtain rfl : y = p := by simpa using hy
        exact ne_of_none (h3 z hz1).1 hp e
    · rintro H' ⟨e1, jts, h1, h2, h3, h4⟩
      rw [refs_len, List.take_length] at h2
      refine k D jts H' hD e1 ⟨h1, fun i hi => (h3 i hi).1⟩ (dst_of h4 fun i hi => (h3 i hi).2.2) (fun x hx => ?_) h2
      rcases cl_mem hx with e | ⟨i, hi, _, e⟩
      · rw [e]; exact hD
      · rw [← e]; exact (h3 i hi).2.1
theorem ok_marked {f : Addr} {fd : FuncData} (F : Fun K "_law_pv_marked" "_law_pv_marked" s_l_marked f fd) (T : T4 mg) (cL : Cal P w K mg base 3 "_law_pv_lists" p_l_lists spL2) : FnG P w K mg base 4 f fd p_l_marked spM := by
  refine Fun.okG F sc_l_marked (fun vs H Q E h => ?_) (fun cdv A outer s H vs Q E hg hr h => ?_)
  · obtain ⟨a, its, rfl, _⟩ := h
    rfl
  · obtain ⟨a, its, rfl, hT, hD, hl100, hz, ⟨w1, w2, w3, w4⟩, k⟩ := h
    have nd := sc_l_marked.nd
    refine ⟨_, pss_cons (ps_set (i := 1) nd rfl (Or.inl rfl) (pe_c cL hr (pa_cons (pv 0) pa_nil)))
      (pss_cons (ps_for PassesOwn.never rfl (pi_range1 (by rfl) T.rng (pa_cons (pe_callB call_len_seq (by rfl) T.len PySem.boot_len (pa_cons (pv 1) pa_nil)) pa_nil)) (pg_name (i := 2) nd rfl (Or.inl rfl))
        (pss_one (ps_expr (pe_bm PySem.F.plainAttrs_list PySem.F.slot_list_append PySem.F.type_list_append mt_append (pe_ix ix_list (pv 1) (pv 2) (fun _ _ => rfl)) (pa_cons (pv 2) pa_nil)))))
      (pss_one (ps_ret (pe_callB (call_show hg hr.units) (by rfl) T.rep (by decide +kernel) (pa_cons (pv 0) pa_nil))))), ?_⟩
    refine ⟨_, rfl, a, its, rfl, hT, hl100, hz, fun q H1 hq e1 h1 => ?_⟩
    have hT1 := hT.ex e1
    have cln : (CL a its).length ≤ 101 := by
      unfold CL
      rw [List.length_cons, List.length_map]
      have := lrefs_len its
      unfold lrefs at this
      rw [List.length_map] at this
      omega
    have qn : ∀ x ∈ CL a its, x.1 ≠ q := by
      intro x hx e
      rcases cl_mem hx with e2 | ⟨i, hi, _, e2⟩
      · rw [← e, e2, hT.1] at hq; cases hq
      · rw [← e, ← e2, hT.2 i hi] at hq; cases hq
    have c0 : ∀ x ∈ CL a its, H1 x.1 = some (.lst x.2) := by
      intro x hx
      rcases (List.mem_cons.mp hx) with rfl | hx
      · exact hT1.1
      · obtain ⟨p, hp, rfl⟩ := List.mem_map.mp hx
        exact hT1.2 _ (lsts_mem hp)
    refine ⟨_, rfl, q, _, rfl, .inl (SqL.of h1), _, rfl, by omega, ?_, ?_⟩
    · rw [List.length_map]; omega
    rw [Int.toNat_natCast, List.length_map]
    refine for_range (n := (CL a its).length) (fun k σ H' => (∃ v, σ = [some (.ref a), some (.ref q), v]) ∧ Off ((CL a its).map (·.1)) H1 H' ∧ H' q = some (.lst ((CL a its).map fun p => .ref p.1)) ∧
      ∀ j x, (CL a its)[j]? = some x → H' x.1 = some (.lst (x.2 ++ if j < k then [.int (j : Int)] else []))) ⟨⟨_, rfl⟩, fun _ _ _ h => h, h1, fun j x hj => ?_⟩ ?_ ?_
    · rw [if_neg (Nat.not_lt_zero _), List.append_nil]
      exact c0 x (List.mem_of_getElem? hj)
    · rintro i σ H' hi ⟨⟨v, rfl⟩, g1, g2, g3⟩
      have hx := List.getElem?_eq_getElem hi
      have hx3 := g3 i _ hx
      rw [if_neg (Nat.lt_irrefl _), List.append_nil] at hx3
      have nq := qn _ (List.getElem_mem hi)
      have e0 : (0 : Int) + (i : Int) = (i : Int) := (Int.zero_add _)
      refine ⟨_, rfl, _, rfl, q, _, _, .ref (CL a its)[i].1, rfl, rfl, SqL.of g2, ?_, .inl ⟨rfl, _, SqL.of hx3⟩, _, rfl, _, _, _, rfl, rfl, hx3, ?_, ?_⟩
      · show atI _ ((0 : Int) + (i : Int)) = _
        rw [e0]
        refine atI_nat ?_
        rw [List.getElem?_map, hx]; rfl
      · have : (CL a its)[i].2.length ≤ 100 := by
          have hm := List.getElem_mem hi
          rcases (List.mem_cons.mp hm) with e | hm
          · rw [e]; show (refs its).length ≤ 100; rw [refs_len]; exact hl100
          · obtain ⟨p, hp, e⟩ := List.mem_map.mp hm
            rw [← e]
            show (iV p.2).length ≤ 100
            rw [iV_len]
            exact hz _ (lsts_mem hp)
        exact Nat.lt_of_le_of_lt this (by decide)
      · refine ⟨⟨_, rfl⟩, fun b o hb h => ?_, ?_, fun j x hj => ?_⟩
        · rw [upd_ne (fun e => hb (by rw [e]; exact List.mem_map_of_mem (List.getElem_mem hi)))]
          exact g1 b o hb h
        · rw [upd_ne nq.symm]; exact g2
        · by_cases e : j = i
          · subst e
            rw [hx] at hj
            cases hj
            rw [upd_same, if_pos (Nat.lt_succ_self _)]
            show some (HO.lst ((CL a its)[j].2 ++ [.int ((0 : Int) + (j : Int))])) = _
            rw [e0]
          · have nx : x.1 ≠ (CL a its)[i].1 := by
              intro e2
              have hj2 : j < (CL a its).length := (List.getElem?_eq_some_iff.mp hj).1
              have ej : (CL a its)[j] = x := (List.getElem?_eq_some_iff.mp hj).2
              have hD2 : ((CL a its).map (·.1)).Nodup := hD
              have := (List.pairwise_iff_getElem.mp hD2)
              rcases Nat.lt_or_gt_of_ne e with c | c
              · exact this j i (by rw [List.length_map]; exact hj2) (by rw [List.length_map]; exact hi) c (by rw [List.getElem_map, List.getElem_map, ej, e2])
              · exact this i j (by rw [List.length_map]; exact hi) (by rw [List.length_map]; exact hj2) c (by rw [List.getElem_map, List.getElem_map, ej, e2])
            rw [upd_ne nx, g3 j x hj]
            by_cases c : j < i
            · rw [if_pos c, if_pos (by omega)]
            · rw [if_neg c, if_neg (by omega)]
    · rintro σ H' ⟨⟨v, rfl⟩, g1, g2, g3⟩
      refine ⟨_, rfl, a, markD its, rfl, ?_, w1, w2, w3, w4, k H' fun b o hb h => g1 b o hb (e1 b o h)⟩
      have ha := g3 0 (a, refs its) rfl
      rw [if_pos (by unfold CL; exact Nat.succ_pos _)] at ha
      refine .lst (SqL.of ha) ?_
      refine dp_snoc _ _ (dp_go its 1 (fun j b ns hj => ?_) fun i hi hf => ?_)
      · have hj2 : (CL a its)[j + 1]? = some (b, iV ns) := by
          unfold CL
          rw [List.getElem?_cons_succ, List.getElem?_map, hj]; rfl
        have := g3 (j + 1) _ hj2
        rw [if_pos (List.getElem?_eq_some_iff.mp hj2).1] at this
        rw [this]
        unfold iV
        rw [List.map_append, show ((1 + j : Nat) : Int) = ((j + 1 : Nat) : Int) by omega]
        rfl
      · have h2 := hT1.2 i hi
        unfold ItAt at h2
        rw [if_neg (by rw [hf]; decide)] at h2
        refine g1 _ _ (fun hm => ?_) h2
        obtain ⟨x, hx, e⟩ := List.mem_map.mp hm
        have := c0 x hx
        rw [e, h2] at this
        cases this
theorem ok_right {f : Addr} {fd : FuncData} (F : Fun K "_law_pv_right" "_law_pv_right" s_l_right f fd) (T : T4 mg) (cC : Cal P w K mg base 3 "_law_pv_copied" p_l_copied spC2) (cM : CalG P w K mg base 4 "_law_pv_marked" p_l_marked spM) : FnG P w K mg base 5 f fd p_l_right spR := by
  refine Fun.okG F sc_l_right (fun vs H Q E h => ?_) (fun cdv A outer s H vs Q E hg hr h => ?_)
  · obtain ⟨a, d, its, jts, rfl, _⟩ := h
    rfl
  · obtain ⟨a, d, its, jts, rfl, hT, hD, hU, hsh, hd, hds, hl100, hz, wT, wM, k⟩ := h
    have hm3 : Room 3 _ := hr.mono (by decide)
    refine ⟨_, pss_cons (ps_if (pt_cmpR op_ne (pe_callB (call_show hg hr.units) (by rfl) T.rep (by decide +kernel) (pa_cons (pv 0) pa_nil)) (pe_callB (call_show hg hr.units) (by rfl) T.rep (by decide +kernel) (pa_cons (pv 1) pa_nil)) (nomark _)) (pss_one (ps_ret pe_bl)) pss_nil)
      (pss_one (ps_ret (pe_cmpR op_eq (pe_cg cM hg hr (pa_cons (pv 0) pa_nil)) (pe_cg cM hg hr (pa_cons (pe_c cC hm3 (pa_cons (pv 1) pa_nil)) pa_nil)) (nomark _)))), ?_⟩
    have eT := tree_shape hsh
    have eM := mark_shape hsh
    obtain ⟨t1, t2, t3, t4⟩ := wT
    refine ⟨_, rfl, a, treeD its, rfl, dp_tree hT, t1, t2, t3, t4, _, rfl, d, treeD jts, rfl, dp_tree hU, by rw [← eT]; exact t1, by rw [← eT]; exact t2, by rw [← eT]; exact t3, by rw [← eT]; exact t4, rfl, _, rfl, ?_⟩
    rw [← eT]
    refine if_f (by simp) ?_
    refine ⟨_, rfl, a, its, rfl, hT, hD, hl100, hz, wM, fun H1 o1 => ?_⟩
    have hU1 : TreeAt H1 d jts := ⟨o1 _ _ hd hU.1, fun j hj => o1 _ _ (hds j hj) (hU.2 j hj)⟩
    have lj : jts.length = its.length := by
      have := congrArg List.length hsh
      rw [List.length_map, List.length_map] at this
      exact this.symm
    have zj : ∀ j ∈ jts, j.2.2.length ≤ 100 := by
      intro j hj
      have : sh j ∈ its.map sh := by rw [hsh]; exact List.mem_map_of_mem hj
      obtain ⟨i, hi, e⟩ := List.mem_map.mp this
      have e2 : i.2.2 = j.2.2 := congrArg (·.2) e
      rw [← e2]
      exact hz i hi
    refine ⟨_, rfl, d, jts, rfl, hU1, by omega, zj, fun p kts H2 hp e2 hT2 hD2 hn2 hs2 => ?_⟩
    have es : kts.map sh = its.map sh := Eq.trans hs2 hsh.symm
    have eK := mark_shape es
    have lk : kts.length = its.length := by
      have := congrArg List.length es
      rw [List.length_map, List.length_map] at this
      exact this
    have zk : ∀ j ∈ kts, j.2.2.length ≤ 100 := by
      intro j hj
      have : sh j ∈ its.map sh := by rw [← es]; exact List.mem_map_of_mem hj
      obtain ⟨i, hi, e⟩ := List.mem_map.mp this
      have e2 : i.2.2 = j.2.2 := congrArg (·.2) e
      rw [← e2]
      exact hz i hi
    refine ⟨p, kts, rfl, hT2, hD2, by omega, zk, by rw [eK]; exact wM, fun H3 o3 => ⟨rfl, ?_⟩⟩
    rw [eK]
    show Q (.bl (decide (V.str (markD its).shown = V.str (markD its).shown))) H3
    rw [decide_eq_true rfl]
    refine k H3 fun b o hb h => o3 b o (fun hm => ?_) (e2 b o (o1 b o hb h))
    obtain ⟨x, hx, e⟩ := List.mem_map.mp hm
    have h5 := o1 b o hb h
    rw [← e, hn2 x hx] at h5
    cases h5
end
end V2


namespace V2
open PySem L2
open PySem.Spec PyProof.Rows
theorem ex_but {p : Addr} {H H1 H2 : Hp} (e : Evl.Ex H H1) (b : But p H1 H2) : But p H H2 := (But.of_ex e).trans b
theorem but_back {p q : Addr} {H H' : Hp} (b : But p H H') (h : H' q = none) (hp : ∃ o, H' p = some o) : H q = none := by
  cases e : H q with
  | none => rfl
  | some o =>
    have n : q ≠ p := by
      intro z
      obtain ⟨o', h2⟩ := hp
      rw [← z, h] at h2
      cases h2
    rw [b q o n e] at h
    cases h
theorem sk_some {H : Hp} {p : Addr} {m : Nat} (h : Sk H p m) : ∃ o, H p = some o := by
  obtain ⟨a, b, c, h1, _⟩ := h
  exact ⟨_, h1⟩
theorem sk_ne {H : Hp} {p q : Addr} {m : Nat} (h : Sk H p m) (hq : H q = none) : q ≠ p := by
  intro z
  obtain ⟨o, h2⟩ := sk_some h
  rw [← z, hq] at h2
  cases h2
/-- small polynomials as the law draws them -/
def Sp6 (ns : List Int) : Prop := Pol ns ∧ ns.length ≤ 8 ∧ ∀ x ∈ ns, -1000000 ≤ x ∧ x ≤ 1000000
theorem Sp6.pn {ns : List Int} (h : Sp6 ns) : Pn ns := by
  refine ⟨h.1, by have := h.2.1; omega, fun x hx => ?_⟩
  have e : (2 : Int) ^ 64 = 18446744073709551616 := by decide
  have := h.2.2 x hx
  rw [e]
  omega
def spPoly : Sp := fun vs H Q _ => ∃ (p : Addr) (m : Nat), vs = [.ref p, .int 8] ∧ Sk H p m ∧ m ≤ 90000 ∧
  ∀ (q : Addr) (ns : List Int) (H' : Hp), But p H H' → Sk H' p (m + 20) → H q = none → Li H' q ns → Sp6 ns → Q (.ref q) H'
def spAny : Sp := fun vs H Q _ => ∃ (p : Addr) (m : Nat), vs = [.ref p] ∧ Sk H p m ∧ m ≤ 90000 ∧
  ∀ (q : Addr) (u d : Int) (H' : Hp), But p H H' → Sk H' p (m + 4) → H q = none → Fr H' q u d → Qn u d → Q (.ref q) H'
theorem at4 {a b c d r : Int} (h0 : 0 ≤ r) (h1 : r < 4) : ∃ v, atI [V.int a, .int b, .int c, .int d] r = some (.int v) ∧ (v = a ∨ v = b ∨ v = c ∨ v = d) := by
  have : r = 0 ∨ r = 1 ∨ r = 2 ∨ r = 3 := by omega
  rcases this with rfl | rfl | rfl | rfl
  · exact ⟨a, rfl, .inl rfl⟩
  · exact ⟨b, rfl, .inr (.inl rfl)⟩
  · exact ⟨c, rfl, .inr (.inr (.inl rfl))⟩
  · exact ⟨d, rfl, .inr (.inr (.inr rfl))⟩
theorem at3_ {a b c r : Int} (h0 : 0 ≤ r) (h1 : r < 3) : ∃ v, atI [V.int a, .int b, .int c] r = some (.int v) ∧ (v = a ∨ v = b ∨ v = c) := by
  have : r = 0 ∨ r = 1 ∨ r = 2 := by omega
  rcases this with rfl | rfl | rfl
  · exact ⟨a, rfl, .inl rfl⟩
  · exact ⟨b, rfl, .inr (.inl rfl)⟩
  · exact ⟨c, rfl, .inr (.inr rfl)⟩
theorem shaped_ints (ns : List Int) : SeqAt.shaped (.list (ns.map .int)) = true := by
  have h1 : ∀ l : List Int, PyData.canLayAll0 (l.map .int) = true := by
    intro l
    induction l with
    | nil => rfl
    | cons n r ih => simp [PyData.canLayAll0, PyData.canLay0, ih]
  have h2 : ∀ l : List Int, PyData.depthAll (l.map .int) ≤ 1 := by
    intro l
    induction l with
    | nil => simp [PyData.depthAll]
    | cons n r ih => simp [PyData.depthAll, PyData.depth]; omega
  unfold SeqAt.shaped
  have h3 := h2 ns
  simp [PyData.canLay0, PyData.depth, h1 ns]
  omega
section
variable {base : Heap} {mg : Str → Option Value} {K : PySem.W.Frag} {w : World} {P : Program}
theorem ok_poly {f : Addr} {fd : FuncData} (F : Fun K "_law_pv_poly" "_law_pv_poly" s_l_poly f fd) (mR : mg "range" = none) (cC : Cal P w K mg base 1 "_law_pv_coin" p_l_coin spCoin) : FnOk P w K mg base CX0 2 f fd p_l_poly spPoly := by
  refine F.ok sc_l_poly (fun vs H Q E h => ?_) (fun cdv A outer s H vs Q E hr h => ?_)
  · obtain ⟨p, m, rfl, _⟩ := h
    rfl
  · obtain ⟨p, m, rfl, hS, hm, k⟩ := h
    have nd := sc_l_poly.nd
    have w6 : CPowX 10 6 := pow_ok (k := 4) (n := 6) (by decide) (by decide)
    refine ⟨_, pss_cons (ps_set (i := 2) nd rfl (Or.inr rfl) (pe_ix ix_list (pe_lst (pa_cons pe_int (pa_cons pe_int (pa_cons pe_int (pa_cons (pe_op op_powX pe_int pe_int) pa_nil))))) (pe_c cC hr (pa_cons (pv 0) (pa_cons pe_int pa_nil))) (fun _ _ => rfl)))
      (pss_cons (ps_setLc (i := 3) (own := [("turn", 4)]) (g := gName 4) (tt := tYes) (te := tOp (rI0 fun i j => .int (i - j)) (tCall spCoin [] E0 (tCons (tVar 0) (tCons (tOp (rI0 fun i j => .int (i + j)) (tOp (rI CMul fun i j => .int (i * j)) (tC (.int 2)) (tVar 2)) (tC (.int 1))) tNil))) (tVar 2)) rfl nd rfl rfl (sw_true rfl rfl rfl (by decide +kernel))
          (pi_range1 (by rfl) mR (pa_cons (pe_c cC hr (pa_cons (pv 0) (pa_cons (pe_op op_add (pv 1) pe_int) pa_nil))) pa_nil)) (blkOk_by (N := n_l_poly) (sc := defScope s_l_poly) (by decide +kernel)) (fun _ _ _ _ _ => pg_name (i := 4) nd rfl (Or.inl rfl)) (fun _ _ _ _ _ => pts_nil)
          (fun _ _ _ _ _ => pe_op op_sub (pe_c cC hr (pa_cons (pv 0) (pa_cons (pe_op op_add (pe_op op_mul pe_int (pv 2)) pe_int) pa_nil))) (pv 2)))
      (pss_cons (ps_if (PW.pt (pw_and (pt_cmpR (op_neD hr.units) (pv 3) (pe_lst pa_nil) (nomark _)) (pw_and1 (pt_cmpR op_eq (pe_ix ix_list (pv 3) (pe_un un_neg pe_int) (fun _ _ => rfl)) pe_int (nomark _)))))
        (pss_one (ps_asg (pe_op op_sub pe_int (pe_op op_mul pe_int (pe_c cC hr (pa_cons (pv 0) (pa_cons pe_int pa_nil))))) (pg_sub (pv 3) (pe_un un_neg pe_int) set_list))) pss_nil)
      (pss_one (ps_ret (pv 3))))), ?_⟩
    -- top
    refine ⟨10, 6, rfl, rfl, w6, by show 4 ≤ sizeLine; decide, fun l hl => ?_⟩
    have e1 : Evl.Ex H (upd H l (.lst [.int 1, .int 3, .int 12, .int (10 ^ (6 : Int).toNat)])) := Evl.Ex.new hl
    refine ⟨_, rfl, p, 4, m, rfl, hS.ex e1, by omega, by decide, by decide, fun r H1 r0 r1 b1 s1 z1 => ?_⟩
    have nlp := sk_ne hS hl
    obtain ⟨top, ht, ht2⟩ := at4 (a := 1) (b := 3) (c := 12) (d := 10 ^ (6 : Int).toNat) r0 r1
    have e6 : (10 : Int) ^ (6 : Int).toNat = 1000000 := by decide
    have t1 : 1 ≤ top ∧ top ≤ 1000000 := by rcases ht2 with e | e | e | e <;> rw [e] <;> first | omega | (rw [e6]; omega)
    refine ⟨l, _, _, _, rfl, rfl, SqL.of (b1 l _ nlp upd_same), ht, ?_⟩
    have b01 := ex_but e1 b1
    -- the list
    refine ⟨_, rfl, _, rfl, 8, 1, rfl, rfl, p, 9, m + 1, rfl, s1, by omega, by decide, by decide, fun c H2 c0 c1 b2 s2 z2 => ?_⟩
    have b02 := b01.trans b2
    refine ⟨c, rfl, by omega, by omega, fun D hD => lc_range (n := c.toNat) (fun i H' => But p H H' ∧ Sk H' p (m + 2 + i) ∧ ∃ ns : List Int, H' D = some (.lst (iV ns)) ∧ ns.length = i ∧ ∀ x ∈ ns, -top ≤ x ∧ x ≤ top)
      ⟨b02.trans (But.of_ex (Evl.Ex.new hD)), s2.ex (Evl.Ex.new hD), [], upd_same, rfl, (by intro x hx; cases hx)⟩ ?_ ?_⟩
    · rintro i H' hi ⟨b3, s3, ns, h3, h4, h5⟩
      have nDp := sk_ne s2 hD
      refine ⟨rfl, ?_⟩
      show tOp (rI0 fun i j => .int (i - j)) (tCall spCoin [] E0 (tCons (tVar 0) (tCons (tOp (rI0 fun i j => .int (i + j)) (tOp (rI CMul fun i j => .int (i * j)) (tC (.int 2)) (tVar 2)) (tC (.int 1))) tNil))) (tVar 2) _ _ _
      refine ⟨_, rfl, _, rfl, 2, top, rfl, rfl, .inl ⟨by decide, by decide⟩, _, 1, rfl, rfl, p, 2 * top + 1, m + 2 + i, rfl, s3, by omega, by omega, ?_, fun y H3 y0 y1 b4 s4 z4 => ?_⟩
      · have : (2 * top + 1).natAbs < 2 ^ 30 := by
          have e : (2 : Nat) ^ 30 = 1073741824 := by decide
          rw [e]; omega
        exact big this (by decide)
      refine ⟨_, rfl, _, _, rfl, rfl, _, b4 D _ nDp h3, ?_, ?_, ?_, ns ++ [y - top], ?_, ?_, ?_⟩
      · rw [iV_len, h4]; exact Nat.lt_of_lt_of_le (show i < 100 by omega) (by decide)
      · have hDn : H D = none := by
          have h1D := but_back b2 hD (sk_some s2)
          exact Evl.fresh_back e1 (but_back b1 h1D (sk_some s1))
        intro b o hb h
        rw [upd_ne (ne_of_none h hDn)]
        exact (b3.trans b4) b o hb h
      · obtain ⟨a', b', c', q1, q2⟩ := s4
        exact ⟨a', b', c', by rw [upd_ne nDp.symm]; exact q1, q2.1, q2.2.1, q2.2.2.1, q2.2.2.2.1, by have := q2.2.2.2.2; omega⟩
      · rw [upd_same]; unfold iV; rw [List.map_append]; rfl
      · rw [List.length_append, h4]; rfl
      · intro x hx
        rcases (List.mem_append.mp hx) with hx | hx
        · exact h5 x hx
        · obtain rfl := List.mem_singleton.mp hx
          omega
    · rintro H' ⟨b3, s3, ns, h3, h4, h5⟩
      have cl : c.toNat ≤ 8 := by omega
      have hDn : H D = none := by
        have h1D := but_back b2 hD (sk_some s2)
        exact Evl.fresh_back e1 (but_back b1 h1D (sk_some s1))
      have nDp := sk_ne s2 hD
      have bnd : ∀ x ∈ ns, -1000000 ≤ x ∧ x ≤ 1000000 := fun x hx => by have := h5 x hx; omega
      -- if found != [] and found[-1] == 0
      refine ⟨_, rfl, Nat.zero_le _, fun g hg => ?_⟩
      have e5 : Evl.Ex H' (upd H' g (.lst [])) := Evl.Ex.new hg
      refine ⟨.list (ns.map .int), .list [], .lst (SqL.of (e5 _ _ h3)) (dpI ns), .lst (SqL.of upd_same) .nil, shaped_ints ns, rfl, _, rfl, ?_⟩
      have b5 := b3.trans (But.of_ex e5)
      have s5 := s3.ex e5
      have h35 := e5 _ _ h3
      by_cases hn : ns = []
      · subst hn
        refine if_f (by simp [PyData.eqv, PyData.eqvAll]) ?_
        exact ⟨_, rfl, k D [] _ b5 (s5.le (by omega)) hDn h35 ⟨(fun x hx => by cases hx), by simp, (by intro x hx; cases hx)⟩⟩
      · refine if_t (by cases ns with | nil => exact absurd rfl hn | cons n r => simp [PyData.eqv, PyData.eqvAll]) ?_
        obtain ⟨x, hx, hx2⟩ := atI_end hn
        refine ⟨_, rfl, _, rfl, D, _, _, _, rfl, rfl, SqL.of h35, hx2, rfl, _, rfl, ?_⟩
        have ln : 0 < ns.length := List.length_pos_iff.mpr hn
        by_cases x0 : x = 0
        · refine if_t (decide_eq_true (by rw [x0])) ?_
          refine ⟨_, rfl, p, 2, m + 2 + c.toNat, rfl, s5, by omega, by decide, by decide, fun y H6 y0 y1 b6 s6 z6 => ?_⟩
          refine ⟨2, y, rfl, rfl, .inl ⟨by decide, by decide⟩, 1, _, rfl, rfl, _, rfl, _, rfl, D, iV ns, -1, ns.length - 1, rfl, rfl, b6 D _ nDp h35, ?_, ?_⟩
          · rw [iV_len]
            unfold ixN
            rw [if_neg (by decide), if_pos (by omega)]
            congr 1
            omega
          · refine ⟨_, rfl, k D (ns.set (ns.length - 1) (1 - 2 * y)) _ ?_ ?_ hDn ?_ ⟨?_, ?_, ?_⟩⟩
            · intro b o hb h
              rw [upd_ne (ne_of_none h hDn)]
              exact (b5.trans b6) b o hb h
            · obtain ⟨a', b', c', q1, q2⟩ := s6
              exact ⟨a', b', c', by rw [upd_ne nDp.symm]; exact q1, q2.1, q2.2.1, q2.2.2.1, q2.2.2.2.1, by have := q2.2.2.2.2; omega⟩
            · unfold Li
              rw [upd_same, ← iV_set]
            · intro z hz
              rw [List.length_set, List.getElem?_set_self (by omega)] at hz
              cases hz
              omega
            · rw [List.length_set]; omega
            · intro z hz
              rcases List.mem_or_eq_of_mem_set hz with hz | rfl
              · exact bnd z hz
              · omega
        · refine if_f (decide_eq_false (fun z => x0 (by injection z))) ?_
          exact ⟨_, rfl, k D ns _ b5 (s5.le (by omega)) hDn h35 ⟨fun z hz => by rw [hx] at hz; cases hz; exact x0, by omega, bnd⟩⟩
theorem ok_any {f : Addr} {fd : FuncData} (F : Fun K "_law_pv_any_ratio" "_law_pv_any_ratio" s_l_any_ratio f fd) (cC : Cal P w K mg base 1 "_law_pv_coin" p_l_coin spCoin) (cR : Cal P w K mg base 2 "_law_pv_ratio" p_l_ratio spRatio) : FnOk P w K mg base CX0 3 f fd p_l_any_ratio spAny := by
  refine F.ok sc_l_any_ratio (fun vs H Q E h => ?_) (fun cdv A outer s H vs Q E hr h => ?_)
  · obtain ⟨p, m, rfl, _⟩ := h
    rfl
  · obtain ⟨p, m, rfl, hS, hm, k⟩ := h
    have nd := sc_l_any_ratio.nd
    have hr1 : Room 1 _ := (hr.mono (by decide))
    have w15 : CPowX 10 15 := pow_ok (k := 4) (n := 15) (by decide) (by decide)
    have e15 : (10 : Int) ^ (15 : Int).toNat = 1000000000000000 := by decide
    have n51 : (2 : Nat) ^ 51 = 2251799813685248 := by decide
    have n50 : (2 : Nat) ^ 50 = 1125899906842624 := by decide
    refine ⟨_, pss_cons (ps_set (i := 1) nd rfl (Or.inl rfl) (pe_ix ix_list (pe_lst (pa_cons pe_int (pa_cons pe_int (pa_cons (pe_op op_powX pe_int pe_int) pa_nil)))) (pe_c cC hr1 (pa_cons (pv 0) (pa_cons pe_int pa_nil))) (fun _ _ => rfl)))
      (pss_cons (ps_set (i := 2) nd rfl (Or.inl rfl) (pe_ix ix_list (pe_lst (pa_cons pe_int (pa_cons pe_int (pa_cons (pe_op op_powX pe_int pe_int) pa_nil)))) (pe_c cC hr1 (pa_cons (pv 0) (pa_cons pe_int pa_nil))) (fun _ _ => rfl)))
      (pss_one (ps_ret (pe_c cR hr (pa_cons (pe_op op_sub (pe_c cC hr1 (pa_cons (pv 0) (pa_cons (pe_op op_add (pe_op op_mul pe_int (pv 1)) pe_int) pa_nil))) (pv 1)) (pa_cons (pe_op op_add pe_int (pe_c cC hr1 (pa_cons (pv 0) (pa_cons (pv 2) pa_nil)))) pa_nil)))))), ?_⟩
    refine ⟨10, 15, rfl, rfl, w15, by show 3 ≤ sizeLine; decide, fun l hl => ?_⟩
    have e1 : Evl.Ex H (upd H l (.lst [.int 3, .int 30, .int (10 ^ (15 : Int).toNat)])) := Evl.Ex.new hl
    refine ⟨_, rfl, p, 3, m, rfl, hS.ex e1, by omega, by decide, by decide, fun r H1 r0 r1 b1 s1 z1 => ?_⟩
    obtain ⟨top, ht, ht2⟩ := at3_ (a := 3) (b := 30) (c := 10 ^ (15 : Int).toNat) r0 r1
    have t1 : 3 ≤ top ∧ top ≤ 1000000000000000 := by rcases ht2 with e | e | e <;> rw [e] <;> first | omega | (rw [e15]; omega)
    refine ⟨l, _, _, _, rfl, rfl, SqL.of (b1 l _ (sk_ne hS hl) upd_same), ht, ?_⟩
    have b01 := ex_but e1 b1
    refine ⟨10, 15, rfl, rfl, w15, by show 3 ≤ sizeLine; decide, fun l2 hl2 => ?_⟩
    have e2 : Evl.Ex H1 (upd H1 l2 (.lst [.int 1, .int 6, .int (10 ^ (15 : Int).toNat)])) := Evl.Ex.new hl2
    refine ⟨_, rfl, p, 3, m + 1, rfl, s1.ex e2, by omega, by decide, by decide, fun r2 H2 r20 r21 b2 s2 z2 => ?_⟩
    obtain ⟨bas, hb, hb2⟩ := at3_ (a := 1) (b := 6) (c := 10 ^ (15 : Int).toNat) r20 r21
    have t2 : 1 ≤ bas ∧ bas ≤ 1000000000000000 := by rcases hb2 with e | e | e <;> rw [e] <;> first | omega | (rw [e15]; omega)
    refine ⟨l2, _, _, _, rfl, rfl, SqL.of (b2 l2 _ (sk_ne s1 hl2) upd_same), hb, ?_⟩
    have b02 := b01.trans (ex_but e2 b2)
    refine ⟨_, rfl, _, rfl, 2, top, rfl, rfl, .inl ⟨by decide, by decide⟩, _, 1, rfl, rfl, p, 2 * top + 1, m + 1 + 1, rfl, s2, by omega, by omega, big (n := 51) (by rw [n51]; omega) (by decide), fun y H3 y0 y1 b3 s3 z3 => ?_⟩
    refine ⟨_, rfl, _, _, rfl, rfl, _, rfl, _, rfl, p, bas, _, rfl, s3, by omega, by omega, big (n := 50) (by rw [n50]; omega) (by decide), fun z H4 z0 z1' b4 s4 z4 => ?_⟩
    have b04 := (b02.trans b3).trans b4
    refine ⟨1, z, rfl, rfl, _, _, rfl, ?_, ?_, by omega, fun q H5 hq e5 h5 => ?_⟩
    · exact big (n := 50) (by rw [n50]; omega) (by decide)
    · exact big (n := 50) (by rw [n50]; omega) (by decide)
    have zp : 0 < 1 + z := by omega
    have hqn : H q = none := Evl.fresh_back e1 (but_back b1 (Evl.fresh_back e2 (but_back b2 (but_back b3 (but_back b4 hq (sk_some s4)) (sk_some s3)) (sk_some s2))) (sk_some s1))
    refine k q _ _ H5 (b04.trans (But.of_ex e5)) ((s4.ex e5).le (by omega)) hqn h5 ⟨fr_pos zp, fr_cop zp, ?_, ?_⟩
    · exact Nat.lt_of_le_of_lt (fr_abs1 zp) (by rw [n50]; omega)
    · exact Nat.lt_of_le_of_lt (fr_abs2 zp) (by rw [n50]; omega)
end
end V2


namespace V2
open PySem L2
open PySem.Spec PyProof.Rows
/-! ## what may be shown -/
theorem log2_le {n B : Nat} (h : n < 2 ^ B) (hB : 0 < B) : n.log2 < B := PySem.Flt.log2_lt_of hB h
theorem w_ints {B : Nat} (hB : 0 < B) : ∀ ns : List Int, (∀ n ∈ ns, n.natAbs < 2 ^ B) → PyData.weightAll (ns.map .int) ≤ ns.length * (B + 1)
  | [], _ => by simp [PyData.weightAll]
  | n :: r, h => by
    have ih := w_ints hB r fun x hx => h x (List.mem_cons_of_mem _ hx)
    have h1 := log2_le (h n List.mem_cons_self) hB
    have h2 : PyData.weight (.int n) ≤ B := by
      simp only [PyData.weight]
      split <;> omega
    simp only [List.map_cons, PyData.weightAll, List.length_cons, Nat.succ_mul]
    omega
theorem d_ints : ∀ ns : List Int, PyData.depthAll (ns.map .int) ≤ 1
  | [] => by (simp [PyData.depthAll])
  | n :: r => by
    have := d_ints r
    simp [PyData.depthAll, PyData.depth]
    omega
theorem s_ints : ∀ ns : List Int, (∀ n ∈ ns, n.natAbs < 2 ^ 1000) → PyData.showableAll (ns.map .int) = true ∧ PyData.hasDictAll (ns.map .int) = false ∧ PyData.leavesShortAll 1001 (ns.map .int) = true
  | [], _ => ⟨rfl, rfl, rfl⟩
  | n :: r, h => by
    obtain ⟨h1, h2, h3⟩ := s_ints r fun x hx => h x (List.mem_cons_of_mem _ hx)
    have h4 := log2_le (h n List.mem_cons_self) (by decide)
    have h5 : (PyData.shown (.int n)).length ≤ 1001 := by
      show (Str.ofString (toString n)).length ≤ 1001
      rw [PySem.ofString_length]
      exact int_text_length_le (by decide) h4
    refine ⟨?_, ?_, ?_⟩
    · simp only [List.map_cons, PyData.showableAll, PyData.showable, h1, Bool.and_true, decide_eq_true_eq]; omega
    · simp only [List.map_cons, PyData.hasDictAll, PyData.hasDict, h2, Bool.or_false]
    · simp only [List.map_cons, PyData.leavesShortAll, PyData.leavesShort, h3, Bool.and_true, decide_eq_true_eq]; exact h5
/-- a flat part -/
def FlatOk (d : PyData) : Prop := PyData.showable d = true ∧ PyData.hasDict d = false ∧ PyData.leavesShort 1001 d = true ∧ PyData.depth d ≤ 3 ∧ PyData.weight d ≤ 2002
theorem flat_list {ns : List Int} (h : ∀ n ∈ ns, n.natAbs < 2 ^ 1000) (hw : PyData.weightAll (ns.map .int) ≤ 2002) : FlatOk (.list (ns.map .int)) ∧ FlatOk (.tuple (ns.map .int)) := by
  obtain ⟨h1, h2, h3⟩ := s_ints ns h
  have h4 := d_ints ns
  constructor
  · exact ⟨by simpa [PyData.showable] using h1, by simpa [PyData.hasDict] using h2, by simpa [PyData.leavesShort] using h3, by simp [PyData.depth]; omega, by simpa [PyData.weight] using hw⟩
  · exact ⟨by simpa [PyData.showable] using h1, by simpa [PyData.hasDict] using h2, by simpa [PyData.leavesShort] using h3, by simp [PyData.depth]; omega, by simpa [PyData.weight] using hw⟩
theorem flat_all : ∀ ds : List PyData, (∀ d ∈ ds, FlatOk d) → PyData.showableAll ds = true ∧ PyData.hasDictAll ds = false ∧ PyData.leavesShortAll 1001 ds = true ∧ PyData.depthAll ds ≤ 4 ∧ PyData.weightAll ds ≤ ds.length * 2003
  | [], _ => ⟨rfl, rfl, rfl, by simp [PyData.depthAll], by simp [PyData.weightAll]⟩
  | d :: r, h => by
    obtain ⟨a1, a2, a3, a4, a5⟩ := flat_all r fun x hx => h x (List.mem_cons_of_mem _ hx)
    obtain ⟨b1, b2, b3, b4, b5⟩ := h d List.mem_cons_self
    refine ⟨by simp [PyData.showableAll, a1, b1], by simp [PyData.hasDictAll, a2, b2], by simp [PyData.leavesShortAll, a3, b3], by simp [PyData.depthAll]; omega, ?_⟩
    simp only [PyData.weightAll, List.length_cons, Nat.succ_mul]
    omega
theorem shw_of {ds : List PyData} (h : ∀ d ∈ ds, FlatOk d) (hl : ds.length ≤ 6) : Shw (.list ds) := by
  obtain ⟨a1, a2, a3, a4, a5⟩ := flat_all ds h
  refine ⟨by simpa [PyData.showable] using a1, by simpa [PyData.hasDict] using a2, by simp [PyData.depth]; omega, ?_⟩
  have h1 := PyData.shown_le 1001 (by decide) (.list ds) (by simpa [PyData.leavesShort] using a3)
  have h2 : PyData.weight (.list ds) ≤ 6 * 2003 := by
    simp only [PyData.weight]
    exact Nat.le_trans a5 (Nat.mul_le_mul_right _ hl)
  have h3 : (1001 + 2) * PyData.weight (.list ds) ≤ 1003 * (6 * 2003) := Nat.mul_le_mul_left _ h2
  have h4 : 1003 * (6 * 2003) + 1001 ≤ sizeLine := by decide
  omega
def Lok (ns : List Int) : Prop := ns.length ≤ 16 ∧ ∀ x ∈ ns, x.natAbs < 2 ^ 64
def ItOk (i : Itm) : Prop := (i.1 = true ∧ Lok i.2.2) ∨ (i.1 = false ∧ i.2.2.length ≤ 2 ∧ ∀ x ∈ i.2.2, x.natAbs < 2 ^ 1000)
theorem lok_flat {ns : List Int} (h : ∀ x ∈ ns, x.natAbs < 2 ^ 64) (hl : ns.length ≤ 17) : FlatOk (.list (ns.map .int)) := by
  have h1 := w_ints (B := 64) (by decide) ns h
  exact (flat_list (fun n hn => big (h n hn) (by decide)) (by omega)).1
theorem tup_flat {ns : List Int} (h : ∀ x ∈ ns, x.natAbs < 2 ^ 1000) (hl : ns.length ≤ 2) : FlatOk (.tuple (ns.map .int)) := by
  have h1 := w_ints (B := 1000) (by decide) ns h
  exact (flat_list h (by omega)).2
theorem itok_flat {i : Itm} (h : ItOk i) : FlatOk (itD i) := by
  obtain ⟨b, a, ns⟩ := i
  rcases h with ⟨e, h1, h2⟩ | ⟨e, h1, h2⟩
  · cases e
    exact lok_flat h2 (Nat.le_succ_of_le h1)
  · cases e
    exact tup_flat h2 h1
theorem shw_tree {its : List Itm} (h : ∀ i ∈ its, ItOk i) (hl : its.length ≤ 6) : Shw (treeD its) := by
  refine shw_of (fun d hd => ?_) (by rw [List.length_map]; exact hl)
  obtain ⟨i, hi, rfl⟩ := List.mem_map.mp hd
  exact itok_flat (h i hi)
theorem go_flat : ∀ (its : List Itm) (k : Nat), k + its.length ≤ 100000 → (∀ i ∈ its, ItOk i) → ∀ d ∈ goM k its, FlatOk d := by
  intro its
  induction its with
  | nil => intro k _ _ d hd; cases hd
  | cons i r ih =>
    intro k hk h d hd
    obtain ⟨b, a, ns⟩ := i
    have h0 := h (b, a, ns) List.mem_cons_self
    have hr := fun i hi => h i (List.mem_cons_of_mem _ hi)
    rw [List.length_cons] at hk
    cases b with
    | true =>
      rcases (List.mem_cons.mp hd) with rfl | hd
      · rcases h0 with ⟨_, h1, h2⟩ | ⟨e, _⟩
        · have h1 : ns.length ≤ 16 := h1
          refine lok_flat (fun x hx => ?_) (by rw [List.length_append]; show ns.length + 1 ≤ 17; omega)
          rcases (List.mem_append.mp hx) with hx | hx
          · exact h2 x hx
          · obtain rfl := List.mem_singleton.mp hx
            rw [Int.natAbs_natCast]
            have e : (2 : Nat) ^ 64 = 18446744073709551616 := (by decide)
            rw [e]; omega
        · cases e
      · exact ih (k + 1) (by omega) hr d hd
    | false =>
      rcases (List.mem_cons.mp hd) with rfl | hd
      · rcases h0 with ⟨e, _⟩ | ⟨_, h1, h2⟩
        · cases e
        · exact tup_flat h2 h1
      · exact ih k (by omega) hr d hd
theorem go_len : ∀ (its : List Itm) (k : Nat), (goM k its).length = its.length
  | [], _ => rfl
  | (true, _, _) :: r, k => by show (goM (k + 1) r).length + 1 = r.length + 1; rw [go_len r]
  | (false, _, _) :: r, k => by show (goM k r).length + 1 = r.length + 1; rw [go_len r]
theorem flat_int0 : FlatOk (.int 0) := by
  refine ⟨by decide, rfl, ?_, by decide, by decide⟩
  simp only [PyData.leavesShort, decide_eq_true_eq]
  show (Str.ofString (toString (0 : Int))).length ≤ 1001
  rw [PySem.ofString_length]
  exact int_text_length_le (k := 1000) (by decide) (by decide)
theorem shw_mark {its : List Itm} (h : ∀ i ∈ its, ItOk i) (hl : its.length ≤ 5) : Shw (markD its) := by
  refine shw_of (fun d hd => ?_) (by rw [List.length_append, go_len]; show its.length + 1 ≤ 6; omega)
  rcases List.mem_append.mp hd with hd | hd
  · exact go_flat its 1 (by omega) h d hd
  · obtain rfl := List.mem_singleton.mp hd
    exact flat_int0
/-! ## small facts of polynomials -/
theorem vec_mem {N : Nat} {f : Nat → Int} {x : Int} (h : x ∈ vec N f) : ∃ i, i < N ∧ x = f i := by
  unfold vec at h
  obtain ⟨i, hi, e⟩ := List.mem_map.mp h
  exact ⟨i, List.mem_range.mp hi, e.symm⟩
theorem getD_bd {ns : List Int} {B : Int} (hB : 0 ≤ B) (h : ∀ x ∈ ns, -B ≤ x ∧ x ≤ B) (k : Nat) : -B ≤ ns.getD k 0 ∧ ns.getD k 0 ≤ B := by
  (rw [List.getD_eq_getElem?_getD])
  cases e : ns[k]? with
  | none => show -B ≤ (0 : Int) ∧ (0 : Int) ≤ B; omega
  | some x => exact h x (List.mem_of_getElem? e)
theorem padd_lok {xs ys : List Int} (hx : Sp6 xs) (hy : Sp6 ys) : Lok (trm (padd xs ys)) := by
  refine ⟨?_, fun x h => ?_⟩
  · have := trm_len (padd xs ys)
    have e : (padd xs ys).length = max xs.length ys.length := vec_len _ _
    have := hx.2.1
    have := hy.2.1
    omega
  · obtain ⟨i, _, rfl⟩ := vec_mem (trm_mem h)
    have h1 := getD_bd (B := 1000000) (by decide) hx.2.2 i
    have h2 := getD_bd (B := 1000000) (by decide) hy.2.2 i
    have e : (2 : Nat) ^ 64 = 18446744073709551616 := (by decide)
    rw [e]; omega
theorem cf_bd {xs ys : List Int} (hx : ∀ x ∈ xs, -1000000 ≤ x ∧ x ≤ 1000000) (hy : ∀ x ∈ ys, -1000000 ≤ x ∧ x ≤ 1000000) : ∀ k i, (cf xs ys k i).natAbs ≤ k * 1000000000000
  | 0, _ => by show (0 : Int).natAbs ≤ _; simp
  | k + 1, i => by
    have ih := cf_bd hx hy k i
    have h1 := getD_bd (B := 1000000) (by decide) hx k
    have h2 := getD_bd (B := 1000000) (by decide) hy (i - k)
    have h3 : (xs.getD k 0 * ys.getD (i - k) 0).natAbs ≤ 1000000 * 1000000 := by
      rw [Int.natAbs_mul]
      exact Nat.mul_le_mul (by omega) (by omega)
    show (cf xs ys k i + (if k ≤ i then xs.getD k 0 * ys.getD (i - k) 0 else 0)).natAbs ≤ _
    rw [Nat.succ_mul]
    split <;> omega
theorem pmul_lok {xs ys : List Int} (hx : Sp6 xs) (hy : Sp6 ys) : Lok (trm (pmul xs ys)) := by
  refine ⟨?_, fun x h => ?_⟩
  · have := trm_len (pmul xs ys)
    have e : (pmul xs ys).length = xs.length + ys.length - 1 := vec_len _ _
    have := hx.2.1
    have := hy.2.1
    omega
  · obtain ⟨i, _, rfl⟩ := vec_mem (trm_mem h)
    have h1 := cf_bd hx.2.2 hy.2.2 xs.length i
    have := hx.2.1
    have e : (2 : Nat) ^ 64 = 18446744073709551616 := (by decide)
    rw [e]; omega
theorem sp6_lok {ns : List Int} (h : ns.length ≤ 16) (hb : ∀ x ∈ ns, -1000000 ≤ x ∧ x ≤ 1000000) : Lok ns := by
  refine ⟨h, fun x hx => ?_⟩
  have := hb x hx
  have e : (2 : Nat) ^ 64 = 18446744073709551616 := (by decide)
  rw [e]; omega
theorem trm_lok {ns : List Int} (h : Lok ns) : Lok (trm ns) := ⟨Nat.le_trans (trm_len ns) h.1, fun x hx => h.2 x (trm_mem hx)⟩
theorem padd_comm (xs ys : List Int) : padd xs ys = padd ys xs := by
  unfold padd
  rw [Nat.max_comm]
  exact vec_congr fun i _ => Int.add_comm _ _
theorem padd_nil (xs : List Int) : padd xs [] = xs := by
  symm
  refine vec_ext (by simp) fun i hi => ?_
  have hi : i < xs.length := by simpa using hi
  have e : xs[i]? = some xs[i] := List.getElem?_eq_getElem hi
  rw [e, getD_at e]
  simp
theorem nil_padd (xs : List Int) : padd [] xs = xs := by rw [padd_comm, padd_nil]
theorem cf_one {xs : List Int} : ∀ k i, cf xs [1] k i = if i < k then xs.getD i 0 else 0
  | 0, i => by show (0 : Int) = _; rw [if_neg (by omega)]
  | k + 1, i => by
    show cf xs [1] k i + (if k ≤ i then xs.getD k 0 * [1].getD (i - k) 0 else 0) = _
    rw [cf_one k i]
    by_cases h1 : i < k
    · rw [if_pos h1, if_neg (by omega), if_pos (by omega), Int.add_zero]
    · rw [if_neg h1, if_pos (by omega), Int.zero_add]
      by_cases h2 : i = k
      · subst h2
        rw [Nat.sub_self, if_pos (by omega)]
        show xs.getD i 0 * 1 = _
        rw [Int.mul_one]
      · rw [if_neg (by omega), getD_out (l := [1]) (k := i - k) (by show 1 ≤ i - k; omega), Int.mul_zero]
theorem pmul_one (xs : List Int) : pmul xs [1] = xs := by
  symm
  refine vec_ext (by simp) fun i hi => ?_
  have hi : i < xs.length := by simpa using hi
  have e : xs[i]? = some xs[i] := List.getElem?_eq_getElem hi
  rw [cf_one, if_pos hi, getD_at e, e]
end V2


namespace V2
open PySem L2
open PySem.Spec PyProof.Rows
/-! ## lists of new things -/
def Built (Hs H : Hp) (its : List Itm) : Prop := Evl.Ex Hs H ∧ (∀ i ∈ its, ItAt H i ∧ Hs i.2.1 = none) ∧ (its.map (·.2.1)).Nodup
theorem Built.none_ {Hs H : Hp} (e : Evl.Ex Hs H) : Built Hs H [] := ⟨e, (by intro i hi; cases hi), List.nodup_nil⟩
theorem Built.ext {Hs H H' : Hp} {its : List Itm} (h : Built Hs H its) (e : Evl.Ex H H') : Built Hs H' its := ⟨h.1.trans e, fun i hi => ⟨(h.2.1 i hi).1.ex e, (h.2.1 i hi).2⟩, h.2.2⟩
theorem Built.ne {Hs H : Hp} {its : List Itm} (h : Built Hs H its) {q : Addr} (hq : H q = none) : ∀ i ∈ its, i.2.1 ≠ q := fun i hi => ne_of_none (h.2.1 i hi).1 hq
theorem Built.snoc {Hs H H2 : Hp} {its : List Itm} {i : Itm} (h : Built Hs H its) (hp : H i.2.1 = none) (e : Evl.Ex H H2) (h2 : ItAt H2 i) : Built Hs H2 (its ++ [i]) := by
  refine ⟨h.1.trans e, fun j hj => ?_, ?_⟩
  · rcases List.mem_append.mp hj with hj | hj
    · exact ⟨(h.2.1 j hj).1.ex e, (h.2.1 j hj).2⟩
    · obtain rfl := List.mem_singleton.mp hj
      exact ⟨h2, Evl.fresh_back h.1 hp⟩
  · (rw [List.map_append, List.nodup_append])
    refine ⟨h.2.2, by simp, ?_⟩
    intro x hx y hy e2
    obtain ⟨j, hj, rfl⟩ := List.mem_map.mp hx
    obtain rfl : y = i.2.1 := by simpa using hy
    exact h.ne hp j hj e2
structure Tr (Hs H : Hp) (q : Addr) (its : List Itm) : Prop where
  b : Built Hs H its
  at_ : H q = some (.lst (refs its))
  nq : Hs q = none
  ne : ∀ i ∈ its, i.2.1 ≠ q
theorem Tr.ext {Hs H H' : Hp} {q : Addr} {its : List Itm} (h : Tr Hs H q its) (e : Evl.Ex H H') : Tr Hs H' q its := ⟨h.b.ext e, e _ _ h.at_, h.nq, h.ne⟩
theorem Tr.tree {Hs H : Hp} {q : Addr} {its : List Itm} (h : Tr Hs H q its) : TreeAt H q its := ⟨h.at_, fun i hi => (h.b.2.1 i hi).1⟩
theorem Tr.dst {Hs H : Hp} {q : Addr} {its : List Itm} (h : Tr Hs H q its) : Dst q its := dst_of h.b.2.2 h.ne
theorem Tr.fresh {Hs H : Hp} {q : Addr} {its : List Itm} (h : Tr Hs H q its) : ∀ b ∈ (CL q its).map (·.1), Hs b = none := by
  intro b hb
  obtain ⟨x, hx, rfl⟩ := List.mem_map.mp hb
  rcases cl_mem hx with e | ⟨i, hi, _, e⟩
  · rw [e]; exact h.nq
  · rw [← e]; exact (h.b.2.1 i hi).2
theorem Tr.some_ {Hs H : Hp} {q : Addr} {its : List Itm} (h : Tr Hs H q its) : ∀ b ∈ (CL q its).map (·.1), ∃ o, H b = some o := by
  intro b hb
  obtain ⟨x, hx, rfl⟩ := List.mem_map.mp hb
  rcases cl_mem hx with e | ⟨i, hi, _, e⟩
  · rw [e]; exact ⟨_, h.at_⟩
  · rw [← e]; exact ⟨_, (h.b.2.1 i hi).1⟩
theorem Tr.back {Hs H Hd H' : Hp} {q : Addr} {its : List Itm} (h : Tr Hs H q its) (e : Evl.Ex H Hd) (o : Off ((CL q its).map (·.1)) Hd H') : Evl.Ex Hs H' := by
  intro b u hb
  refine o b u (fun hm => ?_) (e b u (h.b.1 b u hb))
  rw [h.fresh b hm] at hb
  cases hb
/-- what is due, in one place or not -/
theorem right_go {Hs Hf Hd : Hp} {q d : Addr} {its jts : List Itm} {Q : VK} {E : XK} (h : Tr Hs Hf q its) (e : Evl.Ex Hf Hd) (U : TreeAt Hd d jts) (hd : Hf d = none) (hj : ∀ j ∈ jts, Hf j.2.1 = none ∨ ∃ o, Hs j.2.1 = some o)
    (hsh : its.map sh = jts.map sh) (hl : its.length ≤ 5) (ok : ∀ i ∈ its, ItOk i) (k : ∀ H', Evl.Ex Hs H' → Q (.bl true) H') : spR [.ref q, .ref d] Hd Q E := by
  refine ⟨q, d, its, jts, rfl, h.tree.ex e, h.dst, U, hsh, fun hm => ?_, fun j hjm hm => ?_, by omega, fun i hi => ?_, shw_tree ok (by omega), shw_mark ok hl, fun H' o => k H' (h.back e o)⟩
  · obtain ⟨o, ho⟩ := h.some_ d hm
    rw [hd] at ho; cases ho
  · rcases hj j hjm with z | ⟨o, z⟩
    · obtain ⟨o, ho⟩ := h.some_ _ hm
      rw [z] at ho; cases ho
    · rw [h.fresh _ hm] at z; cases z
  · rcases ok i hi with ⟨_, a, _⟩ | ⟨_, a, _⟩
    · omega
    · omega
def tA : List TE → TA
  | [] => tNil
  | t :: r => tCons t (tA r)
def EvI (te : TE) (σ : L2.St) (H : Hp) (b : Bool × List Int) : Prop := ∀ H1, Evl.Ex H H1 → ∀ Q : VK, (∀ p H2, H1 p = none → Evl.Ex H1 H2 → ItAt H2 (b.1, p, b.2) → Q (.ref p) H2) → te σ H1 Q
theorem args_read {σ : L2.St} {H0 : Hp} : ∀ (L : List (TE × Bool × List Int)) (H : Hp) (dn : List Itm) (Q : List V → Hp → Prop), (∀ x ∈ L, EvI x.1 σ H0 x.2) → Built H0 H dn →
    (∀ its H', Built H0 H' (dn ++ its) → Evl.Ex H H' → its.map sh = L.map (·.2) → Q (refs its) H') → tA (L.map (·.1)) σ H Q
  | [], H, dn, Q, _, hb, k => k [] H (by rw [List.append_nil]; exact hb) (Evl.Ex.refl _) rfl
  | (te, b) :: L, H, dn, Q, h, hb, k => by
    refine h (te, b) List.mem_cons_self H hb.1 _ fun p H2 hp e2 h2 => ?_
    refine args_read L H2 (dn ++ [(b.1, p, b.2)]) _ (fun x hx => h x (List.mem_cons_of_mem _ hx)) (hb.snoc (i := (b.1, p, b.2)) hp e2 h2) fun its H' hb' e' hs => ?_
    refine k ((b.1, p, b.2) :: its) H' (by rw [List.append_assoc] at hb'; exact hb') (e2.trans e') ?_
    rw [List.map_cons, List.map_cons, hs]
    rfl
theorem lst_read {σ : L2.St} {Hs H : Hp} {Q : VK} (L : List (TE × Bool × List Int)) (hL : L.length ≤ 10) (e : Evl.Ex Hs H) (h : ∀ x ∈ L, EvI x.1 σ Hs x.2) (k : ∀ q its H', H q = none → Tr Hs H' q its → Evl.Ex H H' → its.map sh = L.map (·.2) → Q (.ref q) H') : tLst (tA (L.map (·.1))) σ H Q := by
  refine args_read L H [] _ h (Built.none_ e) fun its H' hb e' hs => ⟨?_, fun q hq => ?_⟩
  · have : its.length = L.length := by
      have := congrArg List.length hs
      rwa [List.length_map, List.length_map] at this
    rw [refs_len, this]
    exact Nat.le_trans hL (by decide)
  · have e2 : Evl.Ex H' (upd H' q (.lst (refs its))) := Evl.Ex.new hq
    have hb : Built Hs H' its := hb
    exact k q its _ (Evl.fresh_back e' hq) ⟨hb.ext e2, upd_same, Evl.fresh_back hb.1 hq, hb.ne hq⟩ (e'.trans e2) hs
theorem cat_read {σ : L2.St} {Hs H : Hp} {Q : VK} {j : Nat} {q : Addr} {its : List Itm} (L : List (TE × Bool × List Int)) (hL : L.length ≤ 10) (hi : its.length ≤ 10) (hj : σ[j]? = some (some (.ref q))) (T : Tr Hs H q its) (h : ∀ x ∈ L, EvI x.1 σ Hs x.2)
    (k : ∀ r jts H', H r = none → Tr Hs H' r (its ++ jts) → Evl.Ex H H' → jts.map sh = L.map (·.2) → Q (.ref r) H') : tOp rCat (tVar j) (tLst (tA (L.map (·.1)))) σ H Q := by
  refine ⟨_, hj, ?_⟩
  refine args_read L H its _ h T.b fun jts H' hb e' hs => ⟨?_, fun z hz => ?_⟩
  · have : jts.length = L.length := by
      have := congrArg List.length hs
      rwa [List.length_map, List.length_map] at this
    rw [refs_len, this]
    exact Nat.le_trans hL (by decide)
  · have e2 : Evl.Ex H' (upd H' z (.lst (refs jts))) := Evl.Ex.new hz
    refine ⟨q, z, _, _, rfl, rfl, e2 _ _ (e' _ _ T.at_), upd_same, ?_, fun r hr => ?_⟩
    · have : jts.length = L.length := by
        have := congrArg List.length hs
        rwa [List.length_map, List.length_map] at this
      rw [refs_len, refs_len, this]
      exact Nat.le_trans (show its.length + L.length ≤ 20 by omega) (by decide)
    · have e3 : Evl.Ex H' (upd (upd H' z (.lst (refs jts))) r (.lst (refs its ++ refs jts))) := e2.trans (Evl.Ex.new hr)
      have hr0 : H' r = none := Evl.fresh_back e2 hr
      refine k r jts _ (Evl.fresh_back e' hr0) ⟨hb.ext e3, ?_, Evl.fresh_back hb.1 hr0, hb.ne hr0⟩ (e'.trans e3) hs
      rw [upd_same]
      unfold refs
      rw [List.map_append]
/-! ## the calls -/
def tCallK (n : Nat) (gV : List V → List V) (sp : Sp) (t : TA) : TE := fun σ H Q => t σ H fun zs H1 => zs.length = n ∧ sp (gV zs) H1 Q E0
def swp : List V → List V
  | [a, b] => [b, a]
  | z => z
section
variable {K : PySem.W.Frag} {σ : L2.St} {H : Hp} {i j : Nat} {a b : Addr} {xs ys : List Int} {p q : Int} {m : List Int → List Int → List Int}
theorem ei_trim (hi : σ[i]? = some (some (.ref a))) (ha : Li H a xs) (hl : xs.length ≤ 1000) : EvI (tCall (spTrim K) [] E0 (tCons (tVar i) tNil)) σ H (true, trm xs) := fun H1 e Q k =>
  ⟨_, hi, a, xs, rfl, SqL.of (e _ _ ha), hl, fun p H2 hp e2 h2 => k p H2 hp e2 h2⟩
theorem ei_trimK (hi : σ[i]? = some (some (.ref a))) (ha : Li H a xs) (hl : xs.length ≤ 1000) : EvI (tCallK 1 id (spTrim K) (tCons (tVar i) tNil)) σ H (true, trm xs) := fun H1 e Q k =>
  ⟨_, hi, rfl, a, xs, rfl, SqL.of (e _ _ ha), hl, fun p H2 hp e2 h2 => k p H2 hp e2 h2⟩
theorem ei_two (hi : σ[i]? = some (some (.ref a))) (hj : σ[j]? = some (some (.ref b))) (ha : Li H a xs) (hb : Li H b ys) (hx : Pn xs) (hy : Pn ys) : EvI (tCall (spTwo m) [] E0 (tCons (tVar i) (tCons (tVar j) tNil))) σ H (true, m xs ys) := fun H1 e Q k =>
  ⟨_, hi, _, hj, a, b, xs, ys, rfl, e _ _ ha, e _ _ hb, hx, hy, fun p H2 hp e2 h2 => k p H2 hp e2 h2⟩
theorem ei_twoK (hi : σ[i]? = some (some (.ref a))) (hj : σ[j]? = some (some (.ref b))) (ha : Li H a xs) (hb : Li H b ys) (hx : Pn xs) (hy : Pn ys) : EvI (tCallK 2 id (spTwo m) (tCons (tVar i) (tCons (tVar j) tNil))) σ H (true, m xs ys) := fun H1 e Q k =>
  ⟨_, hi, _, hj, rfl, a, b, xs, ys, rfl, e _ _ ha, e _ _ hb, hx, hy, fun p H2 hp e2 h2 => k p H2 hp e2 h2⟩
theorem ei_twoS (hi : σ[i]? = some (some (.ref a))) (hj : σ[j]? = some (some (.ref b))) (ha : Li H a xs) (hb : Li H b ys) (hx : Pn xs) (hy : Pn ys) : EvI (tCallK 2 swp (spTwo m) (tCons (tVar i) (tCons (tVar j) tNil))) σ H (true, m ys xs) := fun H1 e Q k =>
  ⟨_, hi, _, hj, rfl, b, a, ys, xs, rfl, e _ _ hb, e _ _ ha, hy, hx, fun p H2 hp e2 h2 => k p H2 hp e2 h2⟩
def vl (p q : Int) (xs : List Int) : List Int := [(fr (hA p q xs) (q ^ xs.length)).1, (fr (hA p q xs) (q ^ xs.length)).2]
theorem ei_val (hi : σ[i]? = some (some (.ref a))) (hj : σ[j]? = some (some (.ref b))) (ha : Li H a xs) (hb : Fr H b p q) (hx : Pn xs) (hq : Qn p q) : EvI (tCall spVal [] E0 (tCons (tVar i) (tCons (tVar j) tNil))) σ H (false, vl p q xs) := fun H1 e Q k =>
  ⟨_, hi, _, hj, a, b, xs, p, q, rfl, e _ _ ha, e _ _ hb, hx, hq, fun p H2 hp e2 h2 => k p H2 hp e2 h2⟩
theorem ei_valK (hi : σ[i]? = some (some (.ref a))) (hj : σ[j]? = some (some (.ref b))) (ha : Li H a xs) (hb : Fr H b p q) (hx : Pn xs) (hq : Qn p q) : EvI (tCallK 2 id spVal (tCons (tVar i) (tCons (tVar j) tNil))) σ H (false, vl p q xs) := fun H1 e Q k =>
  ⟨_, hi, _, hj, rfl, a, b, xs, p, q, rfl, e _ _ ha, e _ _ hb, hx, hq, fun p H2 hp e2 h2 => k p H2 hp e2 h2⟩
theorem pol_nil : Pol [] := fun x h => by cases h
theorem pn_nil : Pn [] := ⟨pol_nil, by decide, fun x h => by cases h⟩
theorem ei_twoN (hi : σ[i]? = some (some (.ref a))) (ha : Li H a xs) (hx : Pn xs) : EvI (tCall (spTwo m) [] E0 (tCons (tVar i) (tCons (tLst tNil) tNil))) σ H (true, m xs []) := fun H1 e Q k =>
  ⟨_, hi, Nat.zero_le _, fun z hz => ⟨a, z, xs, [], rfl, Evl.Ex.new hz _ _ (e _ _ ha), upd_same, hx, pn_nil, fun p H2 hp e2 h2 => k p H2 (Evl.fresh_back (Evl.Ex.new hz) hp) ((Evl.Ex.new hz).trans e2) h2⟩⟩
theorem ei_Ntwo (hi : σ[i]? = some (some (.ref a))) (ha : Li H a xs) (hx : Pn xs) : EvI (tCall (spTwo m) [] E0 (tCons (tLst tNil) (tCons (tVar i) tNil))) σ H (true, m [] xs) := fun H1 e Q k =>
  ⟨Nat.zero_le _, fun z hz => ⟨_, hi, z, a, [], xs, rfl, upd_same, Evl.Ex.new hz _ _ (e _ _ ha), pn_nil, hx, fun p H2 hp e2 h2 => k p H2 (Evl.fresh_back (Evl.Ex.new hz) hp) ((Evl.Ex.new hz).trans e2) h2⟩⟩
theorem ei_valN (hj : σ[j]? = some (some (.ref b))) (hb : Fr H b p q) (hq : Qn p q) : EvI (tCall spVal [] E0 (tCons (tLst tNil) (tCons (tVar j) tNil))) σ H (false, vl p q []) := fun H1 e Q k =>
  ⟨Nat.zero_le _, fun z hz => ⟨_, hj, z, b, [], p, q, rfl, upd_same, Evl.Ex.new hz _ _ (e _ _ hb), pn_nil, hq, fun p H2 hp e2 h2 => k p H2 (Evl.fresh_back (Evl.Ex.new hz) hp) ((Evl.Ex.new hz).trans e2) h2⟩⟩
theorem pn_one : Pn [1] := ⟨fun x h => by cases h; decide, by decide, fun x h => by obtain rfl := List.mem_singleton.mp h; decide⟩
theorem ei_two1 (hi : σ[i]? = some (some (.ref a))) (ha : Li H a xs) (hx : Pn xs) : EvI (tCall (spTwo m) [] E0 (tCons (tVar i) (tCons (tLst (tCons (tC (.int 1)) tNil)) tNil))) σ H (true, m xs [1]) := fun H1 e Q k =>
  ⟨_, hi, (by show 1 ≤ sizeLine; decide), fun z hz => ⟨a, z, xs, [1], rfl, Evl.Ex.new hz _ _ (e _ _ ha), upd_same, hx, pn_one, fun p H2 hp e2 h2 => k p H2 (Evl.fresh_back (Evl.Ex.new hz) hp) ((Evl.Ex.new hz).trans e2) h2⟩⟩
theorem vl_nil : vl p q [] = [0, 1] := by
  unfold vl
  rw [List.length_nil, Int.pow_zero, show fr (hA p q []) 1 = (0, 1) from (fr_same (by decide) (by decide) : fr 0 1 = (0, 1))]
theorem vl_ok (hx : Pn xs) (hq : Qn p q) : (vl p q xs).length ≤ 2 ∧ ∀ x ∈ vl p q xs, x.natAbs < 2 ^ 1000 := by
  obtain ⟨px, hx2, hx3⟩ := hx
  obtain ⟨q0, qc, pb, qb⟩ := hq
  refine ⟨Nat.le_refl _, fun x h => ?_⟩
  have qi := qpos q0 xs.length
  rcases (List.mem_cons.mp h) with rfl | h
  · exact Nat.lt_of_le_of_lt (fr_abs1 qi) (big (hA_lt pb qb fun x hx => n64 (hx3 x hx)) (by omega))
  · rcases (List.mem_cons.mp h) with rfl | h
    · exact Nat.lt_of_le_of_lt (fr_abs2 qi) (big (npow_lt qb xs.length) (by omega))
    · cases h
end
end V2


namespace V2
/-! ## what is left of a polynomial by another one: mathematics -/
def cont : List Int → Nat
  | [] => 0
  | x :: r => Nat.gcd x.natAbs (cont r)
def prim (ns : List Int) : List Int := ns.map fun x => x / (cont ns : Int)
theorem cont_dvd : ∀ {ns : List Int} {x : Int}, x ∈ ns → (cont ns : Int) ∣ x
  | y :: r, x, h => by
    rcases (List.mem_cons.mp h) with e | h
    · subst e
      exact Int.ofNat_dvd_left.mpr (Nat.gcd_dvd_left _ _)
    · exact Int.dvd_trans (Int.natCast_dvd_natCast.mpr (Nat.gcd_dvd_right _ _)) (cont_dvd h)
theorem cont_scale (a : Nat) : ∀ ns : List Int, cont (ns.map fun x => (a : Int) * x) = a * cont ns
  | [] => rfl
  | x :: r => by
    show Nat.gcd ((a : Int) * x).natAbs (cont (r.map fun x => (a : Int) * x)) = a * Nat.gcd x.natAbs (cont r)
    rw [cont_scale a r, Int.natAbs_mul, Int.natAbs_natCast, Nat.gcd_mul_left]
/-- the greatest common divisor, found from the left -/
theorem cont_fold : ∀ (ns : List Int) (g : Nat), ns.foldl (fun g x => Nat.gcd g x.natAbs) g = Nat.gcd g (cont ns)
  | [], g => by show g = Nat.gcd g 0; rw [Nat.gcd_zero_right]
  | x :: r, g => by
    show r.foldl (fun g x => Nat.gcd g x.natAbs) (Nat.gcd g x.natAbs) = Nat.gcd g (Nat.gcd x.natAbs (cont r))
    rw [cont_fold r, Nat.gcd_assoc]
theorem cont_zero : ∀ {ns : List Int}, cont ns = 0 → ∀ x ∈ ns, x = 0 := by
  intro ns h x hx
  have := cont_dvd hx
  rw [h] at this
  exact Int.zero_dvd.mp this
theorem prim_eq {xs ys : List Int} {a b : Nat} (ha : 0 < a) (hb : 0 < b) (h : (xs.map fun x => (a : Int) * x) = ys.map fun x => (b : Int) * x) : prim xs = prim ys := by
  have hc : a * cont xs = b * cont ys := by rw [← cont_scale, ← cont_scale, h]
  have hl : xs.length = ys.length := by
    have := (congrArg List.length h)
    rwa [List.length_map, List.length_map] at this
  refine List.ext_getElem (by unfold prim; rw [List.length_map, List.length_map, hl]) fun i h1 h2 => ?_
  unfold prim at h1 h2 ⊢
  rw [List.length_map] at h1 h2
  rw [List.getElem_map, List.getElem_map]
  have e : (a : Int) * xs[i] = (b : Int) * ys[i] := by
    have e1 : (xs.map fun x => (a : Int) * x)[i]'(by rw [List.length_map]; exact h1) = (ys.map fun x => (b : Int) * x)[i]'(by rw [List.length_map]; exact h2) := by
      simp only [h]
    rwa [List.getElem_map, List.getElem_map] at e1
  obtain ⟨p, hp⟩ := cont_dvd (List.getElem_mem h1)
  obtain ⟨q, hq⟩ := cont_dvd (List.getElem_mem h2)
  rcases Nat.eq_zero_or_pos (cont xs) with z | z
  · have z2 : cont ys = 0 := by
      rw [z, Nat.mul_zero] at hc
      rcases Nat.mul_eq_zero.mp hc.symm with c | c
      · omega
      · exact c
    rw [cont_zero z _ (List.getElem_mem h1), cont_zero z2 _ (List.getElem_mem h2), Int.zero_ediv, Int.zero_ediv]
  · have z2 : 0 < cont ys := by
      rcases Nat.eq_zero_or_pos (cont ys) with c | c
      · rw [c, Nat.mul_zero] at hc
        have := Nat.mul_pos ha z
        omega
      · exact c
    rw [hp, hq, Int.mul_ediv_cancel_left _ (by omega), Int.mul_ediv_cancel_left _ (by omega)]
    rw [hp, hq, ← Int.mul_assoc, ← Int.mul_assoc] at e
    have hcz : (a : Int) * (cont xs : Int) = (b : Int) * (cont ys : Int) := by
      rw [← Int.natCast_mul, ← Int.natCast_mul, hc]
    rw [hcz] at e
    exact Int.eq_of_mul_eq_mul_left (Int.ne_of_gt (Int.mul_pos (by omega) (by omega))) e
/-! ### products of functions -/
def cfF (f g : Nat → Int) : Nat → Nat → Int
  | 0, _ => 0
  | k + 1, i => cfF f g k i + (if k ≤ i then f k * g (i - k) else 0)
theorem cf_cfF (xs ys : List Int) : ∀ k i, cf xs ys k i = cfF (fun j => xs.getD j 0) (fun j => ys.getD j 0) k i
  | 0, _ => rfl
  | k + 1, i => by
    show cf xs ys k i + _ = cfF _ _ k i + _
    rw [cf_cfF xs ys k i]
theorem cfF_lin (f g h : Nat → Int) (a b : Int) : ∀ k i, cfF f (fun j => a * g j + b * h j) k i = a * cfF f g k i + b * cfF f h k i
  | 0, _ => by show (0 : Int) = a * 0 + b * 0; rw [Int.mul_zero, Int.mul_zero, Int.add_zero]
  | k + 1, i => by
    show cfF f (fun j => a * g j + b * h j) k i + (if k ≤ i then f k * (a * g (i - k) + b * h (i - k)) else 0) = a * (cfF f g k i + (if k ≤ i then f k * g (i - k) else 0)) + b * (cfF f h k i + (if k ≤ i then f k * h (i - k) else 0))
    rw [cfF_lin f g h a b k i]
    split
    · simp only [Int.mul_add, Int.mul_left_comm (f k)]
      omega
    · simp only [Int.add_zero]
theorem cfF_zero (f g : Nat → Int) : ∀ k i, (∀ j, j < k → j ≤ i → f j * g (i - j) = 0) → cfF f g k i = 0
  | 0, _, _ => rfl
  | k + 1, i, h => by
    show cfF f g k i + (if k ≤ i then f k * g (i - k) else 0) = 0
    rw [cfF_zero f g k i fun j h1 h2 => h j (by omega) h2]
    split
    · rename_i c
      rw [h k (by omega) c]
      rfl
    · rfl
/-- one number alone, at place n -/
def dlt (n : Nat) : Nat → Int := fun i => if i = n then 1 else 0
theorem cfF_dlt (f : Nat → Int) (n : Nat) : ∀ k i, cfF f (dlt n) k i = if n ≤ i ∧ i - n < k then f (i - n) else 0
  | 0, i => by show (0 : Int) = _; rw [if_neg (by omega)]
  | k + 1, i => by
    show cfF f (dlt n) k i + (if k ≤ i then f k * dlt n (i - k) else 0) = _
    rw [cfF_dlt f n k i]
    unfold dlt
    by_cases h1 : n ≤ i ∧ i - n < k
    · rw [if_pos h1, if_pos (c := n ≤ i ∧ i - n < k + 1) (by omega)]
      by_cases h3 : k ≤ i
      · rw [if_pos h3, if_neg (by omega), Int.mul_zero, Int.add_zero]
      · rw [if_neg h3, Int.add_zero]
    · rw [if_neg h1, Int.zero_add]
      by_cases h2 : n ≤ i ∧ i - n = k
      · rw [if_pos (c := k ≤ i) (by omega), if_pos (c := i - k = n) (by omega), if_pos (c := n ≤ i ∧ i - n < k + 1) (by omega), Int.mul_one, h2.2]
      · rw [if_neg (c := n ≤ i ∧ i - n < k + 1) (by omega)]
        by_cases h3 : k ≤ i
        · rw [if_pos h3, if_neg (by omega), Int.mul_zero]
        · rw [if_neg h3]
/-- the top of a product -/
theorem cfF_top (f g : Nat → Int) (m n : Nat) (h : ∀ i, n < i → g i = 0) : cfF f g (m + 1) (n + m) = f m * g n := by
  show cfF f g m (n + m) + (if m ≤ n + m then f m * g (n + m - m) else 0) = _
  rw [cfF_zero f g m (n + m) fun j h1 h2 => by rw [h _ (by omega), Int.mul_zero], if_pos (by omega), Nat.add_sub_cancel, Int.zero_add]
theorem cfF_null {f g : Nat → Int} {m : Nat} (hf : f m ≠ 0) (hz : ∀ i, m ≤ i → cfF f g (m + 1) i = 0) : ∀ n, (∀ i, n ≤ i → g i = 0) → ∀ i, g i = 0
  | 0, h, i => h i (Nat.zero_le _)
  | n + 1, h, i => by
    refine cfF_null hf hz n (fun j hj => ?_) i
    rcases Nat.lt_or_ge n j with c | c
    · exact h j c
    · have e : j = n := by omega
      subst e
      have h1 := cfF_top f g m j fun i hi => h i hi
      rw [hz (j + m) (by omega)] at h1
      rcases Int.mul_eq_zero.mp h1.symm with z | z
      · exact absurd z hf
      · exact z
/-- L is what is left of P by B, up to a factor above 0 -/
def Rm (P B L : List Int) : Prop := Pol L ∧ L.length < B.length ∧ ∃ (g : Int) (q : Nat → Int) (N : Nat), 0 < g ∧ (∀ i, N ≤ i → q i = 0) ∧ ∀ i, g * P.getD i 0 = cfF (fun j => B.getD j 0) q B.length i + L.getD i 0
theorem getD_pol {L : List Int} (h : Pol L) {n : Nat} (hn : L.length = n + 1) : L.getD n 0 ≠ 0 := by
  have e : L[n]? = some L[n] := List.getElem?_eq_getElem (by omega)
  rw [getD_at e]
  refine h _ ?_
  have e2 : L.length - 1 = n := by omega
  rw [e2]
  exact e
theorem pol_len {L M : List Int} (hL : Pol L) (hM : Pol M) {a b : Int} (ha : 0 < a) (hb : 0 < b) (h : ∀ i, a * L.getD i 0 = b * M.getD i 0) : L.length ≤ M.length := by
  rcases Nat.lt_or_ge M.length L.length with c | c
  · exfalso
    obtain ⟨n, hn⟩ : ∃ n, L.length = n + 1 := ⟨L.length - 1, by omega⟩
    have h1 := h n
    rw [getD_out (l := M) (by omega), Int.mul_zero] at h1
    rcases Int.mul_eq_zero.mp h1 with z | z
    · omega
    · exact getD_pol hL hn z
  · exact c
theorem Rm.uniq {P B L M : List Int} (hB : Pol B) (h : Rm P B L) (k : Rm P B M) : prim L = prim M := by
  obtain ⟨l1, l2, g, q, N, g0, qz, qe⟩ := h
  obtain ⟨m1, m2, c, r, R, c0, rz, re⟩ := k
  obtain ⟨m, hm⟩ : ∃ m, B.length = m + 1 := ⟨B.length - 1, by omega⟩
  rw [hm] at qe re l2 m2
  have hw : ∀ i, cfF (fun j => B.getD j 0) (fun j => c * q j + (-g) * r j) (m + 1) i = g * M.getD i 0 - c * L.getD i 0 := by
    intro i
    rw [cfF_lin]
    have h1 := qe i
    have h2 := re i
    have h3 : c * (g * P.getD i 0) = g * (c * P.getD i 0) := Int.mul_left_comm _ _ _
    rw [h1, h2, Int.mul_add, Int.mul_add] at h3
    rw [Int.neg_mul]
    omega
  have hz : ∀ i, c * q i + (-g) * r i = 0 := by
    refine cfF_null (f := fun j => B.getD j 0) (g := fun j => c * q j + (-g) * r j) (m := m) (getD_pol hB hm) (fun i hi => ?_) (max N R) (fun i hi => ?_)
    · rw [hw i, getD_out (l := M) (by omega), getD_out (l := L) (by omega), Int.mul_zero, Int.mul_zero]
      rfl
    · show c * q i + (-g) * r i = 0
      rw [qz i (by omega), rz i (by omega), Int.mul_zero, Int.mul_zero]
      rfl
  have he : ∀ i, g * M.getD i 0 = c * L.getD i 0 := by
    intro i
    have := hw i
    rw [cfF_zero _ _ _ _ fun j _ _ => by rw [hz]; exact Int.mul_zero _] at this
    omega
  have hlen : L.length = M.length := Nat.le_antisymm (pol_len l1 m1 c0 g0 fun i => (he i).symm) (pol_len m1 l1 g0 c0 he)
  refine prim_eq (a := c.toNat) (b := g.toNat) (by omega) (by omega) ?_
  refine List.ext_getElem (by rw [List.length_map, List.length_map, hlen]) fun i h1 h2 => ?_
  rw [List.length_map] at h1 h2
  rw [List.getElem_map, List.getElem_map]
  have t := he i
  rw [getD_at (List.getElem?_eq_getElem h1), getD_at (List.getElem?_eq_getElem h2)] at t
  have ec : ((c.toNat : Nat) : Int) = c := Int.toNat_of_nonneg (by omega)
  have eg : ((g.toNat : Nat) : Int) = g := Int.toNat_of_nonneg (by omega)
  exact Eq.trans (congrArg (fun z => z * L[i]) ec) (Eq.trans t.symm (congrArg (fun z => z * M[i]) eg.symm))
theorem trm_getD (ns : List Int) (i : Nat) : (trm ns).getD i 0 = ns.getD i 0 := by
  unfold trm
  by_cases h : i < ns.length - tz ns
  · rw [List.getD_eq_getElem?_getD, List.getD_eq_getElem?_getD, List.getElem?_take, if_pos h]
  · rw [getD_out (by rw [List.length_take]; omega)]
    by_cases h2 : i < ns.length
    · have := tz_in ns (ns.length - 1 - i) (by omega)
      rw [show ns.length - 1 - (ns.length - 1 - i) = i by omega] at this
      rw [getD_at this]
    · rw [getD_out (by omega)]
end V2


namespace V2
def Rs (P B L : List Int) : Prop := ∃ (g : Int) (q : Nat → Int) (N : Nat), 0 < g ∧ (∀ i, N ≤ i → q i = 0) ∧ ∀ i, g * P.getD i 0 = cfF (fun j => B.getD j 0) q B.length i + L.getD i 0
theorem Rs.self (P B : List Int) : Rs P B P := ⟨1, fun _ => 0, 0, by decide, fun _ _ => rfl, fun i => by
  rw [cfF_zero _ _ _ _ fun _ _ _ => Int.mul_zero _, Int.one_mul, Int.zero_add]⟩
def tkn (B : List Int) (off : Nat) (t : Int) : List Int := List.replicate off 0 ++ B.map fun x => t * x
theorem tkn_getD (B : List Int) (off : Nat) (t : Int) (k : Nat) : (tkn B off t).getD k 0 = if off ≤ k then t * B.getD (k - off) 0 else 0 := by
  unfold tkn
  rw [(List.getD_eq_getElem?_getD)]
  by_cases h : off ≤ k
  · rw [if_pos h, List.getElem?_append_right (by rw [List.length_replicate]; exact h), List.length_replicate, List.getElem?_map, List.getD_eq_getElem?_getD]
    cases B[k - off]? with
    | none => show (0 : Int) = t * 0; rw [Int.mul_zero]
    | some x => rfl
  · rw [if_neg h, List.getElem?_append_left (by rw [List.length_replicate]; omega), List.getElem?_replicate, if_pos (by omega)]
    rfl
theorem tkn_len (B : List Int) (off : Nat) (t : Int) : (tkn B off t).length = off + B.length := by
  unfold tkn; rw [List.length_append, List.length_replicate, List.length_map]
/-- one step of the program -/
def stepL (B L : List Int) (g t : Int) : List Int := vec L.length fun k => g * L.getD k 0 - (tkn B (L.length - B.length) t).getD k 0
theorem vec_getD (N : Nat) (f : Nat → Int) (i : Nat) : (vec N f).getD i 0 = if i < N then f i else 0 := by
  by_cases h : i < N
  · rw [if_pos h, getD_at (vec_get h)]
  · rw [if_neg h, getD_out (by rw [vec_len]; omega)]
theorem trm_short {ns : List Int} {n : Nat} (hn : ns.length = n + 1) (h : ns.getD n 0 = 0) : (trm ns).length < ns.length := by
  rcases Nat.eq_zero_or_pos (tz ns) with z | z
  · exfalso
    obtain ⟨x, h1, h2⟩ := tz_at ns (by omega)
    rw [z, hn] at h1
    have h1 : ns[n]? = some x := h1
    rw [getD_at h1] at h
    exact h2 h
  · unfold trm
    rw [List.length_take]
    omega
theorem rs_step {P B L : List Int} (h0 : B ≠ []) (h : Rs P B L) (hl : B.length ≤ L.length) {g t : Int} (hg : 0 < g) (ht : g * L.getD (L.length - 1) 0 = t * B.getD (B.length - 1) 0) : Rs P B (trm (stepL B L g t)) ∧ (trm (stepL B L g t)).length < L.length := by
  have lb : 0 < B.length := List.length_pos_iff.mpr h0
  constructor
  · obtain ⟨c, q, N, c0, qz, qe⟩ := h
    refine ⟨g * c, fun j => g * q j + t * dlt (L.length - B.length) j, max N (L.length - B.length + 1), Int.mul_pos hg c0, fun i hi => ?_, fun i => ?_⟩
    · show g * q i + t * dlt (L.length - B.length) i = 0
      unfold dlt
      rw [qz i (by omega), if_neg (by omega), Int.mul_zero, Int.mul_zero]
      rfl
    · rw [Int.mul_assoc, qe i, cfF_lin, cfF_dlt, trm_getD, Int.mul_add]
      unfold stepL
      rw [vec_getD, tkn_getD]
      have hb : (if L.length - B.length ≤ i ∧ i - (L.length - B.length) < B.length then B.getD (i - (L.length - B.length)) 0 else 0) = if L.length - B.length ≤ i then B.getD (i - (L.length - B.length)) 0 else 0 := by
        by_cases h1 : L.length - B.length ≤ i
        · rw [if_pos h1]
          by_cases h2 : i - (L.length - B.length) < B.length
          · rw [if_pos ⟨h1, h2⟩]
          · rw [if_neg (by omega), getD_out (by omega)]
        · rw [if_neg h1, if_neg (by omega)]
      rw [hb]
      by_cases h3 : i < L.length
      · rw [if_pos h3]
        by_cases h1 : L.length - B.length ≤ i
        · rw [if_pos h1, if_pos h1]; omega
        · rw [if_neg h1, if_neg h1, Int.mul_zero]; omega
      · rw [if_neg h3, getD_out (l := L) (by omega), if_pos (by omega), getD_out (l := B) (by omega), Int.mul_zero, Int.mul_zero]
        omega
  · have := trm_short (ns := stepL B L g t) (n := L.length - 1) (by unfold stepL; rw [vec_len]; omega) (by
      unfold stepL
      rw [vec_getD, if_pos (by omega), tkn_getD, if_pos (by omega), ht, show L.length - 1 - (L.length - B.length) = B.length - 1 by omega]
      omega)
    unfold stepL at this ⊢
    rw [vec_len] at this
    exact this
/-- grow and take -/
theorem grow_take {t d : Int} (hd : d ≠ 0) : ∃ f : Int, ((Nat.gcd t.natAbs d.natAbs : Nat) : Int) = f ∧ 0 < f ∧ f.natAbs ≤ d.natAbs ∧ 0 < (if d < 0 then -d else d) / f ∧ ((if d < 0 then -d else d) / f).natAbs ≤ d.natAbs ∧ (t / f).natAbs ≤ t.natAbs ∧
    (if d < 0 then -d else d) / f * t = (if d < 0 then -(t / f) else t / f) * d := by
  refine ⟨_, rfl, ?_⟩
  have g0 : 0 < Nat.gcd t.natAbs d.natAbs := Nat.gcd_pos_of_pos_right _ (by omega)
  obtain ⟨p, hp⟩ : ((Nat.gcd t.natAbs d.natAbs : Nat) : Int) ∣ t := Int.ofNat_dvd_left.mpr (Nat.gcd_dvd_left _ _)
  obtain ⟨r, hr⟩ : ((Nat.gcd t.natAbs d.natAbs : Nat) : Int) ∣ d := Int.ofNat_dvd_left.mpr (Nat.gcd_dvd_right _ _)
  have gl : Nat.gcd t.natAbs d.natAbs ≤ d.natAbs := Nat.gcd_le_right _ (by omega)
  generalize Nat.gcd t.natAbs d.natAbs = f at *
  have f0 : (0 : Int) < (f : Int) := by omega
  have e1 : t / (f : Int) = p := by rw [hp, Int.mul_ediv_cancel_left _ (by omega)]
  have e2 : (if d < 0 then -d else d) / (f : Int) = if d < 0 then -r else r := by
    split
    · rw [hr, ← Int.mul_neg, Int.mul_ediv_cancel_left _ (by omega)]
    · rw [hr, Int.mul_ediv_cancel_left _ (by omega)]
  have ab : ∀ x : Int, x.natAbs ≤ ((f : Int) * x).natAbs := fun x => by
    rw [Int.natAbs_mul, Int.natAbs_natCast]
    exact Nat.le_mul_of_pos_left _ g0
  have r1 : d < 0 → r < 0 := fun c => by
    rcases Int.lt_or_le r 0 with z | z
    · exact z
    · have := Int.mul_nonneg (Int.le_of_lt f0) z
      omega
  have r2 : ¬ d < 0 → 0 < r := fun c => by
    rcases Int.lt_or_le 0 r with z | z
    · exact z
    · have := Int.mul_nonpos_of_nonneg_of_nonpos (Int.le_of_lt f0) z
      omega
  rw [e1, e2]
  refine ⟨f0, by omega, ?_, ?_, ?_, ?_⟩
  · split
    · have := r1 ‹_›; omega
    · exact r2 ‹_›
  · have := ab r
    rw [← hr] at this
    split <;> omega
  · have := ab p
    rw [← hp] at this
    exact this
  · split
    · conv => lhs; rw [hp]
      conv => rhs; rw [hr]
      rw [Int.neg_mul, Int.neg_mul, Int.mul_left_comm, Int.mul_left_comm p, Int.mul_comm r p]
    · conv => lhs; rw [hp]
      conv => rhs; rw [hr]
      rw [Int.mul_left_comm, Int.mul_left_comm p, Int.mul_comm r p]
end V2


namespace V2
/-! ## rows of rests: mathematics -/
def Bs (n : Nat) (ns : List Int) : Prop := ∀ x ∈ ns, x.natAbs < 2 ^ n
theorem Bs.le {n m : Nat} {ns : List Int} (h : Bs n ns) (l : n ≤ m) : Bs m ns := fun x hx => Nat.lt_of_lt_of_le (h x hx) (Nat.pow_le_pow_right (by decide) l)
theorem Bs.at_ {n : Nat} {ns : List Int} (h : Bs n ns) (i : Nat) : (ns.getD i 0).natAbs < 2 ^ n := by
  rw [List.getD_eq_getElem?_getD]
  cases e : ns[i]? with
  | none => exact Nat.pow_pos (by decide)
  | some x => exact h x (List.mem_of_getElem? e)
theorem bs_mul {i j : Int} {n m : Nat} (h1 : i.natAbs < 2 ^ n) (h2 : j.natAbs < 2 ^ m) : (i * j).natAbs < 2 ^ (n + m) := by
  rw [Int.natAbs_mul, Nat.pow_add]
  exact Nat.mul_lt_mul'' h1 h2
theorem vec_in {N : Nat} {f : Nat → Int} {x : Int} (h : x ∈ vec N f) : ∃ i, i < N ∧ x = f i := by
  unfold vec at h
  obtain ⟨i, hi, e⟩ := List.mem_map.mp h
  exact ⟨i, List.mem_range.mp hi, e.symm⟩
theorem bs_trm {n : Nat} {ns : List Int} (h : Bs n ns) : Bs n (trm ns) := fun x hx => h x (trm_mem hx)
theorem bs_step {B L : List Int} {g t : Int} {b c : Nat} (hL : Bs c L) (hg : g.natAbs < 2 ^ b) (ht : t.natAbs < 2 ^ c) (hB : Bs b B) : Bs (c + (b + 1)) (trm (stepL B L g t)) := by
  intro x hx
  obtain ⟨i, _, rfl⟩ := vec_in (trm_mem hx)
  have h2 := bs_mul hg (hL.at_ i)
  have h1 : ((tkn B (L.length - B.length) t).getD i 0).natAbs < 2 ^ (c + b) := by
    rw [tkn_getD]
    split
    · exact bs_mul ht (hB.at_ _)
    · exact Nat.pow_pos (by decide)
  have e : (2 : Nat) ^ (c + (b + 1)) = 2 ^ (c + b) + 2 ^ (c + b) := by
    rw [show c + (b + 1) = c + b + 1 from rfl, Nat.pow_succ]; omega
  rw [Nat.add_comm b c] at h2
  rw [e]
  omega
theorem last_at {ns : List Int} (h : ns ≠ []) : ∃ x, ns[ns.length - 1]? = some x ∧ x ∈ ns := by
  have l := List.length_pos_iff.mpr h
  exact ⟨ns[ns.length - 1]'(by omega), List.getElem?_eq_getElem (by omega), List.getElem_mem _⟩
theorem rem_loop {P B : List Int} {b : Nat} (hB : Pol B) (h0 : B ≠ []) (bb : Bs b B) : ∀ (n : Nat) (L : List Int) (c : Nat), L.length ≤ n → Pol L → Rs P B L → Bs c L → ∃ M, Rm P B M ∧ Bs (c + (L.length + 1 - B.length) * (b + 1)) M := by
  intro n
  have lb := List.length_pos_iff.mpr h0
  induction n with
  | zero =>
    intro L c hl hp hR hb
    exact ⟨L, ⟨hp, by omega, hR⟩, hb.le (by omega)⟩
  | succ n ih =>
    intro L c hl hp hR hb
    by_cases h : L.length < B.length
    · exact ⟨L, ⟨hp, h, hR⟩, hb.le (by omega)⟩
    · have L0 : L ≠ [] := fun z => by
        rw [z] at h
        exact h lb
      obtain ⟨tp, htp, htm⟩ := last_at L0
      obtain ⟨ld, hld, hlm⟩ := last_at h0
      have ld0 := hB ld hld
      obtain ⟨f, hf, f0, fb, g0, gb, tb, ge⟩ := grow_take (t := tp) (d := ld) ld0
      have ge' : (if ld < 0 then -ld else ld) / f * L.getD (L.length - 1) 0 = (if ld < 0 then -(tp / f) else tp / f) * B.getD (B.length - 1) 0 := by
        rw [getD_at htp, getD_at hld]
        exact ge
      obtain ⟨r1, r2⟩ := rs_step h0 hR (by omega) g0 ge'
      have hg : ((if ld < 0 then -ld else ld) / f).natAbs < 2 ^ b := Nat.lt_of_le_of_lt gb (bb ld hlm)
      have ht : (if ld < 0 then -(tp / f) else tp / f).natAbs < 2 ^ c := by
        have h1 := hb tp htm
        have h2 : (if ld < 0 then -(tp / f) else tp / f).natAbs = (tp / f).natAbs := by split <;> omega
        omega
      have hs := bs_step hb hg ht bb
      obtain ⟨M, hM, bM⟩ := ih _ (c + (b + 1)) (by omega) (pol_trm _) r1 hs
      refine ⟨M, hM, bM.le ?_⟩
      generalize (trm (stepL B L ((if ld < 0 then -ld else ld) / f) (if ld < 0 then -(tp / f) else tp / f))).length = k at r2
      have e1 : (k + 1 - B.length) + 1 ≤ L.length + 1 - B.length := by omega
      have e2 := Nat.mul_le_mul_right (b + 1) e1
      rw [Nat.succ_mul] at e2
      omega
theorem rem_ex {A B : List Int} {a b : Nat} (hA : Pol A) (hB : Pol B) (h0 : B ≠ []) (ba : Bs a A) (bb : Bs b B) : ∃ M, Rm A B M ∧ Bs (a + (A.length + 1 - B.length) * (b + 1)) M :=
  rem_loop hB h0 bb A.length A a (Nat.le_refl _) hA (Rs.self _ _) ba
open Classical in
/-- some rest, if there is one -/
noncomputable def remF (A B : List Int) : List Int := if h : ∃ L, Rm A B L then h.choose else []
theorem remF_rm {A B L : List Int} (h : Rm A B L) : Rm A B (remF A B) := by
  have hx : ∃ L, Rm A B L := ⟨L, h⟩
  unfold remF
  rw [dif_pos hx]
  exact hx.choose_spec
def negL (ns : List Int) : List Int := ns.map fun x => -x
/-- the next one of a row -/
noncomputable def nx (A B : List Int) : List Int := negL (prim (remF A B))
theorem nx_eq {A B L : List Int} (hB : Pol B) (h : Rm A B L) : nx A B = negL (prim L) := by
  unfold nx
  rw [(remF_rm h).uniq hB h]
theorem prim_length (ns : List Int) : (prim ns).length = ns.length := by unfold prim; rw [List.length_map]
theorem negL_length (ns : List Int) : (negL ns).length = ns.length := by unfold negL; rw [List.length_map]
theorem nx_len {A B : List Int} (h : B ≠ []) : (nx A B).length < B.length := by
  unfold nx
  rw [negL_length, prim_length]
  by_cases hx : ∃ L, Rm A B L
  · obtain ⟨L, hL⟩ := hx
    exact (remF_rm hL).2.1
  · unfold remF
    rw [dif_neg hx]
    exact List.length_pos_iff.mpr h
theorem bs_prim {L : List Int} {B : Nat} (h : Bs B L) : Bs B (prim L) := by
  intro y hy
  unfold prim at hy
  obtain ⟨x, hx, rfl⟩ := List.mem_map.mp hy
  obtain ⟨p, hp⟩ := cont_dvd hx
  rcases Nat.eq_zero_or_pos (cont L) with z | z
  · rw [z]
    show (x / 0).natAbs < 2 ^ B
    rw [Int.ediv_zero]
    exact Nat.pow_pos (by decide)
  · have e : x / (cont L : Int) = p := by
      conv => lhs; rw [hp]
      rw [Int.mul_ediv_cancel_left _ (by omega)]
    rw [e]
    have h1 := h x hx
    rw [hp, Int.natAbs_mul, Int.natAbs_natCast] at h1
    exact Nat.lt_of_le_of_lt (Nat.le_mul_of_pos_left _ z) h1
theorem bs_neg {L : List Int} {B : Nat} (h : Bs B L) : Bs B (negL L) := by
  intro y hy
  unfold negL at hy
  obtain ⟨x, hx, rfl⟩ := List.mem_map.mp hy
  rw [Int.natAbs_neg]
  exact h x hx
theorem pol_negL {L : List Int} (h : Pol L) : Pol (negL L) := by
  intro y hy
  unfold negL at hy
  rw [List.length_map, List.getElem?_map] at hy
  cases e : L[L.length - 1]? with
  | none => rw [e] at hy; cases hy
  | some x =>
    rw [e] at hy
    have := h x e
    have hy : -x = y := Option.some.inj hy
    omega
theorem pol_prim {L : List Int} (h : Pol L) : Pol (prim L) := by
  intro y hy
  unfold prim at hy
  rw [List.length_map, List.getElem?_map] at hy
  cases e : L[L.length - 1]? with
  | none => rw [e] at hy; cases hy
  | some x =>
    rw [e] at hy
    have hx := h x e
    have hy : x / (cont L : Int) = y := Option.some.inj hy
    have hm : x ∈ L := List.mem_of_getElem? e
    obtain ⟨p, hp⟩ := cont_dvd hm
    intro y0
    have c0 : (cont L : Int) ≠ 0 := fun z => by
      rw [z, Int.zero_mul] at hp
      exact hx hp
    have : x / (cont L : Int) = p := by
      conv => lhs; rw [hp]
      rw [Int.mul_ediv_cancel_left _ c0]
    rw [this, y0] at hy
    rw [hy, Int.mul_zero] at hp
    exact hx hp
theorem prim_one {x : Int} (h : x ≠ 0) : Bs 1 (prim [x]) := by
  intro y hy
  have e : prim [x] = [x / (x.natAbs : Int)] := by
    unfold prim cont cont
    rw [Nat.gcd_zero_right]
    rfl
  rw [e] at hy
  obtain rfl := List.mem_singleton.mp hy
  rcases Int.lt_or_gt_of_ne h with c | c
  · have e1 : (x.natAbs : Int) = -x := by omega
    rw [e1, Int.ediv_neg, Int.ediv_self h]
    decide
  · have e1 : (x.natAbs : Int) = x := by omega
    rw [e1, Int.ediv_self h]
    decide
/-! ### the slope -/
def slopeL (p : List Int) : List Int := vec (p.length - 1) fun k => ((k + 1 : Nat) : Int) * p.getD (k + 1) 0
theorem slopeL_len (p : List Int) : (slopeL p).length = p.length - 1 := vec_len _ _
theorem slopeL_getD (p : List Int) (i : Nat) : (slopeL p).getD i 0 = ((i + 1 : Nat) : Int) * p.getD (i + 1) 0 := by
  unfold slopeL
  rw [vec_getD]
  split
  · rfl
  · rw [getD_out (l := p) (by omega), Int.mul_zero]
theorem pol_slope {p : List Int} (h : Pol p) : Pol (slopeL p) := by
  intro x hx
  rw [slopeL_len] at hx
  have hl : p.length - 1 - 1 < p.length - 1 := by
    have := (List.getElem?_eq_some_iff.mp hx).1
    rwa [slopeL_len] at this
  unfold slopeL at hx
  rw [vec_get hl] at hx
  have hx := Option.some.inj hx
  have e : p[p.length - 1]? = some (p[p.length - 1]'(by omega)) := List.getElem?_eq_getElem (by omega)
  rw [show p.length - 1 - 1 + 1 = p.length - 1 by omega, getD_at e] at hx
  rw [← hx]
  exact Int.mul_ne_zero (by omega) (h _ e)
/-- a polynomial that may be passed: at most eight numbers to 10 ** 6 -/
def P6 (p : List Int) : Prop := Pol p ∧ p.length ≤ 8 ∧ ∀ x ∈ p, -1000000 ≤ x ∧ x ≤ 1000000
theorem P6.at_ {p : List Int} (h : P6 p) (i : Nat) : -1000000 ≤ p.getD i 0 ∧ p.getD i 0 ≤ 1000000 := by
  rw [List.getD_eq_getElem?_getD]
  cases e : p[i]? with
  | none => exact ⟨by decide, by decide⟩
  | some x => exact h.2.2 x (List.mem_of_getElem? e)
theorem small_mul {k : Nat} {x : Int} (hk : k ≤ 7) (h : -1000000 ≤ x ∧ x ≤ 1000000) : (((k : Nat) : Int) * x).natAbs < 2 ^ 23 := by
  rw [Int.natAbs_mul, Int.natAbs_natCast]
  have : k * x.natAbs ≤ 7 * 1000000 := Nat.mul_le_mul hk (by omega)
  have e : (2 : Nat) ^ 23 = 8388608 := by decide
  omega
theorem P6.slope {p : List Int} (h : P6 p) : Bs 23 (slopeL p) := by
  intro x hx
  obtain ⟨i, hi, rfl⟩ := vec_in hx
  have := h.2.1
  exact small_mul (by omega) (h.at_ _)
theorem P6.b20 {p : List Int} (h : P6 p) : Bs 20 p := fun x hx => by
  have := h.2.2 x hx
  have e : (2 : Nat) ^ 20 = 1048576 := (by decide)
  rw [e]; omega
/-- a first step for the rest by the slope -/
def firstL (p : List Int) : List Int := vec (p.length - 1) fun k => (((p.length - 1 - k : Nat) : Int)) * p.getD k 0
theorem first_rs {p : List Int} (h2 : 2 ≤ p.length) : Rs p (slopeL p) (firstL p) := by
  refine ⟨((p.length - 1 : Nat) : Int), dlt 1, 2, by omega, fun i hi => by unfold dlt; rw [if_neg (by omega)], fun i => ?_⟩
  rw [cfF_dlt, slopeL_len]
  unfold firstL
  rw [vec_getD]
  by_cases h1 : 1 ≤ i ∧ i - 1 < p.length - 1
  · rw [if_pos h1, slopeL_getD, show i - 1 + 1 = i by omega]
    by_cases h3 : i < p.length - 1
    · rw [if_pos h3, ← Int.add_mul]
      congr 1
      omega
    · rw [if_neg h3, Int.add_zero]
      congr 2
      omega
  · rw [if_neg h1]
    by_cases h3 : i < p.length - 1
    · rw [if_pos h3, Int.zero_add]
      congr 2
      omega
    · rw [if_neg h3, getD_out (l := p) (by omega), Int.mul_zero]
      rfl
theorem rs_trm {P B L : List Int} (h : Rs P B L) : Rs P B (trm L) := by
  obtain ⟨g, q, N, h1, h2, h3⟩ := h
  exact ⟨g, q, N, h1, h2, fun i => by rw [trm_getD]; exact h3 i⟩
theorem rem_first {p : List Int} (h : P6 p) (h2 : 2 ≤ p.length) : ∃ M, Rm p (slopeL p) M ∧ Bs 47 M := by
  have s0 : slopeL p ≠ [] := fun z => by
    have := slopeL_len p
    rw [z, List.length_nil] at this
    omega
  have fb : Bs 23 (trm (firstL p)) := bs_trm (by
    intro x hx
    obtain ⟨i, hi, rfl⟩ := vec_in hx
    have := h.2.1
    exact small_mul (by omega) (h.at_ _))
  obtain ⟨M, hM, bM⟩ := rem_loop (pol_slope h.1) s0 h.slope _ _ 23 (Nat.le_refl _) (pol_trm _) (rs_trm (first_rs h2)) fb
  refine ⟨M, hM, bM.le ?_⟩
  have l1 := trm_len (firstL p)
  have l2 : (firstL p).length = p.length - 1 := vec_len _ _
  rw [slopeL_len]
  have : (trm (firstL p)).length + 1 - (p.length - 1) ≤ 1 := by omega
  have := Nat.mul_le_mul_right (23 + 1) this
  omega
/-! ### the row -/
noncomputable def rowF : Nat → List Int → List Int → List (List Int)
  | 0, _, _ => []
  | n + 1, A, B => if B = [] then [] else B :: rowF n B (nx A B)
theorem rowF_ext : ∀ (n m : Nat) (A B : List Int), B.length ≤ n → B.length ≤ m → rowF n A B = rowF m A B
  | 0, 0, _, _, _, _ => rfl
  | 0, m + 1, A, B, h, _ => by
    have : B = [] := List.eq_nil_of_length_eq_zero (by omega)
    subst this
    rfl
  | n + 1, 0, A, B, _, h => by
    have : B = [] := List.eq_nil_of_length_eq_zero (by omega)
    subst this
    rfl
  | n + 1, m + 1, A, B, h1, h2 => by
    unfold rowF
    by_cases e : B = []
    · rw [if_pos e, if_pos e]
    · rw [if_neg e, if_neg e]
      have := nx_len (A := A) e
      rw [rowF_ext n m B (nx A B) (by omega) (by omega)]
noncomputable def rowT (A B : List Int) : List (List Int) := rowF B.length A B
theorem rowT_nil (A : List Int) : rowT A [] = [] := rfl
theorem rowT_cons {A B : List Int} (h : B ≠ []) : rowT A B = B :: rowT B (nx A B) := by
  have l := List.length_pos_iff.mpr h
  unfold rowT
  obtain ⟨n, hn⟩ : ∃ n, B.length = n + 1 := ⟨B.length - 1, by omega⟩
  rw [hn]
  show (if B = [] then [] else B :: rowF n B (nx A B)) = _
  rw [if_neg h]
  have := nx_len (A := A) h
  rw [rowF_ext n _ B (nx A B) (by omega) (Nat.le_refl _)]
theorem rowF_len : ∀ (n : Nat) (A B : List Int), (rowF n A B).length ≤ n
  | 0, _, _ => Nat.le_refl _
  | n + 1, A, B => by
    unfold rowF
    split
    · exact Nat.zero_le _
    · have := rowF_len n B (nx A B)
      simp only [List.length_cons]
      omega
noncomputable def rowL (p : List Int) : List (List Int) := p :: rowT p (slopeL p)
theorem rowL_len {p : List Int} (h : p ≠ []) : (rowL p).length ≤ p.length := by
  have l := List.length_pos_iff.mpr h
  unfold rowL rowT
  have := rowF_len (slopeL p).length p (slopeL p)
  rw [slopeL_len] at this ⊢
  simp only [List.length_cons]
  omega
/-- how many bits -/
def gam : Nat → Nat
  | 0 => 20
  | 1 => 23
  | 2 => 47
  | 3 => 119
  | 4 => 287
  | 5 => 695
  | 6 => 1679
  | _ => 4055
/-- two neighbours in a row -/
structure Nb (A B : List Int) : Prop where
  pa : Pol A
  pb : Pol B
  la : A.length ≤ 8
  lt : B.length < A.length
  ba : Bs (gam (8 - A.length)) A
  bb : Bs (gam (9 - A.length)) B
  b1 : B.length = 1 → Bs 23 B
  sm : Bs 1700 A
theorem gam_mono : ∀ i j : Nat, i ≤ j → gam i ≤ gam j := by
  have h1 : ∀ i, i < 9 → gam i ≤ 4055 := by decide
  have h2 : ∀ j, j < 8 → ∀ i, i ≤ j → gam i ≤ gam j := by decide
  intro i j h
  by_cases c : j < 8
  · exact h2 j c i h
  · have e : gam j = 4055 := by
      match j, c with
      | 0, c => exact absurd (by decide) c
      | 1, c => exact absurd (by decide) c
      | 2, c => exact absurd (by decide) c
      | 3, c => exact absurd (by decide) c
      | 4, c => exact absurd (by decide) c
      | 5, c => exact absurd (by decide) c
      | 6, c => exact absurd (by decide) c
      | n + 7, _ => rfl
    rw [e]
    by_cases c2 : i < 9
    · exact h1 i c2
    · have : gam i = 4055 := by
        match i, c2 with
        | n + 7, _ => rfl
        | 0, c => exact absurd (by decide) c
        | 1, c => exact absurd (by decide) c
        | 2, c => exact absurd (by decide) c
        | 3, c => exact absurd (by decide) c
        | 4, c => exact absurd (by decide) c
        | 5, c => exact absurd (by decide) c
        | 6, c => exact absurd (by decide) c
      omega
theorem gam_step : ∀ a, a < 8 → ∀ b, b < a → 2 ≤ b → gam (8 - a) + (a + 1 - b) * (gam (9 - a) + 1) ≤ gam (9 - b) := by decide
theorem gam_room : ∀ a, a < 9 → ∀ b, b < a → 2 ≤ b → gam (8 - a) + (a + 1 - b) * (2 * gam (9 - a) + 1) ≤ 8000 := by decide
theorem gam_room1 : ∀ a, a < 9 → 2 ≤ a → gam (8 - a) + a * 47 ≤ 8000 := by decide
theorem Nb.smb {A B : List Int} (h : Nb A B) : Bs 1700 B := by
  by_cases c : B.length = 1
  · exact (h.b1 c).le (by decide)
  · by_cases c2 : B.length = 0
    · have : B = [] := List.eq_nil_of_length_eq_zero c2
      subst this
      intro x hx
      cases hx
    · refine h.bb.le ?_
      have := h.lt
      have := gam_mono (9 - A.length) 6 (by omega)
      have : gam 6 = 1679 := rfl
      omega
/-- bits of both, and the room that a rest of them takes -/
theorem Nb.room {A B : List Int} (h : Nb A B) (h0 : B ≠ []) : ∃ bx by_ : Nat, Bs bx A ∧ Bs by_ B ∧ bx + (A.length + 1 - B.length) * (2 * by_ + 1) ≤ 8000 ∧ by_ ≤ 4055 := by
  have l := List.length_pos_iff.mpr h0
  have hl := h.lt
  have ha := h.la
  by_cases c : B.length = 1
  · refine ⟨_, 23, h.ba, h.b1 c, ?_, by decide⟩
    have := gam_room1 A.length (by omega) (by omega)
    rw [c]
    simp only [Nat.add_sub_cancel]
    omega
  · refine ⟨_, _, h.ba, h.bb, ?_, ?_⟩
    · exact gam_room A.length (by omega) B.length (by omega) (by omega)
    · exact gam_mono _ 7 (by omega)
theorem pol_one {L : List Int} (h : Pol L) (hl : L.length = 1) : ∃ x, L = [x] ∧ x ≠ 0 := by
  match L, hl with
  | [x], _ => exact ⟨x, rfl, h x rfl⟩
theorem nx_small {A B M : List Int} {m : Nat} (hB : Pol B) (hM : Rm A B M) (bM : Bs m M) : Pol (nx A B) ∧ Bs m (nx A B) ∧ ((nx A B).length = 1 → Bs 23 (nx A B)) := by
  rw [nx_eq hB hM]
  refine ⟨pol_negL (pol_prim hM.1), bs_neg (bs_prim bM), fun h => ?_⟩
  rw [negL_length, prim_length] at h
  obtain ⟨x, rfl, hx⟩ := pol_one hM.1 h
  exact (bs_neg (prim_one hx)).le (by decide)
theorem nb_first {p : List Int} (h : P6 p) (h0 : p ≠ []) : Nb p (slopeL p) where
  pa := h.1
  pb := pol_slope h.1
  la := h.2.1
  lt := by
    have := List.length_pos_iff.mpr h0
    rw [slopeL_len]
    omega
  ba := h.b20.le (gam_mono 0 _ (Nat.zero_le _))
  bb := h.slope.le (gam_mono 1 _ (by have := h.2.1; omega))
  b1 := fun _ => h.slope
  sm := h.b20.le (by decide)
theorem nb_second {p : List Int} (h : P6 p) (s0 : slopeL p ≠ []) : Nb (slopeL p) (nx p (slopeL p)) := by
  have l := List.length_pos_iff.mpr s0
  have sl := slopeL_len p
  obtain ⟨M, hM, bM⟩ := rem_first h (by omega)
  obtain ⟨n1, n2, n3⟩ := nx_small (pol_slope h.1) hM bM
  have h8 := h.2.1
  exact {
    pa := pol_slope h.1
    pb := n1
    la := by omega
    lt := nx_len s0
    ba := h.slope.le (gam_mono 1 _ (by omega))
    bb := n2.le (gam_mono 2 _ (by omega))
    b1 := n3
    sm := h.slope.le (by decide) }
theorem nb_next {A B : List Int} (h : Nb A B) (h7 : A.length ≤ 7) (h0 : B ≠ []) : Nb B (nx A B) := by
  have l := List.length_pos_iff.mpr h0
  have hl := h.lt
  obtain ⟨M, hM, bM⟩ := rem_ex h.pa h.pb h0 h.ba h.bb
  obtain ⟨n1, n2, n3⟩ := nx_small h.pb hM bM
  refine { pa := h.pb, pb := n1, la := by omega, lt := nx_len h0, ba := h.bb.le (gam_mono _ _ (by omega)), bb := ?_, b1 := n3, sm := h.smb }
  by_cases c : B.length = 1
  · have := nx_len (A := A) h0
    have : nx A B = [] := List.eq_nil_of_length_eq_zero (by omega)
    rw [this]
    intro x hx
    cases hx
  · exact n2.le (gam_step A.length (by omega) B.length (by omega) (by omega))
/-- where a row of p stands -/
structure Wr (p : List Int) (pre : List (List Int)) (A B : List Int) : Prop where
  nb : Nb A B
  hd : (A = p ∧ B = slopeL p) ∨ A.length ≤ 7
  all : pre ++ A :: rowT A B = rowL p
theorem Wr.start {p : List Int} (h : P6 p) (h0 : p ≠ []) : Wr p [] p (slopeL p) := ⟨nb_first h h0, .inl ⟨rfl, rfl⟩, rfl⟩
theorem Wr.next {p : List Int} {pre : List (List Int)} {A B : List Int} (hp : P6 p) (h : Wr p pre A B) (h0 : B ≠ []) : Wr p (pre ++ [A]) B (nx A B) := by
  obtain ⟨h1, h2, h3⟩ := h
  refine ⟨?_, .inr (by have := h1.la; have := h1.lt; omega), ?_⟩
  · rcases h2 with ⟨rfl, rfl⟩ | h2
    · exact nb_second hp h0
    · exact nb_next h1 h2 h0
  · rw [← h3, rowT_cons h0, List.append_assoc]
    rfl
theorem Wr.done {p : List Int} {pre : List (List Int)} {A : List Int} (h : Wr p pre A []) : pre ++ [A] = rowL p := by
  rw [← h.all, rowT_nil]
theorem Wr.one {p : List Int} {pre : List (List Int)} {A B : List Int} (h : Wr p pre A B) (h1 : B.length = 1) : pre ++ [A] ++ [B] = rowL p := by
  have h0 : B ≠ [] := fun z => by rw [z] at h1; cases h1
  have : nx A B = [] := List.eq_nil_of_length_eq_zero (by have := nx_len (A := A) h0; omega)
  rw [← h.all, rowT_cons h0, this, rowT_nil, List.append_assoc]
  rfl
theorem Wr.pre_len {p : List Int} {pre : List (List Int)} {A B : List Int} (hp : P6 p) (h0 : p ≠ []) (h : Wr p pre A B) : pre.length ≤ 7 := by
  have h1 := rowL_len h0
  rw [← h.all] at h1
  have := hp.2.1
  simp only [List.length_append, List.length_cons] at h1
  omega
/-- what is known of each one in a row -/
def Rw5 (R : List Int) : Prop := Pol R ∧ R ≠ [] ∧ R.length ≤ 8 ∧ Bs 1700 R
theorem rowF_ok : ∀ (n : Nat) (A B : List Int), Nb A B → A.length ≤ 7 → ∀ R ∈ rowF n A B, Rw5 R
  | 0, _, _, _, _, R, h => by cases h
  | n + 1, A, B, hn, h7, R, h => by
    unfold rowF at h
    by_cases e : B = []
    · rw [if_pos e] at h
      cases h
    · rw [if_neg e] at h
      rcases List.mem_cons.mp h with rfl | h
      · exact ⟨hn.pb, e, by have := hn.lt; omega, hn.smb⟩
      · exact rowF_ok n B (nx A B) (nb_next hn h7 e) (by have := hn.lt; omega) R h
theorem rowL_ok {p : List Int} (h : P6 p) (h0 : p ≠ []) : ∀ R ∈ rowL p, Rw5 R := by
  intro R hR
  have hl := List.length_pos_iff.mpr h0
  rcases List.mem_cons.mp hR with rfl | hR
  · exact ⟨h.1, h0, h.2.1, h.b20.le (by decide)⟩
  · by_cases e : slopeL p = []
    · rw [e] at hR
      rw [rowT_nil] at hR
      cases hR
    · rw [rowT_cons e] at hR
      have sl := slopeL_len p
      have h8 := h.2.1
      rcases List.mem_cons.mp hR with rfl | hR
      · exact ⟨pol_slope h.1, e, by omega, h.slope.le (by decide)⟩
      · exact rowF_ok _ _ _ (nb_second h e) (by omega) R hR
end V2


namespace V2
/-! ## turns of signs: mathematics -/
def sgn (x : Int) : Int := if x = 0 then 0 else if x > 0 then 1 else -1
theorem sgn_law (x : Int) : (if decide (x > 0) = true then (1 : Int) else 0) - (if decide (x < 0) = true then (1 : Int) else 0) = sgn x := by
  unfold sgn
  rcases Int.lt_trichotomy x 0 with h | h | h
  · rw [if_neg (c := decide (x > 0) = true) (by rw [decide_eq_true_eq]; omega), if_pos (decide_eq_true h), if_neg (by omega), if_neg (by omega)]
    rfl
  · subst h
    rfl
  · rw [if_pos (decide_eq_true h), if_neg (c := decide (x < 0) = true) (by rw [decide_eq_true_eq]; omega), if_neg (by omega), if_pos h]
    rfl
theorem sgn_zero {x : Int} : sgn x = 0 ↔ x = 0 := by
  unfold sgn
  split
  · simp [*]
  · split <;> simp [*]
theorem sgn_val (x : Int) : sgn x = 0 ∨ sgn x = 1 ∨ sgn x = -1 := by
  unfold sgn
  split
  · exact .inl rfl
  · split
    · exact .inr (.inl rfl)
    · exact .inr (.inr rfl)
theorem sgn_mul {x g : Int} (h : 0 < g) : sgn (x * g) = sgn x := by
  unfold sgn
  rcases Int.lt_trichotomy x 0 with c | c | c
  · have := Int.mul_neg_of_neg_of_pos c h
    rw [if_neg (by omega), if_neg (by omega), if_neg (by omega), if_neg (by omega)]
  · subst c
    rw [Int.zero_mul]
  · have := Int.mul_pos c h
    rw [if_neg (by omega), if_pos (by omega), if_neg (by omega), if_pos (by omega)]
theorem sgn_at {p q : Int} (hq : 0 < q) (R : List Int) : sgn (fr (hA p q R) (q ^ R.length)).1 = sgn (hT p q R) := by
  have e := (fr_mul (u := hA p q R) (qpos hq R.length)).1
  have g := gcd_pos (u := hA p q R) (qpos hq R.length)
  rw [← sgn_mul (x := (fr (hA p q R) (q ^ R.length)).1) g, ← e, ← hT_hA, sgn_mul hq]
/-- one step of the counting -/
def tst (st : Int × Nat) (s : Int) : Int × Nat := if s = 0 then st else (s, st.2 + if s = -st.1 then 1 else 0)
def trnL (ms : List Int) : Nat := (ms.foldl tst (0, 0)).2
def nz (ms : List Int) : List Int := ms.filter fun s => decide (s ≠ 0)
theorem fold_nz : ∀ (ms : List Int) (st : Int × Nat), (nz ms).foldl tst st = ms.foldl tst st
  | [], _ => rfl
  | s :: r, st => by
    unfold nz
    by_cases h : s = 0
    · rw [List.filter_cons_of_neg (by simp [h])]
      show (nz r).foldl tst st = r.foldl tst (tst st s)
      rw [fold_nz r, show tst st s = st by unfold tst; rw [if_pos h]]
    · rw [List.filter_cons_of_pos (by simp [h])]
      show (nz r).foldl tst (tst st s) = r.foldl tst (tst st s)
      rw [fold_nz r]
def flq (ms : List Int) (k : Nat) : Bool := decide (0 < k) && !decide (ms.getD k 0 = ms.getD (k - 1) 0)
def flpL (ms : List Int) : Nat := ((List.range ms.length).filter (flq ms)).length
theorem fold_take {ms : List Int} (h : ∀ s ∈ ms, s = 1 ∨ s = -1) : ∀ i, i ≤ ms.length → (ms.take i).foldl tst (0, 0) = ((if i = 0 then 0 else ms.getD (i - 1) 0), ((List.range i).filter (flq ms)).length)
  | 0, _ => rfl
  | i + 1, hi => by
    have e : ms[i]? = some ms[i] := List.getElem?_eq_getElem (by omega)
    have hm := h _ (List.getElem_mem (show i < ms.length by omega))
    rw [List.take_add_one, e, List.foldl_append, fold_take h i (by omega), List.range_succ, List.filter_append, List.length_append]
    have ei : ms.getD i 0 = ms[i] := getD_at e
    show tst _ ms[i] = _
    unfold tst
    rw [if_neg (by omega), if_neg (Nat.succ_ne_zero i), Nat.add_sub_cancel, ei]
    congr 2
    by_cases c : i = 0
    · subst c
      rw [if_pos rfl, if_neg (by omega), List.filter_cons_of_neg (by unfold flq; simp)]
      rfl
    · rw [if_neg c]
      have e1 : ms[i - 1]? = some (ms[i - 1]'(by omega)) := List.getElem?_eq_getElem (by omega)
      have hm1 := h _ (List.getElem_mem (show i - 1 < ms.length by omega))
      rw [getD_at e1]
      by_cases d : ms[i] = ms[i - 1]'(by omega)
      · rw [if_neg (by omega), List.filter_cons_of_neg (by unfold flq; rw [ei, getD_at e1]; simp [d])]
        rfl
      · rw [if_pos (by omega), List.filter_cons_of_pos (by unfold flq; rw [ei, getD_at e1]; simp [d]; omega)]
        rfl
theorem trn_flp {ms : List Int} (h : ∀ s ∈ ms, s = 0 ∨ s = 1 ∨ s = -1) : trnL ms = flpL (nz ms) := by
  have h2 : ∀ s ∈ nz ms, s = 1 ∨ s = -1 := by
    intro s hs
    obtain ⟨h3, h4⟩ := List.mem_filter.mp hs
    rcases h s h3 with c | c
    · simp [c] at h4
    · exact c
  have := fold_take h2 (nz ms).length (Nat.le_refl _)
  rw [List.take_length, fold_nz] at this
  unfold trnL flpL
  rw [this]
/-- what is asked of one polynomial: none for beyond all, else a fraction -/
def ldL (R : List Int) : Option (Int × Int) → Int
  | none => R.getD (R.length - 1) 0
  | some (p, q) => if p = 0 ∧ q = 1 then (nz R).getD 0 0 else hT p q R
theorem nz_last : ∀ {R : List Int} {x : Int}, R[R.length - 1]? = some x → x ≠ 0 → (nz R).length ≠ 0 ∧ (nz R)[(nz R).length - 1]? = some x := by
  intro R x h hx
  have h0 : R ≠ [] := fun z => by rw [z] at h; cases h
  have e := List.dropLast_concat_getLast h0
  have e1 : R.getLast h0 = x := by
    rw [← List.getLast?_eq_getElem?, List.getLast?_eq_some_getLast h0] at h
    exact Option.some.inj h
  rw [e1] at e
  have e2 : nz R = nz R.dropLast ++ [x] := by
    conv => lhs; rw [← e]
    unfold nz
    rw [List.filter_append, List.filter_cons_of_pos (by simp [hx])]
    rfl
  rw [e2]
  refine ⟨by simp, ?_⟩
  rw [List.length_append, List.getElem?_append_right (by show _ ≤ _ + 1 - 1; omega)]
  show [x][_ + 1 - 1 - _]? = _
  rw [Nat.add_sub_cancel, Nat.sub_self]
  rfl
theorem nz_pos {R : List Int} (h : Pol R) (h0 : R ≠ []) : (nz R).length ≠ 0 := by
  obtain ⟨x, hx, _⟩ := last_at h0
  exact (nz_last hx (h x hx)).1
/-! ## sizes of products -/
def rsm : Nat → (Nat → Nat) → Nat
  | 0, _ => 0
  | n + 1, f => rsm n f + f n
theorem rsm_le {f g : Nat → Nat} : ∀ n, (∀ i, i < n → f i ≤ g i) → rsm n f ≤ rsm n g
  | 0, _ => Nat.le_refl _
  | n + 1, h => Nat.add_le_add (rsm_le n fun i hi => h i (by omega)) (h n (by omega))
theorem rsm_add (f g : Nat → Nat) : ∀ n, rsm n (fun i => f i + g i) = rsm n f + rsm n g
  | 0 => rfl
  | n + 1 => by
    show rsm n _ + (f n + g n) = (rsm n f + f n) + (rsm n g + g n)
    rw [rsm_add f g n]; omega
theorem rsm_mul (c : Nat) (f : Nat → Nat) : ∀ n, rsm n (fun i => c * f i) = c * rsm n f
  | 0 => rfl
  | n + 1 => by
    show rsm n _ + c * f n = c * (rsm n f + f n)
    rw [rsm_mul c f n, Nat.mul_add]
theorem rsm_at {f : Nat → Nat} : ∀ {n i : Nat}, i < n → f i ≤ rsm n f
  | n + 1, i, h => by
    show f i ≤ rsm n f + f n
    by_cases c : i = n
    · subst c
      exact Nat.le_add_left _ _
    · exact Nat.le_trans (rsm_at (by omega)) (Nat.le_add_right _ _)
theorem rsm_shift (k : Nat) (g : Nat → Nat) : ∀ n, rsm n (fun i => if k ≤ i then g (i - k) else 0) = rsm (n - k) g
  | 0 => by rw [Nat.zero_sub]; rfl
  | n + 1 => by
    show rsm n _ + (if k ≤ n then g (n - k) else 0) = _
    rw [rsm_shift k g n]
    by_cases c : k ≤ n
    · rw [if_pos c, show n + 1 - k = (n - k) + 1 by omega]
      rfl
    · rw [if_neg c, show n + 1 - k = 0 by omega, show n - k = 0 by omega]
      rfl
def n1 (xs : List Int) : Nat := rsm xs.length fun i => (xs.getD i 0).natAbs
theorem n1_more (xs : List Int) : ∀ d, rsm (xs.length + d) (fun i => (xs.getD i 0).natAbs) = n1 xs
  | 0 => rfl
  | d + 1 => by
    show rsm (xs.length + d) _ + (xs.getD (xs.length + d) 0).natAbs = _
    rw [n1_more xs d, getD_out (by omega)]
    rfl
theorem n1_any (xs : List Int) (n : Nat) : rsm n (fun i => (xs.getD i 0).natAbs) ≤ n1 xs := by
  by_cases c : xs.length ≤ n
  · have := n1_more xs (n - xs.length)
    rw [show xs.length + (n - xs.length) = n by omega] at this
    omega
  · have key : ∀ d, rsm n (fun i => (xs.getD i 0).natAbs) ≤ rsm (n + d) (fun i => (xs.getD i 0).natAbs) := by
      intro d
      induction d with
      | zero => exact Nat.le_refl _
      | succ d ih => exact Nat.le_trans ih (Nat.le_add_right _ _)
    have := key (xs.length - n)
    rw [show n + (xs.length - n) = xs.length by omega] at this
    exact this
theorem n1_at (xs : List Int) (i : Nat) : (xs.getD i 0).natAbs ≤ n1 xs := by
  by_cases c : i < xs.length
  · exact rsm_at (f := fun i => (xs.getD i 0).natAbs) c
  · rw [getD_out (by omega)]
    exact Nat.zero_le _
theorem n1_cf (xs ys : List Int) (N : Nat) : ∀ k, rsm N (fun i => (cf xs ys k i).natAbs) ≤ rsm k (fun i => (xs.getD i 0).natAbs) * n1 ys
  | 0 => by
    have : rsm N (fun i => (cf xs ys 0 i).natAbs) ≤ rsm N (fun _ => 0 * 0) := rsm_le N fun i _ => by show (0 : Int).natAbs ≤ _; simp
    rw [rsm_mul] at this
    omega
  | k + 1 => by
    have h1 : rsm N (fun i => (cf xs ys (k + 1) i).natAbs) ≤ rsm N (fun i => (cf xs ys k i).natAbs + (xs.getD k 0).natAbs * (if k ≤ i then (ys.getD (i - k) 0).natAbs else 0)) := by
      refine rsm_le N fun i _ => ?_
      show (cf xs ys k i + (if k ≤ i then xs.getD k 0 * ys.getD (i - k) 0 else 0)).natAbs ≤ _
      split
      · rw [← Int.natAbs_mul]
        exact Int.natAbs_add_le _ _
      · rw [Int.add_zero, Nat.mul_zero]
        exact Nat.le_refl _
    rw [rsm_add, rsm_mul, rsm_shift k (fun j => (ys.getD j 0).natAbs)] at h1
    have h2 := n1_cf xs ys N k
    have h3 := Nat.mul_le_mul_left (xs.getD k 0).natAbs (n1_any ys (N - k))
    show _ ≤ (rsm k _ + (xs.getD k 0).natAbs) * n1 ys
    rw [Nat.add_mul]
    omega
theorem n1_vec (N : Nat) (f : Nat → Int) : n1 (vec N f) = rsm N fun i => (f i).natAbs := by
  unfold n1
  rw [vec_len]
  have : ∀ n, n ≤ N → rsm n (fun i => ((vec N f).getD i 0).natAbs) = rsm n fun i => (f i).natAbs := by
    intro n
    induction n with
    | zero => intro _; rfl
    | succ n ih =>
      intro h
      show rsm n _ + ((vec N f).getD n 0).natAbs = rsm n _ + (f n).natAbs
      rw [ih (by omega), vec_getD, if_pos (by omega)]
  exact this N (Nat.le_refl _)
theorem n1_trm (xs : List Int) : n1 (trm xs) ≤ n1 xs := by
  unfold n1
  have h : ∀ n, rsm n (fun i => ((trm xs).getD i 0).natAbs) = rsm n (fun i => (xs.getD i 0).natAbs) := by
    intro n
    induction n with
    | zero => rfl
    | succ n ih =>
      show rsm n _ + ((trm xs).getD n 0).natAbs = rsm n _ + (xs.getD n 0).natAbs
      rw [ih, trm_getD]
  rw [h]
  exact n1_any xs _
theorem n1_mul (xs ys : List Int) : n1 (trm (pmul xs ys)) ≤ n1 xs * n1 ys := by
  refine Nat.le_trans (n1_trm _) ?_
  unfold pmul
  rw [n1_vec]
  exact n1_cf xs ys _ xs.length
theorem n1_mem {xs : List Int} {x : Int} (h : x ∈ xs) : x.natAbs ≤ n1 xs := by
  obtain ⟨i, hi⟩ := List.getElem?_of_mem h
  have := n1_at xs i
  rw [getD_at hi] at this
  exact this
/-- the sum of what the numbers are without their signs -/
theorem n1_snoc {xs : List Int} {i : Nat} {x : Int} (h : xs[i]? = some x) : rsm (i + 1) (fun j => (xs.getD j 0).natAbs) = rsm i (fun j => (xs.getD j 0).natAbs) + x.natAbs := by
  show rsm i _ + (xs.getD i 0).natAbs = _
  rw [getD_at h]
def prd : List (List Int) → Nat
  | [] => 1
  | p :: r => n1 p * prd r
def dgs : List (List Int) → Nat
  | [] => 0
  | p :: r => (p.length - 1) + dgs r
theorem prd_snoc : ∀ (l : List (List Int)) (p : List Int), prd (l ++ [p]) = prd l * n1 p
  | [], p => by show n1 p * 1 = 1 * n1 p; omega
  | q :: r, p => by
    show n1 q * prd (r ++ [p]) = n1 q * prd r * n1 p
    rw [prd_snoc r p, Nat.mul_assoc]
theorem dgs_snoc : ∀ (l : List (List Int)) (p : List Int), dgs (l ++ [p]) = dgs l + (p.length - 1)
  | [], p => by show (p.length - 1) + 0 = 0 + (p.length - 1); omega
  | q :: r, p => by
    show (q.length - 1) + dgs (r ++ [p]) = (q.length - 1) + dgs r + (p.length - 1)
    rw [dgs_snoc r p]; omega
/-- a factor: not 0, its last number neither -/
def Fac (p : List Int) : Prop := Pol p ∧ 2 ≤ p.length ∧ p.length ≤ 6
theorem n1_pos {p : List Int} (h : Pol p) (h0 : p ≠ []) : 0 < n1 p := by
  obtain ⟨x, hx, hm⟩ := last_at h0
  have := n1_mem hm
  have := h x hx
  omega
theorem prd_pos {l : List (List Int)} (h : ∀ p ∈ l, Fac p) : 0 < prd l := by
  induction l with
  | nil => exact Nat.one_pos
  | cons p r ih =>
    have h1 := h p List.mem_cons_self
    exact Nat.mul_pos (n1_pos h1.1 (fun z => by have := h1.2.1; rw [z] at this; cases this)) (ih fun q hq => h q (List.mem_cons_of_mem _ hq))
/-- the product of the first i of them and a number -/
def mulL (by_ : Int) : List (List Int) → List Int
  | l => l.foldl (fun f p => trm (pmul f p)) [by_]
structure Mul5 (B : Nat) (D : Nat) (f : List Int) : Prop where
  pol : Pol f
  ne : f ≠ []
  le : f.length ≤ D + 1
  n : n1 f ≤ B
theorem mul5_step {B D : Nat} {f p : List Int} (h : Mul5 B D f) (hp : Fac p) : Mul5 (B * n1 p) (D + (p.length - 1)) (trm (pmul f p)) := by
  have p0 : p ≠ [] := fun z => by have := hp.2.1; rw [z] at this; cases this
  have hpp := pol_pmul h.pol hp.1 h.ne p0
  rw [trm_pol hpp]
  have l : (pmul f p).length = f.length + p.length - 1 := vec_len _ _
  have lf := List.length_pos_iff.mpr h.ne
  refine ⟨hpp, fun z => ?_, ?_, ?_⟩
  · rw [z, List.length_nil] at l
    have := hp.2.1
    omega
  · have := h.le
    have := hp.2.1
    omega
  · have h1 := n1_mul f p
    rw [trm_pol hpp] at h1
    exact Nat.le_trans h1 (Nat.mul_le_mul_right _ h.n)
end V2


namespace V2
open PySem L2
open PySem.Spec PyProof.Rows
/-! ## the program: what divides all, the rest -/
def spCont (K : PySem.W.Frag) : Sp := fun vs H Q _ => ∃ (a : Addr) (ns : List Int), vs = [.ref a] ∧ Li H a ns ∧ Evl.RetV (.int (cont ns : Int)) H Q
def spPrim : Sp := fun vs H Q _ => ∃ (a : Addr) (ns : List Int), vs = [.ref a] ∧ Li H a ns ∧ ns.length ≤ 100 ∧ (∀ x ∈ ns, x.natAbs < 2 ^ 9000) ∧ Pol ns ∧ Evl.RetL (iV (prim ns)) H Q
theorem cont_pos {ns : List Int} (h : Pol ns) (h0 : ns ≠ []) : 0 < cont ns := by
  rcases Nat.eq_zero_or_pos (cont ns) with z | z
  · exfalso
    have l0 : 0 < ns.length := List.length_pos_iff.mpr h0
    obtain ⟨n, hn⟩ : ∃ n, ns.length = n + 1 := ⟨ns.length - 1, by omega⟩
    have hg := getD_pol h hn
    have e : ns[n]? = some ns[n] := List.getElem?_eq_getElem (by omega)
    rw [getD_at e] at hg
    exact hg (cont_zero z _ (List.getElem_mem (by omega)))
  · exact z
theorem cont_lt {ns : List Int} {B : Nat} (h : Pol ns) (hb : ∀ x ∈ ns, x.natAbs < 2 ^ B) : cont ns < 2 ^ B := by
  by_cases h0 : ns = []
  · subst h0
    exact Nat.pow_pos (by decide)
  · have l0 : 0 < ns.length := List.length_pos_iff.mpr h0
    obtain ⟨n, hn⟩ : ∃ n, ns.length = n + 1 := ⟨ns.length - 1, by omega⟩
    have hg := getD_pol h hn
    have e : ns[n]? = some ns[n] := List.getElem?_eq_getElem (by omega)
    rw [getD_at e] at hg
    have hm : ns[n] ∈ ns := List.getElem_mem (by omega)
    have := Int.natAbs_dvd_natAbs.mpr (cont_dvd hm)
    rw [Int.natAbs_natCast] at this
    exact Nat.lt_of_le_of_lt (Nat.le_of_dvd (by omega) this) (hb _ hm)
theorem prim_at {ns : List Int} {i : Nat} {n : Int} (h : ns[i]? = some n) : (prim ns)[i]? = some (n / (cont ns : Int)) := by
  unfold prim
  rw [List.getElem?_map, h]
  rfl
theorem prim_len (ns : List Int) : (prim ns).length = ns.length := by unfold prim; rw [List.length_map]
theorem take_next {ns : List Int} {i : Nat} {n : Int} (h : ns[i]? = some n) : iV (ns.take (i + 1)) = iV (ns.take i) ++ [.int n] := by
  rw [List.take_add_one, h]
  unfold iV
  rw [List.map_append]
  rfl
section
variable {base : Heap} {mg : Str → Option Value} {K : PySem.W.Frag} {w : World} {P : Program}
theorem ok_content {f : Addr} {fd : FuncData} (F : Fun K "content" "content" s_content f fd) (mG : mg "gcd" = some (.builtin "math.gcd")) : FnOk P w K mg base CX0 1 f fd p_content (spCont K) := by
  refine F.ok sc_content (fun vs H Q E h => ?_) (fun cdv A outer s H vs Q E hr h => ?_)
  · obtain ⟨a, ns, rfl, _⟩ := h
    rfl
  · obtain ⟨a, ns, rfl, hL, k⟩ := h
    have nd := sc_content.nd
    refine ⟨_, pss_cons (ps_set (i := 1) nd rfl (Or.inl rfl) pe_int)
      (pss_cons (ps_for PassesOwn.never rfl (pi_list (pv 0)) (pg_name (i := 2) nd rfl (Or.inl rfl))
        (pss_one (ps_set (i := 1) nd rfl (Or.inl rfl) (pe_callBfun cr_gcd (by rfl) mG (pa_cons (pv 1) (pa_cons (pv 2) pa_nil))))))
      (pss_one (ps_ret (pv 1))) ), ?_⟩
    refine ⟨_, rfl, a, rfl, ⟨_, SqL.of hL⟩, for_list (xs := iV ns) (fun i σ H' => H' = H ∧ ∃ v, σ = [some (.ref a), some (.int (((ns.take i).foldl (fun g x => Nat.gcd g x.natAbs) 0 : Nat) : Int)), v]) ⟨rfl, none, rfl⟩ (fun i σ H' _ q => by rw [q.1]; exact SqL.of hL) ?_ ?_⟩
    · rintro i x σ H' hi ⟨rfl, v, rfl⟩
      obtain ⟨n, hn, rfl⟩ := iV_get hi
      refine ⟨_, rfl, _, rfl, _, _, rfl, rfl, some (.int n), ?_⟩
      rw [List.take_add_one, hn, List.foldl_append]
      rfl
    · rintro σ H' ⟨rfl, v, rfl⟩
      rw [iV_len, List.take_length, cont_fold, Nat.gcd_zero_left]
      exact ⟨_, rfl, k _ (Evl.Ex.refl _)⟩
theorem ok_primitive {f : Addr} {fd : FuncData} (F : Fun K "primitive" "primitive" s_primitive f fd) (cC : Cal P w K mg base 1 "content" p_content (spCont K)) : FnOk P w K mg base CX0 2 f fd p_primitive spPrim := by
  refine F.ok sc_primitive (fun vs H Q E h => ?_) (fun cdv A outer s H vs Q E hr h => ?_)
  · obtain ⟨a, ns, rfl, _⟩ := h
    rfl
  · obtain ⟨a, ns, rfl, hL, hl, hb, hp, k⟩ := h
    have nd := sc_primitive.nd
    refine ⟨_, pss_cons (ps_set (i := 1) nd rfl (Or.inr rfl) (pe_c cC hr (pa_cons (pv 0) pa_nil)))
      (pss_one (ps_ret (pe_lc (own := [("number", 2)]) (g := gName 2) (tt := tYes) (te := tOp (rI CDivW fun i j => .int (i / j)) (tVar 2) (tVar 1)) rfl nd (pi_list (pv 0)) (blkOk_by (N := n_primitive) (sc := defScope s_primitive) (by decide +kernel)) (fun _ _ _ _ _ => pg_name (i := 2) nd rfl (Or.inl rfl)) (fun _ _ _ _ _ => pts_nil)
          (fun _ _ _ _ _ => pe_op op_fdivW (pv 2) (pv 1))))), ?_⟩
    refine ⟨_, rfl, a, ns, rfl, hL, fun H1 e1 => ?_⟩
    have hL1 : Li H1 a ns := e1 _ _ hL
    refine ⟨_, rfl, a, rfl, ⟨_, SqL.of hL1⟩, fun D hD => lc_list (xs := iV ns) (fun i H' => Evl.Ex H1 H' ∧ H' D = some (.lst (iV ((prim ns).take i)))) ⟨Evl.Ex.new hD, upd_same⟩ (fun i H' _ q => SqL.of (q.1 _ _ hL1)) ?_ ?_⟩
    · rintro i x H' hi ⟨e2, h2⟩
      obtain ⟨n, hn, rfl⟩ := iV_get hi
      have h0 : ns ≠ [] := fun z => by rw [z] at hn; cases hn
      have cp := cont_pos hp h0
      refine ⟨rfl, ?_⟩
      show tOp (rI CDivW fun i j => .int (i / j)) (tVar 2) (tVar 1) _ _ _
      refine ⟨_, rfl, _, rfl, _, _, rfl, rfl, wide_div (b := 9000) (by omega) (by rw [Int.natAbs_natCast]; exact cont_lt hp hb) (by decide) (by decide), _, h2, ?_, Evl.Ex.mut e2 hD, ?_⟩
      · rw [iV_len, List.length_take]
        exact Nat.lt_of_le_of_lt (show _ ≤ 100 by rw [prim_len]; omega) (by decide)
      · rw [upd_same, take_next (prim_at hn)]
    · rintro H' ⟨e2, h2⟩
      rw [iV_len, ← prim_len, List.take_length] at h2
      exact k D H' (Evl.fresh_back e1 hD) (e1.trans e2) h2
end
end V2


namespace V2
open PySem L2
open PySem.Spec PyProof.Rows
/-- the rest: whatever is left, divided by what divides all -/
def spRem : Sp := fun vs H Q _ => ∃ (a b : Addr) (xs ys : List Int), vs = [.ref a, .ref b] ∧ Li H a xs ∧ Li H b ys ∧ Sp6 xs ∧ Sp6 ys ∧ ys ≠ [] ∧ ∀ L, Rm xs ys L → (∀ x ∈ L, x.natAbs < 2 ^ 190) → Evl.RetL (iV (prim L)) H Q
structure T7 (mg : Str → Option Value) : Prop where
  len : mg "len" = none
  abs : mg "abs" = none
  enu : mg "enumerate" = none
  gcd : mg "gcd" = some (.builtin "math.gcd")
theorem tkn_next {ys : List Int} {t n : Int} {i : Nat} (h : ys[i]? = some n) : iV ((ys.map fun x => t * x).take (i + 1)) = iV ((ys.map fun x => t * x).take i) ++ [.int (t * n)] :=
  take_next (by rw [List.getElem?_map, h]; rfl)
theorem getD_mem {L : List Int} {B : Nat} (hb : ∀ x ∈ L, x.natAbs < 2 ^ B) (i : Nat) : (L.getD i 0).natAbs < 2 ^ B := by
  rw [(List.getD_eq_getElem?_getD)]
  cases e : L[i]? with
  | none => exact Nat.pow_pos (by decide)
  | some x => exact hb x (List.mem_of_getElem? e)
theorem vec_take {N : Nat} {f : Nat → Int} {i : Nat} (h : i < N) : iV ((vec N f).take (i + 1)) = iV ((vec N f).take i) ++ [.int (f i)] := take_next (vec_get h)
theorem tkn_bd {ys : List Int} {t : Int} {B : Nat} (ht : t.natAbs < 2 ^ B) (hy : ∀ x ∈ ys, x.natAbs < 2 ^ 20) (off k : Nat) : ((tkn ys off t).getD k 0).natAbs < 2 ^ (B + 20) := by
  rw [tkn_getD]
  split
  · exact wide_lt ht (getD_mem hy _)
  · exact Nat.pow_pos (by decide)
theorem step_bd {ys L : List Int} {g t : Int} {B : Nat} (hL : ∀ x ∈ L, x.natAbs < 2 ^ B) (hg : g.natAbs < 2 ^ 20) (ht : t.natAbs < 2 ^ B) (hy : ∀ x ∈ ys, x.natAbs < 2 ^ 20) : ∀ x ∈ trm (stepL ys L g t), x.natAbs < 2 ^ (B + 21) := by
  intro x hx
  obtain ⟨i, _, rfl⟩ := vec_mem (trm_mem hx)
  have h1 := tkn_bd ht hy (L.length - ys.length) i
  have h2 := wide_lt hg (getD_mem hL i)
  have e : (2 : Nat) ^ (B + 21) = 2 ^ (B + 20) + 2 ^ (B + 20) := by
    rw [show B + 21 = B + 20 + 1 from rfl, Nat.pow_succ]; omega
  rw [Nat.add_comm 20 B] at h2
  rw [e]
  omega
theorem Sp6.b20 {ns : List Int} (h : Sp6 ns) : ∀ x ∈ ns, x.natAbs < 2 ^ 20 := fun x hx => by
  have := h.2.2 x hx
  have e : (2 : Nat) ^ 20 = 1048576 := (by decide)
  rw [e]; omega
/-- ahead of each turn of the loop -/
def Wh (H : Hp) (a b : Addr) (ld : Int) (xs ys : List Int) (m : Nat) (σ : L2.St) (H' : Hp) : Prop := ∃ (l : Addr) (L : List Int) (v4 v5 v6 v7 v8 : Option V), σ = [some (.ref a), some (.ref b), some (.ref l), some (.int ld), v4, v5, v6, v7, v8, none, none] ∧
  Evl.Ex H H' ∧ Li H' l L ∧ Pol L ∧ L.length = m ∧ m ≤ 8 ∧ (∀ x ∈ L, x.natAbs < 2 ^ (21 * (9 - m))) ∧ Rs xs ys L
theorem more {ns : List Int} {A B : Nat} (h : ∀ x ∈ ns, x.natAbs < 2 ^ A) (hl : A ≤ B) : ∀ x ∈ ns, x.natAbs < 2 ^ B := fun x hx => big (h x hx) hl
section
variable {base : Heap} {mg : Str → Option Value} {K : PySem.W.Frag} {w : World} {P : Program}
end
end V2


namespace V2
open PySem L2
open PySem.Spec PyProof.Rows
def spNz : Sp := fun vs H Q _ => ∃ (a : Addr) (ns : List Int), vs = [.ref a] ∧ Li H a ns ∧ ns ≠ [] ∧ Evl.RetV .non H Q
def spRatio1 : Sp := fun vs H Q _ => ∃ y : Int, vs = [.int 1, .int y] ∧ y ≠ 0 ∧ y.natAbs < 2 ^ 29 ∧ RetU [.int (if y < 0 then -1 else 1), .int (if y < 0 then -y else y)] H Q
theorem cont_less {B : Nat} : ∀ ns : List Int, (∀ x ∈ ns, x.natAbs < 2 ^ B) → cont ns < 2 ^ B
  | [], _ => Nat.pow_pos (by decide)
  | x :: r, h => by
    show Nat.gcd x.natAbs (cont r) < 2 ^ B
    have h1 := h x List.mem_cons_self
    rcases Nat.eq_zero_or_pos x.natAbs with z | z
    · rw [z, Nat.gcd_zero_left]
      exact cont_less r fun y hy => h y (List.mem_cons_of_mem _ hy)
    · exact Nat.lt_of_le_of_lt (Nat.gcd_le_left _ z) h1
theorem two_li {H : Hp} {a b l : Addr} {xs ys : List Int} (ha : Li H a xs) (hb : Li H b ys) (hx : Pn xs) (hy : Pn ys) (e : Evl.Ex H (upd H l (.lst [.ref a, .ref b]))) : ∀ c ∈ [a, b], ∃ ns, Li (upd H l (.lst [.ref a, .ref b])) c ns ∧ Pn ns := by
  intro c hc
  rcases (List.mem_cons.mp hc) with rfl | hc
  · exact ⟨xs, e _ _ ha, hx⟩
  · obtain rfl := List.mem_singleton.mp hc
    exact ⟨ys, e _ _ hb, hy⟩
section
variable {base : Heap} {mg : Str → Option Value} {K : PySem.W.Frag} {w : World} {P : Program}
theorem ok_check_not_zero {f : Addr} {fd : FuncData} (F : Fun K "check_not_zero" "check_not_zero" s_check_not_zero f fd) : FnOk P w K mg base CX0 1 f fd p_check_not_zero spNz := by
  refine F.ok sc_check_not_zero (fun vs H Q E h => ?_) (fun cdv A outer s H vs Q E hr h => ?_)
  · obtain ⟨a, ns, rfl, _⟩ := h
    rfl
  · obtain ⟨a, ns, rfl, hL, h0, k⟩ := h
    refine ⟨_, pss_one (ps_if (pt_not (pt_truth (pv 0) (by intro _; rfl))) (pss_one ps_never) pss_nil), ?_⟩
    refine ⟨_, rfl, _, tru_list hL, ?_⟩
    refine if_f (by cases ns with | nil => exact absurd rfl h0 | cons _ _ => rfl) ?_
    exact k _ (Evl.Ex.refl _)
theorem ok_thin {f : Addr} {fd : FuncData} (F : Fun K "_law_pv_thin" "_law_pv_thin" s_l_thin f fd) (cS : Cal P w K mg base 1 "_law_pv_shared" p_l_shared spShared) : FnOk P w K mg base CX0 2 f fd p_l_thin spPrim := by
  refine F.ok sc_l_thin (fun vs H Q E h => ?_) (fun cdv A outer s H vs Q E hr h => ?_)
  · obtain ⟨a, ns, rfl, _⟩ := h
    rfl
  · obtain ⟨a, ns, rfl, hL, hl, hb, hp, k⟩ := h
    have nd := sc_l_thin.nd
    refine ⟨_, pss_cons (ps_set (i := 1) nd rfl (Or.inr rfl) pe_int)
      (pss_cons (ps_for PassesOwn.never rfl (pi_list (pv 0)) (pg_name (i := 2) nd rfl (Or.inl rfl))
        (pss_one (ps_set (i := 1) nd rfl (Or.inr rfl) (pe_c cS hr (pa_cons (pv 1) (pa_cons (pv 2) pa_nil))))))
      (pss_one (ps_ret (pe_lc (own := [("piece", 2)]) (g := gName 2) (tt := tYes) (te := tOp (rI CDivW fun i j => .int (i / j)) (tVar 2) (tVar 1)) rfl nd (pi_list (pv 0)) (blkOk_by (N := n_l_thin) (sc := defScope s_l_thin) (by decide +kernel)) (fun _ _ _ _ _ => pg_name (i := 2) nd rfl (Or.inl rfl)) (fun _ _ _ _ _ => pts_nil)
          (fun _ _ _ _ _ => pe_op op_fdivW (pv 2) (pv 1)))))), ?_⟩
    have cl := cont_lt hp hb
    refine ⟨_, rfl, a, rfl, ⟨_, SqL.of hL⟩, for_list (xs := iV ns) (fun i σ H' => Evl.Ex H H' ∧ ∃ v, σ = [some (.ref a), some (.int (((ns.take i).foldl (fun g x => Nat.gcd g x.natAbs) 0 : Nat) : Int)), v]) ⟨Evl.Ex.refl _, none, rfl⟩ (fun i σ H' _ q => SqL.of (q.1 _ _ hL)) ?_ ?_⟩
    · rintro i x σ H' hi ⟨e1, v, rfl⟩
      obtain ⟨n, hn, rfl⟩ := iV_get hi
      have hfb : ((ns.take i).foldl (fun g x => Nat.gcd g x.natAbs) 0) < 2 ^ 9000 := by
        rw [cont_fold, Nat.gcd_zero_left]
        exact cont_less _ fun x hx => hb x (List.mem_of_mem_take hx)
      refine ⟨_, rfl, _, rfl, _, _, rfl, by rw [Int.natAbs_natCast]; exact hfb, hb n (List.mem_of_getElem? hn), fun H2 e2 => ⟨e1.trans e2, some (.int n), ?_⟩⟩
      rw [List.take_add_one, hn, List.foldl_append]
      rfl
    · rintro σ H1 ⟨e1, v, rfl⟩
      rw [iV_len, List.take_length, cont_fold, Nat.gcd_zero_left]
      have hL1 : Li H1 a ns := e1 _ _ hL
      refine ⟨_, rfl, a, rfl, ⟨_, SqL.of hL1⟩, fun D hD => lc_list (xs := iV ns) (fun i H' => Evl.Ex H1 H' ∧ H' D = some (.lst (iV ((prim ns).take i)))) ⟨Evl.Ex.new hD, upd_same⟩ (fun i H' _ q => SqL.of (q.1 _ _ hL1)) ?_ ?_⟩
      · rintro i x H' hi ⟨e2, h2⟩
        obtain ⟨n, hn, rfl⟩ := iV_get hi
        have h0 : ns ≠ [] := fun z => by rw [z] at hn; cases hn
        have cp := cont_pos hp h0
        refine ⟨rfl, ?_⟩
        show tOp (rI CDivW fun i j => .int (i / j)) (tVar 2) (tVar 1) _ _ _
        refine ⟨_, rfl, _, rfl, _, _, rfl, rfl, wide_div (b := 9000) (by omega) (by rw [Int.natAbs_natCast]; exact cl) (by decide) (by decide), _, h2, ?_, Evl.Ex.mut e2 hD, ?_⟩
        · rw [iV_len, List.length_take]
          exact Nat.lt_of_le_of_lt (show _ ≤ 100 by rw [prim_len]; omega) (by decide)
        · rw [upd_same, take_next (prim_at hn)]
      · rintro H' ⟨e2, h2⟩
        rw [iV_len, ← prim_len, List.take_length] at h2
        exact k D H' (Evl.fresh_back e1 hD) (e1.trans e2) h2
end
end V2


namespace V2
open PySem L2
open PySem.Spec PyProof.Rows
/-! ## lists of fractions with one denominator -/
theorem fr_mm {x g c e : Int} (hg : 0 < g) (he : 0 < e) : fr ((fr x g).1 * c) ((fr x g).2 * e) = fr (x * c) (g * e) := by
  have h := fr_val (a := x) hg
  refine fr_eq (Int.mul_pos (fr_pos hg) he) (Int.mul_pos hg he) ?_
  generalize (fr x g).1 = n at *
  generalize (fr x g).2 = d at *
  calc n * c * (g * e) = (n * g) * (c * e) := by simp only [Int.mul_assoc, Int.mul_comm, Int.mul_left_comm]
    _ = (x * d) * (c * e) := by rw [h]
    _ = x * c * (d * e) := by simp only [Int.mul_assoc, Int.mul_comm, Int.mul_left_comm]
theorem fr_zero {d : Int} (h : 0 < d) : fr 0 d = (0, 1) := by
  have e : fr 0 d = fr 0 1 := fr_eq h (by decide) (by rw [Int.zero_mul, Int.zero_mul])
  rw [e]
  exact fr_same (by decide) (by decide)
theorem fr_one (x : Int) : fr x 1 = (x, 1) := fr_same (by decide) (by simp)
theorem fr_aa {x t g e : Int} (hg : 0 < g) (he : 0 < e) : fr ((fr x g).1 * (fr t (g * e)).2 + (fr t (g * e)).1 * (fr x g).2) ((fr x g).2 * (fr t (g * e)).2) = fr (x * e + t) (g * e) := by
  have hge := Int.mul_pos hg he
  have h1 := fr_val (a := x) hg
  have h2 := fr_val (a := t) hge
  refine fr_eq (Int.mul_pos (fr_pos hg) (fr_pos hge)) hge ?_
  generalize (fr x g).1 = n at *
  generalize (fr x g).2 = d at *
  generalize (fr t (g * e)).1 = m at *
  generalize (fr t (g * e)).2 = c at *
  calc (n * c + m * d) * (g * e) = (n * g) * (c * e) + (m * (g * e)) * d := by
        rw [Int.add_mul]; simp only [Int.mul_assoc, Int.mul_comm, Int.mul_left_comm]
    _ = (x * d) * (c * e) + (t * c) * d := by rw [h1, h2]
    _ = (x * e + t) * (d * c) := by rw [Int.add_mul]; simp only [Int.mul_assoc, Int.mul_comm, Int.mul_left_comm]
theorem prim_prop {L M : List Int} {c g : Int} (l1 : Pol L) (m1 : Pol M) (c0 : 0 < c) (g0 : 0 < g) (he : ∀ i, g * M.getD i 0 = c * L.getD i 0) : prim L = prim M := by
  have hlen : L.length = M.length := Nat.le_antisymm (pol_len l1 m1 c0 g0 fun i => (he i).symm) (pol_len m1 l1 g0 c0 he)
  refine prim_eq (a := c.toNat) (b := g.toNat) (by omega) (by omega) ?_
  refine List.ext_getElem (by rw [List.length_map, List.length_map, hlen]) fun i h1 h2 => ?_
  rw [List.length_map] at h1 h2
  rw [List.getElem_map, List.getElem_map]
  have t := he i
  rw [getD_at (List.getElem?_eq_getElem h1), getD_at (List.getElem?_eq_getElem h2)] at t
  have ec : ((c.toNat : Nat) : Int) = c := Int.toNat_of_nonneg (by omega)
  have eg : ((g.toNat : Nat) : Int) = g := Int.toNat_of_nonneg (by omega)
  exact Eq.trans (congrArg (fun z => z * L[i]) ec) (Eq.trans t.symm (congrArg (fun z => z * M[i]) eg.symm))
theorem Rs.congr {P B L M : List Int} (h : Rs P B L) (e : ∀ i, M.getD i 0 = L.getD i 0) : Rs P B M := by
  obtain ⟨g, q, N, h1, h2, h3⟩ := h
  exact ⟨g, q, N, h1, h2, fun i => by rw [e]; exact h3 i⟩
def Fv (H : Hp) (f : Addr) (v : List Int) (g : Int) : Prop := ∃ as : List Addr, H f = some (.lst (as.map V.ref)) ∧ as.length = v.length ∧ ∀ (j : Nat) (a : Addr) (x : Int), as[j]? = some a → v[j]? = some x → Fr H a (fr x g).1 (fr x g).2
theorem Fv.ex {H H' : Hp} {f : Addr} {v : List Int} {g : Int} (h : Fv H f v g) (e : Evl.Ex H H') : Fv H' f v g := by
  obtain ⟨as, h1, h2, h3⟩ := h
  exact ⟨as, e _ _ h1, h2, fun j a x hj hx => e _ _ (h3 j a x hj hx)⟩
def Bd (H1 : Hp) (D : Addr) (v : List Int) (g : Int) (i : Nat) (H' : Hp) : Prop := Evl.Ex H1 H' ∧ ∃ as : List Addr, H' D = some (.lst (as.map V.ref)) ∧ as.length = i ∧ ∀ (j : Nat) (a : Addr) (x : Int), as[j]? = some a → v[j]? = some x → Fr H' a (fr x g).1 (fr x g).2
theorem Bd.zero {H1 : Hp} {D : Addr} {v : List Int} {g : Int} (hD : H1 D = none) : Bd H1 D v g 0 (upd H1 D (.lst [])) := ⟨Evl.Ex.new hD, [], upd_same, rfl, fun j a x h => by cases h⟩
theorem Bd.turn {H1 H' H2 : Hp} {D p : Addr} {v : List Int} {g x : Int} {i : Nat} (h : Bd H1 D v g i H') (hD : H1 D = none) (hi : i < 100) (hx : v[i]? = some x) (e : Evl.Ex H' H2) (hp : Fr H2 p (fr x g).1 (fr x g).2) :
    ∃ acc, H2 D = some (.lst acc) ∧ acc.length < sizeLine ∧ Bd H1 D v g (i + 1) (upd H2 D (.lst (acc ++ [.ref p]))) := by
  obtain ⟨e1, as, h1, h2, h3⟩ := h
  have hd2 := e _ _ h1
  have keep : ∀ a m n, Fr H2 a m n → Fr (upd H2 D (.lst (as.map V.ref ++ [.ref p]))) a m n := fun a m n ha => by
    have na : a ≠ D := by
      intro z
      have ha : H2 a = _ := ha
      rw [z, hd2] at ha
      cases ha
    show _ = _
    rw [upd_ne na]
    exact ha
  refine ⟨_, hd2, ?_, Evl.Ex.mut (e1.trans e) hD, as ++ [p], by rw [upd_same, List.map_append]; rfl, by rw [List.length_append, h2]; rfl, fun j a y hj hy => ?_⟩
  · rw [List.length_map, h2]
    exact Nat.lt_of_lt_of_le hi (by decide)
  · by_cases c : j < as.length
    · rw [List.getElem?_append_left c] at hj
      exact keep _ _ _ (e _ _ (h3 j a y hj hy))
    · have hj2 : j < as.length + 1 := by
        have := (List.getElem?_eq_some_iff.mp hj).1
        rwa [List.length_append] at this
      have ej : j = i := by omega
      subst ej
      rw [List.getElem?_append_right (by omega), h2, Nat.sub_self] at hj
      cases hj
      rw [hx] at hy
      cases hy
      exact keep _ _ _ hp
theorem Bd.fv {H1 H' : Hp} {D : Addr} {v : List Int} {g : Int} (h : Bd H1 D v g v.length H') : Fv H' D v g := ⟨h.2.choose, h.2.choose_spec⟩
theorem Fv.at_ {H : Hp} {f : Addr} {v : List Int} {g x : Int} {i : Nat} (h : Fv H f v g) (hx : v[i]? = some x) : ∃ (as : List Addr) (a : Addr), H f = some (.lst (as.map V.ref)) ∧ as.length = v.length ∧ (as.map V.ref)[i]? = some (.ref a) ∧ Fr H a (fr x g).1 (fr x g).2 := by
  obtain ⟨as, h1, h2, h3⟩ := h
  have hi : i < as.length := by rw [h2]; exact (List.getElem?_eq_some_iff.mp hx).1
  have e : as[i]? = some as[i] := List.getElem?_eq_getElem hi
  exact ⟨as, as[i], h1, h2, by rw [List.getElem?_map, e]; rfl, h3 i _ x e hx⟩
theorem ref_end {as : List Addr} {a : Addr} (h : (as.map V.ref)[as.length - 1]? = some (.ref a)) (h0 : 0 < as.length) : atI (as.map V.ref) (-1) = some (.ref a) := by
  have e := List.dropLast_concat_getLast (List.ne_nil_of_length_pos h0)
  have e2 : as.map V.ref = as.dropLast.map V.ref ++ [.ref (as.getLast (List.ne_nil_of_length_pos h0))] := by
    conv => lhs; rw [← e]
    rw [List.map_append]
    rfl
  have e3 : as[as.length - 1]? = some (as.getLast (List.ne_nil_of_length_pos h0)) := by
    rw [← List.getLast?_eq_getElem?, List.getLast?_eq_some_getLast (List.ne_nil_of_length_pos h0)]
  rw [List.getElem?_map, e3] at h
  have h : V.ref (as.getLast (List.ne_nil_of_length_pos h0)) = V.ref a := Option.some.inj h
  rw [e2, atI_last, h]
/-- the law's step -/
def stepF (B v : List Int) (e t : Int) : List Int := vec (v.length - 1) fun k => v.getD k 0 * e + (if v.length - B.length ≤ k then t * (0 - B.getD (k - (v.length - B.length)) 0) else 0)
theorem stepF_rs {P B v : List Int} (h0 : B ≠ []) (h : Rs P B v) (hl : B.length ≤ v.length) {e t : Int} (he : 0 < e) (ht : e * v.getD (v.length - 1) 0 = t * B.getD (B.length - 1) 0) : Rs P B (stepF B v e t) := by
  have lb : 0 < B.length := List.length_pos_iff.mpr h0
  refine (rs_step h0 h hl he ht).1.congr fun i => ?_
  rw [trm_getD]
  unfold stepF stepL
  rw [vec_getD, vec_getD, tkn_getD]
  by_cases h1 : i < v.length - 1
  · rw [if_pos h1, if_pos (c := i < v.length) (by omega), Int.mul_comm e]
    by_cases h2 : v.length - B.length ≤ i
    · rw [if_pos h2, if_pos h2, Int.zero_sub, Int.mul_neg]; omega
    · rw [if_neg h2, if_neg h2]; omega
  · rw [if_neg h1]
    by_cases h2 : i < v.length
    · have e1 : i = v.length - 1 := by omega
      subst e1
      rw [if_pos h2, if_pos (by omega), ht, show v.length - 1 - (v.length - B.length) = B.length - 1 by omega]
      omega
    · rw [if_neg h2]
/-- the least common multiple, turn by turn -/
theorem lcm_step {l d G : Nat} (hl : l ∣ G) (hd : d ∣ G) (hG : 0 < G) : ((l : Int) * (d : Int)) / ((Int.gcd (l : Int) (d : Int) : Nat) : Int) = ((Nat.lcm l d : Nat) : Int) ∧ Nat.lcm l d ∣ G ∧ l ∣ Nat.lcm l d ∧ d ∣ Nat.lcm l d ∧ 0 < Nat.lcm l d := by
  have h1 : Nat.lcm l d ∣ G := Nat.lcm_dvd hl hd
  refine ⟨?_, h1, Nat.dvd_lcm_left _ _, Nat.dvd_lcm_right _ _, Nat.pos_of_dvd_of_pos h1 hG⟩
  show ((l : Int) * (d : Int)) / ((Nat.gcd l d : Nat) : Int) = _
  rw [← Int.natCast_mul, ← Int.natCast_ediv]
  rfl
/-- all over the least common multiple -/
def overL (v : List Int) (g l : Int) : List Int := v.map fun x => (fr x g).1 * l / (fr x g).2
theorem over_at {x g l : Int} (hg : 0 < g) (hl : (fr x g).2 ∣ l) : g * ((fr x g).1 * l / (fr x g).2) = l * x := by
  obtain ⟨k, hk⟩ := hl
  have h := fr_val (a := x) hg
  have p := fr_pos (u := x) hg
  generalize (fr x g).1 = n at *
  generalize (fr x g).2 = d at *
  subst hk
  rw [show n * (d * k) = d * (n * k) by simp only [Int.mul_assoc, Int.mul_comm, Int.mul_left_comm], Int.mul_ediv_cancel_left _ (by omega)]
  calc g * (n * k) = (n * g) * k := by simp only [Int.mul_assoc, Int.mul_comm, Int.mul_left_comm]
    _ = (x * d) * k := by rw [h]
    _ = d * k * x := by simp only [Int.mul_assoc, Int.mul_comm, Int.mul_left_comm]
theorem over_getD {v : List Int} {g l : Int} (hg : 0 < g) (hl : ∀ x ∈ v, (fr x g).2 ∣ l) (i : Nat) : g * (overL v g l).getD i 0 = l * v.getD i 0 := by
  unfold overL
  rw [List.getD_eq_getElem?_getD, List.getElem?_map, List.getD_eq_getElem?_getD]
  cases e : v[i]? with
  | none => show g * 0 = l * 0; rw [Int.mul_zero, Int.mul_zero]
  | some x => exact over_at hg (hl x (List.mem_of_getElem? e))
theorem Fv.app {H : Hp} {t0 p : Addr} {u : List Int} {G : Int} {as : List Addr} {off : Nat} (hG : 0 < G) (h0 : Fr H t0 0 1) (hl : as.length = u.length) (h3 : ∀ (j : Nat) (a : Addr) (x : Int), as[j]? = some a → u[j]? = some x → Fr H a (fr x G).1 (fr x G).2)
    (hp : H p = some (.lst (List.replicate off (V.ref t0) ++ as.map V.ref))) : Fv H p (List.replicate off 0 ++ u) G := by
  refine ⟨List.replicate off t0 ++ as, by rw [hp, List.map_append, List.map_replicate], by rw [List.length_append, List.length_append, List.length_replicate, List.length_replicate, hl], fun j a x hj hx => ?_⟩
  by_cases c : j < off
  · rw [List.getElem?_append_left (by rw [List.length_replicate]; exact c), List.getElem?_replicate, if_pos c] at hj hx
    cases hj
    cases hx
    rw [fr_zero hG]
    exact h0
  · rw [List.getElem?_append_right (by rw [List.length_replicate]; omega), List.length_replicate] at hj hx
    exact h3 _ a x hj hx
theorem tkv_getD (B : List Int) (off : Nat) (t : Int) (k : Nat) (hk : k < off + B.length) : (List.replicate off 0 ++ B.map fun y => t * (0 - y))[k]? = some (if off ≤ k then t * (0 - B.getD (k - off) 0) else 0) := by
  by_cases h : off ≤ k
  · rw [if_pos h, List.getElem?_append_right (by rw [List.length_replicate]; exact h), List.length_replicate, List.getElem?_map, List.getElem?_eq_getElem (show k - off < B.length by omega), getD_at (List.getElem?_eq_getElem (show k - off < B.length by omega))]
    rfl
  · rw [if_neg h, List.getElem?_append_left (by rw [List.length_replicate]; omega), List.getElem?_replicate, if_pos (by omega)]
theorem stepF_bd {B v : List Int} {e t : Int} {N : Nat} (hv : ∀ x ∈ v, x.natAbs < 2 ^ N) (he : e.natAbs < 2 ^ 20) (ht : t.natAbs < 2 ^ N) (hB : ∀ x ∈ B, x.natAbs < 2 ^ 20) : ∀ x ∈ stepF B v e t, x.natAbs < 2 ^ (N + 21) := by
  intro x hx
  obtain ⟨i, _, rfl⟩ := vec_mem hx
  have h2 := wide_lt (getD_mem hv i) he
  have h1 : (if v.length - B.length ≤ i then t * (0 - B.getD (i - (v.length - B.length)) 0) else 0).natAbs < 2 ^ (N + 20) := by
    split
    · refine wide_lt ht ?_
      have := getD_mem hB (i - (v.length - B.length))
      omega
    · exact Nat.pow_pos (by decide)
  have e' : (2 : Nat) ^ (N + 21) = 2 ^ (N + 20) + 2 ^ (N + 20) := by
    rw [show N + 21 = N + 20 + 1 from rfl, Nat.pow_succ]; omega
  rw [e']
  omega
theorem fr_b1 {x g : Int} {N M : Nat} (hg : 0 < g) (h : x.natAbs < 2 ^ N) (hM : N ≤ M) : (fr x g).1.natAbs < 2 ^ M := Nat.lt_of_le_of_lt (fr_abs1 hg) (big h hM)
theorem fr_b2 {x g : Int} {N M : Nat} (hg : 0 < g) (h : g.natAbs < 2 ^ N) (hM : N ≤ M) : (fr x g).2.natAbs < 2 ^ M := Nat.lt_of_le_of_lt (fr_abs2 hg) (big h hM)
end V2


namespace V2
open PySem L2
open PySem.Spec PyProof.Rows
/-! ## sums and products of greater fractions; greater polynomials -/
def spAddW : Sp := fun vs H Q _ => ∃ (l r : Addr) (a b c d : Int) (A B C D : Nat), vs = [.ref l, .ref r] ∧ Fr H l a b ∧ Fr H r c d ∧ a.natAbs < 2 ^ A ∧ b.natAbs < 2 ^ B ∧ c.natAbs < 2 ^ C ∧ d.natAbs < 2 ^ D ∧ 0 < A ∧ 0 < B ∧ 0 < C ∧ 0 < D ∧ A + D ≤ 8990 ∧ C + B ≤ 8990 ∧ B + D ≤ 8990 ∧ 0 < b ∧ 0 < d ∧
  RetU [.int (fr (a * d + c * b) (b * d)).1, .int (fr (a * d + c * b) (b * d)).2] H Q
def spMulW : Sp := fun vs H Q _ => ∃ (l r : Addr) (a b c d : Int) (A B C D : Nat), vs = [.ref l, .ref r] ∧ Fr H l a b ∧ Fr H r c d ∧ a.natAbs < 2 ^ A ∧ b.natAbs < 2 ^ B ∧ c.natAbs < 2 ^ C ∧ d.natAbs < 2 ^ D ∧ 0 < A ∧ 0 < B ∧ 0 < C ∧ 0 < D ∧ A + C ≤ 8990 ∧ B + D ≤ 8990 ∧ 0 < b ∧ 0 < d ∧
  RetU [.int (fr (a * c) (b * d)).1, .int (fr (a * c) (b * d)).2] H Q
def spRatioW : Sp := fun vs H Q _ => ∃ y : Int, vs = [.int 1, .int y] ∧ y ≠ 0 ∧ y.natAbs < 2 ^ 8990 ∧ RetU [.int (if y < 0 then -1 else 1), .int (if y < 0 then -y else y)] H Q
/-- a polynomial of any numbers, of at most 16 -/
def spPolW : Sp := fun vs H Q _ => ∃ (a : Addr) (ns : List Int), vs = [.ref a] ∧ Li H a ns ∧ Pol ns ∧ ns.length ≤ 16 ∧ Evl.RetV (.bl true) H Q
def spChkW : Sp := fun vs H Q _ => ∃ (l : Addr) (as : List Addr), vs = [.ref l] ∧ H l = some (.lst (as.map V.ref)) ∧ as.length ≤ 10 ∧ (∀ a ∈ as, ∃ ns, Li H a ns ∧ Pol ns ∧ ns.length ≤ 16) ∧ Evl.RetV .non H Q
section
variable {base : Heap} {mg : Str → Option Value} {K : PySem.W.Frag} {w : World} {P : Program}
theorem ok_addW {f : Addr} {fd : FuncData} (F : Fun K "_law_pv_add" "_law_pv_add" s_l_add f fd) (cR : Cal P w K mg base 2 "_law_pv_ratio" p_l_ratio spRatio) : FnOk P w K mg base CX0 3 f fd p_l_add spAddW := by
  refine F.ok sc_l_add (fun vs H Q E h => ?_) (fun cdv A outer s H vs Q E hr h => ?_)
  · obtain ⟨l, r, a, b, c, d, A, B, C, D, rfl, _⟩ := h
    rfl
  · obtain ⟨l, r, a, b, c, d, nA, nB, nC, nD, rfl, hl, hr2, ha, hb, hc, hd, A0, B0, C0, D0, i1, i2, i3, b0, d0, k⟩ := h
    have sl : SqT K H l [.int a, .int b] := SqT.of hl
    have sr : SqT K H r [.int c, .int d] := SqT.of hr2
    refine ⟨_, pss_one (ps_ret (pe_c cR hr (pa_cons (pe_op op_add (pe_op op_mulW (pe_ix ix_tup (pv 0) pe_int (fun _ _ => rfl)) (pe_ix ix_tup (pv 1) pe_int (fun _ _ => rfl))) (pe_op op_mulW (pe_ix ix_tup (pv 1) pe_int (fun _ _ => rfl)) (pe_ix ix_tup (pv 0) pe_int (fun _ _ => rfl))))
      (pa_cons (pe_op op_mulW (pe_ix ix_tup (pv 0) pe_int (fun _ _ => rfl)) (pe_ix ix_tup (pv 1) pe_int (fun _ _ => rfl))) pa_nil)))), ?_⟩
    have m1 := wide_mul ha hd A0 D0 (by omega)
    have m2 := wide_mul hc hb C0 B0 (by omega)
    have m3 := wide_mul hb hd B0 D0 (by omega)
    refine ⟨_, rfl, l, _, _, _, rfl, rfl, sl, at2_0, _, rfl, r, _, _, _, rfl, rfl, sr, at2_1, _, _, rfl, rfl, m1, ?_⟩
    refine ⟨_, rfl, r, _, _, _, rfl, rfl, sr, at2_0, _, rfl, l, _, _, _, rfl, rfl, sl, at2_1, _, _, rfl, rfl, m2, _, _, rfl, rfl, ?_⟩
    refine ⟨_, rfl, l, _, _, _, rfl, rfl, sl, at2_1, _, rfl, r, _, _, _, rfl, rfl, sr, at2_1, _, _, rfl, rfl, m3, ?_⟩
    exact ⟨_, _, rfl, pw_add (n := 8990) (pw_mul ha hd i1) (pw_mul hc hb i2) (by decide), pw_mul hb hd (by omega), Int.mul_pos b0 d0, k⟩
theorem ok_mulW {f : Addr} {fd : FuncData} (F : Fun K "_law_pv_mul" "_law_pv_mul" s_l_mul f fd) (cR : Cal P w K mg base 2 "_law_pv_ratio" p_l_ratio spRatio) : FnOk P w K mg base CX0 3 f fd p_l_mul spMulW := by
  refine F.ok sc_l_mul (fun vs H Q E h => ?_) (fun cdv A outer s H vs Q E hr h => ?_)
  · obtain ⟨l, r, a, b, c, d, A, B, C, D, rfl, _⟩ := h
    rfl
  · obtain ⟨l, r, a, b, c, d, nA, nB, nC, nD, rfl, hl, hr2, ha, hb, hc, hd, A0, B0, C0, D0, i1, i2, b0, d0, k⟩ := h
    have sl : SqT K H l [.int a, .int b] := SqT.of hl
    have sr : SqT K H r [.int c, .int d] := SqT.of hr2
    refine ⟨_, pss_one (ps_ret (pe_c cR hr (pa_cons (pe_op op_mulW (pe_ix ix_tup (pv 0) pe_int (fun _ _ => rfl)) (pe_ix ix_tup (pv 1) pe_int (fun _ _ => rfl)))
      (pa_cons (pe_op op_mulW (pe_ix ix_tup (pv 0) pe_int (fun _ _ => rfl)) (pe_ix ix_tup (pv 1) pe_int (fun _ _ => rfl))) pa_nil)))), ?_⟩
    have m1 := wide_mul ha hc A0 C0 (by omega)
    have m3 := wide_mul hb hd B0 D0 (by omega)
    refine ⟨_, rfl, l, _, _, _, rfl, rfl, sl, at2_0, _, rfl, r, _, _, _, rfl, rfl, sr, at2_0, _, _, rfl, rfl, m1, ?_⟩
    refine ⟨_, rfl, l, _, _, _, rfl, rfl, sl, at2_1, _, rfl, r, _, _, _, rfl, rfl, sr, at2_1, _, _, rfl, rfl, m3, ?_⟩
    exact ⟨_, _, rfl, pw_mul ha hc (by omega), pw_mul hb hd (by omega), Int.mul_pos b0 d0, k⟩
theorem ok_is_polynomialW {f : Addr} {fd : FuncData} (F : Fun K "is_polynomial" "is_polynomial" s_is_polynomial f fd) (T : T3 mg) (cI : Cal P w K mg base 1 "is_integer" p_is_integer spInt) : FnOk P w K mg base CX0 2 f fd p_is_polynomial spPolW := by
  refine F.ok sc_is_polynomial (fun vs H Q E h => ?_) (fun cdv A outer s H vs Q E hr h => ?_)
  · obtain ⟨a, ns, rfl, _⟩ := h
    rfl
  · obtain ⟨a, ns, rfl, ha, p1, p2, k⟩ := h
    have nd := sc_is_polynomial.nd
    refine ⟨_, pss_cons (ps_if (PW.pt (pw_or (pt_not (pt_val (pe_callB call_isi (by rfl) T.isi (by decide +kernel) (pa_cons (pv 0) (pa_cons (pe_bltn (v := .ty "list") (by rfl) T.lst (by decide +kernel) rfl) pa_nil)))))
        (pw_or1 (pt_not (pt_val (pe_callB (cr_all rfl) (by rfl) T.all (by decide +kernel) (pa_cons (pe_lc (own := [("number", 1)]) (g := gName 1) (tt := tYes) (te := tCall spInt [] E0 (tCons (tVar 1) tNil)) rfl nd (pi_list (pv 0)) (blkOk_by (N := n_is_polynomial) (sc := defScope s_is_polynomial) (by decide +kernel)) (fun _ _ _ _ _ => pg_name (i := 1) nd rfl (Or.inl rfl)) (fun _ _ _ _ _ => pts_nil)
          (fun _ _ _ _ _ => pe_c cI hr (pa_cons (pv 1) pa_nil))) pa_nil))))))) (pss_one (ps_ret pe_bl)) pss_nil)
      (pss_one (ps_ret (pe_or (pe_notT (pv 0)) (pe_one (pe_cmpR op_ne (pe_ix ix_list (pv 0) (pe_un un_neg pe_int) (fun _ _ => rfl)) pe_int (nomark _)))))), ?_⟩
    refine ⟨_, rfl, _, _, _, _, true, rfl, .ty "list", .base (.lst ha), kit_ty (by decide +kernel), true, rfl, if_f rfl ?_⟩
    refine ⟨_, rfl, a, rfl, ⟨_, ha.sq⟩, fun D hD => lc_list (xs := iV ns) (fun i H' => Evl.Ex H H' ∧ H' D = some (.lst (List.replicate i (.bl true)))) ⟨Evl.Ex.new hD, upd_same⟩ (fun i H' _ q => SqL.of (q.1 _ _ ha)) ?_ ?_⟩
    · rintro i x H' hi ⟨e1, h1⟩
      obtain ⟨n, hn, rfl⟩ := iV_get hi
      have hl : i < ns.length := (List.getElem?_eq_some_iff.mp hn).1
      refine ⟨rfl, ?_⟩
      show tCall spInt [] E0 (tCons (tVar 1) tNil) _ _ _
      refine ⟨_, rfl, n, rfl, fun H2 e2 => ⟨_, e2 _ _ h1, ?_, ?_, ?_⟩⟩
      · rw [List.length_replicate]; exact Nat.lt_of_lt_of_le (show i < 100 by omega) (by decide)
      · exact Evl.Ex.mut (e1.trans e2) hD
      · rw [upd_same, rep_snoc]
    · rintro H' ⟨e1, h1⟩
      rw [iV_len] at h1
      refine ⟨D, List.replicate ns.length true, rfl, SqL.of (by rw [h1, List.map_replicate]), true, by simp, ?_⟩
      refine if_f rfl ?_
      by_cases h0 : ns = []
      · refine ⟨_, rfl, false, .inl ⟨_, SqL.of (e1 _ _ ha), by rw [h0]; rfl⟩, _, rfl, if_t rfl ?_⟩
        exact k _ e1
      · obtain ⟨x, hx, hx2⟩ := atI_end h0
        refine ⟨_, rfl, true, .inl ⟨_, SqL.of (e1 _ _ ha), by cases ns with | nil => exact absurd rfl h0 | cons _ _ => rfl⟩, _, rfl, if_f rfl ?_⟩
        refine ⟨_, rfl, _, rfl, a, _, _, _, rfl, rfl, SqL.of (e1 _ _ ha), hx2, rfl, ?_⟩
        have e : (!decide (V.int x = V.int 0)) = true := by
          rw [decide_eq_false fun z => p1 x hx (by injection z)]; rfl
        show Q (.bl (!decide (V.int x = V.int 0))) H'
        rw [e]
        exact k _ e1
theorem ok_check_polynomialsW {f : Addr} {fd : FuncData} (F : Fun K "check_polynomials" "check_polynomials" s_check_polynomials f fd) (cP : Cal P w K mg base 2 "is_polynomial" p_is_polynomial spPolW) : FnOk P w K mg base CX0 3 f fd p_check_polynomials spChkW := by
  refine F.ok sc_check_polynomials (fun vs H Q E h => ?_) (fun cdv A outer s H vs Q E hr h => ?_)
  · obtain ⟨l, as, rfl, _⟩ := h
    rfl
  · obtain ⟨l, as, rfl, hl, h10, ha, k⟩ := h
    have nd := sc_check_polynomials.nd
    refine ⟨_, pss_one (ps_for PassesOwn.never rfl (pi_list (pv 0)) (pg_name (i := 1) nd rfl (Or.inl rfl))
      (pss_one (ps_if (pt_not (pt_val (pe_c cP hr (pa_cons (pv 1) pa_nil)))) (pss_one ps_never) pss_nil))), ?_⟩
    refine ⟨_, rfl, l, rfl, ⟨_, SqL.of hl⟩, for_list (xs := as.map V.ref) (fun i σ H' => Evl.Ex H H' ∧ ∃ v, σ = [some (.ref l), v]) ⟨Evl.Ex.refl _, none, rfl⟩ (fun i σ H' _ q => SqL.of (q.1 _ _ hl)) ?_ ?_⟩
    · rintro i x σ H' hi ⟨e1, v, rfl⟩
      rw [List.getElem?_map] at hi
      obtain ⟨a, h1, rfl⟩ : ∃ a, as[i]? = some a ∧ x = .ref a := by
        cases e : as[i]? with
        | none => rw [e] at hi; cases hi
        | some a => rw [e] at hi; exact ⟨a, rfl, (Option.some.inj hi).symm⟩
      obtain ⟨ns, hL, hP, hz⟩ := ha a (List.mem_of_getElem? h1)
      refine ⟨_, rfl, a, ns, rfl, e1 _ _ hL, hP, hz, fun H2 e2 => ⟨true, rfl, if_f rfl ⟨e1.trans e2, _, rfl⟩⟩⟩
    · rintro σ H' ⟨e1, v, rfl⟩
      exact k _ e1
theorem ok_ratioW {f : Addr} {fd : FuncData} (F : Fun K "_law_pv_ratio" "_law_pv_ratio" s_l_ratio f fd) (T : T0 mg) (cS : Cal P w K mg base 1 "_law_pv_shared" p_l_shared spShared) : FnOk P w K mg base CX0 2 f fd p_l_ratio spRatioW := by
  refine F.ok sc_l_ratio (fun vs H Q E h => ?_) (fun cdv A outer s H vs Q E hr h => ?_)
  · obtain ⟨y, rfl, _⟩ := h
    rfl
  · obtain ⟨y, rfl, y0, yb, k⟩ := h
    have nd := sc_l_ratio.nd
    refine ⟨_, pss_cons (ps_set (i := 2) nd rfl (Or.inl rfl) (pe_op op_mul (pe_c cS hr (pa_cons (pv 0) (pa_cons (pv 1) pa_nil))) (pe_op op_sub pe_int (pe_op op_mul pe_int (pe_callTy call_int1 (by rfl) T.int (by decide +kernel) (pa_cons (pe_cmpR op_lt (pv 1) pe_int (nomark _)) pa_nil))))))
      (pss_one (ps_ret (pe_tup (pa_cons (pe_op op_fdivN (pv 0) (pv 2)) (pa_cons (pe_op op_fdivN (pv 1) (pv 2)) pa_nil))))), ?_⟩
    refine ⟨_, rfl, _, rfl, 1, y, rfl, Nat.one_lt_two_pow (by decide), big yb (by decide), fun H2 e2 => ?_⟩
    have gc : (Int.gcd 1 y : Int) = 1 := by rw [Int.one_gcd]; rfl
    rw [gc]
    by_cases c : y < 0
    · have c1 : decide (y < 0) = true := decide_eq_true c
      refine ⟨_, rfl, _, _, rfl, rfl, .inr ⟨_, rfl, 2, _, rfl, rfl, .inl ⟨by decide, by decide⟩, 1, _, rfl, rfl, _, _, rfl, rfl, .inl ⟨by decide, by decide⟩, ?_⟩⟩
      rw [c1]
      refine ⟨_, rfl, _, rfl, _, _, rfl, rfl, ⟨by decide, by decide⟩, _, rfl, _, rfl, _, _, rfl, rfl, ⟨by decide, by decide⟩, (by show 2 ≤ sizeLine; decide), fun p hp => ?_⟩
      refine k p _ (Evl.fresh_back e2 hp) (e2.trans (Evl.Ex.new hp)) ?_
      rw [upd_same, if_pos c, if_pos c]
      have : Int.fdiv y (1 * (1 - 2 * (if true = true then (1 : Int) else 0))) = -y := by
        show Int.fdiv y (-1) = -y
        rw [Int.fdiv_neg (by omega), if_pos (Int.one_dvd y)]
        simp
      show some (HO.tup [V.int (Int.fdiv 1 (1 * (1 - 2 * (if true = true then (1 : Int) else 0)))), V.int (Int.fdiv y (1 * (1 - 2 * (if true = true then (1 : Int) else 0))))]) = _
      rw [this]
      rfl
    · have c1 : decide (y < 0) = false := decide_eq_false c
      refine ⟨_, rfl, _, _, rfl, rfl, .inr ⟨_, rfl, 2, _, rfl, rfl, .inl ⟨by decide, by decide⟩, 1, _, rfl, rfl, _, _, rfl, rfl, .inl ⟨by decide, by decide⟩, ?_⟩⟩
      rw [c1]
      refine ⟨_, rfl, _, rfl, _, _, rfl, rfl, ⟨by decide, by decide⟩, _, rfl, _, rfl, _, _, rfl, rfl, ⟨by decide, by decide⟩, (by show 2 ≤ sizeLine; decide), fun p hp => ?_⟩
      refine k p _ (Evl.fresh_back e2 hp) (e2.trans (Evl.Ex.new hp)) ?_
      rw [upd_same, if_neg c, if_neg c]
      have : Int.fdiv y (1 * (1 - 2 * (if false = true then (1 : Int) else 0))) = y := by
        show Int.fdiv y 1 = y
        rw [Int.fdiv_one]
      show some (HO.tup [V.int (Int.fdiv 1 (1 * (1 - 2 * (if false = true then (1 : Int) else 0)))), V.int (Int.fdiv y (1 * (1 - 2 * (if false = true then (1 : Int) else 0))))]) = _
      rw [this]
      rfl
end
end V2


namespace V2
open PySem L2
open PySem.Spec PyProof.Rows
def spPolyN : Sp := fun vs H Q _ => ∃ (p : Addr) (z m : Nat), vs = [.ref p, .int (z : Int)] ∧ z ≤ 8 ∧ Sk H p m ∧ m ≤ 90000 ∧
  ∀ (q : Addr) (ns : List Int) (H' : Hp), But p H H' → Sk H' p (m + 20) → H q = none → Li H' q ns → Sp6 ns → Q (.ref q) H'
section
variable {base : Heap} {mg : Str → Option Value} {K : PySem.W.Frag} {w : World} {P : Program}
theorem ok_polyN {f : Addr} {fd : FuncData} (F : Fun K "_law_pv_poly" "_law_pv_poly" s_l_poly f fd) (mR : mg "range" = none) (cC : Cal P w K mg base 1 "_law_pv_coin" p_l_coin spCoin) : FnOk P w K mg base CX0 2 f fd p_l_poly spPolyN := by
  refine F.ok sc_l_poly (fun vs H Q E h => ?_) (fun cdv A outer s H vs Q E hr h => ?_)
  · obtain ⟨p, n, m, rfl, _⟩ := h
    rfl
  · obtain ⟨p, z, m, rfl, z8, hS, hm, k⟩ := h
    have nd := sc_l_poly.nd
    have w6 : CPowX 10 6 := pow_ok (k := 4) (n := 6) (by decide) (by decide)
    refine ⟨_, pss_cons (ps_set (i := 2) nd rfl (Or.inr rfl) (pe_ix ix_list (pe_lst (pa_cons pe_int (pa_cons pe_int (pa_cons pe_int (pa_cons (pe_op op_powX pe_int pe_int) pa_nil))))) (pe_c cC hr (pa_cons (pv 0) (pa_cons pe_int pa_nil))) (fun _ _ => rfl)))
      (pss_cons (ps_setLc (i := 3) (own := [("turn", 4)]) (g := gName 4) (tt := tYes) (te := tOp (rI0 fun i j => .int (i - j)) (tCall spCoin [] E0 (tCons (tVar 0) (tCons (tOp (rI0 fun i j => .int (i + j)) (tOp (rI CMul fun i j => .int (i * j)) (tC (.int 2)) (tVar 2)) (tC (.int 1))) tNil))) (tVar 2)) rfl nd rfl rfl (sw_true rfl rfl rfl (by decide +kernel))
          (pi_range1 (by rfl) mR (pa_cons (pe_c cC hr (pa_cons (pv 0) (pa_cons (pe_op op_add (pv 1) pe_int) pa_nil))) pa_nil)) (blkOk_by (N := n_l_poly) (sc := defScope s_l_poly) (by decide +kernel)) (fun _ _ _ _ _ => pg_name (i := 4) nd rfl (Or.inl rfl)) (fun _ _ _ _ _ => pts_nil)
          (fun _ _ _ _ _ => pe_op op_sub (pe_c cC hr (pa_cons (pv 0) (pa_cons (pe_op op_add (pe_op op_mul pe_int (pv 2)) pe_int) pa_nil))) (pv 2)))
      (pss_cons (ps_if (PW.pt (pw_and (pt_cmpR (op_neD hr.units) (pv 3) (pe_lst pa_nil) (nomark _)) (pw_and1 (pt_cmpR op_eq (pe_ix ix_list (pv 3) (pe_un un_neg pe_int) (fun _ _ => rfl)) pe_int (nomark _)))))
        (pss_one (ps_asg (pe_op op_sub pe_int (pe_op op_mul pe_int (pe_c cC hr (pa_cons (pv 0) (pa_cons pe_int pa_nil))))) (pg_sub (pv 3) (pe_un un_neg pe_int) set_list))) pss_nil)
      (pss_one (ps_ret (pv 3))))), ?_⟩
    -- top
    refine ⟨10, 6, rfl, rfl, w6, by show 4 ≤ sizeLine; decide, fun l hl => ?_⟩
    have e1 : Evl.Ex H (upd H l (.lst [.int 1, .int 3, .int 12, .int (10 ^ (6 : Int).toNat)])) := Evl.Ex.new hl
    refine ⟨_, rfl, p, 4, m, rfl, hS.ex e1, by omega, by decide, by decide, fun r H1 r0 r1 b1 s1 z1 => ?_⟩
    have nlp := sk_ne hS hl
    obtain ⟨top, ht, ht2⟩ := at4 (a := 1) (b := 3) (c := 12) (d := 10 ^ (6 : Int).toNat) r0 r1
    have e6 : (10 : Int) ^ (6 : Int).toNat = 1000000 := by decide
    have t1 : 1 ≤ top ∧ top ≤ 1000000 := by rcases ht2 with e | e | e | e <;> rw [e] <;> first | omega | (rw [e6]; omega)
    refine ⟨l, _, _, _, rfl, rfl, SqL.of (b1 l _ nlp upd_same), ht, ?_⟩
    have b01 := ex_but e1 b1
    -- the list
    refine ⟨_, rfl, _, rfl, (z : Int), 1, rfl, rfl, p, (z : Int) + 1, m + 1, rfl, s1, by omega, by omega, Nat.lt_of_le_of_lt (show ((z : Int) + 1).natAbs ≤ 9 by omega) (by decide), fun c H2 c0 c1 b2 s2 z2 => ?_⟩
    have b02 := b01.trans b2
    refine ⟨c, rfl, by omega, by omega, fun D hD => lc_range (n := c.toNat) (fun i H' => But p H H' ∧ Sk H' p (m + 2 + i) ∧ ∃ ns : List Int, H' D = some (.lst (iV ns)) ∧ ns.length = i ∧ ∀ x ∈ ns, -top ≤ x ∧ x ≤ top)
      ⟨b02.trans (But.of_ex (Evl.Ex.new hD)), s2.ex (Evl.Ex.new hD), [], upd_same, rfl, (by intro x hx; cases hx)⟩ ?_ ?_⟩
    · rintro i H' hi ⟨b3, s3, ns, h3, h4, h5⟩
      have nDp := sk_ne s2 hD
      refine ⟨rfl, ?_⟩
      show tOp (rI0 fun i j => .int (i - j)) (tCall spCoin [] E0 (tCons (tVar 0) (tCons (tOp (rI0 fun i j => .int (i + j)) (tOp (rI CMul fun i j => .int (i * j)) (tC (.int 2)) (tVar 2)) (tC (.int 1))) tNil))) (tVar 2) _ _ _
      refine ⟨_, rfl, _, rfl, 2, top, rfl, rfl, .inl ⟨by decide, by decide⟩, _, 1, rfl, rfl, p, 2 * top + 1, m + 2 + i, rfl, s3, by omega, by omega, ?_, fun y H3 y0 y1 b4 s4 z4 => ?_⟩
      · have : (2 * top + 1).natAbs < 2 ^ 30 := by
          have e : (2 : Nat) ^ 30 = 1073741824 := by decide
          rw [e]; omega
        exact big this (by decide)
      refine ⟨_, rfl, _, _, rfl, rfl, _, b4 D _ nDp h3, ?_, ?_, ?_, ns ++ [y - top], ?_, ?_, ?_⟩
      · rw [iV_len, h4]; exact Nat.lt_of_lt_of_le (show i < 100 by omega) (by decide)
      · have hDn : H D = none := by
          have h1D := but_back b2 hD (sk_some s2)
          exact Evl.fresh_back e1 (but_back b1 h1D (sk_some s1))
        intro b o hb h
        rw [upd_ne (ne_of_none h hDn)]
        exact (b3.trans b4) b o hb h
      · obtain ⟨a', b', c', q1, q2⟩ := s4
        exact ⟨a', b', c', by rw [upd_ne nDp.symm]; exact q1, q2.1, q2.2.1, q2.2.2.1, q2.2.2.2.1, by have := q2.2.2.2.2; omega⟩
      · rw [upd_same]; unfold iV; rw [List.map_append]; rfl
      · rw [List.length_append, h4]; rfl
      · intro x hx
        rcases (List.mem_append.mp hx) with hx | hx
        · exact h5 x hx
        · obtain rfl := List.mem_singleton.mp hx
          omega
    · rintro H' ⟨b3, s3, ns, h3, h4, h5⟩
      have cl : c.toNat ≤ 8 := by omega
      have hDn : H D = none := by
        have h1D := but_back b2 hD (sk_some s2)
        exact Evl.fresh_back e1 (but_back b1 h1D (sk_some s1))
      have nDp := sk_ne s2 hD
      have bnd : ∀ x ∈ ns, -1000000 ≤ x ∧ x ≤ 1000000 := fun x hx => by have := h5 x hx; omega
      -- if found != [] and found[-1] == 0
      refine ⟨_, rfl, Nat.zero_le _, fun g hg => ?_⟩
      have e5 : Evl.Ex H' (upd H' g (.lst [])) := Evl.Ex.new hg
      refine ⟨.list (ns.map .int), .list [], .lst (SqL.of (e5 _ _ h3)) (dpI ns), .lst (SqL.of upd_same) .nil, shaped_ints ns, rfl, _, rfl, ?_⟩
      have b5 := b3.trans (But.of_ex e5)
      have s5 := s3.ex e5
      have h35 := e5 _ _ h3
      by_cases hn : ns = []
      · subst hn
        refine if_f (by simp [PyData.eqv, PyData.eqvAll]) ?_
        exact ⟨_, rfl, k D [] _ b5 (s5.le (by omega)) hDn h35 ⟨(fun x hx => by cases hx), by simp, (by intro x hx; cases hx)⟩⟩
      · refine if_t (by cases ns with | nil => exact absurd rfl hn | cons n r => simp [PyData.eqv, PyData.eqvAll]) ?_
        obtain ⟨x, hx, hx2⟩ := atI_end hn
        refine ⟨_, rfl, _, rfl, D, _, _, _, rfl, rfl, SqL.of h35, hx2, rfl, _, rfl, ?_⟩
        have ln : 0 < ns.length := List.length_pos_iff.mpr hn
        by_cases x0 : x = 0
        · refine if_t (decide_eq_true (by rw [x0])) ?_
          refine ⟨_, rfl, p, 2, m + 2 + c.toNat, rfl, s5, by omega, by decide, by decide, fun y H6 y0 y1 b6 s6 z6 => ?_⟩
          refine ⟨2, y, rfl, rfl, .inl ⟨by decide, by decide⟩, 1, _, rfl, rfl, _, rfl, _, rfl, D, iV ns, -1, ns.length - 1, rfl, rfl, b6 D _ nDp h35, ?_, ?_⟩
          · rw [iV_len]
            unfold ixN
            rw [if_neg (by decide), if_pos (by omega)]
            congr 1
            omega
          · refine ⟨_, rfl, k D (ns.set (ns.length - 1) (1 - 2 * y)) _ ?_ ?_ hDn ?_ ⟨?_, ?_, ?_⟩⟩
            · intro b o hb h
              rw [upd_ne (ne_of_none h hDn)]
              exact (b5.trans b6) b o hb h
            · obtain ⟨a', b', c', q1, q2⟩ := s6
              exact ⟨a', b', c', by rw [upd_ne nDp.symm]; exact q1, q2.1, q2.2.1, q2.2.2.1, q2.2.2.2.1, by have := q2.2.2.2.2; omega⟩
            · unfold Li
              rw [upd_same, ← iV_set]
            · intro z hz
              rw [List.length_set, List.getElem?_set_self (by omega)] at hz
              cases hz
              omega
            · rw [List.length_set]; omega
            · intro z hz
              rcases List.mem_or_eq_of_mem_set hz with hz | rfl
              · exact bnd z hz
              · omega
        · refine if_f (decide_eq_false (fun z => x0 (by injection z))) ?_
          exact ⟨_, rfl, k D ns _ b5 (s5.le (by omega)) hDn h35 ⟨fun z hz => by rw [hx] at hz; cases hz; exact x0, by omega, bnd⟩⟩
end
end V2


namespace V2
open PySem L2
open PySem.Spec PyProof.Rows
/-- the rest of greater polynomials -/
def spRemW : Sp := fun vs H Q _ => ∃ (a b : Addr) (xs ys : List Int) (bx by_ : Nat), vs = [.ref a, .ref b] ∧ Li H a xs ∧ Li H b ys ∧ Pol xs ∧ Pol ys ∧ xs.length ≤ 8 ∧ ys.length ≤ 8 ∧ Bs bx xs ∧ Bs by_ ys ∧ ys ≠ [] ∧ bx + (xs.length + 1 - ys.length) * (2 * by_ + 1) ≤ 8000 ∧ by_ ≤ 4055 ∧ ∀ L, Rm xs ys L → Evl.RetL (iV (prim L)) H Q
/-- ahead of each turn of the loop -/
def Wh5 (H : Hp) (a b : Addr) (ld : Int) (xs ys : List Int) (bx by_ : Nat) (m : Nat) (σ : L2.St) (H' : Hp) : Prop := ∃ (l : Addr) (L : List Int) (v4 v5 v6 v7 v8 : Option V) (j : Nat), σ = [some (.ref a), some (.ref b), some (.ref l), some (.int ld), v4, v5, v6, v7, v8, none, none] ∧
  Evl.Ex H H' ∧ Li H' l L ∧ Pol L ∧ L.length = m ∧ m ≤ 8 ∧ j ≤ xs.length + 1 - ys.length ∧ j + m ≤ xs.length ∧ Bs (bx + j * (by_ + 1)) L ∧ Rs xs ys L
section
variable {base : Heap} {mg : Str → Option Value} {K : PySem.W.Frag} {w : World} {P : Program}
theorem ok_remainder {f : Addr} {fd : FuncData} (F : Fun K "remainder" "remainder" s_remainder f fd) (T : T7 mg) (cC : Cal P w K mg base 1 "cut" p_cut (spTrim K)) (cP : Cal P w K mg base 2 "primitive" p_primitive spPrim) : FnOk P w K mg base CX0 3 f fd p_remainder spRemW := by
  refine F.ok sc_remainder (fun vs H Q E h => ?_) (fun cdv A outer s H vs Q E hr h => ?_)
  · obtain ⟨a, b, xs, ys, bx, b2, rfl, _⟩ := h
    rfl
  · obtain ⟨a, b, xs, ys, bx, by_, rfl, ha, hb, px, py, lx8, ly8, hbx, hby, y0, hroom, hby9, k⟩ := h
    have nd := sc_remainder.nd
    have r1 : Room 1 _ := hr.mono (by decide)
    refine ⟨_, pss_cons (ps_set (i := 2) nd rfl (Or.inl rfl) (pv 0))
      (pss_cons (ps_set (i := 3) nd rfl (Or.inl rfl) (pe_ix ix_list (pv 1) (pe_un un_neg pe_int) (fun _ _ => rfl)))
      (pss_cons (ps_while PassesOwn.never (pt_cmpR op_ge (pe_callB call_len_seq (by rfl) T.len PySem.boot_len (pa_cons (pv 2) pa_nil)) (pe_callB call_len_seq (by rfl) T.len PySem.boot_len (pa_cons (pv 1) pa_nil)) (nomark _))
        (pss_cons (ps_set (i := 4) nd rfl (Or.inl rfl) (pe_callBfun cr_gcd (by rfl) T.gcd (pa_cons (pe_ix ix_list (pv 2) (pe_un un_neg pe_int) (fun _ _ => rfl)) (pa_cons (pv 3) pa_nil))))
        (pss_cons (ps_asg (pe_tup (pa_cons (pe_op op_fdivW (pe_callB call_abs (by rfl) T.abs (by decide +kernel) (pa_cons (pv 3) pa_nil)) (pv 4)) (pa_cons (pe_op op_fdivW (pe_ix ix_list (pv 2) (pe_un un_neg pe_int) (fun _ _ => rfl)) (pv 4)) pa_nil)))
            (pg_tup rfl (pgs_cons (pg_name (i := 5) nd rfl (Or.inr rfl)) (pgs_cons (pg_name (i := 6) nd rfl (Or.inr rfl)) pgs_nil))))
        (Evl.pss_cut (ps_if (pt_cmpR op_lt (pv 3) pe_int (nomark _)) (pss_one (ps_set (i := 6) nd rfl (Or.inr rfl) (pe_un un_neg (pv 6)))) pss_nil)
        (pss_cons (ps_set (i := 7) nd rfl (Or.inl rfl) (pe_op op_sub (pe_callB call_len_seq (by rfl) T.len PySem.boot_len (pa_cons (pv 2) pa_nil)) (pe_callB call_len_seq (by rfl) T.len PySem.boot_len (pa_cons (pv 1) pa_nil))))
        (pss_cons (ps_set (i := 8) nd rfl (Or.inr rfl) (pe_op op_cat (pe_op op_rep (pe_lst (pa_cons pe_int pa_nil)) (pv 7))
            (pe_lc (own := [("number", 9)]) (g := gName 9) (tt := tYes) (te := tOp (rI CMulW fun i j => .int (i * j)) (tVar 6) (tVar 9)) rfl nd (pi_list (pv 1)) (blkOk_by (N := n_remainder) (sc := defScope s_remainder) (by decide +kernel)) (fun _ _ _ _ _ => pg_name (i := 9) nd rfl (Or.inl rfl)) (fun _ _ _ _ _ => pts_nil)
              (fun _ _ _ _ _ => pe_op op_mulW (pv 6) (pv 9)))))
        (pss_one (ps_set (i := 2) nd rfl (Or.inl rfl) (pe_c cC r1 (pa_cons
            (pe_lc (own := [("k", 10), ("number", 9)]) (g := gTup K 2 (gCons (gName 10) (gCons (gName 9) gNil))) (tt := tYes) (te := tOp (rI0 fun i j => .int (i - j)) (tOp (rI CMulW fun i j => .int (i * j)) (tVar 5) (tVar 9)) (tOp (rIxL K) (tVar 8) (tVar 10))) rfl nd (pi_enum (by rfl) T.enu (pa_cons (pv 2) pa_nil)) (blkOk_by (N := n_remainder) (sc := defScope s_remainder) (by decide +kernel)) (fun _ _ _ _ _ => pg_tup rfl (pgs_cons (pg_name (i := 10) nd rfl (Or.inl rfl)) (pgs_cons (pg_name (i := 9) nd rfl (Or.inl rfl)) pgs_nil))) (fun _ _ _ _ _ => pts_nil)
              (fun _ _ _ _ _ => pe_op op_sub (pe_op op_mulW (pv 5) (pv 9)) (pe_ix ix_list (pv 8) (pv 10) (fun _ _ => rfl)))) pa_nil)))))))))) 
      (pss_one (ps_ret (pe_c cP (hr.mono (by decide)) (pa_cons (pv 2) pa_nil)))))), ?_⟩
    have one : 1 ≤ sizeLine := by show 1 ≤ sizeLine; decide
    have two : 2 ≤ sizeLine := by show 2 ≤ sizeLine; decide
    obtain ⟨ld, hld, hld2⟩ := atI_end y0
    have ld0 := py ld hld
    have lb : 0 < ys.length := List.length_pos_iff.mpr y0
    have ldb : ld.natAbs < 2 ^ by_ := hby ld (List.mem_of_getElem? hld)
    have by0 : 0 < by_ := by
      rcases Nat.eq_zero_or_pos by_ with z | z
      · rw [z] at ldb
        have : (2 : Nat) ^ 0 = 1 := rfl
        omega
      · exact z
    have room1 : ∀ j, j ≤ xs.length + 1 - ys.length → bx + j * (by_ + 1) ≤ 8000 := fun j hj => by
      have h1 := Nat.mul_le_mul hj (show by_ + 1 ≤ 2 * by_ + 1 by omega)
      omega
    refine ⟨_, rfl, _, rfl, _, rfl, b, _, _, _, rfl, rfl, hb.sq, hld2, ?_⟩
    refine ⟨Wh5 H a b ld xs ys bx by_, ⟨xs.length, a, xs, none, none, none, none, none, 0, rfl, Evl.Ex.refl _, ha, px, rfl, lx8, by omega, by omega, hbx.le (by omega), Rs.self _ _⟩, ?_⟩
    rintro m σ H1 ⟨l, L, v4, v5, v6, v7, v8, j0, rfl, e1, hL, hp, hm, hm8, hj1, hj2, hbd, hR⟩
    subst hm
    have rj := room1 j0 hj1
    refine ⟨_, rfl, l, _, rfl, .inl hL.sq, _, rfl, b, _, rfl, .inl (SqL.of (e1 _ _ hb)), _, _, rfl, rfl, _, rfl, ?_⟩
    by_cases c : ys.length ≤ L.length
    · refine if_t (decide_eq_true (by rw [iV_len, iV_len]; omega)) ?_
      have L0 : L ≠ [] := fun z => by
        rw [z, List.length_nil] at c
        omega
      obtain ⟨tp, htp, htp2⟩ := atI_end L0
      obtain ⟨f, hf, f0, fb, g0, gb, tb, ge⟩ := grow_take (t := tp) (d := ld) ld0
      subst hf
      refine ⟨fun σ H' => ∃ m', m' < L.length ∧ Wh5 H a b ld xs ys bx by_ m' σ H', fun σ H' z => z, ?_⟩
      refine ⟨_, rfl, _, rfl, l, _, _, _, rfl, rfl, hL.sq, htp2, _, rfl, tp, ld, rfl, ?_⟩
      generalize hfe : ((Nat.gcd tp.natAbs ld.natAbs : Nat) : Int) = f at *
      refine ⟨_, rfl, ld, rfl, _, rfl, _, _, rfl, rfl, wide_div (b := by_) f0 (by omega) by0 (by omega), ?_⟩
      refine ⟨_, rfl, _, rfl, l, _, _, _, rfl, rfl, hL.sq, htp2, _, rfl, _, _, rfl, rfl, wide_div (b := by_) f0 (by omega) by0 (by omega), two, fun t ht => ?_⟩
      refine ⟨t, _, rfl, SqT.of upd_same, rfl, _, _, rfl, _, _, rfl, rfl, ?_⟩
      have et := Evl.Ex.new (o := .tup [.int ((if ld < 0 then -ld else ld) / f), .int (tp / f)]) ht
      obtain ⟨g, hg⟩ : ∃ g, (if ld < 0 then -ld else ld) / f = g := ⟨_, rfl⟩
      rw [hg] at g0 gb ge
      generalize htk : (if ld < 0 then -(tp / f) else tp / f) = tk at ge
      refine ⟨fun σ H' => ∃ v7 v8, σ = [some (.ref a), some (.ref b), some (.ref l), some (.int ld), some (.int f), some (.int g), some (.int tk), v7, v8, none, none] ∧ Evl.Ex H1 H', ?_, ?_⟩
      · refine ⟨_, rfl, _, _, rfl, rfl, _, rfl, ?_⟩
        refine ite2 (fun z => ?_) (fun z => ?_)
        · have z1 : ld < 0 := of_decide_eq_true z
          rw [if_pos z1] at htk
          refine ⟨_, rfl, _, rfl, v7, v8, ?_, et⟩
          rw [← htk, ← hg]
          rfl
        · have z1 : ¬ ld < 0 := fun y => z (decide_eq_true y)
          rw [if_neg z1] at htk
          refine ⟨v7, v8, ?_, et⟩
          rw [← htk, ← hg]
          rfl
      have tkb : tk.natAbs < 2 ^ (bx + j0 * (by_ + 1)) := by
        have h1 := hbd tp (List.mem_of_getElem? htp)
        have h2 : tk.natAbs = (tp / f).natAbs := by rw [← htk]; split <;> omega
        omega
      clear et ht
      rintro σ H2 ⟨w7, w8, rfl, e2⟩
      have hL2 : Li H2 l L := e2 _ _ hL
      have hb2 : Li H2 b ys := (e1.trans e2) _ _ hb
      refine ⟨_, rfl, l, _, rfl, .inl hL2.sq, _, rfl, b, _, rfl, .inl hb2.sq, _, _, rfl, rfl, ?_⟩
      refine ⟨one, fun p1 hp1 => ⟨_, rfl, p1, _, _, rfl, rfl, upd_same, by rw [iV_len, iV_len]; omega, by rw [iV_len, iV_len]; omega, ?_, fun p2 hp2 => ?_⟩⟩
      · rw [iV_len, iV_len]
        show 1 * _ ≤ sizeLine
        exact Nat.le_trans (show 1 * ((L.length : Int) - (ys.length : Int)).toNat ≤ 100 by omega) (by decide)
      rw [iV_len, iV_len, rep_flat, ← iV_rep, show ((L.length : Int) - (ys.length : Int)).toNat = L.length - ys.length by omega]
      have e3 : Evl.Ex H2 (upd H2 p1 (.lst [.int 0])) := Evl.Ex.new hp1
      have e4 := e3.trans (Evl.Ex.new (o := .lst (iV (List.replicate (L.length - ys.length) 0))) hp2)
      generalize hH3 : upd (upd H2 p1 (.lst [.int 0])) p2 (.lst (iV (List.replicate (L.length - ys.length) 0))) = H3 at *
      have hp23 : H3 p2 = some (.lst (iV (List.replicate (L.length - ys.length) 0))) := by rw [← hH3]; exact upd_same
      refine ⟨_, rfl, b, rfl, ⟨_, SqL.of (e4 _ _ hb2)⟩, fun D hD => lc_list (xs := iV ys) (fun i H' => Evl.Ex H3 H' ∧ H' D = some (.lst (iV ((ys.map fun x => tk * x).take i)))) ⟨Evl.Ex.new hD, upd_same⟩ (fun i H' _ q => SqL.of (q.1 _ _ (e4 _ _ hb2))) ?_ ?_⟩
      · rintro i x H' hi ⟨e5, h5⟩
        obtain ⟨n, hn, rfl⟩ := iV_get hi
        refine ⟨rfl, ?_⟩
        show tOp (rI CMulW fun i j => .int (i * j)) (tVar 6) (tVar 9) _ _ _
        refine ⟨_, rfl, _, rfl, _, _, rfl, rfl, wide_mul (a := bx + j0 * (by_ + 1) + 1) (big tkb (by omega)) (hby n (List.mem_of_getElem? hn)) (by omega) by0 (by omega), _, h5, ?_, Evl.Ex.mut e5 hD, ?_⟩
        · rw [iV_len, List.length_take, List.length_map]
          exact Nat.lt_of_le_of_lt (show min i ys.length ≤ 8 by omega) (by decide)
        · rw [upd_same, tkn_next hn]
      rintro H4 ⟨e5, h5⟩
      rw [iV_len, List.take_of_length_le (by rw [List.length_map]; exact Nat.le_refl _)] at h5
      refine ⟨p2, D, _, _, rfl, rfl, e5 _ _ hp23, h5, ?_, fun p3 hp3 => ?_⟩
      · rw [iV_len, iV_len, List.length_replicate, List.length_map]
        exact Nat.le_trans (show L.length - ys.length + ys.length ≤ 100 by omega) (by decide)
      rw [iV_app]
      have htkn : List.replicate (L.length - ys.length) 0 ++ ys.map (fun x => tk * x) = tkn ys (L.length - ys.length) tk := rfl
      rw [htkn]
      have e6 : Evl.Ex H4 (upd H4 p3 (.lst (iV (tkn ys (L.length - ys.length) tk)))) := Evl.Ex.new hp3
      have hp34 : Li (upd H4 p3 (.lst (iV (tkn ys (L.length - ys.length) tk)))) p3 (tkn ys (L.length - ys.length) tk) := upd_same
      generalize upd H4 p3 (.lst (iV (tkn ys (L.length - ys.length) tk))) = H5 at e6 hp34
      have e25 : Evl.Ex H2 H5 := (e4.trans e5).trans e6
      have hL5 : Li H5 l L := e25 _ _ hL2
      have gb20 : g.natAbs < 2 ^ by_ := by omega
      have hc := rs_step y0 hR c g0 (t := tk) (by rw [getD_at htp, getD_at hld]; exact ge)
      have hbd2 := bs_step (B := ys) hbd gb20 tkb hby
      have ej : bx + j0 * (by_ + 1) + (by_ + 1) = bx + (j0 + 1) * (by_ + 1) := by rw [Nat.succ_mul]; omega
      rw [ej] at hbd2
      refine ⟨_, rfl, l, _, rfl, hL5.sq, fun D2 hD2 => lc_it walk_enum (fun i H' => Evl.Ex H5 H' ∧ H' D2 = some (.lst (iV ((stepL ys L g tk).take i)))) ⟨Evl.Ex.new hD2, upd_same⟩ (fun i H' _ q => SqL.of (q.1 _ _ hL5)) ?_ ?_⟩
      · rintro i x H' H6 hi ⟨e7, h7⟩ ⟨t3, z, y, rfl, ht3, rfl, hz, hyy⟩
        obtain rfl := (Option.some.inj hz).symm
        obtain ⟨n, hn, rfl⟩ := iV_get hyy
        rw [iV_len] at hi
        have e8 := e7.trans (Evl.Ex.new (o := .tup [.int (i : Nat), .int n]) ht3)
        refine ⟨t3, _, rfl, SqT.of upd_same, rfl, _, _, rfl, _, _, rfl, rfl, rfl, ?_⟩
        show tOp (rI0 fun i j => .int (i - j)) (tOp (rI CMulW fun i j => .int (i * j)) (tVar 5) (tVar 9)) (tOp (rIxL K) (tVar 8) (tVar 10)) _ _ _
        have tl : i < (tkn ys (L.length - ys.length) tk).length := by rw [tkn_len]; omega
        refine ⟨_, rfl, _, rfl, _, _, rfl, rfl, wide_mul (b := bx + j0 * (by_ + 1) + 1) gb20 (big (hbd n (List.mem_of_getElem? hn)) (by omega)) by0 (by omega) (by omega), _, rfl, _, rfl, p3, _, _, _, rfl, rfl, SqL.of (e8 _ _ hp34), atI_nat (iV_at (List.getElem?_eq_getElem tl)), _, _, rfl, rfl, ?_⟩
        have h8 : (upd H' t3 (.tup [.int (i : Nat), .int n])) D2 = some (.lst (iV ((stepL ys L g tk).take i))) := by
          rw [upd_ne (ne_of_none h7 ht3)]
          exact h7
        refine ⟨_, h8, ?_, Evl.Ex.mut e8 hD2, ?_⟩
        · rw [iV_len, List.length_take]
          exact Nat.lt_of_le_of_lt (show min i (stepL ys L g tk).length ≤ 8 by omega) (by decide)
        · rw [upd_same]
          unfold stepL
          rw [vec_take hi, getD_at hn, getD_at (List.getElem?_eq_getElem tl)]
      · rintro H' ⟨e7, h7⟩
        rw [iV_len, show (stepL ys L g tk).take L.length = stepL ys L g tk from List.take_of_length_le (by unfold stepL; rw [vec_len]; exact Nat.le_refl _)] at h7
        refine ⟨D2, _, rfl, SqL.of h7, by unfold stepL; rw [vec_len]; omega, fun q H7 hq e9 h9 => ?_⟩
        have el : (trm (stepL ys L g tk)).length ≤ 8 := by omega
        exact ⟨_, hc.2, q, trm (stepL ys L g tk), _, _, _, _, _, j0 + 1, rfl, (((e1.trans e2).trans e25).trans e7).trans e9, h9, pol_trm _, rfl, el, by omega, by omega, hbd2, hc.1⟩
    · refine if_f (decide_eq_false (by rw [iV_len, iV_len]; omega)) ?_
      refine ⟨_, rfl, l, L, rfl, hL, by omega, hbd.le (by omega), hp, fun q H2 hq e2 h2 => ?_⟩
      exact k L ⟨hp, by omega, hR⟩ q H2 (Evl.fresh_back e1 hq) (e1.trans e2) h2
end
end V2


namespace V2
open PySem L2
open PySem.Spec PyProof.Rows
structure C5 (P : Program) (w : World) (K : PySem.W.Frag) (mg : Str → Option Value) (base : Heap) : Prop where
  len : mg "len" = none
  rng : mg "range" = none
  shared : Cal P w K mg base 1 "_law_pv_shared" p_l_shared spShared
  ratio1 : Cal P w K mg base 2 "_law_pv_ratio" p_l_ratio spRatioW
  add : Cal P w K mg base 3 "_law_pv_add" p_l_add spAddW
  mul : Cal P w K mg base 3 "_law_pv_mul" p_l_mul spMulW
  trim : Cal P w K mg base 1 "_law_pv_trim" p_l_trim (spTrim K)
  thin : Cal P w K mg base 2 "_law_pv_thin" p_l_thin spPrim
/-- where the law's own rest stands -/
def St5 (H : Hp) (xs ys : List Int) (bx by_ : Nat) (f : Addr) (v : List Int) (g : Int) (j : Nat) (H' : Hp) : Prop := Evl.Ex H H' ∧ Fv H' f v g ∧ 0 < g ∧ g.natAbs < 2 ^ (j * by_ + 1) ∧ Bs (bx + j * by_ + j) v ∧ v.length ≤ 8 ∧ (j ≤ xs.length + 1 - ys.length ∧ j + v.length ≤ xs.length) ∧ Rs xs ys v
theorem stepF_bd5 {B v : List Int} {e t : Int} {b c : Nat} (hv : Bs c v) (he : e.natAbs < 2 ^ b) (ht : t.natAbs < 2 ^ c) (hB : Bs b B) : Bs (c + (b + 1)) (stepF B v e t) := by
  intro x hx
  obtain ⟨i, _, rfl⟩ := vec_in hx
  have h2 := bs_mul (hv.at_ i) he
  have h1 : (if v.length - B.length ≤ i then t * (0 - B.getD (i - (v.length - B.length)) 0) else 0).natAbs < 2 ^ (c + b) := by
    split
    · refine bs_mul ht ?_
      have := hB.at_ (i - (v.length - B.length))
      omega
    · exact Nat.pow_pos (by decide)
  have e' : (2 : Nat) ^ (c + (b + 1)) = 2 ^ (c + b) + 2 ^ (c + b) := by
    rw [show c + (b + 1) = c + b + 1 from rfl, Nat.pow_succ]; omega
  rw [e']
  omega
section
variable {base : Heap} {mg : Str → Option Value} {K : PySem.W.Frag} {w : World} {P : Program}
theorem ok_left {f : Addr} {fd : FuncData} (F : Fun K "_law_pv_left" "_law_pv_left" s_l_left f fd) (c : C5 P w K mg base) : FnOk P w K mg base CX0 4 f fd p_l_left spRemW := by
  refine F.ok sc_l_left (fun vs H Q E h => ?_) (fun cdv A outer s H vs Q E hr h => ?_)
  · obtain ⟨a, b, xs, ys, bx, b2, rfl, _⟩ := h
    rfl
  · obtain ⟨a, b, xs, ys, bx, by_, rfl, ha, hb, px, py, lx8, ly8, hbx, hby, y0, hroom, hby9, k⟩ := h
    have nd := sc_l_left.nd
    have r1 : Room 1 _ := (hr.mono (by decide))
    have r2 : Room 2 _ := (hr.mono (by decide))
    refine ⟨_, pss_cons (ps_set (i := 3) nd rfl (Or.inr rfl) (pe_lc (own := [("piece", 2)]) (g := gName 2) (tt := tYes) (te := tTup (tCons (tVar 2) (tCons (tC (.int 1)) tNil))) rfl nd (pi_list (pv 0)) (blkOk_by (N := n_l_left) (sc := defScope s_l_left) (by decide +kernel)) (fun _ _ _ _ _ => pg_name (i := 2) nd rfl (Or.inl rfl)) (fun _ _ _ _ _ => pts_nil)
          (fun _ _ _ _ _ => pe_tup (pa_cons (pv 2) (pa_cons pe_int pa_nil)))))
      (Evl.pss_cut (ps_for PassesOwn.never rfl (pi_range1 (by rfl) c.rng (pa_cons (pe_callB call_len_seq (by rfl) c.len PySem.boot_len (pa_cons (pv 0) pa_nil)) pa_nil)) (pg_name (i := 4) nd rfl (Or.inl rfl))
        (pss_one (ps_if (pt_cmpR op_ge (pe_callB call_len_seq (by rfl) c.len PySem.boot_len (pa_cons (pv 3) pa_nil)) (pe_callB call_len_seq (by rfl) c.len PySem.boot_len (pa_cons (pv 1) pa_nil)) (nomark _))
          (pss_cons (ps_set (i := 5) nd rfl (Or.inr rfl) (pe_c c.mul hr (pa_cons (pe_ix ix_list (pv 3) (pe_un un_neg pe_int) (fun _ _ => rfl)) (pa_cons (pe_c c.ratio1 r2 (pa_cons pe_int (pa_cons (pe_ix ix_list (pv 1) (pe_un un_neg pe_int) (fun _ _ => rfl)) pa_nil))) pa_nil))))
          (pss_cons (ps_set (i := 6) nd rfl (Or.inr rfl) (pe_op op_rep (pe_lst (pa_cons (pe_tup (pa_cons pe_int (pa_cons pe_int pa_nil))) pa_nil)) (pe_op op_sub (pe_callB call_len_seq (by rfl) c.len PySem.boot_len (pa_cons (pv 3) pa_nil)) (pe_callB call_len_seq (by rfl) c.len PySem.boot_len (pa_cons (pv 1) pa_nil)))))
          (pss_cons (ps_set (i := 6) nd rfl (Or.inr rfl) (pe_op op_cat (pv 6) (pe_lc (own := [("piece", 2)]) (g := gName 2) (tt := tYes) (te := tCall spMulW [] E0 (tCons (tVar 5) (tCons (tTup (tCons (tOp (rI0 fun i j => .int (i - j)) (tC (.int 0)) (tVar 2)) (tCons (tC (.int 1)) tNil))) tNil))) rfl nd (pi_list (pv 1)) (blkOk_by (N := n_l_left) (sc := defScope s_l_left) (by decide +kernel)) (fun _ _ _ _ _ => pg_name (i := 2) nd rfl (Or.inl rfl)) (fun _ _ _ _ _ => pts_nil)
            (fun _ _ _ _ _ => pe_c c.mul hr (pa_cons (pv 5) (pa_cons (pe_tup (pa_cons (pe_op op_sub pe_int (pv 2)) (pa_cons pe_int pa_nil))) pa_nil))))))
          (pss_one (ps_set (i := 3) nd rfl (Or.inr rfl) (pe_lc (own := [("k", 8)]) (g := gName 8) (tt := tYes) (te := tCall spAddW [] E0 (tCons (tOp (rIxL K) (tVar 3) (tVar 8)) (tCons (tOp (rIxL K) (tVar 6) (tVar 8)) tNil))) rfl nd (pi_range1 (by rfl) c.rng (pa_cons (pe_op op_sub (pe_callB call_len_seq (by rfl) c.len PySem.boot_len (pa_cons (pv 3) pa_nil)) pe_int) pa_nil)) (blkOk_by (N := n_l_left) (sc := defScope s_l_left) (by decide +kernel)) (fun _ _ _ _ _ => pg_name (i := 8) nd rfl (Or.inl rfl)) (fun _ _ _ _ _ => pts_nil)
            (fun _ _ _ _ _ => pe_c c.add hr (pa_cons (pe_ix ix_list (pv 3) (pv 8) (fun _ _ => rfl)) (pa_cons (pe_ix ix_list (pv 6) (pv 8) (fun _ _ => rfl)) pa_nil)))))))))
          pss_nil)))
      (pss_cons (ps_set (i := 7) nd rfl (Or.inr rfl) pe_int)
      (pss_cons (ps_for PassesOwn.never rfl (pi_list (pv 3)) (pg_name (i := 2) nd rfl (Or.inl rfl))
        (pss_one (ps_set (i := 7) nd rfl (Or.inr rfl) (pe_op op_fdivW (pe_op op_mulW (pv 7) (pe_ix ix_tup (pv 2) pe_int (fun _ _ => rfl))) (pe_c c.shared r1 (pa_cons (pv 7) (pa_cons (pe_ix ix_tup (pv 2) pe_int (fun _ _ => rfl)) pa_nil)))))))
      (pss_one (ps_ret (pe_c c.thin r2 (pa_cons (pe_c c.trim r1 (pa_cons (pe_lc (own := [("piece", 2)]) (g := gName 2) (tt := tYes) (te := tOp (rI CDivW fun i j => .int (i / j)) (tOp (rI CMulW fun i j => .int (i * j)) (tOp (rIxT K) (tVar 2) (tC (.int 0))) (tVar 7)) (tOp (rIxT K) (tVar 2) (tC (.int 1)))) rfl nd (pi_list (pv 3)) (blkOk_by (N := n_l_left) (sc := defScope s_l_left) (by decide +kernel)) (fun _ _ _ _ _ => pg_name (i := 2) nd rfl (Or.inl rfl)) (fun _ _ _ _ _ => pts_nil)
            (fun _ _ _ _ _ => pe_op op_fdivW (pe_op op_mulW (pe_ix ix_tup (pv 2) pe_int (fun _ _ => rfl)) (pv 7)) (pe_ix ix_tup (pv 2) pe_int (fun _ _ => rfl)))) pa_nil)) pa_nil))))))), ?_⟩
    have one : 1 ≤ sizeLine := by show 1 ≤ sizeLine; decide
    have two : 2 ≤ sizeLine := by show 2 ≤ sizeLine; decide
    obtain ⟨ld, hld, hld2⟩ := atI_end y0
    have ld0 := py ld hld
    have lb : 0 < ys.length := List.length_pos_iff.mpr y0
    have ldb : ld.natAbs < 2 ^ by_ := hby ld (List.mem_of_getElem? hld)
    have by0 : 0 < by_ := by
      rcases Nat.eq_zero_or_pos by_ with z | z
      · rw [z] at ldb
        have : (2 : Nat) ^ 0 = 1 := rfl
        omega
      · exact z
    have room1 : ∀ j, j ≤ xs.length + 1 - ys.length → bx + (2 * (j * by_) + j) ≤ 8000 := fun j hj => by
      have h1 := Nat.mul_le_mul_right (2 * by_ + 1) hj
      have h2 : j * (2 * by_ + 1) = 2 * (j * by_) + j := by rw [Nat.mul_succ, Nat.mul_left_comm]
      omega
    refine ⟨_, rfl, a, rfl, ⟨_, ha.sq⟩, fun D hD => lc_list (xs := iV xs) (Bd H D xs 1) (Bd.zero hD) (fun i H' _ q => SqL.of (q.1 _ _ ha)) ?_ ?_⟩
    · rintro i x H' hi B
      obtain ⟨n, hn, rfl⟩ := iV_get hi
      have hl : i < xs.length := (List.getElem?_eq_some_iff.mp hn).1
      refine ⟨rfl, ?_⟩
      refine if_t (c := true) (B := Bd H D xs 1 (i + 1) H') rfl ?_
      refine ⟨_, rfl, two, fun p hp => ?_⟩
      exact B.turn hD (by omega) hn (Evl.Ex.new hp) (by rw [fr_one]; exact upd_same)
    rintro H1 B1
    rw [iV_len] at B1
    have S1 : St5 H xs ys bx by_ D xs 1 0 H1 := ⟨B1.1, B1.fv, by decide, big (n := 1) (by decide) (by omega), hbx.le (by omega), lx8, by omega, Rs.self _ _⟩
    refine ⟨fun σ H' => ∃ f v g j v4 v5 v6, σ = [some (.ref a), some (.ref b), none, some (.ref f), v4, v5, v6, none, none] ∧ St5 H xs ys bx by_ f v g j H' ∧ v.length < ys.length, ?_, ?_⟩
    · refine ⟨_, rfl, a, _, rfl, .inl (SqL.of (B1.1 _ _ ha)), _, rfl, by rw [iV_len]; omega, by rw [iV_len]; omega, ?_⟩
      rw [Int.toNat_natCast, iV_len]
      refine for_range (n := xs.length) (fun i σ H' => ∃ f v g j v4 v5 v6, σ = [some (.ref a), some (.ref b), none, some (.ref f), v4, v5, v6, none, none] ∧ St5 H xs ys bx by_ f v g j H' ∧ (v.length + i ≤ xs.length ∨ v.length < ys.length)) ⟨D, xs, 1, 0, none, none, none, rfl, S1, .inl (Nat.le_refl _)⟩ ?_ ?_
      · rintro i σ H2 hi ⟨f, v, g, j0, v4, v5, v6, rfl, ⟨e1, hF, g0, gb, vb, v8, hj0, hR⟩, hm⟩
        obtain ⟨as, q1, q2, q3⟩ := id hF
        have hb2 : Li H2 b ys := e1 _ _ hb
        refine ⟨_, rfl, f, _, rfl, .inl (SqL.of q1), _, rfl, b, _, rfl, .inl hb2.sq, _, _, rfl, rfl, _, rfl, ?_⟩
        by_cases cc : ys.length ≤ v.length
        · refine if_t (decide_eq_true (by rw [iV_len, List.length_map, q2]; omega)) ?_
          have v0 : 0 < v.length := by omega
          obtain ⟨x, hxl⟩ : ∃ x, v[v.length - 1]? = some x := ⟨v[v.length - 1], List.getElem?_eq_getElem (by omega)⟩
          obtain ⟨ax, hax⟩ : ∃ ax, as[v.length - 1]? = some ax := ⟨as[v.length - 1]'(by omega), List.getElem?_eq_getElem (by omega)⟩
          have hFx := q3 _ _ _ hax hxl
          have ib : atI (as.map V.ref) (-1) = some (.ref ax) := ref_end (by rw [q2, List.getElem?_map, hax]; rfl) (by omega)
          have xb := vb x (List.mem_of_getElem? hxl)
          have rj := room1 (j0 + 1) (by omega)
          rw [Nat.succ_mul j0 by_] at rj
          generalize hJB : j0 * by_ = JB at *
          obtain ⟨sg, hsg⟩ : ∃ sg : Int, (if ld < 0 then -1 else 1) = sg := ⟨_, rfl⟩
          obtain ⟨ab, hab⟩ : ∃ ab : Int, (if ld < 0 then -ld else ld) = ab := ⟨_, rfl⟩
          have ab0 : 0 < ab := by rw [← hab]; split <;> omega
          have abb : ab.natAbs < 2 ^ by_ := by
            have : ab.natAbs = ld.natAbs := by rw [← hab]; split <;> omega
            omega
          have sgb : sg.natAbs ≤ 1 := by rw [← hsg]; split <;> decide
          have hsl : sg * ld = ab := by rw [← hsg, ← hab]; split <;> omega
          have gab0 : 0 < g * ab := Int.mul_pos g0 ab0
          have xsb : (x * sg).natAbs < 2 ^ (bx + JB + j0) := by
            rw [Int.natAbs_mul]
            exact Nat.lt_of_le_of_lt (Nat.mul_le_mul_left _ sgb) (by rw [Nat.mul_one]; exact xb)
          have gabb : (g * ab).natAbs < 2 ^ (JB + 1 + by_) := wide_lt gb abb
          refine ⟨_, rfl, _, rfl, f, _, _, _, rfl, rfl, SqL.of q1, ib, _, rfl, _, rfl, b, _, _, _, rfl, rfl, hb2.sq, hld2, ld, rfl, ld0, big ldb (by omega), fun p H3 hp e3 h3 => ?_⟩
          rw [hsg, hab] at h3
          refine ⟨ax, p, _, _, _, _, bx + JB + j0 + 1, JB + 1, 1, by_, rfl, e3 _ _ hFx, h3, fr_b1 g0 xb (by omega), fr_b2 g0 gb (by omega), Nat.lt_of_le_of_lt sgb (by decide), abb, by omega, by omega, by decide, by0, by omega, by omega, fr_pos g0, ab0, fun q H4 hq e4 h4 => ?_⟩
          rw [fr_mm g0 ab0] at h4
          have e14 := (e1.trans e3).trans e4
          have q14 := (e3.trans e4) _ _ q1
          have hb4 := (e3.trans e4) _ _ hb2
          have hF4 := hF.ex (e3.trans e4)
          refine ⟨two, fun t0 ht0 => ⟨one, fun p1 hp1 => ⟨_, rfl, f, _, rfl, .inl (SqL.of (Evl.Ex.new hp1 _ _ (Evl.Ex.new ht0 _ _ q14))), _, rfl, b, _, rfl, .inl (SqL.of (Evl.Ex.new hp1 _ _ (Evl.Ex.new ht0 _ _ hb4))), _, _, rfl, rfl, p1, _, _, rfl, rfl, upd_same, by rw [List.length_map, iV_len]; omega, by rw [List.length_map, iV_len]; omega, ?_, fun p2 hp2 => ?_⟩⟩⟩
          · rw [List.length_map, iV_len]
            show 1 * _ ≤ sizeLine
            exact Nat.le_trans (show 1 * ((as.length : Int) - (ys.length : Int)).toNat ≤ 100 by omega) (by decide)
          rw [List.length_map, iV_len, rep_flat, q2, show ((v.length : Int) - (ys.length : Int)).toNat = v.length - ys.length by omega]
          have e5 : Evl.Ex H4 (upd H4 t0 (.tup [.int 0, .int 1])) := Evl.Ex.new ht0
          have e6 := e5.trans (Evl.Ex.new (o := .lst [.ref t0]) hp1)
          have e7 := e6.trans (Evl.Ex.new (o := .lst (List.replicate (v.length - ys.length) (.ref t0))) hp2)
          have ht5 : Fr (upd (upd (upd H4 t0 (.tup [.int 0, .int 1])) p1 (.lst [.ref t0])) p2 (.lst (List.replicate (v.length - ys.length) (.ref t0)))) t0 0 1 := Evl.Ex.new hp2 _ _ (Evl.Ex.new hp1 _ _ upd_same)
          have hp25 : (upd (upd (upd H4 t0 (.tup [.int 0, .int 1])) p1 (.lst [.ref t0])) p2 (.lst (List.replicate (v.length - ys.length) (.ref t0)))) p2 = some (.lst (List.replicate (v.length - ys.length) (.ref t0))) := upd_same
          generalize upd (upd (upd H4 t0 (.tup [.int 0, .int 1])) p1 (.lst [.ref t0])) p2 (.lst (List.replicate (v.length - ys.length) (.ref t0))) = H5 at e7 ht5 hp25
          clear e5 e6
          refine ⟨_, rfl, _, rfl, b, rfl, ⟨_, SqL.of (e7 _ _ hb4)⟩, fun D2 hD2 => lc_list (xs := iV ys) (Bd H5 D2 (ys.map fun y => x * sg * (0 - y)) (g * ab)) (Bd.zero hD2) (fun i H' _ z => SqL.of (z.1 _ _ (e7 _ _ hb4))) ?_ ?_⟩
          · rintro j z H' hj BB
            obtain ⟨n, hn, rfl⟩ := iV_get hj
            have hl : j < ys.length := (List.getElem?_eq_some_iff.mp hn).1
            have nb := hby n (List.mem_of_getElem? hn)
            refine ⟨rfl, ?_⟩
            show tCall spMulW [] E0 (tCons (tVar 5) (tCons (tTup (tCons (tOp (rI0 fun i j => .int (i - j)) (tC (.int 0)) (tVar 2)) (tCons (tC (.int 1)) tNil))) tNil)) _ _ _
            refine ⟨_, rfl, _, rfl, _, _, rfl, rfl, two, fun t1 ht1 => ?_⟩
            have en := Evl.Ex.new (o := .tup [.int (0 - n), .int 1]) ht1
            refine ⟨q, t1, _, _, _, _, bx + JB + j0 + 1, JB + 1 + by_, by_, 1, rfl, (((e7.trans BB.1).trans en) _ _ h4), upd_same, fr_b1 gab0 xsb (by omega), fr_b2 gab0 gabb (by omega), by omega, by decide, by omega, by omega, by0, by decide, by omega, by omega, fr_pos gab0, by decide, fun y H7 hy7 e8 h8 => ?_⟩
            rw [fr_mm gab0 (by decide), Int.mul_one] at h8
            exact BB.turn hD2 (by omega) (by rw [List.getElem?_map, hn]; rfl) (en.trans e8) h8
          rintro H6 BB
          rw [iV_len] at BB
          obtain ⟨e8, as2, m1, m2, m3⟩ := BB
          refine ⟨p2, D2, _, _, rfl, rfl, e8 _ _ hp25, m1, ?_, fun p3 hp3 => ?_⟩
          · rw [List.length_replicate, List.length_map, m2]
            exact Nat.le_trans (show v.length - ys.length + ys.length ≤ 100 by omega) (by decide)
          have e9 : Evl.Ex H6 (upd H6 p3 (.lst (List.replicate (v.length - ys.length) (V.ref t0) ++ as2.map V.ref))) := Evl.Ex.new hp3
          have hT := Fv.app (H := upd H6 p3 (.lst (List.replicate (v.length - ys.length) (V.ref t0) ++ as2.map V.ref))) (t0 := t0) (p := p3) (u := ys.map fun y => x * sg * (0 - y)) (off := v.length - ys.length) gab0 ((e8.trans e9) _ _ ht5) (by rw [m2, List.length_map]) (fun j a' x' hj hx' => e9 _ _ (m3 j a' x' hj hx')) upd_same
          generalize upd H6 p3 (.lst (List.replicate (v.length - ys.length) (V.ref t0) ++ as2.map V.ref)) = H7 at e9 hT
          have e47 := (e7.trans e8).trans e9
          obtain ⟨bs, w1, w2, w3⟩ := id hT
          have q17 := e47 _ _ q14
          refine ⟨_, rfl, f, _, rfl, .inl (SqL.of q17), _, _, rfl, rfl, _, rfl, by rw [List.length_map]; omega, by rw [List.length_map]; omega, fun D3 hD3 => ?_⟩
          have eN : (((as.map V.ref).length : Int) - 1).toNat = v.length - 1 := by rw [List.length_map]; omega
          have sl : (stepF ys v ab (x * sg)).length = v.length - 1 := vec_len _ _
          rw [eN]
          refine lc_range (n := v.length - 1) (Bd H7 D3 (stepF ys v ab (x * sg)) (g * ab)) (Bd.zero hD3) ?_ ?_
          · intro j H' hj BB
            have vj : v[j]? = some v[j] := List.getElem?_eq_getElem (by omega)
            have aj : as[j]? = some (as[j]'(by omega)) := List.getElem?_eq_getElem (by omega)
            have tj := tkv_getD ys (v.length - ys.length) (x * sg) j (by omega)
            have lT : j < bs.length := by
              rw [w2, List.length_append, List.length_replicate, List.length_map]; omega
            have bj : bs[j]? = some bs[j] := List.getElem?_eq_getElem lT
            have F1 := (e47.trans BB.1) _ _ ((e3.trans e4) _ _ (q3 _ _ _ aj vj))
            have F2 := BB.1 _ _ (w3 _ _ _ bj tj)
            have e0 : (0 : Int) + (j : Int) = (j : Int) := (Int.zero_add _)
            have xv := vb _ (List.mem_of_getElem? vj)
            have tb : (if v.length - ys.length ≤ j then x * sg * (0 - ys.getD (j - (v.length - ys.length)) 0) else 0).natAbs < 2 ^ (bx + JB + j0 + by_) := by
              split
              · refine wide_lt xsb ?_
                have := hby.at_ (j - (v.length - ys.length))
                omega
              · exact Nat.pow_pos (by decide)
            refine ⟨rfl, ?_⟩
            show tCall spAddW [] E0 (tCons (tOp (rIxL K) (tVar 3) (tVar 8)) (tCons (tOp (rIxL K) (tVar 6) (tVar 8)) tNil)) _ _ _
            refine ⟨_, rfl, _, rfl, f, _, _, .ref (as[j]'(by omega)), rfl, rfl, SqL.of (BB.1 _ _ q17), ?_, _, rfl, _, rfl, p3, _, _, .ref bs[j], rfl, rfl, SqL.of (BB.1 _ _ w1), ?_, ?_⟩
            · show atI _ ((0 : Int) + (j : Int)) = _
              rw [e0]
              exact atI_nat (by rw [List.getElem?_map, aj]; rfl)
            · show atI _ ((0 : Int) + (j : Int)) = _
              rw [e0]
              exact atI_nat (by rw [List.getElem?_map, bj]; rfl)
            refine ⟨as[j]'(by omega), bs[j], _, _, _, _, bx + JB + j0 + 1, JB + 1, bx + JB + j0 + by_, JB + 1 + by_, rfl, F1, F2, fr_b1 g0 xv (by omega), fr_b2 g0 gb (by omega), fr_b1 gab0 tb (by omega), fr_b2 gab0 gabb (by omega), by omega, by omega, by omega, by omega, by omega, by omega, by omega, fr_pos g0, fr_pos gab0, fun y H9 hy9 e10 h10 => ?_⟩
            rw [fr_aa g0 ab0] at h10
            refine BB.turn hD3 (by omega) ?_ e10 h10
            unfold stepF
            rw [vec_get hj, getD_at vj]
          · rintro H' BB
            rw [← sl] at BB
            have st := stepF_rs y0 hR cc ab0 (t := x * sg) (by rw [getD_at hxl, getD_at hld, ← hsl, Int.mul_comm (sg * ld), Int.mul_assoc])
            have bd := stepF_bd5 (B := ys) vb abb xsb hby
            have ej : (j0 + 1) * by_ = JB + by_ := by rw [Nat.succ_mul j0 by_, hJB]
            refine ⟨D3, stepF ys v ab (x * sg), g * ab, j0 + 1, _, _, _, rfl, ⟨(e14.trans e47).trans BB.1, BB.fv, gab0, ?_, ?_, by omega, by omega, st⟩, ?_⟩
            · rw [ej]
              exact big gabb (by omega)
            · rw [ej]
              exact bd.le (by omega)
            · rw [sl]
              omega
        · refine if_f (decide_eq_false (by rw [iV_len, List.length_map, q2]; omega)) ?_
          exact ⟨f, v, g, j0, _, v5, v6, rfl, ⟨e1, hF, g0, gb, vb, v8, hj0, hR⟩, .inr (by omega)⟩
      · rintro σ H2 ⟨f, v, g, j0, v4, v5, v6, rfl, hS, hm⟩
        exact ⟨f, v, g, j0, v4, v5, v6, rfl, hS, by omega⟩
    rintro σ H2 ⟨f, v, g, j0, v4, v5, v6, rfl, ⟨e1, hF, g0, gb, vb, v8, hj0, hR⟩, hlt⟩
    have rj := room1 j0 hj0.1
    generalize hJB : j0 * by_ = JB at *
    obtain ⟨as, q1, q2, q3⟩ := id hF
    obtain ⟨G, hG⟩ : ∃ G : Nat, g = (G : Int) := ⟨g.toNat, by omega⟩
    have G0 : 0 < G := by omega
    have Gb : G < 2 ^ 4001 := by
      have : g.natAbs < 2 ^ 4001 := big gb (by omega)
      omega
    have dG : ∀ x, ∃ d : Nat, (fr x g).2 = (d : Int) ∧ d ∣ G ∧ 0 < d ∧ d < 2 ^ 4001 := fun x => by
      have p := fr_pos (u := x) g0
      obtain ⟨d, hd⟩ : ∃ d : Nat, (fr x g).2 = (d : Int) := ⟨(fr x g).2.toNat, by omega⟩
      refine ⟨d, hd, ?_, by omega, ?_⟩
      · have h2 := (fr_mul (u := x) g0).2
        have h3 : (fr x g).2 ∣ g := ⟨_, h2⟩
        rw [hd] at h3
        have h4 : (d : Int) ∣ (G : Int) := by
          rw [← hG]
          exact h3
        exact Int.natCast_dvd_natCast.mp h4
      · have := fr_b2 (x := x) (M := 4001) g0 gb (by omega)
        omega
    refine ⟨_, rfl, f, rfl, ⟨_, SqL.of q1⟩, for_list (xs := as.map V.ref) (fun i σ H' => ∃ (l : Nat) (v2 : Option V), σ = [some (.ref a), some (.ref b), v2, some (.ref f), v4, v5, v6, some (.int (l : Int)), none] ∧ Evl.Ex H2 H' ∧ l ∣ G ∧ 0 < l ∧ ∀ j x, j < i → v[j]? = some x → (fr x g).2 ∣ (l : Int))
      ⟨1, none, rfl, Evl.Ex.refl _, Nat.one_dvd _, by decide, fun j x h => absurd h (Nat.not_lt_zero _)⟩ (fun i σ H' _ ⟨_, _, _, z, _⟩ => SqL.of (z _ _ q1)) ?_ ?_⟩
    · rintro i z σ H' hi ⟨l, v2, rfl, e2, lG, l0, hd⟩
      have hi2 : i < as.length := by
        have := ((List.getElem?_eq_some_iff.mp hi).1)
        rwa [List.length_map] at this
      have ai : as[i]? = some as[i] := List.getElem?_eq_getElem hi2
      have vi : v[i]? = some (v[i]'(by omega)) := List.getElem?_eq_getElem (by omega)
      rw [List.getElem?_map, ai] at hi
      obtain rfl : V.ref as[i] = z := Option.some.inj hi
      have hFi := e2 _ _ (q3 _ _ _ ai vi)
      obtain ⟨d, hd1, hd2, hd3, hd4⟩ := dG (v[i]'(by omega))
      obtain ⟨s1, s2, s3, s4, s5⟩ := lcm_step lG hd2 G0
      have lb2 : l < 2 ^ 4001 := Nat.lt_of_le_of_lt (Nat.le_of_dvd G0 lG) Gb
      rw [hd1] at hFi
      have gp : 0 < Int.gcd (l : Int) (d : Int) := Nat.gcd_pos_of_pos_left _ l0
      refine ⟨_, rfl, _, rfl, as[i], _, _, _, rfl, rfl, SqT.of hFi, at2_1, _, _, rfl, rfl, wide_mul (a := 4001) (b := 4001) (by rw [Int.natAbs_natCast]; exact lb2) (by rw [Int.natAbs_natCast]; exact hd4) (by decide) (by decide) (by decide), ?_⟩
      refine ⟨_, rfl, _, rfl, as[i], _, _, _, rfl, rfl, SqT.of hFi, at2_1, (l : Int), (d : Int), rfl, by rw [Int.natAbs_natCast]; exact Nat.lt_of_lt_of_le lb2 (Nat.pow_le_pow_right (by decide) (by decide)), by rw [Int.natAbs_natCast]; exact Nat.lt_of_lt_of_le hd4 (Nat.pow_le_pow_right (by decide) (by decide)), fun H5 e5 => ?_⟩
      refine ⟨_, _, rfl, rfl, wide_div (b := 4001) (by omega) (by rw [Int.natAbs_natCast]; exact Nat.lt_of_le_of_lt (Nat.gcd_le_left _ l0) lb2) (by decide) (by decide), ?_⟩
      refine ⟨Nat.lcm l d, some (.ref as[i]), ?_, e2.trans e5, s2, s5, fun j x hj hx => ?_⟩
      · rw [← s1]
        rfl
      · by_cases cj : j < i
        · exact Int.dvd_trans (hd j x cj hx) (Int.natCast_dvd_natCast.mpr s3)
        · have ej : j = i := by omega
          subst ej
          rw [vi] at hx
          cases hx
          rw [hd1]
          exact Int.natCast_dvd_natCast.mpr s4
    · rintro σ H' ⟨l, v2, rfl, e2, lG, l0, hd⟩
      rw [List.length_map, q2] at hd
      have hdv : ∀ x ∈ v, (fr x g).2 ∣ (l : Int) := fun x hxm => by
        obtain ⟨j, hj⟩ := List.getElem?_of_mem hxm
        exact hd j x (List.getElem?_eq_some_iff.mp hj).1 hj
      have lb2 : l < 2 ^ 4001 := Nat.lt_of_le_of_lt (Nat.le_of_dvd G0 lG) Gb
      have e12 := e1.trans e2
      refine ⟨_, rfl, f, rfl, ⟨_, SqL.of (e2 _ _ q1)⟩, fun D4 hD4 => lc_list (xs := as.map V.ref) (fun i H3 => Evl.Ex H' H3 ∧ H3 D4 = some (.lst (iV ((overL v g l).take i)))) ⟨Evl.Ex.new hD4, upd_same⟩ (fun i H3 _ z => SqL.of (z.1 _ _ (e2 _ _ q1))) ?_ ?_⟩
      · rintro i z H3 hi ⟨e3, h3⟩
        have hi2 : i < as.length := by
          have := ((List.getElem?_eq_some_iff.mp hi).1)
          rwa [List.length_map] at this
        have ai : as[i]? = some as[i] := List.getElem?_eq_getElem hi2
        have vi : v[i]? = some (v[i]'(by omega)) := List.getElem?_eq_getElem (by omega)
        rw [List.getElem?_map, ai] at hi
        obtain rfl : V.ref as[i] = z := Option.some.inj hi
        have hFi : Fr H3 as[i] _ _ := (e2.trans e3) _ _ (q3 _ _ _ ai vi)
        have xv := vb _ (List.mem_of_getElem? vi)
        refine ⟨rfl, ?_⟩
        show tOp (rI CDivW fun i j => .int (i / j)) (tOp (rI CMulW fun i j => .int (i * j)) (tOp (rIxT K) (tVar 2) (tC (.int 0))) (tVar 7)) (tOp (rIxT K) (tVar 2) (tC (.int 1))) _ _ _
        refine ⟨_, rfl, as[i], _, _, _, rfl, rfl, SqT.of hFi, at2_0, _, rfl, _, _, rfl, rfl, wide_mul (a := 8000) (b := 4001) (fr_b1 g0 xv (by omega)) (by rw [Int.natAbs_natCast]; exact lb2) (by decide) (by decide) (by decide), ?_⟩
        refine ⟨_, rfl, as[i], _, _, _, rfl, rfl, SqT.of hFi, at2_1, _, _, rfl, rfl, wide_div (b := 4001) (fr_pos g0) (fr_b2 g0 gb (by omega)) (by decide) (by decide), _, h3, ?_, Evl.Ex.mut e3 hD4, ?_⟩
        · rw [iV_len, List.length_take]
          unfold overL
          rw [List.length_map]
          exact Nat.lt_of_le_of_lt (show min i v.length ≤ 8 by omega) (by decide)
        · rw [upd_same, take_next (show (overL v g l)[i]? = some _ by unfold overL; rw [List.getElem?_map, vi]; rfl)]
      · rintro H3 ⟨e3, h3⟩
        have ol : (overL v g l).length = v.length := by unfold overL; rw [List.length_map]
        rw [List.length_map, q2, ← ol, List.take_length] at h3
        refine ⟨D4, overL v g l, rfl, SqL.of h3, by omega, fun q H4 hq e4 h4 => ?_⟩
        have e14 := (e12.trans e3).trans e4
        have hov := over_getD (v := v) (l := (l : Int)) g0 hdv
        have ob : ∀ y ∈ overL v g l, y.natAbs < 2 ^ 9000 := fun y hy' => by
          obtain ⟨j, hj⟩ := List.getElem?_of_mem hy'
          have h5 := hov j
          rw [getD_at hj] at h5
          have h6 := congrArg Int.natAbs h5
          rw [Int.natAbs_mul, Int.natAbs_mul, Int.natAbs_natCast] at h6
          have h7 := getD_mem vb j
          have h8 : l ≤ g.natAbs := by
            have := Nat.le_of_dvd G0 lG
            omega
          have h9 : g.natAbs * y.natAbs ≤ g.natAbs * (v.getD j 0).natAbs := by
            rw [h6]
            exact Nat.mul_le_mul_right _ h8
          have h10 := Nat.le_of_mul_le_mul_left h9 (by omega)
          exact Nat.lt_of_le_of_lt h10 (Nat.lt_of_lt_of_le h7 (Nat.pow_le_pow_right (by decide) (by omega)))
        refine ⟨q, trm (overL v g l), rfl, h4, by have := trm_len (overL v g l); omega, fun y hy' => ob y (trm_mem hy'), pol_trm _, fun r H5 hr5 e5 h5 => ?_⟩
        have hpp : prim (trm v) = prim (trm (overL v g l)) := prim_prop (c := (l : Int)) (g := g) (pol_trm _) (pol_trm _) (by omega) g0 fun i => by rw [trm_getD, trm_getD]; exact hov i
        have hRm : Rm xs ys (trm v) := ⟨pol_trm _, by have := trm_len v; omega, hR.congr fun i => trm_getD v i⟩
        rw [← hpp] at h5
        exact k (trm v) hRm r H5 (Evl.fresh_back e14 hr5) (e14.trans e5) h5
end
end V2


namespace V2
open PySem L2
open PySem.Spec PyProof.Rows
/-! ## the program's rows -/
def spNeg : Sp := fun vs H Q _ => ∃ (a : Addr) (ns : List Int), vs = [.ref a] ∧ Li H a ns ∧ ns.length ≤ 100 ∧ Evl.RetL (iV (negL ns)) H Q
def spSlope : Sp := fun vs H Q _ => ∃ (a : Addr) (ns : List Int), vs = [.ref a] ∧ Li H a ns ∧ ns.length ≤ 100 ∧ Evl.RetL (iV (slopeL ns)) H Q
def tru (R : List Int) : Bool × List Int := (true, R)
/-- a new list of new lists -/
def RetT (rows : List (List Int)) (H : Hp) (Q : VK) : Prop := ∀ (q : Addr) (its : List Itm) (H2 : Hp), Tr H H2 q its → its.map sh = rows.map tru → Q (.ref q) H2
def spRests : Sp := fun vs H Q _ => ∃ (a b : Addr) (p : List Int) (Hs : Hp), vs = [.ref a, .ref b] ∧ Li H a p ∧ Li H b (slopeL p) ∧ P6 p ∧ p ≠ [] ∧ Evl.Ex Hs H ∧ Hs b = none ∧
  ∀ (q : Addr) (its : List Itm) (H2 : Hp), Tr Hs H2 q its → its.map sh = (rowL p).map tru → Q (.ref q) H2
def spRow : Sp := fun vs H Q _ => ∃ (a : Addr) (p : List Int), vs = [.ref a] ∧ Li H a p ∧ P6 p ∧ p ≠ [] ∧ RetT (rowL p) H Q
theorem cut_suf5 (xs : List V) (k : Nat) : cutV xs (some (k : Int)) none = xs.drop k := by
  unfold cutV
  rw [HT.sIx_nat, HT.sIx_none]
  rcases Nat.le_total k xs.length with h | h
  · rw [Nat.min_eq_left h]
    (exact List.take_of_length_le (by rw [List.length_drop]; omega))
  · rw [Nat.min_eq_right h, List.drop_length, List.drop_of_length_le h]
    exact List.take_nil
theorem vec_drop (N : Nat) (f : Nat → Int) : (vec N f).drop 1 = vec (N - 1) fun k => f (k + 1) := by
  refine vec_ext (by rw [List.length_drop, vec_len]) fun i hi => ?_
  rw [List.getElem?_drop, Nat.add_comm 1 i]
  exact vec_get (by omega)
def mulK (ns : List Int) : List Int := vec ns.length fun k => (k : Int) * ns.getD k 0
theorem mulK_drop (ns : List Int) : cutV (iV (mulK ns)) (some ((1 : Nat) : Int)) none = iV (slopeL ns) := by
  rw [cut_suf5]
  unfold iV mulK slopeL
  rw [← List.map_drop, vec_drop]
theorem atI_two {α : Type} (xs : List α) (v w : α) : atI (xs ++ [v, w]) (-2) = some v := by
  have hl : (xs ++ [v, w]).length = xs.length + 2 := by simp
  have e : ixN (xs ++ [v, w]).length (-2) = some xs.length := by
    unfold ixN
    rw [hl, if_neg (by decide), if_pos (by omega)]
    congr 1
    omega
  unfold atI
  rw [e]
  simp
theorem map_snoc {α β : Type} {f : α → β} {l : List α} {pre : List β} {y : β} (h : l.map f = pre ++ [y]) : ∃ l0 x, l = l0 ++ [x] ∧ l0.map f = pre ∧ f x = y := by
  have h0 : l ≠ [] := fun z => by rw [z] at h; simp at h
  refine ⟨l.dropLast, l.getLast h0, (List.dropLast_concat_getLast h0).symm, ?_, ?_⟩
  · have e := h
    rw [← List.dropLast_concat_getLast h0, List.map_append] at e
    exact (List.append_inj' e rfl).1
  · have e := h
    rw [← List.dropLast_concat_getLast h0, List.map_append] at e
    have := (List.append_inj' e rfl).2
    simpa using this
theorem refs_app (l : List Itm) (i : Itm) : refs (l ++ [i]) = refs l ++ [.ref i.2.1] := by unfold refs; rw [List.map_append]; rfl
theorem Built.snoc2 {Hs H : Hp} {its : List Itm} {i : Itm} (h : Built Hs H its) (hs : Hs i.2.1 = none) (hne : ∀ j ∈ its, j.2.1 ≠ i.2.1) (h2 : ItAt H i) : Built Hs H (its ++ [i]) := by
  refine ⟨h.1, fun j hj => ?_, ?_⟩
  · rcases List.mem_append.mp hj with hj | hj
    · exact h.2.1 j hj
    · obtain rfl := List.mem_singleton.mp hj
      exact ⟨h2, hs⟩
  · (rw [List.map_append, List.nodup_append])
    refine ⟨h.2.2, by simp, ?_⟩
    intro x hx y hy e2
    obtain ⟨j, hj, rfl⟩ := List.mem_map.mp hx
    obtain rfl : y = i.2.1 := by simpa using hy
    exact hne j hj e2
section
variable {base : Heap} {mg : Str → Option Value} {K : PySem.W.Frag} {w : World} {P : Program}
theorem ok_negated {f : Addr} {fd : FuncData} (F : Fun K "negated" "negated" s_negated f fd) : FnOk P w K mg base CX0 1 f fd p_negated spNeg := by
  refine F.ok sc_negated (fun vs H Q E h => ?_) (fun cdv A outer s H vs Q E hr h => ?_)
  · obtain ⟨a, ns, rfl, _⟩ := h
    rfl
  · obtain ⟨a, ns, rfl, hL, hl, k⟩ := h
    have nd := sc_negated.nd
    refine ⟨_, pss_one (ps_ret (pe_lc (own := [("number", 1)]) (g := gName 1) (tt := tYes) (te := tUn (rU fun i => .int (-i)) (tVar 1)) rfl nd (pi_list (pv 0)) (blkOk_by (N := n_negated) (sc := defScope s_negated) (by decide +kernel)) (fun _ _ _ _ _ => pg_name (i := 1) nd rfl (Or.inl rfl)) (fun _ _ _ _ _ => pts_nil)
          (fun _ _ _ _ _ => pe_un un_neg (pv 1)))), ?_⟩
    refine ⟨_, rfl, a, rfl, ⟨_, hL.sq⟩, fun D hD => lc_list (xs := iV ns) (fun i H' => Evl.Ex H H' ∧ H' D = some (.lst (iV ((negL ns).take i)))) ⟨Evl.Ex.new hD, upd_same⟩ (fun i H' _ q => SqL.of (q.1 _ _ hL)) ?_ ?_⟩
    · rintro i x H' hi ⟨e1, h1⟩
      obtain ⟨n, hn, rfl⟩ := iV_get hi
      have hlt : i < ns.length := (List.getElem?_eq_some_iff.mp hn).1
      refine ⟨rfl, ?_⟩
      show tUn (rU fun i => .int (-i)) (tVar 1) _ _ _
      refine ⟨_, rfl, n, rfl, _, h1, ?_, Evl.Ex.mut e1 hD, ?_⟩
      · rw [iV_len, List.length_take, negL_length]
        exact Nat.lt_of_le_of_lt (show min i ns.length ≤ 100 by omega) (by decide)
      · rw [upd_same, take_next (n := -n) (by unfold negL; rw [List.getElem?_map, hn]; rfl)]
    · rintro H' ⟨e1, h1⟩
      rw [iV_len, ← negL_length, List.take_length] at h1
      exact k D H' hD e1 h1
theorem ok_slope {f : Addr} {fd : FuncData} (F : Fun K "slope" "slope" s_slope f fd) (mE : mg "enumerate" = none) : FnOk P w K mg base CX0 1 f fd p_slope spSlope := by
  refine F.ok sc_slope (fun vs H Q E h => ?_) (fun cdv A outer s H vs Q E hr h => ?_)
  · obtain ⟨a, ns, rfl, _⟩ := h
    rfl
  · obtain ⟨a, ns, rfl, hL, hl, k⟩ := h
    have nd := sc_slope.nd
    refine ⟨_, pss_one (ps_ret (pe_slice sl_list (pe_lc (own := [("k", 1), ("number", 2)]) (g := gTup K 2 (gCons (gName 1) (gCons (gName 2) gNil))) (tt := tYes) (te := tOp (rI CMul fun i j => .int (i * j)) (tVar 1) (tVar 2)) rfl nd (pi_enum (by rfl) mE (pa_cons (pv 0) pa_nil)) (blkOk_by (N := n_slope) (sc := defScope s_slope) (by decide +kernel)) (fun _ _ _ _ _ => pg_tup rfl (pgs_cons (pg_name (i := 1) nd rfl (Or.inl rfl)) (pgs_cons (pg_name (i := 2) nd rfl (Or.inl rfl)) pgs_nil))) (fun _ _ _ _ _ => pts_nil)
          (fun _ _ _ _ _ => pe_op op_mul (pv 1) (pv 2))) (po_some pe_int) po_none)), ?_⟩
    refine ⟨_, rfl, a, _, rfl, hL.sq, fun D hD => lc_it walk_enum (fun i H' => Evl.Ex H H' ∧ H' D = some (.lst (iV ((mulK ns).take i)))) ⟨Evl.Ex.new hD, upd_same⟩ (fun i H' _ q => SqL.of (q.1 _ _ hL)) ?_ ?_⟩
    · rintro i x H' H6 hi ⟨e7, h7⟩ ⟨t3, z, y, rfl, ht3, rfl, hz, hyy⟩
      obtain rfl := (Option.some.inj hz).symm
      obtain ⟨n, hn, rfl⟩ := iV_get hyy
      rw [iV_len] at hi
      have e8 := e7.trans (Evl.Ex.new (o := .tup [.int (i : Nat), .int n]) ht3)
      refine ⟨t3, _, rfl, SqT.of upd_same, rfl, _, _, rfl, _, _, rfl, rfl, rfl, ?_⟩
      show tOp (rI CMul fun i j => .int (i * j)) (tVar 1) (tVar 2) _ _ _
      have h8 : (upd H' t3 (.tup [.int (i : Nat), .int n])) D = some (.lst (iV ((mulK ns).take i))) := by
        rw [upd_ne (ne_of_none h7 ht3)]
        exact h7
      have e64 : (2 : Int) ^ 64 = 18446744073709551616 := by decide
      refine ⟨_, rfl, _, rfl, _, n, rfl, rfl, .inl ⟨by rw [e64]; omega, by rw [e64]; omega⟩, _, h8, ?_, Evl.Ex.mut e8 hD, ?_⟩
      · rw [iV_len, List.length_take]
        exact Nat.lt_of_le_of_lt (show min i (mulK ns).length ≤ 100 by omega) (by decide)
      · rw [upd_same, take_next (n := ((i : Nat) : Int) * n) (by unfold mulK; rw [vec_get hi, getD_at hn])]
    · rintro H' ⟨e7, h7⟩
      have hl2 : (mulK ns).length = ns.length := vec_len _ _
      rw [iV_len, ← hl2, List.take_length] at h7
      refine ⟨1, rfl, D, _, rfl, SqL.of h7, fun p hp => k p _ (Evl.fresh_back e7 hp) (e7.trans (Evl.Ex.new hp)) ?_⟩
      rw [upd_same]
      exact congrArg (fun z => some (HO.lst z)) (mulK_drop ns)
structure T8 (mg : Str → Option Value) : Prop where
  lst : mg "list" = none
/-- ahead of each turn -/
def Wrow (Hs H : Hp) (a b : Addr) (p : List Int) (m : Nat) (σ : L2.St) (H' : Hp) : Prop := ∃ (t f : Addr) (its : List Itm) (pre : List (List Int)) (A B : List Int), σ = [some (.ref a), some (.ref b), some (.ref t), some (.ref f)] ∧
  Evl.Ex H H' ∧ H' t = some (.lst (refs its)) ∧ Hs t = none ∧ Built Hs H' its ∧ (∀ i ∈ its, i.2.1 ≠ t) ∧ its.map sh = (pre ++ [A]).map tru ∧ Li H' f B ∧ Hs f = none ∧ (∀ i ∈ its, i.2.1 ≠ f) ∧ Wr p pre A B ∧ B.length = m
theorem ok_rests {f : Addr} {fd : FuncData} (F : Fun K "signed_rests" "signed_rests" s_signed_rests f fd) (T : T8 mg) (cN : Cal P w K mg base 1 "negated" p_negated spNeg) (cR : Cal P w K mg base 3 "remainder" p_remainder spRemW) : FnOk P w K mg base CX0 4 f fd p_signed_rests spRests := by
  refine F.ok sc_signed_rests (fun vs H Q E h => ?_) (fun cdv A outer s H vs Q E hr h => ?_)
  · obtain ⟨a, b, p, Hs, rfl, _⟩ := h
    rfl
  · obtain ⟨a, b, p, Hs, rfl, ha, hb, hp, p0, eS, bS, k⟩ := h
    have nd := sc_signed_rests.nd
    have one : 1 ≤ sizeLine := by show 1 ≤ sizeLine; decide
    refine ⟨_, pss_cons (ps_set (i := 2) nd rfl (Or.inl rfl) (pe_lst (pa_cons (pe_callTy call_list_of (by rfl) T.lst (by decide +kernel) (pa_cons (pv 0) pa_nil)) pa_nil)))
      (pss_cons (ps_set (i := 3) nd rfl (Or.inl rfl) (pv 1))
      (pss_cons (ps_while PassesOwn.never (pt_truth (pv 3) (by intro _; rfl))
        (pss_cons (ps_set (i := 2) nd rfl (Or.inl rfl) (pe_op op_cat (pv 2) (pe_lst (pa_cons (pv 3) pa_nil))))
        (pss_one (ps_set (i := 3) nd rfl (Or.inl rfl) (pe_c cN (hr.mono (by decide)) (pa_cons (pe_c cR hr (pa_cons (pe_ix ix_list (pv 2) (pe_un un_neg pe_int) (fun _ _ => rfl)) (pa_cons (pe_ix ix_list (pv 2) (pe_un un_neg pe_int) (fun _ _ => rfl)) pa_nil))) pa_nil))))))
      (pss_one (ps_ret (pv 2))))), ?_⟩
    refine ⟨_, rfl, a, _, rfl, .inl ha.sq, fun l hl => ⟨one, fun t ht => ⟨_, rfl, ?_⟩⟩⟩
    have e1 : Evl.Ex H (upd H l (.lst (iV p))) := Evl.Ex.new hl
    have e2 := e1.trans (Evl.Ex.new (o := .lst [.ref l]) ht)
    have hl2 : upd (upd H l (.lst (iV p))) t (.lst [.ref l]) l = some (.lst (iV p)) := Evl.Ex.new ht _ _ upd_same
    have nlt : l ≠ t := ne_of_none upd_same ht
    refine ⟨Wrow Hs H a b p, ⟨(slopeL p).length, t, b, [(true, l, p)], [], p, slopeL p, rfl, e2, upd_same, Evl.fresh_back eS (Evl.fresh_back e1 ht), ?_, ?_, rfl, e2 _ _ hb, bS, ?_, Wr.start hp p0, rfl⟩, ?_⟩
    · refine ⟨eS.trans e2, fun i hi => ?_, by simp⟩
      obtain rfl := List.mem_singleton.mp hi
      exact ⟨hl2, Evl.fresh_back eS hl⟩
    · intro i hi
      obtain rfl := List.mem_singleton.mp hi
      exact nlt
    · intro i hi
      obtain rfl := List.mem_singleton.mp hi
      exact (ne_of_none hb hl).symm
    rintro m σ H1 ⟨t1, f1, its, pre, A, B, rfl, e3, ht1, tS, hB, nt, hsh, hf, fS, nf, hW, rfl⟩
    refine ⟨_, rfl, _, tru_list hf, ?_⟩
    by_cases h0 : B = []
    · subst h0
      refine if_f rfl ⟨_, rfl, k t1 its H1 ⟨hB, ht1, tS, nt⟩ ?_⟩
      rw [hsh, hW.done]
    · refine if_t (by cases B with | nil => exact absurd rfl h0 | cons _ _ => rfl) ?_
      refine ⟨fun σ H' => ∃ m', m' < B.length ∧ Wrow Hs H a b p m' σ H', fun σ H' z => z, ?_⟩
      have il : its.length ≤ 8 := by
        have := congrArg List.length hsh
        rw [List.length_map, List.length_map, List.length_append] at this
        have := hW.pre_len hp p0
        simp only [List.length_cons, List.length_nil] at *
        omega
      refine ⟨_, rfl, _, rfl, one, fun g hg => ⟨t1, g, _, _, rfl, rfl, Evl.Ex.new hg _ _ ht1, upd_same, ?_, fun t2 ht2 => ?_⟩⟩
      · rw [refs_len]
        exact Nat.le_trans (show its.length + 1 ≤ 100 by omega) (by decide)
      have e4 : Evl.Ex H1 (upd H1 g (.lst [.ref f1])) := Evl.Ex.new hg
      have e5 := e4.trans (Evl.Ex.new (o := .lst (refs its ++ [.ref f1])) ht2)
      have ht2' : upd (upd H1 g (.lst [.ref f1])) t2 (.lst (refs its ++ [.ref f1])) t2 = some (.lst (refs its ++ [.ref f1])) := upd_same
      have ht2n : H1 t2 = none := Evl.fresh_back e4 ht2
      generalize upd (upd H1 g (.lst [.ref f1])) t2 (.lst (refs its ++ [.ref f1])) = H2 at e5 ht2'
      rw [List.map_append] at hsh
      obtain ⟨its0, x, rfl, hs0, hx⟩ := map_snoc hsh
      obtain ⟨xb, xa, xs⟩ := x
      have hx1 : xb = true := congrArg Prod.fst hx
      have hx2 : xs = A := congrArg Prod.snd hx
      subst hx1
      subst hx2
      have hxa : Li H1 xa xs := (hB.2.1 (true, xa, xs) (List.mem_append_right _ List.mem_cons_self)).1
      obtain ⟨bx, by_, hbx, hby, hroom, hby9⟩ := hW.nb.room h0
      have q1 : atI (refs (its0 ++ [(true, xa, xs)]) ++ [V.ref f1]) (-2) = some (.ref xa) := by
        rw [refs_app, List.append_assoc]
        exact atI_two _ _ _
      refine ⟨_, rfl, _, rfl, t2, _, _, _, rfl, rfl, SqL.of ht2', q1, _, rfl, _, rfl, t2, _, _, _, rfl, rfl, SqL.of ht2', atI_last _ _, ?_⟩
      refine ⟨xa, f1, xs, B, bx, by_, rfl, e5 _ _ hxa, e5 _ _ hf, hW.nb.pa, hW.nb.pb, hW.nb.la, by have := hW.nb.lt; have := hW.nb.la; omega, hbx, hby, h0, hroom, hby9, fun L hL r H3 hr3 e6 h6 => ?_⟩
      refine ⟨r, prim L, rfl, h6, by rw [prim_length]; have := hL.2.1; have := hW.nb.lt; have := hW.nb.la; omega, fun u H4 hu e7 h7 => ?_⟩
      rw [← nx_eq hW.nb.pb hL] at h7
      have e57 := (e5.trans e6).trans e7
      have hB4 := hB.ext e57
      have uS : H1 u = none := Evl.fresh_back (e5.trans e6) hu
      refine ⟨_, nx_len (A := xs) h0, t2, u, (its0 ++ [(true, xa, xs)]) ++ [(true, f1, B)], pre ++ [xs], B, nx xs B, rfl, e3.trans e57, ?_, ?_, hB4.snoc2 fS nf (e57 _ _ hf), ?_, ?_, h7, Evl.fresh_back hB.1 uS, ?_, hW.next hp h0, rfl⟩
      · rw [refs_app]
        exact (e6.trans e7) _ _ ht2'
      · exact Evl.fresh_back hB.1 ht2n
      · intro i hi
        rcases List.mem_append.mp hi with hi | hi
        · exact ne_of_none (hB.2.1 i hi).1 ht2n
        · obtain rfl := List.mem_singleton.mp hi
          exact ne_of_none hf ht2n
      · rw [List.map_append, hsh, List.map_append, List.map_append]
        rfl
      · intro i hi
        rcases List.mem_append.mp hi with hi | hi
        · exact ne_of_none (hB.2.1 i hi).1 uS
        · obtain rfl := List.mem_singleton.mp hi
          exact ne_of_none hf uS
theorem ok_row_of {f : Addr} {fd : FuncData} (F : Fun K "row_of" "row_of" s_row_of f fd) (cS : Cal P w K mg base 1 "slope" p_slope spSlope) (cR : Cal P w K mg base 4 "signed_rests" p_signed_rests spRests) : FnOk P w K mg base CX0 5 f fd p_row_of spRow := by
  refine F.ok sc_row_of (fun vs H Q E h => ?_) (fun cdv A outer s H vs Q E hr h => ?_)
  · obtain ⟨a, p, rfl, _⟩ := h
    rfl
  · obtain ⟨a, p, rfl, ha, hp, p0, k⟩ := h
    refine ⟨_, pss_one (ps_ret (pe_c cR hr (pa_cons (pv 0) (pa_cons (pe_c cS (hr.mono (by decide)) (pa_cons (pv 0) pa_nil)) pa_nil)))), ?_⟩
    refine ⟨_, rfl, _, rfl, a, p, rfl, ha, by have := hp.2.1; omega, fun b H1 hb e1 h1 => ?_⟩
    exact ⟨a, b, p, H, rfl, e1 _ _ ha, h1, hp, p0, e1, hb, fun q its H2 hT hs => k q its H2 hT hs⟩
theorem ok_row {f : Addr} {fd : FuncData} (F : Fun K "row" "row" s_row f fd) (cC : Cal P w K mg base 3 "check_polynomials" p_check_polynomials spChkW) (cN : Cal P w K mg base 1 "check_not_zero" p_check_not_zero spNz) (cR : Cal P w K mg base 5 "row_of" p_row_of spRow) : FnOk P w K mg base CX0 6 f fd p_row spRow := by
  refine F.ok sc_row (fun vs H Q E h => ?_) (fun cdv A outer s H vs Q E hr h => ?_)
  · obtain ⟨a, p, rfl, _⟩ := h
    rfl
  · obtain ⟨a, p, rfl, ha, hp, p0, k⟩ := h
    refine ⟨_, pss_cons (ps_expr (pe_c cC (hr.mono (by decide)) (pa_cons (pe_lst (pa_cons (pv 0) pa_nil)) pa_nil))) (pss_cons (ps_expr (pe_c cN (hr.mono (by decide)) (pa_cons (pv 0) pa_nil))) (pss_one (ps_ret (pe_c cR hr (pa_cons (pv 0) pa_nil))))), ?_⟩
    refine ⟨_, rfl, (by show 1 ≤ sizeLine; decide), fun l hl => ?_⟩
    have e1 := Evl.Ex.new (o := .lst [.ref a]) hl
    refine ⟨l, [a], rfl, upd_same, by simp, fun c hc => ?_, fun H2 e2 => ?_⟩
    · obtain rfl := List.mem_singleton.mp hc
      exact ⟨p, e1 _ _ ha, hp.1, by have := hp.2.1; omega⟩
    have e12 := e1.trans e2
    refine ⟨_, rfl, a, p, rfl, e12 _ _ ha, p0, fun H3 e3 => ?_⟩
    have e13 := e12.trans e3
    refine ⟨_, rfl, a, p, rfl, e13 _ _ ha, hp, p0, fun q its H4 hT hs => k q its H4 ⟨⟨e13.trans hT.b.1, fun i hi => ⟨(hT.b.2.1 i hi).1, Evl.fresh_back e13 (hT.b.2.1 i hi).2⟩, hT.b.2.2⟩, hT.at_, Evl.fresh_back e13 hT.nq, hT.ne⟩ hs⟩
end
end V2


namespace V2
open PySem L2
open PySem.Spec PyProof.Rows
/-! ## the program's turns -/
theorem hT_ltN {p q : Int} {N : Nat} (hp : p.natAbs < 2 ^ 50) (hq : q.natAbs < 2 ^ 50) : ∀ (l : List Int), (∀ x ∈ l, x.natAbs < 2 ^ N) → (hT p q l).natAbs < 2 ^ (N + 1 + 51 * l.length)
  | [], _ => by show (0 : Int).natAbs < _; exact Nat.pow_pos (by decide)
  | a :: r, h => by
    have h1 := hT_ltN hp hq r fun x hx => h x (List.mem_cons_of_mem _ hx)
    have h2 := npow_lt hq r.length
    have ha := h a List.mem_cons_self
    have m1 : (hT p q r * p).natAbs < 2 ^ (N + 1 + 51 * r.length + 50) := by
      (rw [Int.natAbs_mul, Nat.pow_add])
      exact Nat.mul_lt_mul'' h1 hp
    have m2 : (a * q ^ r.length).natAbs < 2 ^ (N + (50 * r.length + 1)) := by
      (rw [Int.natAbs_mul, Nat.pow_add])
      exact Nat.mul_lt_mul'' ha h2
    have m3 : (2 : Nat) ^ (N + (50 * r.length + 1)) ≤ 2 ^ (N + 1 + 51 * r.length + 50) := Nat.pow_le_pow_right (by decide) (by omega)
    have m4 : (2 : Nat) ^ (N + 1 + 51 * (r.length + 1)) = 2 ^ (N + 1 + 51 * r.length + 50) * 2 := by
      rw [← Nat.pow_succ]; congr 1
    show (hT p q r * p + a * q ^ r.length).natAbs < 2 ^ (N + 1 + 51 * (r.length + 1))
    rw [m4]
    omega
theorem hA_ltN {p q : Int} {N : Nat} (hp : p.natAbs < 2 ^ 50) (hq : q.natAbs < 2 ^ 50) {l : List Int} (h : ∀ x ∈ l, x.natAbs < 2 ^ N) : (hA p q l).natAbs < 2 ^ (N + 51 + 51 * l.length) := by
  rw [← hT_hA, Int.natAbs_mul, show N + 51 + 51 * l.length = N + 1 + 51 * l.length + 50 by omega, Nat.pow_add]
  exact Nat.mul_lt_mul'' (hT_ltN hp hq l h) hq
/-- where a row is looked at -/
def SpotAt (H : Hp) (v : V) : Option (Int × Int) → Prop
  | none => v = .non
  | some (p, q) => ∃ b, v = .ref b ∧ Fr H b p q ∧ Qn p q
theorem SpotAt.ex {H H' : Hp} {v : V} : ∀ {e : Option (Int × Int)}, SpotAt H v e → Evl.Ex H H' → SpotAt H' v e
  | none, h, _ => h
  | some (_, _), ⟨b, h1, h2, h3⟩, e => ⟨b, h1, e _ _ h2, h3⟩
/-- what is known of one in a list that is looked at -/
def Rw6 (R : List Int) : Prop := Pol R ∧ R.length ≤ 8 ∧ Bs 1700 R
def spSgn : Sp := fun vs H Q _ => ∃ x : Int, vs = [.int x] ∧ Evl.RetV (.int (sgn x)) H Q
def spScaledW : Sp := fun vs H Q _ => ∃ (a b : Addr) (xs : List Int) (p q : Int), vs = [.ref a, .ref b] ∧ Li H a xs ∧ Fr H b p q ∧ Rw6 xs ∧ Qn p q ∧ RetU [.int (hT p q xs), .int (q ^ (xs.length - 1))] H Q
def spLead : Sp := fun vs H Q _ => ∃ (a : Addr) (v : V) (R : List Int) (e : Option (Int × Int)), vs = [.ref a, v] ∧ Li H a R ∧ Rw6 R ∧ SpotAt H v e ∧ Evl.RetV (.int (ldL R e)) H Q
/-- lists that stand in a list -/
def Lists (H : Hp) (q : Addr) (rows : List (List Int)) : Prop := ∃ as : List Addr, H q = some (.lst (as.map V.ref)) ∧ as.length = rows.length ∧ ∀ (j : Nat) (a : Addr) (R : List Int), as[j]? = some a → rows[j]? = some R → Li H a R
theorem Lists.ex {H H' : Hp} {q : Addr} {rows : List (List Int)} (h : Lists H q rows) (e : Evl.Ex H H') : Lists H' q rows := by
  obtain ⟨as, h1, h2, h3⟩ := h
  exact ⟨as, e _ _ h1, h2, fun j a R x y => e _ _ (h3 j a R x y)⟩
noncomputable def mkL (rows : List (List Int)) (e : Option (Int × Int)) : List Int := rows.map fun R => sgn (ldL R e)
def spTurnsOf : Sp := fun vs H Q _ => ∃ (q : Addr) (v : V) (rows : List (List Int)) (e : Option (Int × Int)), vs = [.ref q, v] ∧ Lists H q rows ∧ rows.length ≤ 8 ∧ (∀ R ∈ rows, Rw6 R) ∧ SpotAt H v e ∧ Evl.RetV (.int (trnL (mkL rows e) : Int)) H Q
theorem shaped_pair (p q : Int) : SeqAt.shaped (.tuple [.int p, .int q]) = true := by
  unfold SeqAt.shaped
  simp [PyData.canLay0, PyData.canLayAll0, PyData.depth, PyData.depthAll]
theorem eqv_pair (p q : Int) : PyData.eqv (.tuple [.int p, .int q]) (.tuple [.int 0, .int 1]) = decide (p = 0 ∧ q = 1) := by
  simp only [PyData.eqv, PyData.eqvAll, Bool.and_true]
  by_cases h1 : p = 0 <;> by_cases h2 : q = 1 <;> simp [h1, h2]
theorem nz_snoc {R : List Int} {i : Nat} {n : Int} (h : R[i]? = some n) : nz (R.take (i + 1)) = if n = 0 then nz (R.take i) else nz (R.take i) ++ [n] := by
  rw [List.take_add_one, h]
  unfold nz
  rw [List.filter_append]
  split
  · rename_i e
    rw [Option.toList_some, List.filter_cons_of_neg (by simp [e])]
    simp
  · rename_i e
    rw [Option.toList_some, List.filter_cons_of_pos (by simp [e])]
    rfl
theorem nz_len (R : List Int) : (nz R).length ≤ R.length := List.length_filter_le _ _
section
variable {base : Heap} {mg : Str → Option Value} {K : PySem.W.Frag} {w : World} {P : Program}
theorem ok_sign_of {f : Addr} {fd : FuncData} (F : Fun K "sign_of" "sign_of" s_sign_of f fd) : FnOk P w K mg base CX0 1 f fd p_sign_of spSgn := by
  refine F.ok sc_sign_of (fun vs H Q E h => ?_) (fun cdv A outer s H vs Q E hr h => ?_)
  · obtain ⟨x, rfl, _⟩ := h
    rfl
  · obtain ⟨x, rfl, k⟩ := h
    refine ⟨_, pss_cons (ps_if (pt_cmpR op_eq (pv 0) pe_int (nomark _)) (pss_one (ps_ret pe_int)) pss_nil) (pss_one (ps_ret (pe_ifExp (pt_cmpR op_gt (pv 0) pe_int (nomark _)) pe_int (pe_un un_neg pe_int)))), ?_⟩
    refine ⟨_, rfl, rfl, _, rfl, ?_⟩
    unfold sgn at k
    by_cases h0 : x = 0
    · refine if_t (decide_eq_true (by rw [h0])) ?_
      rw [if_pos h0] at k
      exact k _ (Evl.Ex.refl _)
    · refine if_f (decide_eq_false (fun z => h0 (by injection z))) ?_
      rw [if_neg h0] at k
      refine ⟨_, rfl, _, _, rfl, rfl, _, rfl, ?_⟩
      by_cases h1 : x > 0
      · rw [if_pos h1] at k
        exact if_t (decide_eq_true h1) (k _ (Evl.Ex.refl _))
      · rw [if_neg h1] at k
        exact if_f (decide_eq_false h1) ⟨1, rfl, k _ (Evl.Ex.refl _)⟩
theorem ok_scaledW {f : Addr} {fd : FuncData} (F : Fun K "scaled_value" "scaled_value" s_scaled_value f fd) (T : T2 mg) : FnOk P w K mg base CX0 1 f fd p_scaled_value spScaledW := by
  refine F.ok sc_scaled_value (fun vs H Q E h => ?_) (fun cdv A outer s H vs Q E hr h => ?_)
  · obtain ⟨a, b, xs, p, q, rfl, _⟩ := h
    rfl
  · obtain ⟨a, b, xs, p, q, rfl, ha, hb, ⟨hx1, hx2, hx3⟩, ⟨q0, qc, pb, qb⟩, k⟩ := h
    have nd := sc_scaled_value.nd
    refine ⟨_, pss_cons (ps_asg (pv 1) (pg_tup rfl (pgs_cons (pg_name (i := 2) nd rfl (Or.inl rfl)) (pgs_cons (pg_name (i := 3) nd rfl (Or.inl rfl)) pgs_nil))))
      (pss_cons (ps_asg (pe_tup (pa_cons pe_int (pa_cons pe_int pa_nil))) (pg_tup rfl (pgs_cons (pg_name (i := 4) nd rfl (Or.inl rfl)) (pgs_cons (pg_name (i := 5) nd rfl (Or.inl rfl)) pgs_nil))))
      (pss_cons (ps_for PassesOwn.never rfl (pi_enum (by rfl) T.enu (pa_cons (pe_revL (pv 0)) pa_nil)) (pg_tup rfl (pgs_cons (pg_name (i := 6) nd rfl (Or.inl rfl)) (pgs_cons (pg_name (i := 7) nd rfl (Or.inl rfl)) pgs_nil)))
        (pss_cons (ps_if (pt_cmpR op_gt (pv 6) pe_int (nomark _)) (pss_one (ps_set (i := 5) nd rfl (Or.inl rfl) (pe_op op_mulW (pv 5) (pv 3)))) pss_nil)
        (pss_one (ps_set (i := 4) nd rfl (Or.inl rfl) (pe_op op_add (pe_op op_mulW (pv 4) (pv 2)) (pe_op op_mulW (pv 7) (pv 5)))))))
      (pss_one (ps_ret (pe_tup (pa_cons (pv 4) (pa_cons (pv 5) pa_nil))))))), ?_⟩
    have h64 : ∀ x ∈ xs, x.natAbs < 2 ^ 1700 := hx3
    have hTb : ∀ j, (hT p q (xs.drop j)).natAbs < 2 ^ 2200 := fun j => by
      have := hT_ltN pb qb (xs.drop j) fun x hx => h64 x (List.mem_of_mem_drop hx)
      refine Nat.lt_of_lt_of_le this (Nat.pow_le_pow_right (by decide) ?_)
      rw [List.length_drop]; omega
    have qk : ∀ j, j ≤ 16 → (q ^ j).natAbs < 2 ^ 801 := fun j hj => Nat.lt_of_lt_of_le (npow_lt qb j) (Nat.pow_le_pow_right (by decide) (by omega))
    refine ⟨_, rfl, b, _, rfl, SqT.of hb, rfl, _, _, rfl, _, _, rfl, rfl, ?_⟩
    refine ⟨(by show 2 ≤ sizeLine; decide), fun c hc => ?_⟩
    have e0 : Evl.Ex H (upd H c (.tup [.int 0, .int 1])) := Evl.Ex.new hc
    refine ⟨c, _, rfl, SqT.of upd_same, rfl, _, _, rfl, _, _, rfl, rfl, ?_⟩
    refine ⟨_, rfl, a, _, rfl, SqL.of (e0 _ _ ha), fun l hl => ⟨l, _, rfl, SqL.of upd_same, ?_⟩⟩
    have e1 : Evl.Ex H (upd (upd H c (.tup [.int 0, .int 1])) l (.lst (iV xs).reverse)) := e0.trans (Evl.Ex.new hl)
    have erev : (iV xs).reverse = iV xs.reverse := by unfold iV; rw [List.map_reverse]
    rw [erev] at e1 ⊢
    refine for_it walk_enum (fun i σ H' => ∃ v6 v7, σ = [some (.ref a), some (.ref b), some (.int p), some (.int q), some (.int (hT p q (xs.drop (xs.length - i)))), some (.int (q ^ (i - 1))), v6, v7] ∧ Evl.Ex (upd (upd H c (.tup [.int 0, .int 1])) l (.lst (iV xs.reverse))) H')
      ⟨none, none, ?_, Evl.Ex.refl _⟩ (fun i σ H' _ ⟨_, _, _, q⟩ => SqL.of (q _ _ upd_same)) ?_ ?_
    · rw [Nat.sub_zero, List.drop_length, show (0 - 1 : Nat) = 0 from rfl, Int.pow_zero]; rfl
    · rintro i x σ H' H2 hi ⟨v6, v7, rfl, e2⟩ ⟨T, z, y, rfl, hT2, rfl, hz, hy⟩
      obtain rfl := (Option.some.inj hz).symm
      obtain ⟨n, hn, rfl⟩ := iV_get hy
      rw [iV_len, List.length_reverse] at hi
      rw [List.getElem?_reverse hi] at hn
      have e3 := e2.trans (Evl.Ex.new (o := .tup [.int (i : Nat), .int n]) hT2)
      have st := hT_drop p q xs i n hi hn
      have b1 := hTb (xs.length - i)
      have nb := h64 n (List.mem_of_getElem? hn)
      refine ⟨T, _, rfl, SqT.of upd_same, rfl, _, _, rfl, _, _, rfl, rfl, ?_⟩
      (refine ⟨_, rfl, _, _, rfl, rfl, _, rfl, ?_⟩)
      (refine ite2 (fun c => ?_) (fun c => ?_))
      · have c1 : 0 < i := by have := of_decide_eq_true c; omega
        have eq1 : q ^ (i - 1) * q = q ^ i := by rw [← Int.pow_succ]; congr 1; omega
        refine ⟨_, rfl, _, rfl, _, _, rfl, rfl, wide_mul (qk (i - 1) (by omega)) qb (by decide) (by decide) (by decide), ?_⟩
        refine ⟨_, rfl, _, rfl, _, _, rfl, rfl, wide_mul b1 pb (by decide) (by decide) (by decide), _, rfl, _, rfl, n, _, rfl, rfl, ?_, _, _, rfl, rfl, ?_⟩
        · show CMulW n (q ^ (i - 1) * q)
          rw [eq1]
          exact wide_mul nb (qk i (by omega)) (by decide) (by decide) (by decide)
        · refine ⟨some (.int (i : Nat)), some (.int n), ?_, e3⟩
          rw [st, Nat.add_sub_cancel, ← eq1]
          rfl
      · have c1 : i = 0 := by
          rcases Nat.eq_zero_or_pos i with e | e
          · exact e
          · exact absurd (decide_eq_true (by omega)) c
        subst c1
        refine ⟨_, rfl, _, rfl, _, _, rfl, rfl, wide_mul b1 pb (by decide) (by decide) (by decide), _, rfl, _, rfl, n, _, rfl, rfl, ?_, _, _, rfl, rfl, ?_⟩
        · exact wide_mul nb (qk 0 (by omega)) (by decide) (by decide) (by decide)
        · refine ⟨some (.int (0 : Nat)), some (.int n), ?_, e3⟩
          rw [st]
          rfl
    · rintro σ H' ⟨v6, v7, rfl, e2⟩
      rw [iV_len, List.length_reverse, Nat.sub_self, List.drop_zero]
      refine ⟨_, rfl, _, rfl, (by show 2 ≤ sizeLine; decide), fun t ht => ?_⟩
      have e4 := e1.trans e2
      exact k t _ (Evl.fresh_back e4 ht) (e4.trans (Evl.Ex.new ht)) upd_same
theorem ok_leading {f : Addr} {fd : FuncData} (F : Fun K "leading" "leading" s_leading f fd) (cS : Cal P w K mg base 1 "scaled_value" p_scaled_value spScaledW) : FnOk P w K mg base CX0 2 f fd p_leading spLead := by
  refine F.ok sc_leading (fun vs H Q E h => ?_) (fun cdv A outer s H vs Q E hr h => ?_)
  · obtain ⟨a, v, R, e, rfl, _⟩ := h
    rfl
  · obtain ⟨a, v, R, e, rfl, ha, ⟨pR, lR, bR⟩, hv, k⟩ := h
    have nd := sc_leading.nd
    have two : 2 ≤ sizeLine := by show 2 ≤ sizeLine; decide
    refine ⟨_, pss_cons (ps_if (pt_not (pt_truth (pv 0) (by intro _; rfl))) (pss_one (ps_ret pe_int)) pss_nil)
      (pss_cons (ps_if (pt_cmpR op_isN (pv 1) pe_non (nomark _)) (pss_one (ps_ret (pe_ix ix_list (pv 0) (pe_un un_neg pe_int) (fun _ _ => rfl)))) pss_nil)
      (pss_cons (ps_if (pt_cmpR (op_eqD hr.units) (pv 1) (pe_tup (pa_cons pe_int (pa_cons pe_int pa_nil))) (nomark _)) (pss_one (ps_ret (pe_ix ix_list
          (pe_lc (own := [("number", 2)]) (g := gName 2) (tt := tTest (tOp rNe (tVar 2) (tC (.int 0)))) (te := tVar 2) rfl nd (pi_list (pv 0)) (blkOk_by (N := n_leading) (sc := defScope s_leading) (by decide +kernel)) (fun _ _ _ _ _ => pg_name (i := 2) nd rfl (Or.inl rfl)) (fun _ _ _ _ _ => pts_one (pt_cmpR op_ne (pv 2) pe_int (nomark _)))
            (fun _ _ _ _ _ => pv 2)) pe_int (fun _ _ => rfl)))) pss_nil)
      (pss_one (ps_ret (pe_ix ix_tup (pe_c cS hr (pa_cons (pv 0) (pa_cons (pv 1) pa_nil))) pe_int (fun _ _ => rfl)))))), ?_⟩
    refine ⟨_, rfl, _, tru_list ha, ?_⟩
    by_cases h0 : R = []
    · subst h0
      refine if_t rfl ?_
      have e0 : ldL [] e = 0 := by
        cases e with
        | none => rfl
        | some z =>
          obtain ⟨p, q⟩ := z
          show (if p = 0 ∧ q = 1 then (0 : Int) else 0) = 0
          split <;> rfl
      rw [e0] at k
      exact k _ (Evl.Ex.refl _)
    refine if_f (by cases R with | nil => exact absurd rfl h0 | cons _ _ => rfl) ?_
    obtain ⟨lx, hlx, hlx2⟩ := atI_end h0
    cases e with
    | none =>
      obtain rfl : v = .non := hv
      refine ⟨_, rfl, rfl, _, rfl, if_t rfl ?_⟩
      have e0 : ldL R none = lx := getD_at hlx
      rw [e0] at k
      exact ⟨_, rfl, _, rfl, a, _, _, _, rfl, rfl, ha.sq, hlx2, k _ (Evl.Ex.refl _)⟩
    | some z =>
      obtain ⟨p, q⟩ := z
      obtain ⟨b, rfl, hb, hq⟩ := hv
      refine ⟨_, rfl, rfl, _, rfl, if_f rfl ?_⟩
      refine ⟨_, rfl, two, fun t ht => ?_⟩
      have e1 : Evl.Ex H (upd H t (.tup [.int 0, .int 1])) := Evl.Ex.new ht
      refine ⟨_, _, .tup (SqT.of (e1 _ _ hb)) (.cons (.int p) (.cons (.int q) .nil)), .tup (SqT.of upd_same) (.cons (.int 0) (.cons (.int 1) .nil)), shaped_pair p q, shaped_pair 0 1, _, rfl, ?_⟩
      rw [eqv_pair]
      by_cases hc : p = 0 ∧ q = 1
      · refine if_t (decide_eq_true hc) ?_
        have e0 : ldL R (some (p, q)) = (nz R).getD 0 0 := if_pos hc
        rw [e0] at k
        have ha1 := e1 _ _ ha
        refine ⟨_, rfl, a, rfl, ⟨_, SqL.of ha1⟩, fun D hD => lc_list (xs := iV R) (fun i H' => Evl.Ex (upd H t (.tup [.int 0, .int 1])) H' ∧ H' D = some (.lst (iV (nz (R.take i))))) ⟨Evl.Ex.new hD, upd_same⟩ (fun i H' _ q => SqL.of (q.1 _ _ ha1)) ?_ ?_⟩
        · rintro i x H' hi ⟨e2, h2⟩
          obtain ⟨n, hn, rfl⟩ := iV_get hi
          refine ⟨rfl, ?_⟩
          show tTest (tOp rNe (tVar 2) (tC (.int 0))) _ _ _
          refine ⟨_, rfl, rfl, _, rfl, ?_⟩
          have sn := nz_snoc hn
          by_cases n0 : n = 0
          · rw [if_pos n0] at sn
            refine if_f (by rw [decide_eq_true (by rw [n0])]; rfl) ⟨e2, ?_⟩
            rw [sn]
            exact h2
          · rw [if_neg n0] at sn
            refine if_t (by rw [decide_eq_false (fun z => n0 (by injection z))]; rfl) ?_
            refine ⟨_, rfl, _, h2, ?_, Evl.Ex.mut e2 hD, ?_⟩
            · rw [iV_len]
              have := nz_len (R.take i)
              rw [List.length_take] at this
              exact Nat.lt_of_le_of_lt (show _ ≤ 100 by omega) (by decide)
            · rw [upd_same, sn]
              unfold iV
              rw [List.map_append]
              rfl
        · rintro H' ⟨e2, h2⟩
          rw [iV_len, List.take_length] at h2
          have np := nz_pos pR h0
          have hz : (nz R)[0]? = some ((nz R)[0]'(by omega)) := List.getElem?_eq_getElem (by omega)
          rw [getD_at hz] at k
          exact ⟨D, _, _, _, rfl, rfl, SqL.of h2, atI_nat (j := 0) (iV_at hz), k _ (e1.trans e2)⟩
      · refine if_f (decide_eq_false hc) ?_
        have e0 : ldL R (some (p, q)) = hT p q R := if_neg hc
        rw [e0] at k
        refine ⟨_, rfl, _, rfl, a, b, R, p, q, rfl, e1 _ _ ha, e1 _ _ hb, ⟨pR, lR, bR⟩, hq, fun r H2 hr2 e2 h2 => ?_⟩
        exact ⟨r, _, _, _, rfl, rfl, SqT.of h2, at2_0, k _ (e1.trans e2)⟩
theorem ok_turns_of {f : Addr} {fd : FuncData} (F : Fun K "turns_of" "turns_of" s_turns_of f fd) (cL : Cal P w K mg base 2 "leading" p_leading spLead) (cS : Cal P w K mg base 1 "sign_of" p_sign_of spSgn) : FnOk P w K mg base CX0 3 f fd p_turns_of spTurnsOf := by
  refine F.ok sc_turns_of (fun vs H Q E h => ?_) (fun cdv A outer s H vs Q E hr h => ?_)
  · obtain ⟨q, v, rows, e, rfl, _⟩ := h
    rfl
  · obtain ⟨q, v, rows, e, rfl, ⟨as, h1, h2, h3⟩, hl, hR, hv, k⟩ := h
    have nd := sc_turns_of.nd
    have two : 2 ≤ sizeLine := by show 2 ≤ sizeLine; decide
    refine ⟨_, pss_cons (ps_asg (pe_tup (pa_cons pe_int (pa_cons pe_int pa_nil))) (pg_tup rfl (pgs_cons (pg_name (i := 2) nd rfl (Or.inl rfl)) (pgs_cons (pg_name (i := 3) nd rfl (Or.inl rfl)) pgs_nil))))
      (pss_cons (ps_for PassesOwn.never rfl (pi_list (pv 0)) (pg_name (i := 4) nd rfl (Or.inl rfl))
        (pss_cons (ps_set (i := 5) nd rfl (Or.inl rfl) (pe_c cS (hr.mono (by decide)) (pa_cons (pe_c cL hr (pa_cons (pv 4) (pa_cons (pv 1) pa_nil))) pa_nil)))
        (pss_one (ps_if (pt_cmpR op_ne (pv 5) pe_int (nomark _))
          (pss_cons (ps_if (pt_cmpR op_eq (pv 5) (pe_un un_neg (pv 2)) (nomark _)) (pss_one (ps_aug (i := 3) nd rfl (.inl rfl) pe_int ip_add)) pss_nil)
          (pss_one (ps_set (i := 2) nd rfl (Or.inl rfl) (pv 5)))) pss_nil))))
      (pss_one (ps_ret (pv 3)))), ?_⟩
    refine ⟨two, fun t ht => ?_⟩
    have e0 : Evl.Ex H (upd H t (.tup [.int 0, .int 0])) := Evl.Ex.new ht
    refine ⟨t, _, rfl, SqT.of upd_same, rfl, _, _, rfl, _, _, rfl, rfl, ?_⟩
    have ml : (mkL rows e).length = rows.length := by unfold mkL; rw [List.length_map]
    refine ⟨_, rfl, q, rfl, ⟨_, SqL.of (e0 _ _ h1)⟩, for_list (xs := as.map V.ref) (fun i σ H' => Evl.Ex H H' ∧ ∃ (st : Int × Nat) (v4 v5 : Option V), ((mkL rows e).take i).foldl tst (0, 0) = st ∧ σ = [some (.ref q), some v, some (.int st.1), some (.int (st.2 : Int)), v4, v5])
      ⟨e0, (0, 0), none, none, rfl, rfl⟩ (fun i σ H' _ z => SqL.of (z.1 _ _ h1)) ?_ ?_⟩
    · rintro i x σ H' hi ⟨e1, ⟨last, many⟩, v4, v5, hst, rfl⟩
      rw [List.getElem?_map] at hi
      obtain ⟨a, ha, rfl⟩ : ∃ a, as[i]? = some a ∧ x = .ref a := by
        cases e : as[i]? with
        | none => rw [e] at hi; cases hi
        | some a => rw [e] at hi; exact ⟨a, rfl, (Option.some.inj hi).symm⟩
      have hi2 : i < as.length := (List.getElem?_eq_some_iff.mp ha).1
      have hRi : rows[i]? = some (rows[i]'(by omega)) := List.getElem?_eq_getElem (by omega)
      have hLi := h3 i a _ ha hRi
      have hm := List.mem_of_getElem? hRi
      generalize rows[i]'(by omega) = R at hRi hLi hm
      refine ⟨_, rfl, _, rfl, a, v, R, e, rfl, e1 _ _ hLi, hR R hm, hv.ex e1, fun H2 e2 => ?_⟩
      refine ⟨_, rfl, fun H3 e3 => ?_⟩
      have e13 := (e1.trans e2).trans e3
      have hmk : (mkL rows e)[i]? = some (sgn (ldL R e)) := by unfold mkL; rw [List.getElem?_map, hRi]; rfl
      have hst2 : ((mkL rows e).take (i + 1)).foldl tst (0, 0) = tst (last, many) (sgn (ldL R e)) := by
        rw [List.take_add_one, hmk, List.foldl_append, hst]
        rfl
      generalize sgn (ldL R e) = sg at hst2
      refine ⟨_, rfl, rfl, _, rfl, ?_⟩
      by_cases s0 : sg = 0
      · refine if_f (by rw [decide_eq_true (by rw [s0])]; rfl) ?_
        refine ⟨e13, (last, many), _, _, ?_, rfl⟩
        rw [hst2]
        unfold tst
        rw [if_pos s0]
      · refine if_t (by rw [decide_eq_false (fun z => s0 (by injection z))]; rfl) ?_
        refine ⟨_, rfl, _, rfl, last, rfl, rfl, _, rfl, ?_⟩
        by_cases s1 : sg = -last
        · refine if_t (decide_eq_true (by rw [s1])) ?_
          refine ⟨_, rfl, _, _, rfl, rfl, ?_⟩
          refine ⟨_, rfl, e13, (sg, many + 1), some (.ref a), some (.int sg), ?_, ?_⟩
          · rw [hst2]
            unfold tst
            rw [if_neg s0, if_pos s1]
          · show _ = [some (V.ref q), some v, some (V.int sg), some (V.int ((many + 1 : Nat) : Int)), _, _]
            rw [Int.natCast_add]
            rfl
        · refine if_f (decide_eq_false (fun z => s1 (by injection z))) ?_
          refine ⟨_, rfl, e13, (sg, many), _, _, ?_, rfl⟩
          rw [hst2]
          unfold tst
          rw [if_neg s0, if_neg s1]
          rfl
    · rintro σ H' ⟨e1, st, v4, v5, hst, rfl⟩
      rw [List.length_map, h2, ← ml, List.take_length] at hst
      refine ⟨_, rfl, ?_⟩
      unfold trnL at k
      rw [hst] at k
      exact k _ e1
theorem ok_turns {f : Addr} {fd : FuncData} (F : Fun K "turns" "turns" s_turns f fd) (cC : Cal P w K mg base 3 "check_polynomials" p_check_polynomials spChkW) (cF : Cal P w K mg base 3 "check_fraction" p_check_fraction spChkFr) (cT : Cal P w K mg base 3 "turns_of" p_turns_of spTurnsOf) : FnOk P w K mg base CX0 4 f fd p_turns spTurnsOf := by
  refine F.ok sc_turns (fun vs H Q E h => ?_) (fun cdv A outer s H vs Q E hr h => ?_)
  · obtain ⟨q, v, rows, e, rfl, _⟩ := h
    rfl
  · obtain ⟨q, v, rows, e, rfl, hL, hl, hR, hv, k⟩ := h
    refine ⟨_, pss_cons (ps_expr (pe_c cC hr (pa_cons (pv 0) pa_nil))) (pss_cons (ps_if (pt_cmpR op_notN (pv 1) pe_non (nomark _)) (pss_one (ps_expr (pe_c cF hr (pa_cons (pv 1) pa_nil)))) pss_nil) (pss_one (ps_ret (pe_c cT hr (pa_cons (pv 0) (pa_cons (pv 1) pa_nil)))))), ?_⟩
    obtain ⟨as, h1, h2, h3⟩ := id hL
    refine ⟨_, rfl, q, as, rfl, h1, by omega, fun a ha => ?_, fun H2 e2 => ?_⟩
    · obtain ⟨j, hj⟩ := List.getElem?_of_mem ha
      have hj2 : j < as.length := (List.getElem?_eq_some_iff.mp hj).1
      have hRj : rows[j]? = some (rows[j]'(by omega)) := List.getElem?_eq_getElem (by omega)
      have := hR _ (List.mem_of_getElem? hRj)
      exact ⟨_, h3 j a _ hj hRj, this.1, by have := this.2.1; omega⟩
    · cases e with
      | none =>
        obtain rfl : v = .non := hv
        refine ⟨_, rfl, rfl, _, rfl, if_f rfl ?_⟩
        exact ⟨_, rfl, _, rfl, q, .non, rows, none, rfl, hL.ex e2, hl, hR, rfl, fun H3 e3 => k H3 (e2.trans e3)⟩
      | some z =>
        obtain ⟨p, d⟩ := z
        obtain ⟨b, rfl, hb, hq⟩ := hv
        refine ⟨_, rfl, rfl, _, rfl, if_t rfl ?_⟩
        refine ⟨_, rfl, b, p, d, rfl, e2 _ _ hb, hq, fun H3 e3 => ?_⟩
        exact ⟨_, rfl, _, rfl, q, _, rows, some (p, d), rfl, hL.ex (e2.trans e3), hl, hR, ⟨b, rfl, (e2.trans e3) _ _ hb, hq⟩, fun H4 e4 => k H4 ((e2.trans e3).trans e4)⟩
end
end V2


namespace V2
open PySem L2
open PySem.Spec PyProof.Rows
/-! ## the law's own rows and turns -/
def spAtW : Sp := fun vs H Q _ => ∃ (a b : Addr) (xs : List Int) (p q : Int), vs = [.ref a, .ref b] ∧ Li H a xs ∧ Fr H b p q ∧ Rw6 xs ∧ Qn p q ∧ RetU [.int (fr (hA p q xs) (q ^ xs.length)).1, .int (fr (hA p q xs) (q ^ xs.length)).2] H Q
def spMark : Sp := fun vs H Q _ => ∃ (a : Addr) (v : V) (R : List Int) (e : Option (Int × Int)), vs = [.ref a, v] ∧ Li H a R ∧ Rw6 R ∧ SpotAt H v e ∧ Evl.RetV (.int (sgn (ldL R e))) H Q
def spFlips : Sp := fun vs H Q _ => ∃ (q : Addr) (v : V) (rows : List (List Int)) (e : Option (Int × Int)), vs = [.ref q, v] ∧ Lists H q rows ∧ rows.length ≤ 8 ∧ (∀ R ∈ rows, Rw6 R) ∧ SpotAt H v e ∧ Evl.RetV (.int (flpL (nz (mkL rows e)) : Int)) H Q
/-- ahead of each turn of the law's row -/
def Wch (H : Hp) (a : Addr) (p : List Int) (i : Nat) (σ : L2.St) (H' : Hp) : Prop := ∃ (t : Addr) (its : List Itm) (v2 v3 : Option V), σ = [some (.ref a), some (.ref t), v2, v3, none] ∧ H t = none ∧ H' t = some (.lst (refs its)) ∧ Built H H' its ∧ (∀ i ∈ its, i.2.1 ≠ t) ∧
  ((its.map sh = (rowL p).map tru ∧ (its.length ≤ 1 ∨ ∃ its0 x, its = its0 ++ [x] ∧ x.1 = true ∧ x.2.2.length ≤ 1)) ∨ ∃ (pre : List (List Int)) (A B : List Int), its.map sh = (pre ++ [A] ++ [B]).map tru ∧ Wr p pre A B ∧ 2 ≤ B.length ∧ B.length + i ≤ 8)
theorem rowL_short {p : List Int} (h : p.length ≤ 1) : rowL p = [p] := by
  have : slopeL p = [] := List.eq_nil_of_length_eq_zero (by rw [slopeL_len]; omega)
  unfold rowL
  rw [this, rowT_nil]
theorem eqv_nil (ns : List Int) : PyData.eqv (.list (ns.map .int)) (.list []) = decide (ns = []) := by
  cases ns with
  | nil => rfl
  | cons n r => simp [PyData.eqv, PyData.eqvAll]
section
variable {base : Heap} {mg : Str → Option Value} {K : PySem.W.Frag} {w : World} {P : Program}
theorem ok_l_slope {f : Addr} {fd : FuncData} (F : Fun K "_law_pv_slope" "_law_pv_slope" s_l_slope f fd) (mE : mg "enumerate" = none) : FnOk P w K mg base CX0 1 f fd p_l_slope spSlope := by
  refine F.ok sc_l_slope (fun vs H Q E h => ?_) (fun cdv A outer s H vs Q E hr h => ?_)
  · obtain ⟨a, ns, rfl, _⟩ := h
    rfl
  · obtain ⟨a, ns, rfl, hL, hl, k⟩ := h
    have nd := sc_l_slope.nd
    refine ⟨_, pss_one (ps_ret (pe_slice sl_list (pe_lc (own := [("k", 1), ("piece", 2)]) (g := gTup K 2 (gCons (gName 1) (gCons (gName 2) gNil))) (tt := tYes) (te := tOp (rI CMul fun i j => .int (i * j)) (tVar 1) (tVar 2)) rfl nd (pi_enum (by rfl) mE (pa_cons (pv 0) pa_nil)) (blkOk_by (N := n_l_slope) (sc := defScope s_l_slope) (by decide +kernel)) (fun _ _ _ _ _ => pg_tup rfl (pgs_cons (pg_name (i := 1) nd rfl (Or.inl rfl)) (pgs_cons (pg_name (i := 2) nd rfl (Or.inl rfl)) pgs_nil))) (fun _ _ _ _ _ => pts_nil)
          (fun _ _ _ _ _ => pe_op op_mul (pv 1) (pv 2))) (po_some pe_int) po_none)), ?_⟩
    refine ⟨_, rfl, a, _, rfl, hL.sq, fun D hD => lc_it walk_enum (fun i H' => Evl.Ex H H' ∧ H' D = some (.lst (iV ((mulK ns).take i)))) ⟨Evl.Ex.new hD, upd_same⟩ (fun i H' _ q => SqL.of (q.1 _ _ hL)) ?_ ?_⟩
    · rintro i x H' H6 hi ⟨e7, h7⟩ ⟨t3, z, y, rfl, ht3, rfl, hz, hyy⟩
      obtain rfl := (Option.some.inj hz).symm
      obtain ⟨n, hn, rfl⟩ := iV_get hyy
      rw [iV_len] at hi
      have e8 := e7.trans (Evl.Ex.new (o := .tup [.int (i : Nat), .int n]) ht3)
      refine ⟨t3, _, rfl, SqT.of upd_same, rfl, _, _, rfl, _, _, rfl, rfl, rfl, ?_⟩
      show tOp (rI CMul fun i j => .int (i * j)) (tVar 1) (tVar 2) _ _ _
      have h8 : (upd H' t3 (.tup [.int (i : Nat), .int n])) D = some (.lst (iV ((mulK ns).take i))) := by
        rw [upd_ne (ne_of_none h7 ht3)]
        exact h7
      have e64 : (2 : Int) ^ 64 = 18446744073709551616 := by decide
      refine ⟨_, rfl, _, rfl, _, n, rfl, rfl, .inl ⟨by rw [e64]; omega, by rw [e64]; omega⟩, _, h8, ?_, Evl.Ex.mut e8 hD, ?_⟩
      · rw [iV_len, List.length_take]
        exact Nat.lt_of_le_of_lt (show min i (mulK ns).length ≤ 100 by omega) (by decide)
      · rw [upd_same, take_next (n := ((i : Nat) : Int) * n) (by unfold mulK; rw [vec_get hi, getD_at hn])]
    · rintro H' ⟨e7, h7⟩
      have hl2 : (mulK ns).length = ns.length := vec_len _ _
      rw [iV_len, ← hl2, List.take_length] at h7
      refine ⟨1, rfl, D, _, rfl, SqL.of h7, fun p hp => k p _ (Evl.fresh_back e7 hp) (e7.trans (Evl.Ex.new hp)) ?_⟩
      rw [upd_same]
      exact congrArg (fun z => some (HO.lst z)) (mulK_drop ns)
theorem ok_atW {f : Addr} {fd : FuncData} (F : Fun K "_law_pv_at" "_law_pv_at" s_l_at f fd) (cA : Cal P w K mg base 3 "_law_pv_add" p_l_add spAddW) (cM : Cal P w K mg base 3 "_law_pv_mul" p_l_mul spMulW) : FnOk P w K mg base CX0 4 f fd p_l_at spAtW := by
  refine F.ok sc_l_at (fun vs H Q E h => ?_) (fun cdv A outer s H vs Q E hr h => ?_)
  · obtain ⟨a, b, xs, p, q, rfl, _⟩ := h
    rfl
  · obtain ⟨a, b, xs, p, q, rfl, ha, hb, ⟨hx1, hx2, hx3⟩, ⟨q0, qc, pb, qb⟩, k⟩ := h
    have nd := sc_l_at.nd
    refine ⟨_, pss_cons (ps_asg (pe_tup (pa_cons (pe_tup (pa_cons pe_int (pa_cons pe_int pa_nil))) (pa_cons (pe_tup (pa_cons pe_int (pa_cons pe_int pa_nil))) pa_nil))) (pg_tup rfl (pgs_cons (pg_name (i := 2) nd rfl (Or.inl rfl)) (pgs_cons (pg_name (i := 3) nd rfl (Or.inl rfl)) pgs_nil))))
      (pss_cons (ps_for PassesOwn.never rfl (pi_list (pv 0)) (pg_name (i := 4) nd rfl (Or.inl rfl))
        (pss_cons (ps_set (i := 2) nd rfl (Or.inl rfl) (pe_c cA hr (pa_cons (pv 2) (pa_cons (pe_c cM hr (pa_cons (pe_tup (pa_cons (pv 4) (pa_cons pe_int pa_nil))) (pa_cons (pv 3) pa_nil))) pa_nil))))
        (pss_one (ps_set (i := 3) nd rfl (Or.inl rfl) (pe_c cM hr (pa_cons (pv 3) (pa_cons (pv 1) pa_nil)))))))
      (pss_one (ps_ret (pv 2)))), ?_⟩
    have h64 : ∀ x ∈ xs, x.natAbs < 2 ^ 1700 := hx3
    have two : 2 ≤ sizeLine := by show 2 ≤ sizeLine; decide
    refine ⟨two, fun t1 ht1 => ⟨two, fun t2 ht2 => ⟨two, fun t3 ht3 => ?_⟩⟩⟩
    have e1 : Evl.Ex H (upd H t1 (.tup [.int 0, .int 1])) := Evl.Ex.new ht1
    have e2 := Evl.Ex.new (o := .tup [.int 1, .int 1]) ht2
    have e3 := Evl.Ex.new (o := .tup [.ref t1, .ref t2]) ht3
    have e0 := (e1.trans e2).trans e3
    refine ⟨t3, _, rfl, SqT.of upd_same, rfl, _, _, rfl, _, _, rfl, rfl, ?_⟩
    have qk : ∀ i, i ≤ 16 → (q ^ i).natAbs < 2 ^ 801 := fun j hj => big (npow_lt qb j) (by omega)
    have pk : ∀ i, i ≤ 16 → (p ^ i).natAbs < 2 ^ 801 := fun j hj => big (npow_lt pb j) (by omega)
    refine ⟨_, rfl, a, rfl, ⟨_, SqL.of (e0 _ _ ha)⟩, for_list (xs := iV xs) (fun i σ H' => ∃ (f w : Addr) (v : Option V), σ = [some (.ref a), some (.ref b), some (.ref f), some (.ref w), v] ∧ Evl.Ex H H' ∧ H f = none ∧
        Fr H' f (fr (hA p q (xs.take i)) (q ^ i)).1 (fr (hA p q (xs.take i)) (q ^ i)).2 ∧ Fr H' w (fr (p ^ i) (q ^ i)).1 (fr (p ^ i) (q ^ i)).2)
      ⟨t1, t2, none, rfl, e0, ht1, ?_, ?_⟩ (fun i σ H' _ ⟨_, _, _, _, e, _⟩ => SqL.of (e _ _ ha)) ?_ ?_⟩
    · rw [List.take_zero, Int.pow_zero, show fr (hA p q []) 1 = (0, 1) from (fr_same (by decide) (by decide) : fr 0 1 = (0, 1))]
      exact e3 _ _ (e2 _ _ upd_same)
    · rw [Int.pow_zero, Int.pow_zero, show fr 1 1 = (1, 1) from fr_same (by decide) (by decide)]
      exact e3 _ _ upd_same
    · rintro i x σ H' hi ⟨f, w', v, rfl, ee, hf, hF, hW⟩
      obtain ⟨n, hn, rfl⟩ := iV_get hi
      have hl : i < xs.length := (List.getElem?_eq_some_iff.mp hn).1
      have tl := take_len (xs := xs) (i := i) (by omega)
      have hAb : (hA p q (xs.take i)).natAbs < 2 ^ 2200 := big (hA_ltN pb qb fun x hx => h64 x (List.mem_of_mem_take hx)) (by omega)
      have nb := h64 n (List.mem_of_getElem? hn)
      have qi := qpos q0 i
      have st := at_step (p := p) q0 (xs.take i) n
      rw [tl, ← take_snoc hn] at st
      dsimp only at st
      have ps := pw_step (p := p) q0 qc i
      have F1 : (fr (hA p q (xs.take i)) (q ^ i)).1.natAbs < 2 ^ 2200 := Nat.lt_of_le_of_lt (fr_abs1 qi) hAb
      have F2 : (fr (hA p q (xs.take i)) (q ^ i)).2.natAbs < 2 ^ 801 := Nat.lt_of_le_of_lt (fr_abs2 qi) (qk i (by omega))
      have W1 : (fr (p ^ i) (q ^ i)).1.natAbs < 2 ^ 801 := Nat.lt_of_le_of_lt (fr_abs1 qi) (pk i (by omega))
      have W2 : (fr (p ^ i) (q ^ i)).2.natAbs < 2 ^ 801 := Nat.lt_of_le_of_lt (fr_abs2 qi) (qk i (by omega))
      have Fp := fr_pos (u := hA p q (xs.take i)) qi
      have Wp := fr_pos (u := p ^ i) qi
      generalize (fr (hA p q (xs.take i)) (q ^ i)).1 = x1 at *
      generalize (fr (hA p q (xs.take i)) (q ^ i)).2 = x2 at *
      generalize (fr (p ^ i) (q ^ i)).1 = z1 at *
      generalize (fr (p ^ i) (q ^ i)).2 = z2 at *
      have Wp' : 0 < 1 * z2 := by omega
      have M1 : (fr (n * z1) (1 * z2)).1.natAbs < 2 ^ 2501 := Nat.lt_of_le_of_lt (fr_abs1 Wp') (pw_mul nb W1 (by decide))
      have M2 : (fr (n * z1) (1 * z2)).2.natAbs < 2 ^ 801 := Nat.lt_of_le_of_lt (fr_abs2 Wp') (by rw [Int.one_mul]; exact W2)
      have Mp := fr_pos (u := n * z1) Wp'
      refine ⟨_, rfl, _, rfl, two, fun t4 ht4 => ⟨_, rfl, t4, w', n, 1, z1, z2, 1700, 1, 801, 801, rfl, upd_same, Evl.Ex.new ht4 _ _ hW, nb, by decide, W1, W2, by decide, by decide, by decide, by decide, by decide, by decide, by decide, Wp, fun m H3 hm e5 h3 => ?_⟩⟩
      have e4 := Evl.Ex.new (o := .tup [.int n, .int 1]) ht4
      have e45 := e4.trans e5
      refine ⟨f, m, x1, x2, _, _, 2200, 801, 2501, 801, rfl, e45 _ _ hF, h3, F1, F2, M1, M2, by decide, by decide, by decide, by decide, by decide, by decide, by decide, Fp, Mp, fun g H4 hg e6 h4 => ?_⟩
      rw [st] at h4
      have e456 := e45.trans e6
      refine ⟨_, rfl, _, rfl, w', b, z1, z2, p, q, 801, 801, 50, 50, rfl, e456 _ _ hW, (ee.trans e456) _ _ hb, W1, W2, pb, qb, by decide, by decide, by decide, by decide, by decide, by decide, Wp, q0, fun u H5 hu e7 h5 => ?_⟩
      rw [ps] at h5
      exact ⟨g, u, _, rfl, (ee.trans e456).trans e7, Evl.fresh_back (ee.trans e45) hg, e7 _ _ h4, h5⟩
    · rintro σ H' ⟨f, w', v, rfl, ee, hf, hF, hW⟩
      rw [iV_len, List.take_length] at hF
      exact ⟨_, rfl, k f H' hf ee hF⟩
theorem ok_chain {f : Addr} {fd : FuncData} (F : Fun K "_law_pv_chain" "_law_pv_chain" s_l_chain f fd) (mL : mg "len" = none) (mT : mg "list" = none) (mR : mg "range" = none) (cS : Cal P w K mg base 1 "_law_pv_slope" p_l_slope spSlope) (cL : Cal P w K mg base 4 "_law_pv_left" p_l_left spRemW) : FnOk P w K mg base CX0 5 f fd p_l_chain spRow := by
  refine F.ok sc_l_chain (fun vs H Q E h => ?_) (fun cdv A outer s H vs Q E hr h => ?_)
  · obtain ⟨a, p, rfl, _⟩ := h
    rfl
  · obtain ⟨a, p, rfl, ha, hp, p0, k⟩ := h
    have nd := sc_l_chain.nd
    have one : 1 ≤ sizeLine := by show 1 ≤ sizeLine; decide
    refine ⟨_, pss_cons (ps_set (i := 1) nd rfl (Or.inl rfl) (pe_lst (pa_cons (pe_callTy call_list_of (by rfl) mT (by decide +kernel) (pa_cons (pv 0) pa_nil)) pa_nil)))
      (Evl.pss_cut (ps_if (pt_cmpR op_gt (pe_callB call_len_seq (by rfl) mL PySem.boot_len (pa_cons (pv 0) pa_nil)) pe_int (nomark _))
          (pss_one (ps_expr (pe_bm PySem.F.plainAttrs_list PySem.F.slot_list_append PySem.F.type_list_append mt_append (pv 1) (pa_cons (pe_c cS (hr.mono (by decide)) (pa_cons (pv 0) pa_nil)) pa_nil)))) pss_nil)
      (pss_cons (ps_for PassesOwn.never rfl (pi_range1 (by rfl) mR (pa_cons pe_int pa_nil)) (pg_name (i := 2) nd rfl (Or.inl rfl))
        (pss_one (ps_if (PW.pt (pw_and (pt_cmpR op_gt (pe_callB call_len_seq (by rfl) mL PySem.boot_len (pa_cons (pv 1) pa_nil)) pe_int (nomark _)) (pw_and1 (pt_cmpR op_gt (pe_callB call_len_seq (by rfl) mL PySem.boot_len (pa_cons (pe_ix ix_list (pv 1) (pe_un un_neg pe_int) (fun _ _ => rfl)) pa_nil)) pe_int (nomark _)))))
          (pss_cons (ps_set (i := 3) nd rfl (Or.inl rfl) (pe_c cL hr (pa_cons (pe_ix ix_list (pv 1) (pe_un un_neg pe_int) (fun _ _ => rfl)) (pa_cons (pe_ix ix_list (pv 1) (pe_un un_neg pe_int) (fun _ _ => rfl)) pa_nil))))
          (pss_cons (ps_if (pt_cmpR (op_eqD hr.units) (pv 3) (pe_lst pa_nil) (nomark _)) (pss_one (ps_ret (pv 1))) pss_nil)
          (pss_one (ps_expr (pe_bm PySem.F.plainAttrs_list PySem.F.slot_list_append PySem.F.type_list_append mt_append (pv 1) (pa_cons
            (pe_lc (own := [("part", 4)]) (g := gName 4) (tt := tYes) (te := tOp (rI0 fun i j => .int (i - j)) (tC (.int 0)) (tVar 4)) rfl nd (pi_list (pv 3)) (blkOk_by (N := n_l_chain) (sc := defScope s_l_chain) (by decide +kernel)) (fun _ _ _ _ _ => pg_name (i := 4) nd rfl (Or.inl rfl)) (fun _ _ _ _ _ => pts_nil)
              (fun _ _ _ _ _ => pe_op op_sub pe_int (pv 4))) pa_nil)))))) pss_nil)))
      (pss_one (ps_ret (pv 1))))), ?_⟩
    refine ⟨_, rfl, a, _, rfl, .inl ha.sq, fun l hl => ⟨one, fun t ht => ?_⟩⟩
    have e1 : Evl.Ex H (upd H l (.lst (iV p))) := Evl.Ex.new hl
    have e2 := e1.trans (Evl.Ex.new (o := .lst [.ref l]) ht)
    have hl2 : upd (upd H l (.lst (iV p))) t (.lst [.ref l]) l = some (.lst (iV p)) := Evl.Ex.new ht _ _ upd_same
    have ht2 : upd (upd H l (.lst (iV p))) t (.lst [.ref l]) t = some (.lst [.ref l]) := upd_same
    have nlt : l ≠ t := ne_of_none upd_same ht
    have tn : H t = none := Evl.fresh_back e1 ht
    generalize upd (upd H l (.lst (iV p))) t (.lst [.ref l]) = H0 at e2 hl2 ht2
    have B0 : Built H H0 [(true, l, p)] := ⟨e2, fun i hi => by obtain rfl := List.mem_singleton.mp hi; exact ⟨hl2, hl⟩, by simp⟩
    refine ⟨Wch H a p 0, ?_, ?_⟩
    · refine ⟨_, rfl, a, _, rfl, .inl (SqL.of (e2 _ _ ha)), _, _, rfl, rfl, _, rfl, ?_⟩
      rw [iV_len]
      by_cases c : 1 < p.length
      · refine if_t (decide_eq_true (by omega)) ?_
        refine ⟨_, rfl, .inl ⟨rfl, _, SqL.of ht2⟩, _, rfl, a, p, rfl, e2 _ _ ha, by have := hp.2.1; omega, fun b H2 hb e3 h3 => ?_⟩
        have ht3 := e3 _ _ ht2
        have nbt : b ≠ t := (ne_of_none ht2 hb).symm
        have nbl : l ≠ b := ne_of_none hl2 hb
        refine ⟨t, _, _, rfl, rfl, ht3, by show 1 < sizeLine; decide, ?_⟩
        have BU : Built H (upd H2 t (.lst [.ref l, .ref b])) [(true, l, p), (true, b, slopeL p)] := by
          refine ⟨Evl.Ex.mut (e2.trans e3) tn, fun i hi => ?_, ?_⟩
          · rcases List.mem_cons.mp hi with rfl | hi
            · exact ⟨Eq.trans (upd_ne nlt) (e3 _ _ hl2), hl⟩
            · obtain rfl := List.mem_singleton.mp hi
              exact ⟨Eq.trans (upd_ne nbt) h3, Evl.fresh_back e2 hb⟩
          · simp [nbl]
        refine ⟨t, [(true, l, p), (true, b, slopeL p)], none, none, rfl, tn, upd_same, BU, fun i hi => ?_, ?_⟩
        · rcases List.mem_cons.mp hi with rfl | hi
          · exact nlt
          · obtain rfl := List.mem_singleton.mp hi
            exact nbt
        · have hW := Wr.start hp p0
          have sl := slopeL_len p
          have h8 := hp.2.1
          by_cases c2 : (slopeL p).length = 1
          · exact .inl ⟨by rw [← hW.one c2]; rfl, .inr ⟨[(true, l, p)], (true, b, slopeL p), rfl, rfl, by show (slopeL p).length ≤ 1; omega⟩⟩
          · exact .inr ⟨[], p, slopeL p, rfl, hW, by omega, by omega⟩
      · refine if_f (decide_eq_false (by omega)) ?_
        refine ⟨t, [(true, l, p)], none, none, rfl, tn, ht2, B0, fun i hi => ?_, .inl ⟨?_, .inl (by simp)⟩⟩
        · obtain rfl := List.mem_singleton.mp hi
          exact nlt
        · rw [rowL_short (by omega)]
          rfl
    rintro σ H1 hW1
    refine ⟨40, rfl, by decide, by decide, for_range (n := 40) (fun i σ H' => Wch H a p i σ H') (by
      obtain ⟨t, its, v2, v3, rfl, h1, h2, h3, h4, h5⟩ := hW1
      exact ⟨t, its, v2, v3, rfl, h1, h2, h3, h4, h5⟩) ?_ ?_⟩
    · clear hW1 ht2 hl2 B0 e1 e2 nlt tn ht hl
      rintro i σ H1 hi ⟨t, its, v2, v3, rfl, tn, ht, hB, nt, hst⟩
      refine ⟨_, rfl, t, _, rfl, .inl (SqL.of ht), _, _, rfl, rfl, _, rfl, ?_⟩
      rw [refs_len]
      rcases hst with ⟨hst, hd⟩ | ⟨pre, A, B, hsh, hW, hB2, hB8⟩
      · by_cases c : 1 < its.length
        · refine if_t (decide_eq_true (by omega)) ?_
          rcases hd with hd | ⟨its0, x, rfl, hx1, hx2⟩
          · omega
          · obtain ⟨xb, xa, xs⟩ := x
            obtain rfl : xb = true := hx1
            have hxa : Li H1 xa xs := (hB.2.1 (true, xa, xs) (List.mem_append_right _ List.mem_cons_self)).1
            refine ⟨_, rfl, _, rfl, t, _, _, _, rfl, rfl, SqL.of ht, by rw [refs_app]; exact atI_last _ _, xa, _, rfl, .inl (SqL.of hxa), _, _, rfl, rfl, _, rfl, ?_⟩
            rw [iV_len]
            refine if_f (decide_eq_false (by have hx2 : xs.length ≤ 1 := hx2; omega)) ?_
            exact ⟨t, _, _, _, rfl, tn, ht, hB, nt, .inl ⟨hst, .inr ⟨its0, _, rfl, rfl, hx2⟩⟩⟩
        · refine if_f (decide_eq_false (by omega)) ?_
          exact ⟨t, its, _, _, rfl, tn, ht, hB, nt, .inl ⟨hst, hd⟩⟩
      · rw [List.map_append] at hsh
        obtain ⟨its1, y, rfl, hs1, hy⟩ := map_snoc hsh
        rw [List.map_append] at hs1
        obtain ⟨its0, x, rfl, hs0, hx⟩ := map_snoc hs1
        obtain ⟨yb, ya, ys⟩ := y
        obtain ⟨xb, xa, xs⟩ := x
        obtain rfl : xb = true := congrArg Prod.fst hx
        obtain rfl : xs = A := congrArg Prod.snd hx
        obtain rfl : yb = true := congrArg Prod.fst hy
        obtain rfl : ys = B := congrArg Prod.snd hy
        have hxa : Li H1 xa xs := (hB.2.1 (true, xa, xs) (List.mem_append_left _ (List.mem_append_right _ List.mem_cons_self))).1
        have hya : Li H1 ya ys := (hB.2.1 (true, ya, ys) (List.mem_append_right _ List.mem_cons_self)).1
        have qa : atI (refs (its0 ++ [(true, xa, xs)] ++ [(true, ya, ys)])) (-1) = some (.ref ya) := by
          rw [refs_app]
          exact atI_last _ _
        have qb : atI (refs (its0 ++ [(true, xa, xs)] ++ [(true, ya, ys)])) (-2) = some (.ref xa) := by
          rw [refs_app, refs_app, List.append_assoc]
          exact atI_two _ _ _
        refine if_t (decide_eq_true (by simp only [List.length_append, List.length_cons]; omega)) ?_
        refine ⟨_, rfl, _, rfl, t, _, _, _, rfl, rfl, SqL.of ht, qa, ya, _, rfl, .inl (SqL.of hya), _, _, rfl, rfl, _, rfl, ?_⟩
        rw [iV_len]
        refine if_t (decide_eq_true (by omega)) ?_
        have h0 : ys ≠ [] := fun z => by rw [z] at hB2; cases hB2
        obtain ⟨bx, by_, hbx, hby, hroom, hby9⟩ := hW.nb.room h0
        have la := hW.nb.la
        have lt := hW.nb.lt
        refine ⟨_, rfl, _, rfl, t, _, _, _, rfl, rfl, SqL.of ht, qb, _, rfl, _, rfl, t, _, _, _, rfl, rfl, SqL.of ht, qa, ?_⟩
        refine ⟨xa, ya, xs, ys, bx, by_, rfl, hxa, hya, hW.nb.pa, hW.nb.pb, la, by omega, hbx, hby, h0, hroom, hby9, fun L hL r H2 hr2 e2 h2 => ?_⟩
        have ll := hL.2.1
        refine ⟨_, rfl, Nat.zero_le _, fun z hz => ?_⟩
        have e3 : Evl.Ex H2 (upd H2 z (.lst [])) := Evl.Ex.new hz
        refine ⟨_, _, .lst (SqL.of (e3 _ _ h2)) (dpI (prim L)), .lst (SqL.of upd_same) .nil, shaped_ints _, rfl, _, rfl, ?_⟩
        rw [eqv_nil]
        have enx := nx_eq hW.nb.pb hL
        have e23 := e2.trans e3
        by_cases c : prim L = []
        · refine if_t (decide_eq_true c) ⟨_, rfl, k t _ _ ⟨hB.ext e23, e23 _ _ ht, tn, nt⟩ ?_⟩
          have nn : nx xs ys = [] := by rw [enx, c]; rfl
          have hn := hW.next hp h0
          rw [nn] at hn
          rw [hsh, ← hn.done, List.map_append (l₁ := pre ++ [xs])]
        · refine if_f (decide_eq_false c) ?_
          have hr3 := e3 _ _ h2
          have ht3 := e23 _ _ ht
          refine ⟨_, rfl, .inl ⟨rfl, _, SqL.of ht3⟩, _, rfl, r, rfl, ⟨_, SqL.of hr3⟩, fun D hD => lc_list (xs := iV (prim L)) (fun i H' => Evl.Ex (upd H2 z (.lst [])) H' ∧ H' D = some (.lst (iV ((negL (prim L)).take i)))) ⟨Evl.Ex.new hD, upd_same⟩ (fun i H' _ q => SqL.of (q.1 _ _ hr3)) ?_ ?_⟩
          · rintro j x H' hj ⟨e4, h4⟩
            obtain ⟨n, hn, rfl⟩ := iV_get hj
            have hlt : j < (prim L).length := (List.getElem?_eq_some_iff.mp hn).1
            rw [prim_length] at hlt
            refine ⟨rfl, ?_⟩
            show tOp (rI0 fun i j => .int (i - j)) (tC (.int 0)) (tVar 4) _ _ _
            refine ⟨_, rfl, 0, n, rfl, rfl, _, h4, ?_, Evl.Ex.mut e4 hD, ?_⟩
            · rw [iV_len, List.length_take, negL_length, prim_length]
              exact Nat.lt_of_le_of_lt (show min j L.length ≤ 100 by omega) (by decide)
            · rw [upd_same, take_next (n := -n) (by unfold negL; rw [List.getElem?_map, hn]; rfl)]
              show some (HO.lst (_ ++ [V.int (0 - n)])) = _
              rw [Int.zero_sub]
          · rintro H4 ⟨e4, h4⟩
            rw [iV_len, ← negL_length, List.take_length, ← enx] at h4
            have e14 := e23.trans e4
            have ht4 := e14 _ _ ht
            have Dn : H1 D = none := Evl.fresh_back e23 hD
            have nDt : D ≠ t := (ne_of_none ht3 hD).symm
            have lits : (its0 ++ [(true, xa, xs)] ++ [(true, ya, ys)]).length ≤ 9 := by
              have h1 := congrArg List.length hsh
              have h2 := hW.pre_len hp p0
              simp only [List.length_map, List.length_append, List.length_cons, List.length_nil] at h1 ⊢
              omega
            refine ⟨t, _, _, rfl, rfl, ht4, ?_, ?_⟩
            · rw [refs_len]
              exact Nat.lt_of_le_of_lt lits (by decide)
            have hB4 := hB.ext e14
            have nxs : nx xs ys ≠ [] := fun q => c (by
              rw [enx] at q
              exact List.eq_nil_of_length_eq_zero (by rw [← negL_length, q]; rfl))
            have nl := nx_len (A := xs) h0
            have hn := hW.next hp h0
            generalize hits : its0 ++ [(true, xa, xs)] ++ [(true, ya, ys)] = its at *
            have BU : Built H (upd H4 t (.lst (refs (its ++ [(true, D, nx xs ys)])))) (its ++ [(true, D, nx xs ys)]) := by
              refine ⟨Evl.Ex.mut hB4.1 tn, fun i hi => ?_, ?_⟩
              · rcases List.mem_append.mp hi with hi | hi
                · refine ⟨?_, (hB4.2.1 i hi).2⟩
                  unfold ItAt
                  rw [upd_ne (nt i hi)]
                  exact (hB4.2.1 i hi).1
                · obtain rfl := List.mem_singleton.mp hi
                  refine ⟨?_, Evl.fresh_back hB.1 Dn⟩
                  exact Eq.trans (upd_ne nDt) h4
              · rw [List.map_append, List.nodup_append]
                refine ⟨hB.2.2, by simp, ?_⟩
                intro x hx y hy e5
                obtain ⟨j, hj, rfl⟩ := List.mem_map.mp hx
                obtain rfl : y = D := by simpa using hy
                exact ne_of_none (hB.2.1 j hj).1 Dn e5
            refine ⟨t, its ++ [(true, D, nx xs ys)], _, _, rfl, tn, ?_, ?_, ?_, ?_⟩
            · rw [refs_app]
              exact upd_same
            · rw [refs_app] at BU
              exact BU
            · intro i hi
              rcases List.mem_append.mp hi with hi | hi
              · exact nt i hi
              · obtain rfl := List.mem_singleton.mp hi
                exact nDt
            · have hm : (its ++ [(true, D, nx xs ys)]).map sh = (pre ++ [xs] ++ [ys] ++ [nx xs ys]).map tru := by
                rw [List.map_append, hsh]
                simp only [List.map_append]
                rfl
              by_cases c2 : (nx xs ys).length = 1
              · refine .inl ⟨?_, .inr ⟨its, _, rfl, rfl, by show (nx xs ys).length ≤ 1; omega⟩⟩
                rw [hm, ← hn.one c2]
              · refine .inr ⟨pre ++ [xs], ys, nx xs ys, hm, hn, ?_, by omega⟩
                have := List.length_pos_iff.mpr nxs
                omega
    · rintro σ H1 ⟨t, its, v2, v3, rfl, tn, ht, hB, nt, hst⟩
      rcases hst with ⟨hst, _⟩ | ⟨_, _, _, _, _, h2, h8⟩
      · exact ⟨_, rfl, k t its H1 ⟨hB, ht, tn, nt⟩ hst⟩
      · omega
end
end V2


namespace V2
open PySem L2
open PySem.Spec PyProof.Rows
theorem ldL_nil (e : Option (Int × Int)) : ldL [] e = 0 := by
  cases e with
  | none => rfl
  | some z =>
    obtain ⟨p, q⟩ := z
    show (if p = 0 ∧ q = 1 then (0 : Int) else 0) = 0
    split <;> rfl
def kept (ms : List Int) (i : Nat) : List Int := List.map (fun k : Nat => (k : Int)) ((List.range i).filter (flq ms))
theorem kept_succ (ms : List Int) (i : Nat) : kept ms (i + 1) = if flq ms i = true then kept ms i ++ [(i : Int)] else kept ms i := by
  unfold kept
  rw [List.range_succ, List.filter_append]
  split
  · rename_i h
    rw [List.filter_cons_of_pos h, List.map_append]
    rfl
  · rename_i h
    rw [List.filter_cons_of_neg h]
    simp
theorem kept_len (ms : List Int) (i : Nat) : (kept ms i).length ≤ i := by
  unfold kept
  rw [List.length_map]
  have := List.length_filter_le (flq ms) (List.range i)
  rw [List.length_range] at this
  exact this
section
variable {base : Heap} {mg : Str → Option Value} {K : PySem.W.Frag} {w : World} {P : Program}
theorem ok_mark {f : Addr} {fd : FuncData} (F : Fun K "_law_pv_mark" "_law_pv_mark" s_l_mark f fd) (mI : mg "int" = none) (cA : Cal P w K mg base 4 "_law_pv_at" p_l_at spAtW) : FnOk P w K mg base CX0 5 f fd p_l_mark spMark := by
  refine F.ok sc_l_mark (fun vs H Q E h => ?_) (fun cdv A outer s H vs Q E hr h => ?_)
  · obtain ⟨a, v, R, e, rfl, _⟩ := h
    rfl
  · obtain ⟨a, v, R, e, rfl, ha, hR6, hv, k⟩ := h
    obtain ⟨pR, lR, bR⟩ := id hR6
    have nd := sc_l_mark.nd
    have two : 2 ≤ sizeLine := by show 2 ≤ sizeLine; decide
    refine ⟨_, pss_cons (ps_setLc (i := 3) (own := [("piece", 2)]) (g := gName 2) (tt := tTest (tOp rNe (tVar 2) (tC (.int 0)))) (te := tVar 2) rfl nd rfl rfl (sw_true rfl rfl rfl (by decide +kernel)) (pi_list (pv 0)) (blkOk_by (N := n_l_mark) (sc := defScope s_l_mark) (by decide +kernel)) (fun _ _ _ _ _ => pg_name (i := 2) nd rfl (Or.inl rfl)) (fun _ _ _ _ _ => pts_one (pt_cmpR op_ne (pv 2) pe_int (nomark _)))
            (fun _ _ _ _ _ => pv 2))
      (pss_cons (ps_if (pt_cmpR (op_eqD hr.units) (pv 3) (pe_lst pa_nil) (nomark _)) (pss_one (ps_ret pe_int)) pss_nil)
      (pss_cons (ps_set (i := 2) nd rfl (Or.inl rfl) (pe_ix ix_list (pv 3) (pe_un un_neg pe_int) (fun _ _ => rfl)))
      (Evl.pss_cut (ps_if (pt_cmpR (op_eqD hr.units) (pv 1) (pe_tup (pa_cons pe_int (pa_cons pe_int pa_nil))) (nomark _))
          (pss_one (ps_set (i := 2) nd rfl (Or.inl rfl) (pe_ix ix_list (pv 3) pe_int (fun _ _ => rfl))))
          (pss_one (ps_if (pt_cmpR op_notN (pv 1) pe_non (nomark _)) (pss_one (ps_set (i := 2) nd rfl (Or.inl rfl) (pe_ix ix_tup (pe_c cA hr (pa_cons (pv 0) (pa_cons (pv 1) pa_nil))) pe_int (fun _ _ => rfl)))) pss_nil)))
      (pss_one (ps_ret (pe_op op_sub (pe_callTy call_int1 (by rfl) mI (by decide +kernel) (pa_cons (pe_cmpR op_gt (pv 2) pe_int (nomark _)) pa_nil)) (pe_callTy call_int1 (by rfl) mI (by decide +kernel) (pa_cons (pe_cmpR op_lt (pv 2) pe_int (nomark _)) pa_nil)))))))), ?_⟩
    refine ⟨_, rfl, a, rfl, ⟨_, ha.sq⟩, fun D hD => lc_list (xs := iV R) (fun i H' => Evl.Ex H H' ∧ H' D = some (.lst (iV (nz (R.take i))))) ⟨Evl.Ex.new hD, upd_same⟩ (fun i H' _ q => SqL.of (q.1 _ _ ha)) ?_ ?_⟩
    · rintro i x H' hi ⟨e2, h2⟩
      obtain ⟨n, hn, rfl⟩ := iV_get hi
      refine ⟨rfl, ?_⟩
      show tTest (tOp rNe (tVar 2) (tC (.int 0))) _ _ _
      refine ⟨_, rfl, rfl, _, rfl, ?_⟩
      have sn := nz_snoc hn
      by_cases n0 : n = 0
      · rw [if_pos n0] at sn
        refine if_f (by rw [decide_eq_true (by rw [n0])]; rfl) ⟨e2, ?_⟩
        rw [sn]
        exact h2
      · rw [if_neg n0] at sn
        refine if_t (by rw [decide_eq_false (fun z => n0 (by injection z))]; rfl) ?_
        refine ⟨_, rfl, _, h2, ?_, Evl.Ex.mut e2 hD, ?_⟩
        · rw [iV_len]
          have := nz_len (R.take i)
          rw [List.length_take] at this
          exact Nat.lt_of_le_of_lt (show _ ≤ 100 by omega) (by decide)
        · rw [upd_same, sn]
          unfold iV
          rw [List.map_append]
          rfl
    rintro H1 ⟨e1, h1⟩
    rw [iV_len, List.take_length] at h1
    have eq0 : ∀ g H2, H1 g = none → H2 = upd H1 g (.lst []) → Evl.Ex H1 H2 := fun g H2 hg hh => by rw [hh]; exact Evl.Ex.new hg
    refine ⟨_, rfl, Nat.zero_le _, fun g hg => ?_⟩
    have e2 : Evl.Ex H1 (upd H1 g (.lst [])) := Evl.Ex.new hg
    refine ⟨_, _, .lst (SqL.of (e2 _ _ h1)) (dpI (nz R)), .lst (SqL.of upd_same) .nil, shaped_ints _, rfl, _, rfl, ?_⟩
    rw [eqv_nil]
    have h12 := e2 _ _ h1
    have e12 := e1.trans e2
    generalize upd H1 g (.lst []) = H2 at e2 h12 e12
    by_cases h0 : R = []
    · subst h0
      refine if_t (decide_eq_true rfl) ?_
      rw [ldL_nil] at k
      exact k _ e12
    have np := nz_pos pR h0
    refine if_f (decide_eq_false (fun z => np (by rw [z]; rfl))) ?_
    obtain ⟨lx, hlx, hlx2⟩ := atI_end h0
    have lx0 := pR lx hlx
    obtain ⟨_, nl⟩ := nz_last hlx lx0
    have n0 : nz R ≠ [] := fun z => np (by rw [z]; rfl)
    obtain ⟨ly, hly, hly2⟩ := atI_end n0
    rw [nl] at hly
    obtain rfl := Option.some.inj hly
    refine ⟨_, rfl, _, rfl, D, _, _, _, rfl, rfl, SqL.of h12, hly2, ?_⟩
    refine ⟨fun σ H' => ∃ x : Int, σ = [some (.ref a), some v, some (.int x), some (.ref D)] ∧ Evl.Ex H H' ∧ sgn x = sgn (ldL R e), ?_, ?_⟩
    · cases e with
      | none =>
        obtain rfl : v = .non := hv
        refine ⟨_, rfl, two, fun t ht => ?_⟩
        have e3 : Evl.Ex H2 (upd H2 t (.tup [.int 0, .int 1])) := Evl.Ex.new ht
        refine ⟨_, _, .non, .tup (SqT.of upd_same) (.cons (.int 0) (.cons (.int 1) .nil)), rfl, shaped_pair 0 1, _, rfl, if_f rfl ?_⟩
        refine ⟨_, rfl, rfl, _, rfl, if_f rfl ⟨lx, rfl, e12.trans e3, ?_⟩⟩
        rw [show ldL R none = lx from getD_at hlx]
      | some z =>
        obtain ⟨p, q⟩ := z
        obtain ⟨b, rfl, hb, hq⟩ := hv
        refine ⟨_, rfl, two, fun t ht => ?_⟩
        have e3 : Evl.Ex H2 (upd H2 t (.tup [.int 0, .int 1])) := Evl.Ex.new ht
        have e13 := e12.trans e3
        refine ⟨_, _, .tup (SqT.of (e13 _ _ hb)) (.cons (.int p) (.cons (.int q) .nil)), .tup (SqT.of upd_same) (.cons (.int 0) (.cons (.int 1) .nil)), shaped_pair p q, shaped_pair 0 1, _, rfl, ?_⟩
        rw [eqv_pair]
        by_cases hc : p = 0 ∧ q = 1
        · refine if_t (decide_eq_true hc) ?_
          have hz : (nz R)[0]? = some ((nz R)[0]'(by omega)) := List.getElem?_eq_getElem (by omega)
          refine ⟨_, rfl, D, _, _, _, rfl, rfl, SqL.of (e3 _ _ h12), atI_nat (j := 0) (iV_at hz), _, rfl, e13, ?_⟩
          rw [show ldL R (some (p, q)) = (nz R).getD 0 0 from if_pos hc, getD_at hz]
        · refine if_f (decide_eq_false hc) ?_
          refine ⟨_, rfl, rfl, _, rfl, if_t rfl ?_⟩
          refine ⟨_, rfl, _, rfl, a, b, R, p, q, rfl, e13 _ _ ha, e13 _ _ hb, hR6, hq, fun r H3 hr3 e4 h4 => ?_⟩
          refine ⟨r, _, _, _, rfl, rfl, SqT.of h4, at2_0, _, rfl, e13.trans e4, ?_⟩
          rw [show ldL R (some (p, q)) = hT p q R from if_neg hc]
          exact sgn_at hq.1 R
    · rintro σ H' ⟨x, rfl, e3, hx⟩
      refine ⟨_, rfl, x, 0, rfl, rfl, .inr ⟨_, rfl, _, rfl, x, 0, rfl, rfl, .inr ⟨_, rfl, _, _, rfl, rfl, ?_⟩⟩⟩
      rw [← hx] at k
      have := sgn_law x
      rw [← this] at k
      exact k _ e3
theorem ok_flips {f : Addr} {fd : FuncData} (F : Fun K "_law_pv_flips" "_law_pv_flips" s_l_flips f fd) (mL : mg "len" = none) (mR : mg "range" = none) (cM : Cal P w K mg base 5 "_law_pv_mark" p_l_mark spMark) : FnOk P w K mg base CX0 6 f fd p_l_flips spFlips := by
  refine F.ok sc_l_flips (fun vs H Q E h => ?_) (fun cdv A outer s H vs Q E hr h => ?_)
  · obtain ⟨q, v, rows, e, rfl, _⟩ := h
    rfl
  · obtain ⟨q, v, rows, e, rfl, ⟨as, h1, h2, h3⟩, hl, hR, hv, k⟩ := h
    have nd := sc_l_flips.nd
    refine ⟨_, pss_cons (ps_set (i := 2) nd rfl (Or.inr rfl) (pe_lc (own := [("poly", 3)]) (g := gName 3) (tt := tYes) (te := tCall spMark [] E0 (tCons (tVar 3) (tCons (tVar 1) tNil))) rfl nd (pi_list (pv 0)) (blkOk_by (N := n_l_flips) (sc := defScope s_l_flips) (by decide +kernel)) (fun _ _ _ _ _ => pg_name (i := 3) nd rfl (Or.inl rfl)) (fun _ _ _ _ _ => pts_nil)
            (fun _ _ _ _ _ => pe_c cM hr (pa_cons (pv 3) (pa_cons (pv 1) pa_nil)))))
      (pss_cons (ps_set (i := 2) nd rfl (Or.inr rfl) (pe_lc (own := [("piece", 4)]) (g := gName 4) (tt := tTest (tOp rNe (tVar 4) (tC (.int 0)))) (te := tVar 4) rfl nd (pi_list (pv 2)) (blkOk_by (N := n_l_flips) (sc := defScope s_l_flips) (by decide +kernel)) (fun _ _ _ _ _ => pg_name (i := 4) nd rfl (Or.inl rfl)) (fun _ _ _ _ _ => pts_one (pt_cmpR op_ne (pv 4) pe_int (nomark _)))
            (fun _ _ _ _ _ => pv 4)))
      (pss_one (ps_ret (pe_callB call_len_seq (by rfl) mL PySem.boot_len (pa_cons
          (pe_lc (own := [("k", 5)]) (g := gName 5) (tt := tAnd (tTest (tOp (rI0 fun i j => .bl (decide (j < i))) (tVar 5) (tC (.int 0)))) (tTest (tOp rNe (tOp (rIxL K) (tVar 2) (tVar 5)) (tOp (rIxL K) (tVar 2) (tOp (rI0 fun i j => .int (i - j)) (tVar 5) (tC (.int 1))))))) (te := tVar 5) rfl nd
            (pi_range1 (by rfl) mR (pa_cons (pe_callB call_len_seq (by rfl) mL PySem.boot_len (pa_cons (pv 2) pa_nil)) pa_nil)) (blkOk_by (N := n_l_flips) (sc := defScope s_l_flips) (by decide +kernel)) (fun _ _ _ _ _ => pg_name (i := 5) nd rfl (Or.inl rfl))
            (fun _ _ _ _ _ => pts_one (PW.pt (pw_and (pt_cmpR op_gt (pv 5) pe_int (nomark _)) (pw_and1 (pt_cmpR op_ne (pe_ix ix_list (pv 2) (pv 5) (fun _ _ => rfl)) (pe_ix ix_list (pv 2) (pe_op op_sub (pv 5) pe_int) (fun _ _ => rfl)) (nomark _))))))
            (fun _ _ _ _ _ => pv 5)) pa_nil))))), ?_⟩
    have ml : (mkL rows e).length = rows.length := by unfold mkL; rw [List.length_map]
    refine ⟨_, rfl, q, rfl, ⟨_, SqL.of h1⟩, fun D hD => lc_list (xs := as.map V.ref) (fun i H' => Evl.Ex H H' ∧ H' D = some (.lst (iV ((mkL rows e).take i)))) ⟨Evl.Ex.new hD, upd_same⟩ (fun i H' _ z => SqL.of (z.1 _ _ h1)) ?_ ?_⟩
    · rintro i x H' hi ⟨e1, g1⟩
      rw [List.getElem?_map] at hi
      obtain ⟨a, ha, rfl⟩ : ∃ a, as[i]? = some a ∧ x = .ref a := by
        cases e : as[i]? with
        | none => rw [e] at hi; cases hi
        | some a => rw [e] at hi; exact ⟨a, rfl, (Option.some.inj hi).symm⟩
      have hi2 : i < as.length := (List.getElem?_eq_some_iff.mp ha).1
      have hRi : rows[i]? = some (rows[i]'(by omega)) := List.getElem?_eq_getElem (by omega)
      have hLi := h3 i a _ ha hRi
      have hm := List.mem_of_getElem? hRi
      generalize rows[i]'(by omega) = R at hRi hLi hm
      refine ⟨rfl, ?_⟩
      show tCall spMark [] E0 (tCons (tVar 3) (tCons (tVar 1) tNil)) _ _ _
      refine ⟨_, rfl, _, rfl, a, v, R, e, rfl, e1 _ _ hLi, hR R hm, hv.ex e1, fun H2 e2 => ?_⟩
      refine ⟨_, e2 _ _ g1, ?_, Evl.Ex.mut (e1.trans e2) hD, ?_⟩
      · rw [iV_len, List.length_take]
        exact Nat.lt_of_le_of_lt (show min i (mkL rows e).length ≤ 100 by omega) (by decide)
      · rw [upd_same, take_next (n := sgn (ldL R e)) (by unfold mkL; rw [List.getElem?_map, hRi]; rfl)]
    rintro H1 ⟨e1, g1⟩
    rw [List.length_map, h2, ← ml, List.take_length] at g1
    refine ⟨_, rfl, D, rfl, ⟨_, SqL.of g1⟩, fun D2 hD2 => lc_list (xs := iV (mkL rows e)) (fun i H' => Evl.Ex H1 H' ∧ H' D2 = some (.lst (iV (nz ((mkL rows e).take i))))) ⟨Evl.Ex.new hD2, upd_same⟩ (fun i H' _ z => SqL.of (z.1 _ _ g1)) ?_ ?_⟩
    · rintro i x H' hi ⟨e2, g2⟩
      obtain ⟨n, hn, rfl⟩ := iV_get hi
      refine ⟨rfl, ?_⟩
      show tTest (tOp rNe (tVar 4) (tC (.int 0))) _ _ _
      refine ⟨_, rfl, rfl, _, rfl, ?_⟩
      have sn := nz_snoc hn
      by_cases n0 : n = 0
      · rw [if_pos n0] at sn
        refine if_f (by rw [decide_eq_true (by rw [n0])]; rfl) ⟨e2, ?_⟩
        rw [sn]
        exact g2
      · rw [if_neg n0] at sn
        refine if_t (by rw [decide_eq_false (fun z => n0 (by injection z))]; rfl) ?_
        refine ⟨_, rfl, _, g2, ?_, Evl.Ex.mut e2 hD2, ?_⟩
        · rw [iV_len]
          have := nz_len ((mkL rows e).take i)
          rw [List.length_take] at this
          exact Nat.lt_of_le_of_lt (show _ ≤ 100 by omega) (by decide)
        · rw [upd_same, sn]
          unfold iV
          rw [List.map_append]
          rfl
    rintro H2 ⟨e2, g2⟩
    rw [iV_len, List.take_length] at g2
    have nl : (nz (mkL rows e)).length ≤ 8 := Nat.le_trans (nz_len _) (by omega)
    unfold flpL at k
    generalize nz (mkL rows e) = ms at *
    refine ⟨_, rfl, D2, _, rfl, .inl (SqL.of g2), _, rfl, by rw [iV_len]; omega, by rw [iV_len]; omega, fun D3 hD3 => ?_⟩
    rw [iV_len, Int.toNat_natCast]
    refine lc_range (n := ms.length) (fun i H' => Evl.Ex H2 H' ∧ H' D3 = some (.lst (iV (kept ms i)))) ⟨Evl.Ex.new hD3, upd_same⟩ ?_ ?_
    · rintro i H' hi ⟨e3, g3⟩
      have e0 : (0 : Int) + (i : Int) = (i : Int) := (Int.zero_add _)
      rw [e0]
      refine ⟨rfl, ?_⟩
      show tAnd (tTest (tOp (rI0 fun i j => .bl (decide (j < i))) (tVar 5) (tC (.int 0)))) (tTest (tOp rNe (tOp (rIxL K) (tVar 2) (tVar 5)) (tOp (rIxL K) (tVar 2) (tOp (rI0 fun i j => .int (i - j)) (tVar 5) (tC (.int 1)))))) _ _ _
      have mi : ms[i]? = some ms[i] := List.getElem?_eq_getElem hi
      have ks := kept_succ ms i
      refine ⟨_, rfl, _, _, rfl, rfl, _, rfl, ?_⟩
      by_cases c : 0 < i
      · refine if_t (decide_eq_true (by omega)) ?_
        have ei : ((i : Int) - 1) = ((i - 1 : Nat) : Int) := by omega
        have mj : ms[i - 1]? = some (ms[i - 1]'(by omega)) := List.getElem?_eq_getElem (by omega)
        refine ⟨_, rfl, _, rfl, D2, _, _, _, rfl, rfl, SqL.of (e3 _ _ g2), atI_nat (iV_at mi), _, rfl, _, rfl, _, _, rfl, rfl, D2, _, _, .int (ms[i - 1]'(by omega)), rfl, rfl, SqL.of (e3 _ _ g2), ?_, rfl, _, rfl, ?_⟩
        · show atI _ ((i : Int) - 1) = _
          rw [ei]
          exact atI_nat (iV_at mj)
        · have ef : flq ms i = !decide (V.int ms[i] = V.int (ms[i - 1]'(by omega))) := by
            unfold flq
            rw [decide_eq_true c, getD_at mi, getD_at mj, Bool.true_and]
            by_cases d : ms[i] = ms[i - 1]'(by omega)
            · rw [decide_eq_true d, decide_eq_true (by rw [d])]
            · rw [decide_eq_false d, decide_eq_false (fun z => d (by injection z))]
          rw [← ef]
          by_cases d : flq ms i = true
          · rw [if_pos d] at ks
            refine if_t d ⟨_, rfl, _, g3, ?_, Evl.Ex.mut e3 hD3, ?_⟩
            · rw [iV_len]
              have := kept_len ms i
              exact Nat.lt_of_le_of_lt (show _ ≤ 100 by omega) (by decide)
            · rw [upd_same, ks]
              unfold iV
              rw [List.map_append]
              rfl
          · rw [if_neg d] at ks
            refine if_f (by simpa using d) ⟨e3, ?_⟩
            rw [ks]
            exact g3
      · refine if_f (decide_eq_false (by omega)) ?_
        have d : ¬ flq ms i = true := by
          unfold flq
          rw [decide_eq_false c]
          simp
        rw [if_neg d] at ks
        refine ⟨e3, ?_⟩
        rw [ks]
        exact g3
    · rintro H' ⟨e3, g3⟩
      refine ⟨D3, _, rfl, .inl (SqL.of g3), ?_⟩
      rw [iV_len]
      unfold kept
      rw [List.length_map]
      exact k _ ((e1.trans e2).trans e3)
end
end V2


namespace V2
open PySem L2
open PySem.Spec PyProof.Rows
/-! ## what the law draws: factors -/
/-- from H on, the sack at p goes on, and there are new things -/
structure Al (p : Addr) (H H' : Hp) (m : Nat) : Prop where
  b : But p H H'
  s : Sk H' p m
  f : ∀ q, H' q = none → H q = none
theorem Al.start {p : Addr} {H : Hp} {m : Nat} (h : Sk H p m) : Al p H H m := ⟨But.refl _ _, h, fun _ h => h⟩
theorem Al.go {p : Addr} {H H1 H2 : Hp} {m k : Nat} (h : Al p H H1 m) (b : But p H1 H2) (s : Sk H2 p k) : Al p H H2 k := ⟨h.b.trans b, s, fun q hq => h.f q (but_back b hq (sk_some s))⟩
theorem Al.ex {p : Addr} {H H1 H2 : Hp} {m : Nat} (h : Al p H H1 m) (e : Evl.Ex H1 H2) : Al p H H2 m := ⟨h.b.trans (But.of_ex e), h.s.ex e, fun q hq => h.f q (Evl.fresh_back e hq)⟩
theorem Al.le {p : Addr} {H H1 : Hp} {m k : Nat} (h : Al p H H1 m) (l : m ≤ k) : Al p H H1 k := ⟨h.b, h.s.le l, h.f⟩
/-- data that lies in new things alone -/
def ButS (S : Addr → Prop) (H H' : Hp) : Prop := ∀ b o, ¬ S b → H b = some o → H' b = some o
mutual
inductive Dt (H : Hp) (S : Addr → Prop) : V → PyData → Prop
  | int (i : Int) : Dt H S (.int i) (.int i)
  | lst {a : Addr} {xs : List V} {ds : List PyData} : ¬ S a → H a = some (.lst xs) → DtAll H S xs ds → Dt H S (.ref a) (.list ds)
  | tup {a : Addr} {xs : List V} {ds : List PyData} : ¬ S a → H a = some (.tup xs) → DtAll H S xs ds → Dt H S (.ref a) (.tuple ds)
inductive DtAll (H : Hp) (S : Addr → Prop) : List V → List PyData → Prop
  | nil : DtAll H S [] []
  | cons {v : V} {vs : List V} {d : PyData} {ds : List PyData} : Dt H S v d → DtAll H S vs ds → DtAll H S (v :: vs) (d :: ds)
end
mutual
theorem Dt.go {H H' : Hp} {S S' : Addr → Prop} (b : ButS S H H') (l : ∀ a, S' a → S a) : ∀ {v : V} {d : PyData}, Dt H S v d → Dt H' S' v d
  | _, _, .int i => .int i
  | _, _, .lst h1 h2 h3 => .lst (fun z => h1 (l _ z)) (b _ _ h1 h2) (DtAll.go b l h3)
  | _, _, .tup h1 h2 h3 => .tup (fun z => h1 (l _ z)) (b _ _ h1 h2) (DtAll.go b l h3)
theorem DtAll.go {H H' : Hp} {S S' : Addr → Prop} (b : ButS S H H') (l : ∀ a, S' a → S a) : ∀ {vs : List V} {ds : List PyData}, DtAll H S vs ds → DtAll H' S' vs ds
  | _, _, .nil => .nil
  | _, _, .cons h1 h2 => .cons (Dt.go b l h1) (DtAll.go b l h2)
end
mutual
theorem Dt.dp {K : PySem.W.Frag} {H : Hp} {S : Addr → Prop} : ∀ {v : V} {d : PyData}, Dt H S v d → Dp K H v d
  | _, _, .int i => .int i
  | _, _, .lst _ h2 h3 => .lst (SqL.of h2) (DtAll.dp h3)
  | _, _, .tup _ h2 h3 => .tup (SqT.of h2) (DtAll.dp h3)
theorem DtAll.dp {K : PySem.W.Frag} {H : Hp} {S : Addr → Prop} : ∀ {vs : List V} {ds : List PyData}, DtAll H S vs ds → DpAll K H vs ds
  | _, _, .nil => .nil
  | _, _, .cons h1 h2 => .cons (Dt.dp h1) (DtAll.dp h2)
end
def Flat8 (d : PyData) : Prop := d.canLay0 = true ∧ d.depth ≤ 8
/-- a factor: its polynomial, and anything -/
def FacAt (H : Hp) (S : Addr → Prop) (t : Addr) (ps : List Int) : Prop := ¬ S t ∧ ∃ (a : Addr) (v : V) (dv : PyData), ¬ S a ∧ H t = some (.tup [.ref a, v]) ∧ Li H a ps ∧ Dt H S v dv ∧ Flat8 dv
theorem FacAt.go {H H' : Hp} {S S' : Addr → Prop} {t : Addr} {ps : List Int} (h : FacAt H S t ps) (b : ButS S H H') (l : ∀ a, S' a → S a) : FacAt H' S' t ps := by
  obtain ⟨h1, a, v, dv, h2, h3, h4, h5, h6⟩ := h
  exact ⟨fun z => h1 (l _ z), a, v, dv, fun z => h2 (l _ z), b _ _ h1 h3, b _ _ h2 h4, h5.go b l, h6⟩
def FacsAt (H : Hp) (S : Addr → Prop) (ts : List Addr) (pss : List (List Int)) : Prop := ts.length = pss.length ∧ ∀ (j : Nat) (t : Addr) (ps : List Int), ts[j]? = some t → pss[j]? = some ps → FacAt H S t ps
theorem FacsAt.go {H H' : Hp} {S S' : Addr → Prop} {ts : List Addr} {pss : List (List Int)} (h : FacsAt H S ts pss) (b : ButS S H H') (l : ∀ a, S' a → S a) : FacsAt H' S' ts pss := ⟨h.1, fun j t ps x y => (h.2 j t ps x y).go b l⟩
theorem lay_ints : ∀ ns : List Int, PyData.canLayAll0 (ns.map .int) = true ∧ PyData.depthAll (ns.map .int) ≤ 1
  | [] => ⟨rfl, by simp [PyData.depthAll]⟩
  | n :: r => by
    obtain ⟨h1, h2⟩ := lay_ints r
    exact ⟨by simp [PyData.canLayAll0, PyData.canLay0, h1], by simp [PyData.depthAll, PyData.depth]; omega⟩
theorem facs_dp {K : PySem.W.Frag} {H : Hp} {S : Addr → Prop} : ∀ (ts : List Addr) (pss : List (List Int)), FacsAt H S ts pss → ∃ ds : List PyData, DpAll K H (ts.map V.ref) ds ∧ PyData.canLayAll0 ds = true ∧ PyData.depthAll ds ≤ 12 ∧ ds.length = ts.length
  | [], _, _ => ⟨[], .nil, rfl, by simp [PyData.depthAll], rfl⟩
  | t :: ts, [], h => by
    have := h.1
    cases this
  | t :: ts, ps :: pss, h => by
    obtain ⟨ds, h1, h2, h3, h4⟩ := facs_dp (K := K) (H := H) (S := S) ts pss ⟨by have := h.1; simpa using this, fun j a p x y => h.2 (j + 1) a p x y⟩
    obtain ⟨_, a, v, dv, _, q2, q3, q4, q5, q6⟩ := h.2 0 t ps rfl rfl
    obtain ⟨l1, l2⟩ := lay_ints ps
    refine ⟨.tuple [.list (ps.map .int), dv] :: ds, .cons (.tup (SqT.of q2) (.cons (.lst (SqL.of q3) (dpI ps)) (.cons q4.dp .nil))) h1, ?_, ?_, by simp [h4]⟩
    · simp [PyData.canLayAll0, PyData.canLay0, h2, l1, q5]
    · simp [PyData.depthAll, PyData.depth]
      omega
def spPower : Sp := fun vs H Q _ => ∃ (b : Int) (m : Nat), vs = [.int b, .int (m : Int)] ∧ 0 ≤ b ∧ b ≤ 70 ∧ m ≤ 5 ∧ ∀ r : Int, Evl.RetV (.int r) H Q
def spWhole : Sp := fun vs H Q _ => ∃ (b : Int) (m : Nat), vs = [.int b, .int (m : Int)] ∧ m ≤ 5 ∧ ∀ r : Int, 0 ≤ r → r ≤ 70 → Evl.RetV (.int r) H Q
/-- a number: (up, down, many) -/
def NumAt (H : Hp) (q : Addr) : Prop := ∃ u d m : Int, H q = some (.tup [.int u, .int d, .int m]) ∧ 1 ≤ u ∧ u ≤ 70 ∧ 1 ≤ d ∧ d ≤ 70 ∧ 1 ≤ m ∧ m ≤ 5
def spNumber : Sp := fun vs H Q _ => ∃ u d m : Int, vs = [.int u, .int d, .int m] ∧ 1 ≤ u ∧ u ≤ 70 ∧ 1 ≤ d ∧ d ≤ 70 ∧ 1 ≤ m ∧ m ≤ 5 ∧ ∀ (q : Addr) (H2 : Hp), H q = none → Evl.Ex H H2 → NumAt H2 q → Q (.ref q) H2
def spDrawn : Sp := fun vs H Q _ => ∃ (p : Addr) (m : Nat), vs = [.ref p, .int 12] ∧ Sk H p m ∧ m ≤ 90000 ∧ ∀ (q : Addr) (H2 : Hp), Al p H H2 (m + 4) → H q = none → NumAt H2 q → Q (.ref q) H2
def baseL (u d : Int) (m : Nat) : List Int := [0 - u] ++ List.replicate (m - 1) 0 ++ [d]
def spBase : Sp := fun vs H Q _ => ∃ (t : Addr), vs = [.ref t] ∧ NumAt H t ∧ ∀ (q : Addr) (ps : List Int) (H2 : Hp), H q = none → Evl.Ex H H2 → Li H2 q ps → Fac ps → Q (.ref q) H2
def spFactor : Sp := fun vs H Q _ => ∃ (p : Addr) (m : Nat), vs = [.ref p] ∧ Sk H p m ∧ m ≤ 80000 ∧ ∀ (t : Addr) (ps : List Int) (H2 : Hp), Al p H H2 (m + 6) → FacAt H2 (fun b => H b ≠ none) t ps → Fac ps → Q (.ref t) H2
theorem fac_base {u d : Int} {m : Nat} (hd : 1 ≤ d) (m1 : 1 ≤ m) (m5 : m ≤ 5) : Fac (baseL u d m) := by
  have l : (baseL u d m).length = m + 1 := by unfold baseL; simp; omega
  refine ⟨fun x hx => ?_, by omega, by omega⟩
  rw [l] at hx
  unfold baseL at hx
  rw [List.getElem?_append_right (by simp; omega)] at hx
  have e : m + 1 - 1 - ([0 - u] ++ List.replicate (m - 1) 0).length = 0 := by simp; omega
  rw [e] at hx
  have := Option.some.inj hx
  omega
theorem pow70 {b : Int} (h0 : 0 ≤ b) (h1 : b ≤ 70) : ∀ i, i ≤ 5 → 0 ≤ b ^ i ∧ b ^ i ≤ 70 ^ i
  | 0, _ => ⟨by rw [Int.pow_zero]; decide, by rw [Int.pow_zero, Int.pow_zero]; decide⟩
  | i + 1, h => by
    obtain ⟨x, y⟩ := pow70 h0 h1 i (by omega)
    rw [Int.pow_succ, Int.pow_succ]
    exact ⟨Int.mul_nonneg x h0, Int.mul_le_mul y h1 h0 (Int.le_trans x y)⟩
section
variable {base : Heap} {mg : Str → Option Value} {K : PySem.W.Frag} {w : World} {P : Program}
theorem ok_power {f : Addr} {fd : FuncData} (F : Fun K "_law_pv_power" "_law_pv_power" s_l_power f fd) (mR : mg "range" = none) : FnOk P w K mg base CX0 1 f fd p_l_power spPower := by
  refine F.ok sc_l_power (fun vs H Q E h => ?_) (fun cdv A outer s H vs Q E hr h => ?_)
  · obtain ⟨b, m, rfl, _⟩ := h
    rfl
  · obtain ⟨b, m, rfl, b0, b70, m5, k⟩ := h
    have nd := sc_l_power.nd
    refine ⟨_, pss_cons (ps_set (i := 2) nd rfl (Or.inl rfl) pe_int)
      (pss_cons (ps_for PassesOwn.never rfl (pi_range1 (by rfl) mR (pa_cons (pv 1) pa_nil)) (pg_name (i := 3) nd rfl (Or.inl rfl))
        (pss_one (ps_set (i := 2) nd rfl (Or.inl rfl) (pe_op op_mul (pv 2) (pv 0)))))
      (pss_one (ps_ret (pv 2)))), ?_⟩
    refine ⟨_, rfl, (m : Int), rfl, by omega, by omega, ?_⟩
    rw [Int.toNat_natCast]
    refine for_range (n := m) (fun i σ H' => H' = H ∧ ∃ v, σ = [some (.int b), some (.int (m : Int)), some (.int (b ^ i)), v]) ⟨rfl, none, by rw [Int.pow_zero]; rfl⟩ ?_ ?_
    · rintro i σ H' hi ⟨rfl, v, rfl⟩
      obtain ⟨x, y⟩ := pow70 b0 b70 i (by omega)
      have z : (70 : Int) ^ i ≤ 70 ^ 5 := by
        have : i = 0 ∨ i = 1 ∨ i = 2 ∨ i = 3 ∨ i = 4 := by omega
        rcases this with rfl | rfl | rfl | rfl | rfl <;> decide
      have e5 : (70 : Int) ^ 5 = 1680700000 := by decide
      have e64 : (2 : Int) ^ 64 = 18446744073709551616 := by decide
      refine ⟨_, rfl, _, rfl, _, _, rfl, rfl, .inl ⟨by rw [e64]; omega, by rw [e64]; omega⟩, rfl, some (.int (0 + (i : Int))), ?_⟩
      rw [Int.pow_succ]
      rfl
    · rintro σ H' ⟨rfl, v, rfl⟩
      exact ⟨_, rfl, k _ _ (Evl.Ex.refl _)⟩
theorem ok_whole {f : Addr} {fd : FuncData} (F : Fun K "_law_pv_whole_root" "_law_pv_whole_root" s_l_whole_root f fd) (mR : mg "range" = none) (cP : Cal P w K mg base 1 "_law_pv_power" p_l_power spPower) : FnOk P w K mg base CX0 2 f fd p_l_whole_root spWhole := by
  refine F.ok sc_l_whole_root (fun vs H Q E h => ?_) (fun cdv A outer s H vs Q E hr h => ?_)
  · obtain ⟨b, m, rfl, _⟩ := h
    rfl
  · obtain ⟨b, m, rfl, m5, k⟩ := h
    have nd := sc_l_whole_root.nd
    refine ⟨_, pss_cons (ps_for PassesOwn.never rfl (pi_range2 (by rfl) mR (pa_cons pe_int (pa_cons pe_int pa_nil))) (pg_name (i := 2) nd rfl (Or.inl rfl))
        (pss_one (ps_if (pt_cmpR op_eq (pe_c cP hr (pa_cons (pv 2) (pa_cons (pv 1) pa_nil))) (pv 0) (nomark _)) (pss_one (ps_ret (pv 2))) pss_nil)))
      (pss_one (ps_ret pe_int)), ?_⟩
    refine ⟨1, 71, rfl, ⟨by decide, by decide, by decide, by decide⟩, for_range (lo := 1) (n := 70) (fun i σ H' => Evl.Ex H H' ∧ ∃ v, σ = [some (.int b), some (.int (m : Int)), v]) ⟨Evl.Ex.refl _, none, rfl⟩ ?_ ?_⟩
    · rintro i σ H' hi ⟨e1, v, rfl⟩
      refine ⟨_, rfl, _, rfl, 1 + (i : Int), m, rfl, by omega, by omega, m5, fun r H2 e2 => ⟨_, rfl, rfl, _, rfl, ite2 (fun _ => ?_) (fun _ => ?_)⟩⟩
      · exact ⟨_, rfl, k (1 + (i : Int)) (by omega) (by omega) _ (e1.trans e2)⟩
      · exact ⟨e1.trans e2, _, rfl⟩
    · rintro σ H' ⟨e1, v, rfl⟩
      exact k 0 (by decide) (by decide) _ e1
theorem ok_number {f : Addr} {fd : FuncData} (F : Fun K "_law_pv_number" "_law_pv_number" s_l_number f fd) (mI : mg "int" = none) (cR : Cal P w K mg base 2 "_law_pv_ratio" p_l_ratio spRatio) (cW : Cal P w K mg base 2 "_law_pv_whole_root" p_l_whole_root spWhole) : FnOk P w K mg base CX0 3 f fd p_l_number spNumber := by
  refine F.ok sc_l_number (fun vs H Q E h => ?_) (fun cdv A outer s H vs Q E hr h => ?_)
  · obtain ⟨u, d, m, rfl, _⟩ := h
    rfl
  · obtain ⟨u, d, m, rfl, u1, u70, d1, d70, m1, m5, k⟩ := h
    have nd := sc_l_number.nd
    refine ⟨_, pss_cons (ps_asg (pe_c cR hr (pa_cons (pv 0) (pa_cons (pv 1) pa_nil))) (pg_tup rfl (pgs_cons (pg_name (i := 0) nd rfl (Or.inl rfl)) (pgs_cons (pg_name (i := 1) nd rfl (Or.inl rfl)) pgs_nil))))
      (pss_cons (ps_for PassesOwn.never rfl (pi_tup (pe_tup (pa_cons pe_int (pa_cons pe_int (pa_cons pe_int (pa_cons pe_int pa_nil)))))) (pg_name (i := 3) nd rfl (Or.inl rfl))
        (pss_one (ps_if (pt_cmpR op_eq (pe_op op_mod (pe_callTy call_int1 (by rfl) mI (by decide +kernel) (pa_cons (pv 2) pa_nil)) (pv 3)) pe_int (nomark _))
          (pss_cons (ps_par (i := 4) (j := 5) rfl nd rfl rfl (by decide) rfl rfl (pa_cons (pe_c cW hr (pa_cons (pv 0) (pa_cons (pv 3) pa_nil))) (pa_cons (pe_c cW hr (pa_cons (pv 1) (pa_cons (pv 3) pa_nil))) pa_nil)) (by rfl))
          (pss_one (ps_if (pt_cmpR op_gt (pe_op op_mul (pv 4) (pv 5)) pe_int (nomark _))
            (pss_one (ps_par3 (i := 0) (j := 1) (l := 2) rfl nd rfl rfl rfl (by decide) (by decide) (by decide) rfl rfl rfl (pa_cons (pv 4) (pa_cons (pv 5) (pa_cons (pe_op op_fdivW (pv 2) (pv 3)) pa_nil))) (by rfl))) pss_nil))) pss_nil)))
      (pss_one (ps_ret (pe_tup (pa_cons (pv 0) (pa_cons (pv 1) (pa_cons (pv 2) pa_nil))))))), ?_⟩
    have n7 : (2 : Nat) ^ 7 = 128 := by decide
    have dp : 0 < d := by omega
    refine ⟨_, rfl, _, rfl, u, d, rfl, big (n := 7) (by rw [n7]; omega) (by decide), big (n := 7) (by rw [n7]; omega) (by decide), dp, fun t H1 ht e1 h1 => ?_⟩
    obtain ⟨fm1, fm2⟩ := fr_mul (u := u) dp
    have fp := fr_pos (u := u) dp
    have fa1 := fr_abs1 (a := u) dp
    have fa2 := fr_abs2 (a := u) dp
    have gp := gcd_pos (u := u) dp
    have up : 0 < (fr u d).1 := by
      rcases Int.lt_or_le 0 (fr u d).1 with z | z
      · exact z
      · have := Int.mul_nonpos_of_nonpos_of_nonneg z (Int.le_of_lt gp)
        omega
    refine ⟨t, _, rfl, SqT.of h1, rfl, _, _, rfl, _, _, rfl, rfl, ?_⟩
    generalize (fr u d).1 = u' at *
    generalize (fr u d).2 = d' at *
    clear fm1 fm2 gp
    refine ⟨by show 4 ≤ sizeLine; decide, fun t2 ht2 => ⟨t2, rfl, ⟨_, SqT.of upd_same⟩, ?_⟩⟩
    have e2 := e1.trans (Evl.Ex.new (o := .tup [.int 2, .int 2, .int 3, .int 5]) ht2)
    refine for_tup (xs := [.int 2, .int 2, .int 3, .int 5]) (fun i σ H' => Evl.Ex (upd H1 t2 (.tup [.int 2, .int 2, .int 3, .int 5])) H' ∧ ∃ (x y z : Int) (v3 v4 v5 : Option V), σ = [some (.int x), some (.int y), some (.int z), v3, v4, v5] ∧ 1 ≤ x ∧ x ≤ 70 ∧ 1 ≤ y ∧ y ≤ 70 ∧ 1 ≤ z ∧ z ≤ 5)
      ⟨Evl.Ex.refl _, u', d', m, none, none, none, rfl, by omega, by omega, by omega, by omega, m1, m5⟩ (fun i σ H' _ z => SqT.of (z.1 _ _ upd_same)) ?_ ?_
    · rintro i x σ H' hi ⟨e3, x0, y0, z0, v3, v4, v5, rfl, x1, x2, y1, y2, z1, z2⟩
      obtain ⟨pr, rfl, pr2, pr5⟩ : ∃ pr : Nat, x = .int (pr : Int) ∧ 2 ≤ pr ∧ pr ≤ 5 := by
        match i, hi with
        | 0, hi => exact ⟨2, (Option.some.inj hi).symm, by decide, by decide⟩
        | 1, hi => exact ⟨2, (Option.some.inj hi).symm, by decide, by decide⟩
        | 2, hi => exact ⟨3, (Option.some.inj hi).symm, by decide, by decide⟩
        | 3, hi => exact ⟨5, (Option.some.inj hi).symm, by decide, by decide⟩
      refine ⟨_, rfl, .inl ⟨_, rfl, _, rfl, _, _, rfl, rfl, by show (0 : Int) < (pr : Int); omega, rfl, _, rfl, ?_⟩⟩
      by_cases c : z0 % (pr : Int) = 0
      · refine if_t (decide_eq_true (congrArg V.int c)) ?_
        refine ⟨_, rfl, _, rfl, _, pr, rfl, pr5, fun r r0 r70 H2 e4 => ?_⟩
        refine ⟨_, rfl, _, rfl, _, pr, rfl, pr5, fun r' r0' r70' H3 e5 => ?_⟩
        have e64 : (2 : Int) ^ 64 = 18446744073709551616 := by decide
        refine ⟨_, _, rfl, _, rfl, _, rfl, r, r', rfl, rfl, .inl ⟨by rw [e64]; omega, by rw [e64]; omega⟩, _, _, rfl, rfl, _, rfl, ?_⟩
        by_cases c2 : 0 < r * r'
        · refine if_t (decide_eq_true c2) ?_
          have rp : 0 < r := by
            rcases Int.lt_or_le 0 r with z | z
            · exact z
            · have : r = 0 := by omega
              rw [this, Int.zero_mul] at c2
              omega
          have rp' : 0 < r' := by
            rcases Int.lt_or_le 0 r' with z | z
            · exact z
            · have : r' = 0 := by omega
              rw [this, Int.mul_zero] at c2
              omega
          have n3 : (2 : Nat) ^ 3 = 8 := by decide
          refine ⟨_, rfl, _, rfl, _, rfl, _, rfl, z0, (pr : Int), rfl, rfl, wide_div (b := 3) (by omega) (by rw [n3]; omega) (by decide) (by decide), _, _, _, rfl, (e3.trans e4).trans e5, r, r', z0 / (pr : Int), _, _, _, rfl, by omega, r70, by omega, r70', ?_, ?_⟩
          · have h1 := Int.ediv_mul_add_emod z0 (pr : Int)
            rw [c, Int.add_zero] at h1
            rcases Int.lt_or_le 0 (z0 / (pr : Int)) with z | z
            · omega
            · have := Int.mul_nonpos_of_nonpos_of_nonneg z (show (0 : Int) ≤ (pr : Int) by omega)
              omega
          · exact Int.le_trans (Int.ediv_le_self _ (by omega)) z2
        · refine if_f (decide_eq_false c2) ?_
          exact ⟨(e3.trans e4).trans e5, x0, y0, z0, _, _, _, rfl, x1, x2, y1, y2, z1, z2⟩
      · refine if_f (decide_eq_false (fun z => c (by injection z))) ?_
        exact ⟨e3, x0, y0, z0, _, _, _, rfl, x1, x2, y1, y2, z1, z2⟩
    · rintro σ H' ⟨e3, x0, y0, z0, v3, v4, v5, rfl, x1, x2, y1, y2, z1, z2⟩
      refine ⟨_, rfl, _, rfl, _, rfl, by show 3 ≤ sizeLine; decide, fun q hq => ?_⟩
      have e4 := e2.trans e3
      exact k q _ (Evl.fresh_back e4 hq) (e4.trans (Evl.Ex.new hq)) ⟨x0, y0, z0, upd_same, x1, x2, y1, y2, z1, z2⟩
theorem ok_drawn {f : Addr} {fd : FuncData} (F : Fun K "_law_pv_drawn_number" "_law_pv_drawn_number" s_l_drawn_number f fd) (cC : Cal P w K mg base 1 "_law_pv_coin" p_l_coin spCoin) (cN : Cal P w K mg base 3 "_law_pv_number" p_l_number spNumber) : FnOk P w K mg base CX0 4 f fd p_l_drawn_number spDrawn := by
  refine F.ok sc_l_drawn_number (fun vs H Q E h => ?_) (fun cdv A outer s H vs Q E hr h => ?_)
  · obtain ⟨p, m, rfl, _⟩ := h
    rfl
  · obtain ⟨p, m, rfl, hS, hm, k⟩ := h
    have nd := sc_l_drawn_number.nd
    have hr1 : Room 1 _ := (hr.mono (by decide))
    refine ⟨_, pss_cons (ps_par (i := 2) (j := 3) rfl nd rfl rfl (by decide) rfl rfl (pa_cons (pe_op op_add pe_int (pe_c cC hr1 (pa_cons (pv 0) (pa_cons pe_int pa_nil)))) (pa_cons (pe_ix ix_list (pe_lst (pa_cons pe_int (pa_cons pe_int (pa_cons (pv 1) pa_nil)))) (pe_c cC hr1 (pa_cons (pv 0) (pa_cons pe_int pa_nil))) (fun _ _ => rfl)) pa_nil)) (by rfl))
      (pss_one (ps_ret (pe_c cN hr (pa_cons (pe_op op_add pe_int (pe_c cC hr1 (pa_cons (pv 0) (pa_cons (pv 1) pa_nil)))) (pa_cons (pe_op op_add pe_int (pe_c cC hr1 (pa_cons (pv 0) (pa_cons (pv 3) pa_nil)))) (pa_cons (pv 2) pa_nil)))))), ?_⟩
    refine ⟨_, rfl, p, 5, m, rfl, hS, by omega, by decide, by decide, fun r H1 r0 r1 b1 s1 z1 => ⟨1, r, rfl, rfl, ?_⟩⟩
    have A1 := (Al.start hS).go b1 s1
    refine ⟨_, rfl, by show 3 ≤ sizeLine; decide, fun l hl => ?_⟩
    have A2 := A1.ex (Evl.Ex.new (o := .lst [.int 1, .int 3, .int 12]) hl)
    refine ⟨_, rfl, p, 3, m + 1, rfl, A2.s, by omega, by decide, by decide, fun r2 H2 r20 r21 b2 s2 z2 => ?_⟩
    obtain ⟨most, ht, ht2⟩ := at3_ (a := 1) (b := 3) (c := 12) r20 r21
    have t1 : 1 ≤ most ∧ most ≤ 12 := by rcases ht2 with e | e | e <;> rw [e] <;> omega
    refine ⟨l, _, _, _, rfl, rfl, SqL.of (b2 l _ (sk_ne A1.s hl) upd_same), ht, _, _, rfl, ?_⟩
    have A3 := A2.go b2 s2
    refine ⟨_, rfl, _, rfl, p, 12, m + 2, rfl, A3.s, by omega, by decide, by decide, fun r3 H3 r30 r31 b3 s3 z3 => ⟨1, r3, rfl, rfl, ?_⟩⟩
    have A4 := A3.go b3 s3
    refine ⟨_, rfl, _, rfl, p, most, m + 3, rfl, A4.s, by omega, by omega, Nat.lt_of_le_of_lt (show most.natAbs ≤ 12 by omega) (by decide), fun r4 H4 r40 r41 b4 s4 z4 => ⟨1, r4, rfl, rfl, ?_⟩⟩
    have A5 := A4.go b4 s4
    refine ⟨_, rfl, 1 + r3, 1 + r4, 1 + r, rfl, by omega, by omega, by omega, by omega, by omega, by omega, fun q H5 hq e5 hn => ?_⟩
    exact k q H5 (A5.ex e5) (A5.f q hq) hn
theorem ok_base {f : Addr} {fd : FuncData} (F : Fun K "_law_pv_base" "_law_pv_base" s_l_base f fd) : FnOk P w K mg base CX0 1 f fd p_l_base spBase := by
  refine F.ok sc_l_base (fun vs H Q E h => ?_) (fun cdv A outer s H vs Q E hr h => ?_)
  · obtain ⟨t, rfl, _⟩ := h
    rfl
  · obtain ⟨t, rfl, ⟨u, d, m, ht, u1, u70, d1, d70, m1, m5⟩, k⟩ := h
    have one : 1 ≤ sizeLine := by show 1 ≤ sizeLine; decide
    refine ⟨_, pss_one (ps_ret (pe_op op_cat (pe_op op_cat (pe_lst (pa_cons (pe_op op_sub pe_int (pe_ix ix_tup (pv 0) pe_int (fun _ _ => rfl))) pa_nil)) (pe_op op_rep (pe_lst (pa_cons pe_int pa_nil)) (pe_op op_sub (pe_ix ix_tup (pv 0) pe_int (fun _ _ => rfl)) pe_int))) (pe_lst (pa_cons (pe_ix ix_tup (pv 0) pe_int (fun _ _ => rfl)) pa_nil)))), ?_⟩
    obtain ⟨M, rfl⟩ : ∃ M : Nat, m = (M : Int) := ⟨m.toNat, by omega⟩
    refine ⟨_, rfl, t, _, _, _, rfl, rfl, SqT.of ht, (by rfl : atI [V.int u, .int d, .int (M : Int)] 0 = some (.int u)), 0, u, rfl, rfl, one, fun p1 hp1 => ?_⟩
    have e1 : Evl.Ex H (upd H p1 (.lst [.int (0 - u)])) := Evl.Ex.new hp1
    have hp11 : upd H p1 (.lst [.int (0 - u)]) p1 = some (.lst [.int (0 - u)]) := upd_same
    generalize upd H p1 (.lst [.int (0 - u)]) = H1 at e1 hp11
    refine ⟨one, fun p2 hp2 => ?_⟩
    have e2 : Evl.Ex H1 (upd H1 p2 (.lst [.int 0])) := Evl.Ex.new hp2
    have hp22 : upd H1 p2 (.lst [.int 0]) p2 = some (.lst [.int 0]) := upd_same
    generalize upd H1 p2 (.lst [.int 0]) = H2 at e2 hp22
    refine ⟨_, rfl, t, _, _, _, rfl, rfl, SqT.of ((e1.trans e2) _ _ ht), (by rfl : atI [V.int u, .int d, .int (M : Int)] 2 = some (.int (M : Int))), (M : Int), 1, rfl, rfl, p2, _, _, rfl, rfl, hp22, by omega, by omega, ?_, fun p3 hp3 => ?_⟩
    · show 1 * _ ≤ sizeLine
      exact Nat.le_trans (show 1 * ((M : Int) - 1).toNat ≤ 100 by omega) (by decide)
    rw [rep_flat, show ((M : Int) - 1).toNat = M - 1 by omega]
    have e3 : Evl.Ex H2 (upd H2 p3 (.lst (List.replicate (M - 1) (V.int 0)))) := Evl.Ex.new hp3
    have hp33 : upd H2 p3 (.lst (List.replicate (M - 1) (V.int 0))) p3 = some (.lst (List.replicate (M - 1) (V.int 0))) := upd_same
    generalize upd H2 p3 (.lst (List.replicate (M - 1) (V.int 0))) = H3 at e3 hp33
    refine ⟨p1, p3, _, _, rfl, rfl, (e2.trans e3) _ _ hp11, hp33, ?_, fun p4 hp4 => ?_⟩
    · rw [List.length_replicate]
      exact Nat.le_trans (show 1 + (M - 1) ≤ 100 by omega) (by decide)
    have e4 : Evl.Ex H3 (upd H3 p4 (.lst ([.int (0 - u)] ++ List.replicate (M - 1) (V.int 0)))) := Evl.Ex.new hp4
    have hp44 : upd H3 p4 (.lst ([.int (0 - u)] ++ List.replicate (M - 1) (V.int 0))) p4 = some (.lst ([.int (0 - u)] ++ List.replicate (M - 1) (V.int 0))) := upd_same
    generalize upd H3 p4 (.lst ([.int (0 - u)] ++ List.replicate (M - 1) (V.int 0))) = H4 at e4 hp44
    have e14 := ((e1.trans e2).trans e3).trans e4
    refine ⟨_, rfl, t, _, _, _, rfl, rfl, SqT.of (e14 _ _ ht), (by rfl : atI [V.int u, .int d, .int (M : Int)] 1 = some (.int d)), one, fun p5 hp5 => ?_⟩
    have e5 : Evl.Ex H4 (upd H4 p5 (.lst [.int d])) := Evl.Ex.new hp5
    refine ⟨p4, p5, _, _, rfl, rfl, e5 _ _ hp44, upd_same, ?_, fun q hq => ?_⟩
    · rw [List.length_append, List.length_replicate]
      exact Nat.le_trans (show 1 + (M - 1) + 1 ≤ 100 by omega) (by decide)
    have e15 := e14.trans e5
    refine k q (baseL u d M) _ (Evl.fresh_back e15 hq) (e15.trans (Evl.Ex.new hq)) ?_ (fac_base d1 (by omega) (by omega))
    unfold Li
    rw [upd_same]
    unfold baseL iV
    rw [List.map_append, List.map_append, List.map_replicate]
    rfl
end
end V2


namespace V2
open PySem L2
open PySem.Spec PyProof.Rows
/-! ## factors and their products -/
theorem ButS.of_ex {S : Addr → Prop} {H H' : Hp} (e : Evl.Ex H H') : ButS S H H' := fun b o _ h => e b o h
theorem ButS.of_but {S : Addr → Prop} {p : Addr} {H H' : Hp} (b : But p H H') (hp : S p) : ButS S H H' := fun c o n h => b c o (fun z => n (by rw [z]; exact hp)) h
theorem prd_app : ∀ l m : List (List Int), prd (l ++ m) = prd l * prd m
  | [], m => by show prd m = 1 * prd m; rw [Nat.one_mul]
  | p :: r, m => by show n1 p * prd (r ++ m) = n1 p * prd r * prd m; rw [prd_app r m, Nat.mul_assoc]
theorem dgs_app : ∀ l m : List (List Int), dgs (l ++ m) = dgs l + dgs m
  | [], m => by show dgs m = 0 + dgs m; rw [Nat.zero_add]
  | p :: r, m => by show (p.length - 1) + dgs (r ++ m) = (p.length - 1) + dgs r + dgs m; rw [dgs_app r m]; omega
theorem prd_take {pss : List (List Int)} (h : ∀ p ∈ pss, Fac p) (i : Nat) : prd (pss.take i) ≤ prd pss := by
  have e := prd_app (pss.take i) (pss.drop i)
  rw [List.take_append_drop] at e
  rw [e]
  exact Nat.le_mul_of_pos_right _ (prd_pos fun p hp => h p (List.mem_of_mem_drop hp))
theorem dgs_take (pss : List (List Int)) (i : Nat) : dgs (pss.take i) ≤ dgs pss := by
  have e := dgs_app (pss.take i) (pss.drop i)
  rw [List.take_append_drop] at e
  omega
theorem n1_in {pss : List (List Int)} (h : ∀ p ∈ pss, Fac p) {i : Nat} {ps : List Int} (hi : pss[i]? = some ps) : n1 ps ≤ prd pss := by
  have e := prd_take h (i + 1)
  rw [List.take_add_one, hi, Option.toList_some, prd_snoc] at e
  have := prd_pos (l := pss.take i) fun p hp => h p (List.mem_of_mem_take hp)
  exact Nat.le_trans (Nat.le_mul_of_pos_left _ this) e
theorem pn_n1 {f : List Int} (h : Pol f) (hl : f.length ≤ 16) (hn : n1 f ≤ 1000000) : Pn f := by
  refine ⟨h, hl, fun x hx => ?_⟩
  have := n1_mem hx
  have e : (2 : Int) ^ 64 = 18446744073709551616 := by decide
  rw [e]
  omega
theorem abs_sum (ps : List Int) : ∀ i, i ≤ ps.length → ((ps.take i).map fun x => if x < 0 then -x else x).sum = ((rsm i (fun j => (ps.getD j 0).natAbs) : Nat) : Int)
  | 0, _ => rfl
  | i + 1, h => by
    have e : ps[i]? = some ps[i] := List.getElem?_eq_getElem (by omega)
    rw [List.take_add_one, e, List.map_append, List.sum_append, abs_sum ps i (by omega), n1_snoc e, Int.natCast_add]
    congr 1
    show (if ps[i] < 0 then -ps[i] else ps[i]) + 0 = _
    split <;> omega
def absL (ps : List Int) : List Int := ps.map fun x => if x < 0 then -x else x
theorem absL_sum (ps : List Int) : (absL ps).sum = (n1 ps : Int) := by
  have := abs_sum ps ps.length (Nat.le_refl _)
  rw [List.take_length] at this
  exact this
def spFactors : Sp := fun vs H Q _ => ∃ (p : Addr) (m : Nat), vs = [.ref p, .int 7] ∧ Sk H p m ∧ m ≤ 70000 ∧ ∀ (q : Addr) (ts : List Addr) (pss : List (List Int)) (H2 : Hp), Al p H H2 (m + 100) → H q = none → H2 q = some (.lst (ts.map V.ref)) → FacsAt H2 (fun b => H b ≠ none) ts pss → (∀ ps ∈ pss, Fac ps) → dgs pss ≤ 7 → 3 * prd pss ≤ 1000000 → Q (.ref q) H2
def spMult : Sp := fun vs H Q _ => ∃ (q : Addr) (by_ : Int) (ts : List Addr) (pss : List (List Int)) (S : Addr → Prop), vs = [.ref q, .int by_] ∧ H q = some (.lst (ts.map V.ref)) ∧ FacsAt H S ts pss ∧ (by_ = 1 ∨ by_ = -1 ∨ by_ = 2 ∨ by_ = -3) ∧ (∀ ps ∈ pss, Fac ps) ∧ dgs pss ≤ 7 ∧ 3 * prd pss ≤ 1000000 ∧
  ∀ (r : Addr) (ns : List Int) (H2 : Hp), H r = none → Evl.Ex H H2 → Li H2 r ns → P6 ns → ns ≠ [] → Q (.ref r) H2
def rAbs5 : List V → Hp → VK → Prop := fun xs H Q => ∃ i, xs = [.int i] ∧ Q (.int (if i < 0 then -i else i)) H
section
variable {base : Heap} {mg : Str → Option Value} {K : PySem.W.Frag} {w : World} {P : Program}
structure T9 (P : Program) (w : World) (K : PySem.W.Frag) (mg : Str → Option Value) (base : Heap) : Prop where
  int : mg "int" = none
  max : mg "max" = none
  abs : mg "abs" = none
  len : mg "len" = none
  rng : mg "range" = none
  sum : mg "sum" = none
  coin : Cal P w K mg base 1 "_law_pv_coin" p_l_coin spCoin
  ratio : Cal P w K mg base 2 "_law_pv_ratio" p_l_ratio spRatio
theorem flat_nil : Flat8 (.list []) := ⟨rfl, by decide⟩
theorem ok_factor {f : Addr} {fd : FuncData} (F : Fun K "_law_pv_factor" "_law_pv_factor" s_l_factor f fd) (T : T9 P w K mg base) (cD : Cal P w K mg base 4 "_law_pv_drawn_number" p_l_drawn_number spDrawn) (cB : Cal P w K mg base 1 "_law_pv_base" p_l_base spBase) : FnOk P w K mg base CX0 5 f fd p_l_factor spFactor := by
  refine F.ok sc_l_factor (fun vs H Q E h => ?_) (fun cdv A outer s H vs Q E hr h => ?_)
  · obtain ⟨p, m, rfl, _⟩ := h
    rfl
  · obtain ⟨p, m, rfl, hS, hm, k⟩ := h
    have nd := sc_l_factor.nd
    have hr1 : Room 1 _ := (hr.mono (by decide))
    have hr2 : Room 2 _ := (hr.mono (by decide))
    have one : 1 ≤ sizeLine := by show 1 ≤ sizeLine; decide
    have two : 2 ≤ sizeLine := by show 2 ≤ sizeLine; decide
    have three : 3 ≤ sizeLine := by show 3 ≤ sizeLine; decide
    refine ⟨_, pss_cons (ps_set (i := 1) nd rfl (Or.inl rfl) (pe_c T.coin hr1 (pa_cons (pv 0) (pa_cons pe_int pa_nil))))
      (pss_cons (ps_if (pt_cmpR op_eq (pv 1) pe_int (nomark _)) (pss_one (ps_ret (pe_tup (pa_cons (pe_lst (pa_cons (pe_op op_add pe_int (pe_c T.coin hr1 (pa_cons (pv 0) (pa_cons pe_int pa_nil)))) (pa_cons pe_int (pa_cons pe_int pa_nil)))) (pa_cons (pe_lst pa_nil) pa_nil))))) pss_nil)
      (pss_cons (ps_if (pt_cmpR op_lt (pv 1) pe_int (nomark _))
        (pss_cons (ps_asg (pe_c T.ratio hr2 (pa_cons (pe_op op_sub (pe_c T.coin hr1 (pa_cons (pv 0) (pa_cons pe_int pa_nil))) pe_int) (pa_cons (pe_op op_add pe_int (pe_c T.coin hr1 (pa_cons (pv 0) (pa_cons pe_int pa_nil)))) pa_nil))) (pg_tup rfl (pgs_cons (pg_name (i := 2) nd rfl (Or.inl rfl)) (pgs_cons (pg_name (i := 3) nd rfl (Or.inl rfl)) pgs_nil))))
        (pss_cons (ps_set (i := 4) nd rfl (Or.inl rfl) (pe_op op_sub (pe_callTy call_int1 (by rfl) T.int (by decide +kernel) (pa_cons (pe_cmpR op_gt (pv 2) pe_int (nomark _)) pa_nil)) (pe_callTy call_int1 (by rfl) T.int (by decide +kernel) (pa_cons (pe_cmpR op_lt (pv 2) pe_int (nomark _)) pa_nil))))
        (pss_one (ps_ret (pe_tup (pa_cons (pe_lst (pa_cons (pe_op op_sub pe_int (pv 2)) (pa_cons (pv 3) pa_nil)))
          (pa_cons (pe_lst (pa_cons (pe_tup (pa_cons (pv 4) (pa_cons (pe_tup (pa_cons (pe_callB (call_max2 rfl) (by rfl) T.max (by decide +kernel) (pa_cons pe_int (pa_cons (pe_callB call_abs (by rfl) T.abs (by decide +kernel) (pa_cons (pv 2) pa_nil)) pa_nil))) (pa_cons (pv 3) (pa_cons pe_int pa_nil)))) pa_nil))) pa_nil)) pa_nil)))))))
        pss_nil)
      (pss_cons (ps_set (i := 5) nd rfl (Or.inl rfl) (pe_c cD hr (pa_cons (pv 0) (pa_cons pe_int pa_nil))))
      (pss_cons (ps_set (i := 6) nd rfl (Or.inl rfl) (pe_lst (pa_cons (pe_tup (pa_cons pe_int (pa_cons (pv 5) pa_nil))) pa_nil)))
      (Evl.pss_cut (ps_if (pt_cmpR op_eq (pe_op op_mod (pe_callTy call_int1 (by rfl) T.int (by decide +kernel) (pa_cons (pe_ix ix_tup (pv 5) pe_int (fun _ _ => rfl)) pa_nil)) pe_int) pe_int (nomark _))
        (pss_one (ps_set (i := 6) nd rfl (Or.inl rfl) (pe_op op_cat (pv 6) (pe_lst (pa_cons (pe_tup (pa_cons (pe_un un_neg pe_int) (pa_cons (pv 5) pa_nil))) pa_nil))))) pss_nil)
      (pss_one (ps_ret (pe_tup (pa_cons (pe_c cB hr1 (pa_cons (pv 5) pa_nil)) (pa_cons (pv 6) pa_nil)))))))))), ?_⟩
    refine ⟨_, rfl, p, 4, m, rfl, hS, by omega, by decide, by decide, fun r H1 r0 r1 b1 s1 z1 => ?_⟩
    have A1 := (Al.start hS).go b1 s1
    refine ⟨_, rfl, rfl, _, rfl, ite2 (fun _ => ?_) (fun _ => ?_)⟩
    · refine ⟨_, rfl, p, 9, m + 1, rfl, A1.s, by omega, by decide, by decide, fun y H2 y0 y1 b2 s2 z2 => ⟨1, y, rfl, rfl, three, fun l hl => ⟨Nat.zero_le _, fun g hg => ⟨two, fun t ht => ?_⟩⟩⟩⟩
      have A2 := A1.go b2 s2
      have e3 : Evl.Ex H2 (upd H2 l (.lst [.int (1 + y), .int 0, .int 1])) := Evl.Ex.new hl
      have e4 := Evl.Ex.new (o := .lst []) hg
      have e5 := Evl.Ex.new (o := .tup [.ref l, .ref g]) ht
      have A3 := A2.ex e3
      have A4 := A3.ex e4
      refine k t [1 + y, 0, 1] _ ((A4.ex e5).le (by omega)) ⟨fun z => z (A4.f t ht), l, .ref g, .list [], fun z => z (A2.f l hl), upd_same, e5 _ _ (e4 _ _ upd_same), .lst (fun z => z (A3.f g hg)) (e5 _ _ upd_same) .nil, flat_nil⟩ ⟨fun x hx => by cases hx; decide, by simp, by simp⟩
    refine ⟨_, rfl, _, _, rfl, rfl, _, rfl, ite2 (fun _ => ?_) (fun _ => ?_)⟩
    · refine ⟨_, rfl, p, 13, m + 1, rfl, A1.s, by omega, by decide, by decide, fun y H2 y0 y1 b2 s2 z2 => ⟨y, 6, rfl, rfl, ?_⟩⟩
      have A2 := A1.go b2 s2
      refine ⟨_, rfl, p, 4, m + 2, rfl, A2.s, by omega, by decide, by decide, fun x H3 x0 x1 b3 s3 z3 => ⟨1, x, rfl, rfl, ?_⟩⟩
      have A3 := A2.go b3 s3
      have dp : 0 < 1 + x := by omega
      refine ⟨y - 6, 1 + x, rfl, Nat.lt_of_le_of_lt (show (y - 6).natAbs ≤ 12 by omega) (Nat.lt_of_lt_of_le (show 12 < 2 ^ 4 by decide) (Nat.pow_le_pow_right (by decide) (by decide))), Nat.lt_of_le_of_lt (show (1 + x).natAbs ≤ 12 by omega) (Nat.lt_of_lt_of_le (show 12 < 2 ^ 4 by decide) (Nat.pow_le_pow_right (by decide) (by decide))), dp, fun t H4 ht e4 h4 => ?_⟩
      have fp := fr_pos (u := y - 6) dp
      generalize (fr (y - 6) (1 + x)).1 = up at *
      generalize (fr (y - 6) (1 + x)).2 = dn at *
      have A4 := A3.ex e4
      refine ⟨t, _, rfl, SqT.of h4, rfl, _, _, rfl, _, _, rfl, rfl, ?_⟩
      refine ⟨_, rfl, up, 0, rfl, rfl, .inr ⟨_, rfl, _, rfl, up, 0, rfl, rfl, .inr ⟨_, rfl, _, _, rfl, rfl, ?_⟩⟩⟩
      refine ⟨_, rfl, 0, up, rfl, rfl, _, rfl, two, fun l hl => ?_⟩
      have e5 : Evl.Ex H4 (upd H4 l (.lst [.int (0 - up), .int dn])) := Evl.Ex.new hl
      have A5 := A4.ex e5
      refine ⟨_, rfl, _, rfl, up, rfl, 1, _, rfl, _, rfl, three, fun t1 ht1 => ?_⟩
      have e6 := Evl.Ex.new (o := .tup [.int (if (if up < 0 then -up else up) > 1 then (if up < 0 then -up else up) else 1), .int dn, .int 1]) ht1
      have A6 := A5.ex e6
      refine ⟨two, fun t2 ht2 => ?_⟩
      have e7 := Evl.Ex.new (o := .tup [.int ((if decide (0 < up) = true then (1 : Int) else 0) - (if decide (up < 0) = true then (1 : Int) else 0)), .ref t1]) ht2
      have A7 := A6.ex e7
      refine ⟨one, fun g hg => ?_⟩
      have e8 := Evl.Ex.new (o := .lst [.ref t2]) hg
      have A8 := A7.ex e8
      refine ⟨two, fun t3 ht3 => ?_⟩
      have e9 := Evl.Ex.new (o := .tup [.ref l, .ref g]) ht3
      have A9 := A8.ex e9
      refine k t3 [0 - up, dn] _ (A9.le (by omega)) ⟨fun z => z (A8.f t3 ht3), l, .ref g,   .list [.tuple [.int _, .tuple [.int (if (if up < 0 then -up else up) > 1 then (if up < 0 then -up else up) else 1), .int dn, .int 1]]], fun z => z (A4.f l hl), upd_same, e9 _ _ (e8 _ _ (e7 _ _ (e6 _ _ upd_same))),
        .lst (fun z => z (A7.f g hg)) (e9 _ _ upd_same) (.cons (.tup (fun z => z (A6.f t2 ht2)) (e9 _ _ (e8 _ _ upd_same)) (.cons (.int _) (.cons (.tup (fun z => z (A5.f t1 ht1)) (e9 _ _ (e8 _ _ (e7 _ _ upd_same))) (.cons (.int _) (.cons (.int _) (.cons (.int _) .nil)))) .nil))) .nil), ?_⟩ ⟨fun x hx => ?_, by simp, by simp⟩
      · exact ⟨rfl, by simp [PyData.depth, PyData.depthAll]⟩
      · have e : x = dn := (Option.some.inj hx).symm
        omega
    refine ⟨_, rfl, p, m + 1, rfl, A1.s, by omega, fun q H2 A2 hq hn => ?_⟩
    have B2 := A1.go A2.b A2.s
    have qn : H q = none := A1.f q hq
    obtain ⟨u, d, mm, hq2, u1, u70, d1, d70, m1, m5⟩ := id hn
    have dq : ∀ {H3 : Hp}, Evl.Ex H2 H3 → Dt H3 (fun b => H b ≠ none) (.ref q) (.tuple [.int u, .int d, .int mm]) := fun e => .tup (fun z => z qn) (e _ _ hq2) (.cons (.int _) (.cons (.int _) (.cons (.int _) .nil)))
    refine ⟨_, rfl, two, fun t1 ht1 => ⟨one, fun g hg => ?_⟩⟩
    have e3 : Evl.Ex H2 (upd H2 t1 (.tup [.int 1, .ref q])) := Evl.Ex.new ht1
    have e4 := e3.trans (Evl.Ex.new (o := .lst [.ref t1]) hg)
    have ht1' : upd (upd H2 t1 (.tup [.int 1, .ref q])) g (.lst [.ref t1]) t1 = some (.tup [.int 1, .ref q]) := Evl.Ex.new hg _ _ upd_same
    have hg' : upd (upd H2 t1 (.tup [.int 1, .ref q])) g (.lst [.ref t1]) g = some (.lst [.ref t1]) := upd_same
    have B3 := B2.ex e3
    have gn : H g = none := B3.f g hg
    have t1n : H t1 = none := B2.f t1 ht1
    have B4 := B2.ex e4
    generalize upd (upd H2 t1 (.tup [.int 1, .ref q])) g (.lst [.ref t1]) = H4 at e4 ht1' hg' B4
    refine ⟨fun σ H' => ∃ (fq : Addr) (dv : PyData), σ = [some (.ref p), some (.int r), none, none, none, some (.ref q), some (.ref fq)] ∧ Evl.Ex H4 H' ∧ Dt H' (fun b => H b ≠ none) (.ref fq) dv ∧ Flat8 dv, ?_, ?_⟩
    · refine ⟨_, rfl, q, _, _, _, rfl, rfl, SqT.of (e4 _ _ hq2), (by rfl : atI [V.int u, .int d, .int mm] 2 = some (.int mm)), .inl ⟨_, rfl, mm, 2, rfl, rfl, (show (0 : Int) < 2 by decide), rfl, _, rfl, ite2 (fun _ => ?_) (fun _ => ?_)⟩⟩
      · refine ⟨_, rfl, 1, rfl, _, rfl, two, fun t2 ht2 => ⟨one, fun g2 hg2 => ?_⟩⟩
        have e5 : Evl.Ex H4 (upd H4 t2 (.tup [.int (-1), .ref q])) := Evl.Ex.new ht2
        have e6 := e5.trans (Evl.Ex.new (o := .lst [.ref t2]) hg2)
        have B5 := B4.ex e5
        have B6 := B4.ex e6
        refine ⟨g, g2, _, _, rfl, rfl, e6 _ _ hg', upd_same, two, fun g3 hg3 => ?_⟩
        have e7 := e6.trans (Evl.Ex.new (o := .lst ([.ref t1] ++ [.ref t2])) hg3)
        refine ⟨g3, .list [.tuple [.int 1, .tuple [.int u, .int d, .int mm]], .tuple [.int (-1), .tuple [.int u, .int d, .int mm]]], rfl, e7, ?_, ⟨rfl, by simp [PyData.depth, PyData.depthAll]⟩⟩
        refine .lst (fun z => z (B6.f g3 hg3)) upd_same ?_
        refine .cons (.tup (fun z => z t1n) (e7 _ _ ht1') (.cons (.int _) (.cons (dq (e4.trans e7)) .nil))) (.cons (.tup (fun z => z (B4.f t2 ht2)) (Evl.Ex.new hg3 _ _ (Evl.Ex.new hg2 _ _ upd_same)) (.cons (.int _) (.cons (dq (e4.trans e7)) .nil))) .nil)
      · refine ⟨g, .list [.tuple [.int 1, .tuple [.int u, .int d, .int mm]]], rfl, Evl.Ex.refl _, ?_, ⟨rfl, by simp [PyData.depth, PyData.depthAll]⟩⟩
        exact .lst (fun z => z gn) hg' (.cons (.tup (fun z => z t1n) ht1' (.cons (.int _) (.cons (dq e4) .nil))) .nil)
    · rintro σ H5 ⟨fq, dv, rfl, e5, hdv, hfl⟩
      have B5 := B4.ex e5
      refine ⟨_, rfl, q, rfl, ⟨u, d, mm, (e4.trans e5) _ _ hq2, u1, u70, d1, d70, m1, m5⟩, fun l ps H6 hl e6 h6 hps => ?_⟩
      refine ⟨_, rfl, two, fun t ht => ?_⟩
      have B6 := B5.ex e6
      have e7 := Evl.Ex.new (o := .tup [.ref l, .ref fq]) ht
      exact k t ps _ ((B6.ex e7).le (by omega)) ⟨fun z => z (B6.f t ht), l, .ref fq, dv, fun z => z (B5.f l hl), upd_same, e7 _ _ h6, hdv.go (ButS.of_ex (e6.trans e7)) (fun _ z => z), hfl⟩ hps
theorem ok_multiplied5 {f : Addr} {fd : FuncData} (F : Fun K "_law_pv_multiplied" "_law_pv_multiplied" s_l_multiplied f fd) (cP : Cal P w K mg base 2 "_law_pv_product" p_l_product (spTwo fun xs ys => trm (pmul xs ys))) : FnOk P w K mg base CX0 3 f fd p_l_multiplied spMult := by
  refine F.ok sc_l_multiplied (fun vs H Q E h => ?_) (fun cdv A outer s H vs Q E hr h => ?_)
  · obtain ⟨q, b, ts, pss, S, rfl, _⟩ := h
    rfl
  · obtain ⟨q, by_, ts, pss, S, rfl, hq, hF, hb, hfac, hd, hprd, k⟩ := h
    have nd := sc_l_multiplied.nd
    have one : 1 ≤ sizeLine := by show 1 ≤ sizeLine; decide
    refine ⟨_, pss_cons (ps_set (i := 2) nd rfl (Or.inl rfl) (pe_lst (pa_cons (pv 1) pa_nil)))
      (pss_cons (ps_for PassesOwn.never rfl (pi_list (pv 0)) (pg_tup rfl (pgs_cons (pg_name (i := 3) nd rfl (Or.inl rfl)) (pgs_cons (pg_name (i := 4) nd rfl (Or.inl rfl)) pgs_nil)))
        (pss_one (ps_set (i := 2) nd rfl (Or.inl rfl) (pe_c cP hr (pa_cons (pv 2) (pa_cons (pv 3) pa_nil))))))
      (pss_one (ps_ret (pv 2)))), ?_⟩
    refine ⟨_, rfl, one, fun l hl => ?_⟩
    have e1 : Evl.Ex H (upd H l (.lst [.int by_])) := Evl.Ex.new hl
    have m0 : Mul5 (3 * prd (pss.take 0)) (dgs (pss.take 0)) [by_] := by
      refine ⟨fun x hx => ?_, by simp, by simp [dgs], ?_⟩
      · have := Option.some.inj hx
        omega
      · show rsm 1 _ ≤ 3 * 1
        show 0 + ([by_].getD 0 0).natAbs ≤ 3
        show 0 + by_.natAbs ≤ 3
        omega
    refine ⟨_, rfl, q, rfl, ⟨_, SqL.of (e1 _ _ hq)⟩, for_list (xs := ts.map V.ref) (fun i σ H' => Evl.Ex H H' ∧ ∃ (r : Addr) (g : List Int) (v3 v4 : Option V), σ = [some (.ref q), some (.int by_), some (.ref r), v3, v4] ∧ H r = none ∧ Li H' r g ∧ Mul5 (3 * prd (pss.take i)) (dgs (pss.take i)) g)
      ⟨e1, l, [by_], none, none, rfl, hl, upd_same, m0⟩ (fun i σ H' _ z => SqL.of (z.1 _ _ hq)) ?_ ?_⟩
    · rintro i x σ H' hi ⟨e2, r, g, v3, v4, rfl, hr0, hg, hM⟩
      rw [List.getElem?_map] at hi
      obtain ⟨t, ht, rfl⟩ : ∃ t, ts[i]? = some t ∧ x = .ref t := by
        cases e : ts[i]? with
        | none => rw [e] at hi; cases hi
        | some a => rw [e] at hi; exact ⟨a, rfl, (Option.some.inj hi).symm⟩
      have hi2 : i < ts.length := (List.getElem?_eq_some_iff.mp ht).1
      have hl2 := hF.1
      have hps : pss[i]? = some (pss[i]'(by omega)) := List.getElem?_eq_getElem (by omega)
      have hfc := hfac _ (List.mem_of_getElem? hps)
      obtain ⟨_, a, v, dv, _, h2, h3, _, _⟩ := hF.2 i t _ ht hps
      have hn := n1_in hfac hps
      have ep : prd (pss.take (i + 1)) = prd (pss.take i) * n1 (pss[i]'(by omega)) := by rw [List.take_add_one, hps, Option.toList_some, prd_snoc]
      have ed : dgs (pss.take (i + 1)) = dgs (pss.take i) + ((pss[i]'(by omega)).length - 1) := by rw [List.take_add_one, hps, Option.toList_some, dgs_snoc]
      have hpt := prd_take hfac i
      have hdt := dgs_take pss i
      generalize pss[i]'(by omega) = ps at *
      refine ⟨t, _, rfl, SqT.of (e2 _ _ h2), rfl, _, _, rfl, _, _, rfl, rfl, ?_⟩
      have gl := hM.le
      refine ⟨_, rfl, _, rfl, r, a, g, ps, rfl, hg, e2 _ _ h3, pn_n1 hM.pol (by omega) (by have := hM.n; omega), pn_n1 hfc.1 (by have := hfc.2.2; omega) (by omega), fun z H3 hz e3 h3 => ?_⟩
      refine ⟨e2.trans e3, z, _, _, _, rfl, Evl.fresh_back e2 hz, h3, ?_⟩
      rw [ep, ed, ← Nat.mul_assoc]
      exact mul5_step hM hfc
    · rintro σ H' ⟨e2, r, g, v3, v4, rfl, hr0, hg, hM⟩
      rw [List.length_map, hF.1, List.take_length] at hM
      refine ⟨_, rfl, k r g H' hr0 e2 hg ⟨hM.pol, by have := hM.le; omega, fun x hx => ?_⟩ hM.ne⟩
      have := n1_mem hx
      have := hM.n
      omega
end
end V2


namespace V2
open PySem L2
open PySem.Spec PyProof.Rows
theorem eqv_none (ds : List PyData) : PyData.eqv (.list ds) (.list []) = decide (ds = []) := by
  cases ds with
  | nil => rfl
  | cons d r => simp [PyData.eqv, PyData.eqvAll]
theorem Al.back {p : Addr} {H H' : Hp} {m : Nat} (h : Al p H H' m) {a : Addr} (ha : H a ≠ none) : H' a ≠ none := fun z => ha (h.f a z)
/-- where the list of factors stands -/
structure Fs (p : Addr) (H H' : Hp) (m : Nat) (q : Addr) (ts : List Addr) (pss : List (List Int)) : Prop where
  al : Al p H H' m
  qn : H q = none
  at_ : H' q = some (.lst (ts.map V.ref))
  fs : FacsAt H' (fun b => H b ≠ none ∨ b = q) ts pss
  ok : ∀ ps ∈ pss, Fac ps
  dg : dgs pss ≤ 7
  pr : 3 * prd pss ≤ 1000000
theorem Fs.qp {p : Addr} {H H' : Hp} {m : Nat} {q : Addr} {ts : List Addr} {pss : List (List Int)} (h : Fs p H H' m q ts pss) (hp : H p ≠ none) : q ≠ p := fun z => hp (by rw [← z]; exact h.qn)
theorem Fs.go {p : Addr} {H H1 H2 : Hp} {m k : Nat} {q : Addr} {ts : List Addr} {pss : List (List Int)} (h : Fs p H H1 m q ts pss) (hp : H p ≠ none) (b : But p H1 H2) (s : Sk H2 p k) : Fs p H H2 k q ts pss :=
  ⟨h.al.go b s, h.qn, b _ _ (h.qp hp) h.at_, h.fs.go (ButS.of_but b (.inl hp)) (fun _ z => z), h.ok, h.dg, h.pr⟩
theorem Fs.ex {p : Addr} {H H1 H2 : Hp} {m : Nat} {q : Addr} {ts : List Addr} {pss : List (List Int)} (h : Fs p H H1 m q ts pss) (e : Evl.Ex H1 H2) : Fs p H H2 m q ts pss :=
  ⟨h.al.ex e, h.qn, e _ _ h.at_, h.fs.go (ButS.of_ex e) (fun _ z => z), h.ok, h.dg, h.pr⟩
theorem get_snoc {α : Type} {l : List α} {x y : α} {j : Nat} (h : (l ++ [x])[j]? = some y) : (j < l.length ∧ l[j]? = some y) ∨ (j = l.length ∧ x = y) := by
  by_cases c : j < l.length
  · rw [List.getElem?_append_left c] at h
    exact .inl ⟨c, h⟩
  · rw [List.getElem?_append_right (by omega)] at h
    by_cases d : j - l.length = 0
    · rw [d] at h
      exact .inr ⟨by omega, Option.some.inj h⟩
    · obtain ⟨n, hn⟩ : ∃ n, j - l.length = n + 1 := ⟨j - l.length - 1, by omega⟩
      rw [hn] at h
      cases h
theorem facs_snoc {H : Hp} {S : Addr → Prop} {ts : List Addr} {pss : List (List Int)} {t : Addr} {ps : List Int} (h : FacsAt H S ts pss) (k : FacAt H S t ps) : FacsAt H S (ts ++ [t]) (pss ++ [ps]) := by
  refine ⟨by rw [List.length_append, List.length_append, h.1]; rfl, fun j a p hj hp => ?_⟩
  rcases get_snoc hj with ⟨c, h1⟩ | ⟨c, rfl⟩
  · rcases get_snoc hp with ⟨_, h2⟩ | ⟨d, _⟩
    · exact h.2 j a p h1 h2
    · have := h.1; omega
  · rcases get_snoc hp with ⟨d, _⟩ | ⟨_, rfl⟩
    · have := h.1; omega
    · exact k
section
variable {base : Heap} {mg : Str → Option Value} {K : PySem.W.Frag} {w : World} {P : Program}
theorem ok_factors {f : Addr} {fd : FuncData} (F : Fun K "_law_pv_factors" "_law_pv_factors" s_l_factors f fd) (T : T9 P w K mg base) (cF : Cal P w K mg base 5 "_law_pv_factor" p_l_factor spFactor) : FnOk P w K mg base CX0 6 f fd p_l_factors spFactors := by
  refine F.ok sc_l_factors (fun vs H Q E h => ?_) (fun cdv A outer s H vs Q E hr h => ?_)
  · obtain ⟨p, m, rfl, _⟩ := h
    rfl
  · obtain ⟨p, m, rfl, hS, hm, k⟩ := h
    have nd := sc_l_factors.nd
    have hr1 : Room 1 _ := (hr.mono (by decide))
    have one : 1 ≤ sizeLine := by show 1 ≤ sizeLine; decide
    have hpn : H p ≠ none := by
      obtain ⟨o, ho⟩ := sk_some hS
      rw [ho]
      exact fun z => by cases z
    refine ⟨_, pss_cons (ps_par (i := 2) (j := 3) rfl nd rfl rfl (by decide) rfl rfl (pa_cons (pe_lst pa_nil) (pa_cons pe_int pa_nil)) (by rfl))
      (pss_cons (ps_for PassesOwn.never rfl (pi_range1 (by rfl) T.rng (pa_cons (pe_c T.coin hr1 (pa_cons (pv 0) (pa_cons pe_int pa_nil))) pa_nil)) (pg_name (i := 4) nd rfl (Or.inl rfl))
        (pss_cons (ps_set (i := 5) nd rfl (Or.inl rfl) (pe_c cF hr (pa_cons (pv 0) pa_nil)))
        (Evl.pss_cut (ps_if (PW.pt (pw_and (pt_cmpR (op_neD hr.units) (pv 2) (pe_lst pa_nil) (nomark _)) (pw_and1 (pt_cmpR op_eq (pe_c T.coin hr1 (pa_cons (pv 0) (pa_cons pe_int pa_nil))) pe_int (nomark _)))))
            (pss_one (ps_set (i := 5) nd rfl (Or.inl rfl) (pe_ix ix_list (pv 2) (pe_c T.coin hr1 (pa_cons (pv 0) (pa_cons (pe_callB call_len_seq (by rfl) T.len PySem.boot_len (pa_cons (pv 2) pa_nil)) pa_nil))) (fun _ _ => rfl)))) pss_nil)
        (pss_cons (ps_set (i := 6) nd rfl (Or.inl rfl) (pe_callB (cr_sum rfl) (by rfl) T.sum (by decide +kernel) (pa_cons
            (pe_lc (own := [("piece", 7)]) (g := gName 7) (tt := tYes) (te := tCB rAbs5 (tCons (tVar 7) tNil)) rfl nd (pi_list (pe_ix ix_tup (pv 5) pe_int (fun _ _ => rfl))) (blkOk_by (N := n_l_factors) (sc := defScope s_l_factors) (by decide +kernel)) (fun _ _ _ _ _ => pg_name (i := 7) nd rfl (Or.inl rfl)) (fun _ _ _ _ _ => pts_nil)
              (fun _ _ _ _ _ => pe_callB call_abs (by rfl) T.abs (by decide +kernel) (pa_cons (pv 7) pa_nil))) pa_nil)))
        (pss_one (ps_if (PW.pt (pw_and (pt_cmpR op_le (pe_op op_sub (pe_callB call_len_seq (by rfl) T.len PySem.boot_len (pa_cons (pe_ix ix_tup (pv 5) pe_int (fun _ _ => rfl)) pa_nil)) pe_int) (pv 1) (nomark _)) (pw_and1 (pt_cmpR op_le (pe_op op_mul (pv 3) (pv 6)) (pe_op op_powX pe_int pe_int) (nomark _)))))
            (pss_cons (ps_expr (pe_bm PySem.F.plainAttrs_list PySem.F.slot_list_append PySem.F.type_list_append mt_append (pv 2) (pa_cons (pv 5) pa_nil)))
            (pss_one (ps_par (i := 3) (j := 1) rfl nd rfl rfl (by decide) rfl rfl (pa_cons (pe_op op_mul (pv 3) (pv 6)) (pa_cons (pe_op op_add (pe_op op_sub (pv 1) (pe_callB call_len_seq (by rfl) T.len PySem.boot_len (pa_cons (pe_ix ix_tup (pv 5) pe_int (fun _ _ => rfl)) pa_nil))) pe_int) pa_nil)) (by rfl)))) pss_nil))))))
      (pss_one (ps_ret (pv 2)))), ?_⟩
    refine ⟨Nat.zero_le _, fun q hq => ⟨_, _, rfl, ?_⟩⟩
    have e1 : Evl.Ex H (upd H q (.lst [])) := Evl.Ex.new hq
    have F0 : Fs p H (upd H q (.lst [])) m q [] [] := ⟨(Al.start hS).ex e1, hq, upd_same, ⟨rfl, fun j t ps h => by cases h⟩, (fun ps h => by cases h), by decide, by decide⟩
    refine ⟨_, rfl, p, 6, m, rfl, F0.al.s, by omega, by decide, by decide, fun c H1 c0 c1 b1 s1 z1 => ⟨c, rfl, by omega, by omega, ?_⟩⟩
    have F1 := F0.go hpn b1 s1
    refine for_range (n := c.toNat) (fun i σ H' => ∃ (ts : List Addr) (pss : List (List Int)) (dg sz : Int) (v4 v5 v6 : Option V), σ = [some (.ref p), some (.int dg), some (.ref q), some (.int sz), v4, v5, v6, none] ∧ Fs p H H' (m + 1 + 9 * i) q ts pss ∧ ts.length ≤ i ∧ dg = 7 - (dgs pss : Int) ∧ sz = 3 * (prd pss : Int))
      ⟨[], [], 7, 3, none, none, none, rfl, F1, by simp, rfl, rfl⟩ ?_ ?_
    · rintro i σ H2 hi ⟨ts, pss, dg, sz, v4, v5, v6, rfl, F2, ht, hdg, hsz⟩
      have i5 : i < 5 := by omega
      refine ⟨_, rfl, p, _, rfl, F2.al.s, by omega, fun t ps H3 A3 hT hps => ?_⟩
      have F3 := F2.go hpn A3.b A3.s
      have T3 : FacAt H3 (fun b => H b ≠ none ∨ b = q) t ps := hT.go (fun _ _ _ h => h) fun a z => by
        rcases z with z | rfl
        · exact F2.al.back z
        · rw [F2.at_]; exact fun z => by cases z
      clear hT
      refine ⟨fun σ H' => ∃ (t : Addr) (ps : List Int), σ = [some (.ref p), some (.int dg), some (.ref q), some (.int sz), some (.int (0 + (i : Int))), some (.ref t), v6, none] ∧ Fs p H H' (m + 1 + 9 * i + 8) q ts pss ∧ FacAt H' (fun b => H b ≠ none ∨ b = q) t ps ∧ Fac ps, ?_, ?_⟩
      · refine ⟨_, rfl, Nat.zero_le _, fun g hg => ?_⟩
        have e4 : Evl.Ex H3 (upd H3 g (.lst [])) := Evl.Ex.new hg
        have F4 := F3.ex e4
        have T4 := T3.go (ButS.of_ex e4) (fun _ z => z)
        obtain ⟨ds, d1, d2, d3, d4⟩ := facs_dp (K := K) ts pss F4.fs
        refine ⟨.list ds, .list [], .lst (SqL.of F4.at_) d1, .lst (SqL.of upd_same) .nil, ?_, rfl, _, rfl, ?_⟩
        · unfold SeqAt.shaped
          simp [PyData.canLay0, PyData.depth, d2]
          omega
        rw [eqv_none]
        generalize upd H3 g (.lst []) = H4 at e4 F4 T4 d1
        by_cases c : ds = []
        · refine if_f (by rw [decide_eq_true c]; rfl) ?_
          exact ⟨t, ps, rfl, ⟨F4.al.le (by omega), F4.qn, F4.at_, F4.fs, F4.ok, F4.dg, F4.pr⟩, T4, hps⟩
        · refine if_t (by rw [decide_eq_false c]; rfl) ?_
          have tl : 0 < ts.length := by
            rw [← d4]
            exact List.length_pos_iff.mpr c
          refine ⟨_, rfl, p, 3, m + 1 + 9 * i + 6, rfl, F4.al.s, by omega, by decide, by decide, fun y H5 y0 y1 b5 s5 z5 => ⟨rfl, _, rfl, ?_⟩⟩
          have F5 := F4.go hpn b5 s5
          have T5 := T4.go (ButS.of_but b5 (.inl hpn)) (fun _ z => z)
          refine ite2 (fun _ => ?_) (fun _ => ?_)
          · refine ⟨_, rfl, _, rfl, _, rfl, q, _, rfl, .inl (SqL.of F5.at_), p, _, m + 1 + 9 * i + 7, rfl, F5.al.s, by omega, by rw [List.length_map]; omega, by rw [List.length_map, Int.natAbs_natCast]; exact Nat.lt_of_le_of_lt (show ts.length ≤ 5 by omega) (by decide), fun x H6 x0 x1 b6 s6 z6 => ?_⟩
            have F6 := F5.go hpn b6 s6
            rw [List.length_map] at x1
            obtain ⟨j, rfl⟩ : ∃ j : Nat, x = (j : Int) := ⟨x.toNat, by omega⟩
            have hj : ts[j]? = some (ts[j]'(by omega)) := List.getElem?_eq_getElem (by omega)
            have hl := F6.fs.1
            have hpj : pss[j]? = some (pss[j]'(by omega)) := List.getElem?_eq_getElem (by omega)
            refine ⟨q, _, _, .ref (ts[j]'(by omega)), rfl, rfl, SqL.of F6.at_, atI_nat (by rw [List.getElem?_map, hj]; rfl), ?_⟩
            exact ⟨ts[j]'(by omega), pss[j]'(by omega), rfl, ⟨F6.al.le (by omega), F6.qn, F6.at_, F6.fs, F6.ok, F6.dg, F6.pr⟩, F6.fs.2 j _ _ hj hpj, F6.ok _ (List.mem_of_getElem? hpj)⟩
          · exact ⟨t, ps, rfl, ⟨F5.al.le (by omega), F5.qn, F5.at_, F5.fs, F5.ok, F5.dg, F5.pr⟩, T5, hps⟩
      · clear F3 T3 hps A3 F2
        rintro σ H4 ⟨t, ps, rfl, F4, T4, hps⟩
        obtain ⟨tS, a, v, dv, aS, h1, h2, h3, h4⟩ := id T4
        refine ⟨_, rfl, t, _, _, _, rfl, rfl, SqT.of h1, (by rfl : atI [V.ref a, v] 0 = some (.ref a)), a, rfl, ⟨_, SqL.of h2⟩, fun D hD => lc_list (xs := iV ps) (fun i H' => Evl.Ex H4 H' ∧ H' D = some (.lst (iV ((absL ps).take i)))) ⟨Evl.Ex.new hD, upd_same⟩ (fun i H' _ z => SqL.of (z.1 _ _ h2)) ?_ ?_⟩
        · rintro j x H' hj ⟨e5, g5⟩
          obtain ⟨n, hn, rfl⟩ := iV_get hj
          have hlt : j < ps.length := (List.getElem?_eq_some_iff.mp hn).1
          refine ⟨rfl, ?_⟩
          show tCB rAbs5 (tCons (tVar 7) tNil) _ _ _
          refine ⟨_, rfl, n, rfl, _, g5, ?_, Evl.Ex.mut e5 hD, ?_⟩
          · rw [iV_len, List.length_take]
            have := hps.2.2
            exact Nat.lt_of_le_of_lt (show _ ≤ 100 by omega) (by decide)
          · rw [upd_same, take_next (n := if n < 0 then -n else n) (by unfold absL; rw [List.getElem?_map, hn]; rfl)]
        rintro H5 ⟨e5, g5⟩
        have al : (absL ps).length = ps.length := by unfold absL; rw [List.length_map]
        rw [iV_len, ← al, List.take_length] at g5
        refine ⟨D, absL ps, rfl, SqL.of g5, ?_⟩
        rw [absL_sum]
        have F5 := F4.ex e5
        have T5 := T4.go (ButS.of_ex e5) (fun _ z => z)
        obtain ⟨tS5, a5, v5', dv5, aS5, k1, k2, k3, k4⟩ := id T5
        have w6 : CPowX 10 6 := pow_ok (k := 4) (n := 6) (by decide) (by decide)
        have e6 : (10 : Int) ^ (6 : Int).toNat = 1000000 := by decide
        have e64 : (2 : Int) ^ 64 = 18446744073709551616 := by decide
        have hprd := F5.pr
        have mulc : CMul sz (n1 ps : Int) := .inl ⟨by rw [e64]; omega, by rw [e64]; omega⟩
        have at5 : atI [V.ref a5, v5'] 0 = some (.ref a5) := rfl
        refine ⟨_, rfl, t, _, _, _, rfl, rfl, SqT.of k1, at5, a5, _, rfl, .inl (SqL.of k2), _, 1, rfl, rfl, _, rfl, _, dg, rfl, rfl, _, rfl, ?_⟩
        rw [iV_len]
        have fin : ∃ (ts : List Addr) (pss : List (List Int)) (dg' sz' : Int) (u4 u5 u6 : Option V), [some (.ref p), some (.int dg), some (.ref q), some (.int sz), some (.int (0 + (i : Int))), some (.ref t), some (.int (n1 ps : Int)), none] = [some (V.ref p), some (.int dg'), some (.ref q), some (.int sz'), u4, u5, u6, none] ∧ Fs p H H5 (m + 1 + 9 * (i + 1)) q ts pss ∧ ts.length ≤ i + 1 ∧ dg' = 7 - (dgs pss : Int) ∧ sz' = 3 * (prd pss : Int) :=
          ⟨ts, pss, dg, sz, _, _, _, rfl, ⟨F5.al.le (by omega), F5.qn, F5.at_, F5.fs, F5.ok, F5.dg, F5.pr⟩, by omega, hdg, hsz⟩
        by_cases c1 : (ps.length : Int) - 1 ≤ dg
        · refine if_t (decide_eq_true c1) ?_
          refine ⟨_, rfl, _, rfl, sz, (n1 ps : Int), rfl, rfl, mulc, 10, 6, rfl, rfl, w6, _, _, rfl, rfl, _, rfl, ?_⟩
          rw [e6]
          by_cases c2 : sz * (n1 ps : Int) ≤ 1000000
          · refine if_t (decide_eq_true c2) ?_
            refine ⟨_, rfl, .inl ⟨rfl, _, SqL.of F5.at_⟩, _, rfl, q, _, _, rfl, rfl, F5.at_, by rw [List.length_map]; exact Nat.lt_of_le_of_lt (show ts.length ≤ 100 by omega) (by decide), ?_⟩
            have em : ts.map V.ref ++ [V.ref t] = (ts ++ [t]).map V.ref := by rw [List.map_append]; rfl
            rw [em]
            have bu : ButS (fun b => H b ≠ none ∨ b = q) H5 (upd H5 q (.lst ((ts ++ [t]).map V.ref))) := fun b o hb h => by
              rw [upd_ne (fun z => hb (.inr z))]
              exact h
            have T6 := T5.go bu (fun _ z => z)
            have qp := F5.qp hpn
            have A6 : Al p H (upd H5 q (.lst ((ts ++ [t]).map V.ref))) (m + 1 + 9 * i + 8) := by
              refine ⟨fun b o hb h => ?_, ?_, fun x hx => ?_⟩
              · rw [upd_ne (ne_of_none h F5.qn)]
                exact F5.al.b b o hb h
              · obtain ⟨a', b', c', q1, q2⟩ := F5.al.s
                exact ⟨a', b', c', by rw [upd_ne qp.symm]; exact q1, q2⟩
              · by_cases z : x = q
                · rw [z]; exact F5.qn
                · rw [upd_ne z] at hx
                  exact F5.al.f x hx
            have hsz2 : sz * (n1 ps : Int) = 3 * (prd (pss ++ [ps]) : Int) := by
              rw [prd_snoc, hsz, Int.natCast_mul, Int.mul_assoc]
            obtain ⟨_, a6, v6', dv6, _, m1, m2, _, _⟩ := id T6
            have at6 : atI [V.ref a6, v6'] 0 = some (.ref a6) := rfl
            refine ⟨_, rfl, _, rfl, sz, (n1 ps : Int), rfl, rfl, mulc, _, rfl, _, rfl, t, _, _, _, rfl, rfl, SqT.of m1, at6, a6, _, rfl, .inl (SqL.of m2), dg, _, rfl, rfl, _, 1, rfl, rfl, _, _, rfl, ?_⟩
            rw [iV_len]
            have l2 := hps.2.1
            refine ⟨ts ++ [t], pss ++ [ps], dg - (ps.length : Int) + 1, sz * (n1 ps : Int), _, _, _, rfl, ⟨A6.le (by omega), F5.qn, upd_same, facs_snoc (F5.fs.go bu (fun _ z => z)) T6, ?_, ?_, ?_⟩, by rw [List.length_append]; simp; omega, ?_, hsz2⟩
            · intro x hx
              rcases List.mem_append.mp hx with hx | hx
              · exact F5.ok x hx
              · obtain rfl := List.mem_singleton.mp hx
                exact hps
            · rw [dgs_snoc]
              omega
            · omega
            · rw [dgs_snoc]
              omega
          · exact if_f (decide_eq_false c2) fin
        · exact if_f (decide_eq_false c1) fin
    · rintro σ H2 ⟨ts, pss, dg, sz, v4, v5, v6, rfl, F2, ht, hdg, hsz⟩
      exact ⟨_, rfl, k q ts pss H2 (F2.al.le (by omega)) F2.qn F2.at_ (F2.fs.go (fun _ _ _ h => h) fun _ z => .inl z) F2.ok F2.dg F2.pr⟩
end
end V2


namespace V2
open PySem L2
open PySem.Spec PyProof.Rows
/-! ## rows shown -/
def Sm (d : PyData) : Prop := PyData.showable d = true ∧ PyData.hasDict d = false ∧ PyData.depth d ≤ 3 ∧ (PyData.shown d).length ≤ 20000
theorem sum_shown {B : Nat} : ∀ xs : List PyData, (∀ d ∈ xs, (PyData.shown d).length ≤ B) → ((PyData.shownAll xs).map (·.length)).sum ≤ xs.length * B
  | [], _ => by simp [PyData.shownAll]
  | d :: r, h => by
    have h1 := sum_shown r fun x hx => h x (List.mem_cons_of_mem _ hx)
    have h2 := h d List.mem_cons_self
    simp only [PyData.shownAll, List.map_cons, List.sum_cons, List.length_cons, Nat.succ_mul]
    omega
theorem shown_list {B : Nat} {xs : List PyData} (h : ∀ d ∈ xs, (PyData.shown d).length ≤ B) : (PyData.shown (.list xs)).length ≤ xs.length * B + 2 * xs.length + 3 := by
  have h1 := sum_shown xs h
  have h2 := listText_len_le (PyData.shownAll xs)
  have h3 := PyData.shownAll_length xs
  simp only [PyData.shown]
  omega
theorem int_sm {n : Int} (h : n.natAbs < 2 ^ 1701) : PyData.showable (.int n) = true ∧ (PyData.shown (.int n)).length ≤ 1702 := by
  have h4 := log2_le h (by decide)
  refine ⟨by simp only [PyData.showable, decide_eq_true_eq]; omega, ?_⟩
  show (Str.ofString (toString n)).length ≤ 1702
  rw [PySem.ofString_length]
  exact int_text_length_le (by decide) h4
theorem ints_sm : ∀ ns : List Int, (∀ n ∈ ns, n.natAbs < 2 ^ 1701) → PyData.showableAll (ns.map .int) = true ∧ PyData.hasDictAll (ns.map .int) = false
  | [], _ => ⟨rfl, rfl⟩
  | n :: r, h => by
    obtain ⟨h1, h2⟩ := ints_sm r fun x hx => h x (List.mem_cons_of_mem _ hx)
    have h3 := (int_sm (h n List.mem_cons_self)).1
    exact ⟨by simp only [List.map_cons, PyData.showableAll, h1, h3, Bool.and_true], by simp only [List.map_cons, PyData.hasDictAll, PyData.hasDict, h2, Bool.or_false]⟩
theorem sm_ints {ns : List Int} (hl : ns.length ≤ 9) (h : ∀ n ∈ ns, n.natAbs < 2 ^ 1701) : Sm (.list (ns.map .int)) := by
  obtain ⟨h1, h2⟩ := ints_sm ns h
  have h3 := d_ints ns
  have h4 := shown_list (B := 1702) (xs := ns.map .int) (fun d hd => by
    obtain ⟨n, hn, rfl⟩ := List.mem_map.mp hd
    exact (int_sm (h n hn)).2)
  rw [List.length_map] at h4
  refine ⟨by simpa [PyData.showable] using h1, by simpa [PyData.hasDict] using h2, by simp [PyData.depth]; omega, ?_⟩
  have := Nat.mul_le_mul_right 1702 hl
  omega
theorem sm_int0 : Sm (.int 0) := by
  obtain ⟨h1, h2⟩ := int_sm (n := 0) (Nat.pow_pos (by decide))
  exact ⟨h1, rfl, by decide, by omega⟩
theorem sm_all : ∀ ds : List PyData, (∀ d ∈ ds, Sm d) → PyData.showableAll ds = true ∧ PyData.hasDictAll ds = false ∧ PyData.depthAll ds ≤ 4
  | [], _ => ⟨rfl, rfl, by simp [PyData.depthAll]⟩
  | d :: r, h => by
    obtain ⟨a1, a2, a3⟩ := sm_all r fun x hx => h x (List.mem_cons_of_mem _ hx)
    obtain ⟨b1, b2, b3, b4⟩ := h d List.mem_cons_self
    exact ⟨by simp [PyData.showableAll, a1, b1], by simp [PyData.hasDictAll, a2, b2], by simp [PyData.depthAll]; omega⟩
theorem shw_sm {ds : List PyData} (h : ∀ d ∈ ds, Sm d) (hl : ds.length ≤ 10) : Shw (.list ds) := by
  obtain ⟨a1, a2, a3⟩ := sm_all ds h
  have h4 := shown_list (B := 20000) (xs := ds) fun d hd => (h d hd).2.2.2
  refine ⟨by simpa [PyData.showable] using a1, by simpa [PyData.hasDict] using a2, by simp [PyData.depth]; omega, ?_⟩
  have h5 := Nat.mul_le_mul_right 20000 hl
  exact Nat.le_trans h4 (Nat.le_trans (show _ ≤ 200023 by omega) (by decide))
theorem Sm.shw {d : PyData} (h : Sm d) : Shw d := ⟨h.1, h.2.1, by have := h.2.2.1; omega, Nat.le_trans h.2.2.2 (by decide)⟩
/-- what may stand in a row that is shown -/
def Rok (R : List Int) : Prop := R.length ≤ 8 ∧ Bs 1700 R
theorem Rok.sm {R : List Int} (h : Rok R) : Sm (.list (R.map .int)) := sm_ints (by have := h.1; omega) fun n hn => big (h.2 n hn) (by decide)
theorem go_sm : ∀ (its : List Itm) (k : Nat), k + its.length ≤ 1000 → (∀ i ∈ its, i.1 = true ∧ Rok i.2.2) → ∀ d ∈ goM k its, Sm d := by
  intro its
  induction its with
  | nil => intro k _ _ d hd; cases hd
  | cons i r ih =>
    intro k hk h d hd
    obtain ⟨b, a, ns⟩ := i
    obtain ⟨h0, h1, h2⟩ := h (b, a, ns) List.mem_cons_self
    obtain rfl : b = true := h0
    have h1 : ns.length ≤ 8 := h1
    rw [List.length_cons] at hk
    rcases (List.mem_cons.mp hd) with rfl | hd
    · refine sm_ints (by rw [List.length_append]; show ns.length + 1 ≤ 9; omega) fun x hx => ?_
      rcases (List.mem_append.mp hx) with hx | hx
      · exact big (h2 x hx) (by decide)
      · obtain rfl := List.mem_singleton.mp hx
        rw [Int.natAbs_natCast]
        exact Nat.lt_of_lt_of_le (show k < 2 ^ 10 by have : (2 : Nat) ^ 10 = 1024 := rfl; omega) (Nat.pow_le_pow_right (by decide) (by decide))
    · exact ih (k + 1) (by omega) (fun i hi => h i (List.mem_cons_of_mem _ hi)) d hd
theorem its_ok {its : List Itm} {rows : List (List Int)} (h : its.map sh = rows.map tru) (ok : ∀ R ∈ rows, Rok R) : ∀ i ∈ its, i.1 = true ∧ Rok i.2.2 := by
  intro i hi
  have : sh i ∈ rows.map tru := by rw [← h]; exact List.mem_map_of_mem hi
  obtain ⟨R, hR, e⟩ := List.mem_map.mp this
  have e1 : true = i.1 := congrArg Prod.fst e
  have e2 : R = i.2.2 := congrArg Prod.snd e
  exact ⟨e1.symm, by rw [← e2]; exact ok R hR⟩
theorem its_len {its : List Itm} {rows : List (List Int)} (h : its.map sh = rows.map tru) : its.length = rows.length := by
  have := congrArg List.length h
  rwa [List.length_map, List.length_map] at this
theorem shw_tree5 {its : List Itm} {rows : List (List Int)} (h : its.map sh = rows.map tru) (hl : rows.length ≤ 8) (ok : ∀ R ∈ rows, Rok R) : Shw (treeD its) := by
  refine shw_sm (fun d hd => ?_) (by rw [List.length_map, its_len h]; omega)
  obtain ⟨i, hi, rfl⟩ := List.mem_map.mp hd
  obtain ⟨h1, h2⟩ := its_ok h ok i hi
  unfold itD
  rw [if_pos h1]
  exact h2.sm
theorem shw_mark5 {its : List Itm} {rows : List (List Int)} (h : its.map sh = rows.map tru) (hl : rows.length ≤ 8) (ok : ∀ R ∈ rows, Rok R) : Shw (markD its) := by
  have l := its_len h
  refine shw_sm (fun d hd => ?_) (by rw [List.length_append, go_len]; show its.length + 1 ≤ 10; omega)
  rcases List.mem_append.mp hd with hd | hd
  · exact go_sm its 1 (by omega) (its_ok h ok) d hd
  · obtain rfl := List.mem_singleton.mp hd
    exact sm_int0
theorem right5 {Hs Hf Hd : Hp} {q d : Addr} {its jts : List Itm} {rows : List (List Int)} (h : Tr Hs Hf q its) (e : Evl.Ex Hf Hd) (U : TreeAt Hd d jts) (hd : Hf d = none ∨ ∃ o, Hs d = some o) (hj : ∀ j ∈ jts, Hf j.2.1 = none ∨ ∃ o, Hs j.2.1 = some o)
    (h1 : its.map sh = rows.map tru) (h2 : jts.map sh = rows.map tru) (hl : rows.length ≤ 8) (ok : ∀ R ∈ rows, Rok R) :
    TreeAt Hd q its ∧ Dst q its ∧ TreeAt Hd d jts ∧ its.map sh = jts.map sh ∧ d ∉ (CL q its).map (·.1) ∧ (∀ j ∈ jts, j.2.1 ∉ (CL q its).map (·.1)) ∧ its.length ≤ 100 ∧ (∀ i ∈ its, i.2.2.length ≤ 100) ∧ Shw (treeD its) ∧ Shw (markD its) ∧ ∀ H', Off ((CL q its).map (·.1)) Hd H' → Evl.Ex Hs H' := by
  have key : ∀ b, (Hf b = none ∨ ∃ o, Hs b = some o) → b ∉ (CL q its).map (·.1) := by
    intro b hb hm
    rcases hb with z | ⟨o, z⟩
    · obtain ⟨o, ho⟩ := h.some_ b hm
      rw [z] at ho; cases ho
    · rw [h.fresh _ hm] at z; cases z
  refine ⟨h.tree.ex e, h.dst, U, h1.trans h2.symm, key d hd, fun j hjm => key _ (hj j hjm), by rw [its_len h1]; omega, fun i hi => ?_, shw_tree5 h1 hl ok, shw_mark5 h1 hl ok, fun H' o => h.back e o⟩
  have := (its_ok h1 ok i hi).2.1
  omega
def rowsD (rows : List (List Int)) : PyData := .list (rows.map fun R => .list (R.map .int))
theorem dp_rows {K : PySem.W.Frag} {H : Hp} : ∀ (as : List Addr) (rows : List (List Int)), as.length = rows.length → (∀ (j : Nat) (a : Addr) (R : List Int), as[j]? = some a → rows[j]? = some R → Li H a R) → DpAll K H (as.map V.ref) (rows.map fun R => .list (R.map .int))
  | [], [], _, _ => .nil
  | [], _ :: _, h, _ => by cases h
  | _ :: _, [], h, _ => by cases h
  | a :: as, R :: rows, h, k => .cons (.lst (SqL.of (k 0 a R rfl rfl)) (dpI R)) (dp_rows as rows (by simpa using h) fun j b S x y => k (j + 1) b S x y)
theorem dp_lists {K : PySem.W.Frag} {H : Hp} {q : Addr} {rows : List (List Int)} (h : Lists H q rows) : Dp K H (.ref q) (rowsD rows) := by
  obtain ⟨as, h1, h2, h3⟩ := h
  exact .lst (SqL.of h1) (dp_rows as rows h2 h3)
theorem shw_rows {rows : List (List Int)} (hl : rows.length ≤ 8) (ok : ∀ R ∈ rows, Rok R) : Shw (rowsD rows) := by
  refine shw_sm (fun d hd => ?_) (by rw [List.length_map]; omega)
  obtain ⟨R, hR, rfl⟩ := List.mem_map.mp hd
  exact (ok R hR).sm
/-- lists in a list, none of them the sack -/
def LsP (p : Addr) (H : Hp) (q : Addr) (rows : List (List Int)) : Prop := ∃ as : List Addr, q ≠ p ∧ H q = some (.lst (as.map V.ref)) ∧ as.length = rows.length ∧ ∀ (j : Nat) (a : Addr) (R : List Int), as[j]? = some a → rows[j]? = some R → a ≠ p ∧ Li H a R
theorem LsP.go {p : Addr} {H H' : Hp} {q : Addr} {rows : List (List Int)} (h : LsP p H q rows) (b : But p H H') : LsP p H' q rows := by
  obtain ⟨as, h1, h2, h3, h4⟩ := h
  exact ⟨as, h1, b _ _ h1 h2, h3, fun j a R x y => ⟨(h4 j a R x y).1, b _ _ (h4 j a R x y).1 (h4 j a R x y).2⟩⟩
theorem LsP.ls {p : Addr} {H : Hp} {q : Addr} {rows : List (List Int)} (h : LsP p H q rows) : Lists H q rows := by
  obtain ⟨as, _, h2, h3, h4⟩ := h
  exact ⟨as, h2, h3, fun j a R x y => (h4 j a R x y).2⟩
theorem LsP.tr {p : Addr} {Hs H : Hp} {q : Addr} {its : List Itm} {rows : List (List Int)} (h : Tr Hs H q its) (hp : Hs p ≠ none) (e : its.map sh = rows.map tru) : LsP p H q rows := by
  refine ⟨its.map (·.2.1), fun z => hp (by rw [← z]; exact h.nq), ?_, by rw [List.length_map, its_len e], fun j a R ha hR => ?_⟩
  · rw [h.at_]
    unfold refs
    rw [List.map_map]
    rfl
  · rw [List.getElem?_map] at ha
    cases hi : its[j]? with
    | none => rw [hi] at ha; cases ha
    | some i =>
      rw [hi] at ha
      obtain rfl : i.2.1 = a := Option.some.inj ha
      have hs : (its.map sh)[j]? = (rows.map tru)[j]? := by rw [e]
      rw [List.getElem?_map, List.getElem?_map, hi, hR] at hs
      have hs : sh i = tru R := Option.some.inj hs
      have e1 : i.1 = true := congrArg Prod.fst hs
      have e2 : i.2.2 = R := congrArg Prod.snd hs
      have hm := h.b.2.1 i (List.mem_of_getElem? hi)
      refine ⟨fun z => hp (by rw [← z]; exact hm.2), ?_⟩
      have h1 := hm.1
      unfold ItAt at h1
      rw [if_pos e1, e2] at h1
      exact h1
end V2


namespace V2
open PySem L2
open PySem.Spec PyProof.Rows
structure C6 (P : Program) (w : World) (K : PySem.W.Frag) (mg : Str → Option Value) (base : Heap) : Prop where
  rng : mg "range" = none
  rep : mg "repr" = none
  coin : Cal P w K mg base 1 "_law_pv_coin" p_l_coin spCoin
  poly : Cal P w K mg base 2 "_law_pv_poly" p_l_poly spPolyN
  any : Cal P w K mg base 3 "_law_pv_any_ratio" p_l_any_ratio spAny
  ratio : Cal P w K mg base 2 "_law_pv_ratio" p_l_ratio spRatio
  factors : Cal P w K mg base 6 "_law_pv_factors" p_l_factors spFactors
  mult : Cal P w K mg base 3 "_law_pv_multiplied" p_l_multiplied spMult
  chain : Cal P w K mg base 5 "_law_pv_chain" p_l_chain spRow
  row : Cal P w K mg base 6 "row" p_row spRow
  rowK : CalK P w K mg base 6 "row" p_row ["one"] id spRow
  turns : Cal P w K mg base 4 "turns" p_turns spTurnsOf
  turnsS : CalK P w K mg base 4 "turns" p_turns ["spot", "told"] swp spTurnsOf
  flips : Cal P w K mg base 6 "_law_pv_flips" p_l_flips spFlips
  right : CalG P w K mg base 5 "_law_pv_right" p_l_right spR
def spChecked5 : Sp := fun vs H Q _ => ∃ (p : Addr) (m : Nat), vs = [.ref p] ∧ Sk H p m ∧ m ≤ 50000 ∧ ∀ H', But p H H' → Q (.bl true) H'
theorem at4b {r : Int} (h0 : 0 ≤ r) (h1 : r < 4) : ∃ b : Int, atI [V.int 1, .int (-1), .int 2, .int (-3)] r = some (.int b) ∧ (b = 1 ∨ b = -1 ∨ b = 2 ∨ b = -3) := by
  have : r = 0 ∨ r = 1 ∨ r = 2 ∨ r = 3 := by omega
  rcases this with rfl | rfl | rfl | rfl
  · exact ⟨1, rfl, .inl rfl⟩
  · exact ⟨-1, rfl, .inr (.inl rfl)⟩
  · exact ⟨2, rfl, .inr (.inr (.inl rfl))⟩
  · exact ⟨-3, rfl, .inr (.inr (.inr rfl))⟩
/-- where both turns are told -/
theorem qn_01 : Qn 0 1 := ⟨by decide, by decide, by decide, by decide⟩
theorem qn_half {y : Int} (h0 : 0 ≤ y) (h1 : y < 13) : Qn (fr (y - 6) 2).1 (fr (y - 6) 2).2 := by
  have h2 : (0 : Int) < 2 := by decide
  have n5 : (2 : Nat) ^ 50 = 1125899906842624 := by decide
  exact ⟨fr_pos h2, fr_cop h2, Nat.lt_of_le_of_lt (fr_abs1 h2) (by rw [n5]; omega), Nat.lt_of_le_of_lt (fr_abs2 h2) (by rw [n5]; decide)⟩
section
variable {base : Heap} {mg : Str → Option Value} {K : PySem.W.Frag} {w : World} {P : Program}
theorem ok_checked {f : Addr} {fd : FuncData} (F : Fun K "_law_pv_checked" "_law_pv_checked" s_l_checked f fd) (c : C6 P w K mg base) : FnG P w K mg base 7 f fd p_l_checked spChecked5 := by
  refine Fun.okG F sc_l_checked (fun vs H Q E h => ?_) (fun cdv A outer s H vs Q E hg hr h => ?_)
  · obtain ⟨p, m, rfl, _⟩ := h
    rfl
  · obtain ⟨p, m, rfl, hS, hm, k⟩ := h
    have nd := sc_l_checked.nd
    have r1 : Room 1 _ := hr.mono (by decide)
    have r2 : Room 2 _ := hr.mono (by decide)
    have r3 : Room 3 _ := hr.mono (by decide)
    have r4 : Room 4 _ := hr.mono (by decide)
    have r5 : Room 5 _ := hr.mono (by decide)
    have one : 1 ≤ sizeLine := by show 1 ≤ sizeLine; decide
    have two : 2 ≤ sizeLine := by show 2 ≤ sizeLine; decide
    have four : 4 ≤ sizeLine := by show 4 ≤ sizeLine; decide
    have hpn : H p ≠ none := by
      obtain ⟨o, ho⟩ := sk_some hS
      rw [ho]
      exact fun z => by cases z
    refine ⟨_, pss_cons (ps_set (i := 1) nd rfl (Or.inl rfl) (pe_c c.poly r2 (pa_cons (pv 0) (pa_cons pe_int pa_nil))))
      (Evl.pss_cut (ps_if (PW.pt (pw_or (pt_cmpR (op_eqD hr.units) (pv 1) (pe_lst pa_nil) (nomark _)) (pw_or1 (pt_cmpR op_eq (pe_c c.coin r1 (pa_cons (pv 0) (pa_cons pe_int pa_nil))) pe_int (nomark _)))))
          (pss_one (ps_set (i := 1) nd rfl (Or.inl rfl) (pe_c c.mult r3 (pa_cons (pe_c c.factors hr (pa_cons (pv 0) (pa_cons pe_int pa_nil))) (pa_cons (pe_ix ix_list (pe_lst (pa_cons pe_int (pa_cons (pe_un un_neg pe_int) (pa_cons pe_int (pa_cons (pe_un un_neg pe_int) pa_nil))))) (pe_c c.coin r1 (pa_cons (pv 0) (pa_cons pe_int pa_nil))) (fun _ _ => rfl)) pa_nil))))) pss_nil)
      (pss_cons (ps_par (i := 2) (j := 3) rfl nd rfl rfl (by decide) rfl rfl (pa_cons (pe_callB (call_show hg hr.units) (by rfl) c.rep (by decide +kernel) (pa_cons (pv 1) pa_nil)) (pa_cons (pe_c c.chain r5 (pa_cons (pv 1) pa_nil)) pa_nil)) (by rfl))
      (pss_cons (ps_if (PW.pt (pw_or (pt_not (pt_val (pe_cg c.right hg r5 (pa_cons (pe_c c.row hr (pa_cons (pv 1) pa_nil)) (pa_cons (pv 3) pa_nil)))))
          (pw_or1 (pt_not (pt_val (pe_cg c.right hg r5 (pa_cons (pe_ck c.rowK hr (pk_cons (pv 1) pk_nil)) (pa_cons (pe_c c.chain r5 (pa_cons (pv 1) pa_nil)) pa_nil)))))))) (pss_one (ps_ret pe_bl)) pss_nil)
      (pss_cons (ps_if (PW.pt (pw_or (pt_not (pt_val (pe_cg c.right hg r5 (pa_cons (pe_c c.row hr (pa_cons (pv 1) pa_nil)) (pa_cons (pe_c c.chain r5 (pa_cons (pv 1) pa_nil)) pa_nil)))))
          (pw_or1 (pt_cmpR op_ne (pe_callB (call_show hg hr.units) (by rfl) c.rep (by decide +kernel) (pa_cons (pv 1) pa_nil)) (pv 2) (nomark _))))) (pss_one (ps_ret pe_bl)) pss_nil)
      (pss_cons (ps_setLc (i := 4) (own := [("turn", 8)]) (g := gName 8) (tt := tYes) (te := tCall spPolyN [] E0 (tCons (tVar 0) (tCons (tC (.int 4)) tNil))) rfl nd rfl rfl (sw_true rfl rfl rfl (by decide +kernel))
          (pi_range1 (by rfl) c.rng (pa_cons (pe_c c.coin r1 (pa_cons (pv 0) (pa_cons pe_int pa_nil))) pa_nil)) (blkOk_by (N := n_l_checked) (sc := defScope s_l_checked) (by decide +kernel)) (fun _ _ _ _ _ => pg_name (i := 8) nd rfl (Or.inl rfl)) (fun _ _ _ _ _ => pts_nil)
          (fun _ _ _ _ _ => pe_c c.poly r2 (pa_cons (pv 0) (pa_cons pe_int pa_nil))))
      (pss_cons (ps_for PassesOwn.never rfl (pi_tup (pe_tup (pa_cons (pe_c c.row hr (pa_cons (pv 1) pa_nil)) (pa_cons (pv 4) (pa_cons (pe_lst pa_nil) (pa_cons (pe_lst (pa_cons (pv 1) pa_nil)) pa_nil)))))) (pg_name (i := 5) nd rfl (Or.inl rfl))
        (pss_cons (ps_set (i := 2) nd rfl (Or.inl rfl) (pe_callB (call_show hg hr.units) (by rfl) c.rep (by decide +kernel) (pa_cons (pv 5) pa_nil)))
        (pss_cons (ps_for PassesOwn.never rfl (pi_tup (pe_tup (pa_cons (pe_tup (pa_cons pe_int (pa_cons pe_int pa_nil))) (pa_cons pe_non (pa_cons (pe_c c.any r3 (pa_cons (pv 0) pa_nil)) (pa_cons (pe_c c.ratio r2 (pa_cons (pe_op op_sub (pe_c c.coin r1 (pa_cons (pv 0) (pa_cons pe_int pa_nil))) pe_int) (pa_cons pe_int pa_nil))) pa_nil)))))) (pg_name (i := 6) nd rfl (Or.inl rfl))
          (pss_cons (ps_set (i := 7) nd rfl (Or.inl rfl) (pe_c c.flips hr (pa_cons (pv 5) (pa_cons (pv 6) pa_nil))))
          (pss_one (ps_if (pt_cmpR op_ne (pe_callB (call_show hg hr.units) (by rfl) c.rep (by decide +kernel) (pa_cons (pe_lst (pa_cons (pe_c c.turns r4 (pa_cons (pv 5) (pa_cons (pv 6) pa_nil))) (pa_cons (pe_ck c.turnsS r4 (pk_cons (pv 6) (pk_cons (pv 5) pk_nil))) pa_nil))) pa_nil)) (pe_callB (call_show hg hr.units) (by rfl) c.rep (by decide +kernel) (pa_cons (pe_lst (pa_cons (pv 7) (pa_cons (pv 7) pa_nil))) pa_nil)) (nomark _)) (pss_one (ps_ret pe_bl)) pss_nil))))
        (pss_one (ps_if (pt_cmpR op_ne (pe_callB (call_show hg hr.units) (by rfl) c.rep (by decide +kernel) (pa_cons (pv 5) pa_nil)) (pv 2) (nomark _)) (pss_one (ps_ret pe_bl)) pss_nil)))))
      (pss_one (ps_ret pe_bl)))))))), ?_⟩
    -- left
    refine ⟨_, rfl, p, 8, m, rfl, by decide, hS, by omega, fun l ns H1 b1 s1 hl h1 hns => ?_⟩
    have A1 := (Al.start hS).go b1 s1
    have lp : l ≠ p := fun z => hpn (by rw [← z]; exact hl)
    refine ⟨fun σ H' => ∃ (l : Addr) (ns : List Int), σ = [some (.ref p), some (.ref l), none, none, none, none, none, none, none] ∧ Al p H H' (m + 130) ∧ l ≠ p ∧ Li H' l ns ∧ P6 ns ∧ ns ≠ [], ?_, ?_⟩
    · refine ⟨_, rfl, Nat.zero_le _, fun g hg => ?_⟩
      have e2 : Evl.Ex H1 (upd H1 g (.lst [])) := Evl.Ex.new hg
      refine ⟨_, _, .lst (SqL.of (e2 _ _ h1)) (dpI ns), .lst (SqL.of upd_same) .nil, shaped_ints _, rfl, _, rfl, ?_⟩
      rw [eqv_nil]
      have A2 := A1.ex e2
      have h12 := e2 _ _ h1
      generalize upd H1 g (.lst []) = H2 at e2 A2 h12
      by_cases h0 : ns = []
      · refine if_t (decide_eq_true h0) ?_
        refine ite2 (fun _ => ?_) (fun z => absurd rfl z)
        · have A3 := A2.le (show m + 20 ≤ m + 21 by omega)
          generalize H2 = H3 at A3
          refine ⟨_, rfl, p, m + 21, rfl, A3.s, by omega, fun q ts pss H4 A4 hq hq4 hF hfac hdg hprd => ?_⟩
          have B4 := A3.go A4.b A4.s
          refine ⟨1, rfl, 3, rfl, by show 4 ≤ sizeLine; decide, fun g2 hg2 => ?_⟩
          have e5 := Evl.Ex.new (o := .lst [.int 1, .int (-1), .int 2, .int (-3)]) hg2
          have B5 := B4.ex e5
          refine ⟨_, rfl, p, 4, m + 121, rfl, B5.s, by omega, by decide, by decide, fun y2 H6 y20 y21 b6 s6 z6 => ?_⟩
          have B6 := B5.go b6 s6
          obtain ⟨by_, hb1, hb2⟩ := at4b y20 y21
          have hpn4 : H3 p ≠ none := by
            obtain ⟨o, ho⟩ := sk_some A3.s
            rw [ho]
            exact fun z => by cases z
          have qp : q ≠ p := fun z => hpn4 (by rw [← z]; exact hq)
          have ng2 := sk_ne B4.s hg2
          refine ⟨g2, _, _, _, rfl, rfl, SqL.of (b6 _ _ ng2 upd_same), hb1, ?_⟩
          refine ⟨q, by_, ts, pss, fun b => H3 b ≠ none, rfl, b6 _ _ qp (e5 _ _ hq4), (hF.go (ButS.of_ex e5) (fun _ z => z)).go (ButS.of_but b6 hpn4) (fun _ z => z), hb2, hfac, hdg, hprd, fun r ns2 H7 hr7 e7 h7 hp7 h07 => ?_⟩
          exact ⟨r, ns2, rfl, (B6.ex e7).le (by omega), sk_ne B6.s hr7, h7, hp7, h07⟩
      · refine if_f (decide_eq_false h0) ?_
        refine ⟨_, rfl, p, 2, m + 20, rfl, A2.s, by omega, by decide, by decide, fun y H3 y0 y1 b3 s3 z3 => ⟨rfl, _, rfl, ?_⟩⟩
        have A3 := A2.go b3 s3
        refine ite2 (fun _ => ?_) (fun _ => ?_)
        · skip
          refine ⟨_, rfl, p, m + 21, rfl, A3.s, by omega, fun q ts pss H4 A4 hq hq4 hF hfac hdg hprd => ?_⟩
          have B4 := A3.go A4.b A4.s
          refine ⟨1, rfl, 3, rfl, by show 4 ≤ sizeLine; decide, fun g2 hg2 => ?_⟩
          have e5 := Evl.Ex.new (o := .lst [.int 1, .int (-1), .int 2, .int (-3)]) hg2
          have B5 := B4.ex e5
          refine ⟨_, rfl, p, 4, m + 121, rfl, B5.s, by omega, by decide, by decide, fun y2 H6 y20 y21 b6 s6 z6 => ?_⟩
          have B6 := B5.go b6 s6
          obtain ⟨by_, hb1, hb2⟩ := at4b y20 y21
          have hpn4 : H3 p ≠ none := by
            obtain ⟨o, ho⟩ := sk_some A3.s
            rw [ho]
            exact fun z => by cases z
          have qp : q ≠ p := fun z => hpn4 (by rw [← z]; exact hq)
          have ng2 := sk_ne B4.s hg2
          refine ⟨g2, _, _, _, rfl, rfl, SqL.of (b6 _ _ ng2 upd_same), hb1, ?_⟩
          refine ⟨q, by_, ts, pss, fun b => H3 b ≠ none, rfl, b6 _ _ qp (e5 _ _ hq4), (hF.go (ButS.of_ex e5) (fun _ z => z)).go (ButS.of_but b6 hpn4) (fun _ z => z), hb2, hfac, hdg, hprd, fun r ns2 H7 hr7 e7 h7 hp7 h07 => ?_⟩
          exact ⟨r, ns2, rfl, (B6.ex e7).le (by omega), sk_ne B6.s hr7, h7, hp7, h07⟩
        · exact ⟨l, ns, rfl, A3.le (by omega), lp, b3 _ _ lp h12, hns, h0⟩
    clear A1 h1 hl lp b1 s1 hns
    rintro σ H1 ⟨l, ns, rfl, A1, lp, h1, hp, h0⟩
    have hrow : (rowL ns).length ≤ 8 := Nat.le_trans (rowL_len h0) hp.2.1
    have hrok : ∀ R ∈ rowL ns, Rok R := fun R hR => ⟨(rowL_ok hp h0 R hR).2.2.1, (rowL_ok hp h0 R hR).2.2.2⟩
    have hr6 : ∀ R ∈ rowL ns, Rw6 R := fun R hR => ⟨(rowL_ok hp h0 R hR).1, (rowL_ok hp h0 R hR).2.2.1, (rowL_ok hp h0 R hR).2.2.2⟩
    have nok : Rok ns := ⟨hp.2.1, hp.b20.le (by decide)⟩
    obtain ⟨w1, w2, w3, w4⟩ := nok.sm.shw
    -- kept, due
    refine ⟨_, rfl, l, .list (ns.map .int), rfl, .lst (SqL.of h1) (dpI ns), w1, w2, w3, w4, _, rfl, l, ns, rfl, h1, hp, h0, fun d jts H2 hT2 hs2 => ⟨_, _, rfl, ?_⟩⟩
    have A2 := A1.ex hT2.b.1
    have h2 := hT2.b.1 _ _ h1
    -- right(row(left), due)
    refine ⟨_, rfl, l, ns, rfl, h2, hp, h0, fun q its H3 hT3 hs3 => ⟨_, rfl, ?_⟩⟩
    have U3 : TreeAt H3 d jts := hT2.tree.ex hT3.b.1
    obtain ⟨f1, f2, f3, f4, f5, f6, f7, f8, f9, f10, f11⟩ := right5 hT3 (Evl.Ex.refl _) U3 (.inr ⟨_, hT2.at_⟩) (fun j hj => .inr ⟨_, (hT2.b.2.1 j hj).1⟩) hs3 hs2 hrow hrok
    refine ⟨q, d, its, jts, rfl, f1, f2, f3, f4, f5, f6, f7, f8, f9, f10, fun H4 o => ⟨true, rfl, if_f rfl ?_⟩⟩
    have e4 := f11 H4 o
    clear f1 f2 f3 f4 f5 f6 f7 f8 f9 f10 f11 o
    have A4 := A2.ex e4
    have h4 := e4 _ _ h2
    -- right(row(one=left), chain(left))
    refine ⟨_, rfl, rfl, l, ns, rfl, h4, hp, h0, fun q5 its5 H5 hT5 hs5 => ?_⟩
    refine ⟨_, rfl, l, ns, rfl, hT5.b.1 _ _ h4, hp, h0, fun d6 jts6 H6 hT6 hs6 => ?_⟩
    obtain ⟨f1, f2, f3, f4, f5, f6, f7, f8, f9, f10, f11⟩ := right5 hT5 hT6.b.1 hT6.tree (.inl hT6.nq) (fun j hj => .inl (hT6.b.2.1 j hj).2) hs5 hs6 hrow hrok
    refine ⟨q5, d6, its5, jts6, rfl, f1, f2, f3, f4, f5, f6, f7, f8, f9, f10, fun H7 o => ⟨true, rfl, if_f rfl ?_⟩⟩
    have e7 := f11 H7 o
    clear f1 f2 f3 f4 f5 f6 f7 f8 f9 f10 f11 o
    have A7 := A4.ex e7
    have h7 := e7 _ _ h4
    -- right(row(left), chain(left)), repr(left)
    refine ⟨_, rfl, l, ns, rfl, h7, hp, h0, fun q8 its8 H8 hT8 hs8 => ?_⟩
    refine ⟨_, rfl, l, ns, rfl, hT8.b.1 _ _ h7, hp, h0, fun d9 jts9 H9 hT9 hs9 => ?_⟩
    obtain ⟨f1, f2, f3, f4, f5, f6, f7, f8, f9, f10, f11⟩ := right5 hT8 hT9.b.1 hT9.tree (.inl hT9.nq) (fun j hj => .inl (hT9.b.2.1 j hj).2) hs8 hs9 hrow hrok
    refine ⟨q8, d9, its8, jts9, rfl, f1, f2, f3, f4, f5, f6, f7, f8, f9, f10, fun H10 o => ⟨true, rfl, if_f rfl ?_⟩⟩
    have e10 := f11 H10 o
    clear f1 f2 f3 f4 f5 f6 f7 f8 f9 f10 f11 o
    have A10 := A7.ex e10
    have h10 := e10 _ _ h7
    refine ⟨_, rfl, l, .list (ns.map .int), rfl, .lst (SqL.of h10) (dpI ns), w1, w2, w3, w4, _, rfl, rfl, _, rfl, if_f (by simp) ?_⟩
    clear hT2 hT3 hT5 hT6 hT8 hT9 hs2 hs3 hs5 hs6 hs8 hs9 e4 e7 e10 U3 A1 A2 A4 A7 h1 h2 h4 h7
    -- some
    refine ⟨_, rfl, p, 7, m + 130, rfl, A10.s, by omega, by decide, by decide, fun n H11 n0 n1 b11 s11 z11 => ⟨n, rfl, by omega, by omega, fun D hD => ?_⟩⟩
    have A11 := A10.go b11 s11
    have h11 := b11 _ _ lp h10
    have nDp := sk_ne A11.s hD
    have hDn : H D = none := A11.f D hD
    refine lc_range (n := n.toNat) (fun i H' => But p H11 H' ∧ Al p H H' (m + 131 + 20 * i) ∧ ∃ (as : List Addr) (rows : List (List Int)), H' D = some (.lst (as.map V.ref)) ∧ as.length = rows.length ∧ rows.length = i ∧ (∀ (j : Nat) (a : Addr) (R : List Int), as[j]? = some a → rows[j]? = some R → a ≠ p ∧ a ≠ D ∧ Li H' a R) ∧ ∀ R ∈ rows, Sp6 R)
      ⟨But.of_ex (Evl.Ex.new hD), A11.ex (Evl.Ex.new hD), [], [], upd_same, rfl, rfl, (fun j a R h => by cases h), (fun R h => by cases h)⟩ ?_ ?_
    · rintro i H' hi ⟨bt, Ai, as, rows, g1, g2, g3, g4, g5⟩
      refine ⟨rfl, ?_⟩
      show tCall spPolyN [] E0 (tCons (tVar 0) (tCons (tC (.int 4)) tNil)) _ _ _
      refine ⟨_, rfl, p, 4, _, rfl, by decide, Ai.s, by omega, fun q R H3 b3 s3 hq h3 hR => ?_⟩
      have Aj := Ai.go b3 s3
      have qp := sk_ne Ai.s hq
      have qD : q ≠ D := (ne_of_none g1 hq).symm
      have gD := b3 _ _ nDp g1
      have bD : But p H11 (upd H3 D (.lst (as.map V.ref ++ [.ref q]))) := fun b o hb h => by
        rw [upd_ne (ne_of_none h hD)]
        exact b3 b o hb (bt b o hb h)
      refine ⟨_, gD, ?_, bD, ?_, as ++ [q], rows ++ [R], ?_, ?_, ?_, ?_, ?_⟩
      · rw [List.length_map]
        exact Nat.lt_of_le_of_lt (show as.length ≤ 100 by omega) (by decide)
      · refine ⟨fun b o hb h => ?_, ?_, fun x hx => ?_⟩
        · rw [upd_ne (ne_of_none h hDn)]
          exact Aj.b b o hb h
        · obtain ⟨a', b', c', q1, q2⟩ := Aj.s
          exact ⟨a', b', c', by rw [upd_ne nDp.symm]; exact q1, q2.1, q2.2.1, q2.2.2.1, q2.2.2.2.1, by have := q2.2.2.2.2; omega⟩
        · by_cases z : x = D
          · rw [z]; exact hDn
          · rw [upd_ne z] at hx
            exact Aj.f x hx
      · rw [upd_same, List.map_append]
        rfl
      · rw [List.length_append, List.length_append, g2]
        rfl
      · rw [List.length_append, g3]
        rfl
      · intro j a S ha hS2
        rcases get_snoc ha with ⟨c1, h5⟩ | ⟨c1, rfl⟩
        · rcases get_snoc hS2 with ⟨_, h6⟩ | ⟨c2, _⟩
          · obtain ⟨x1, x2, x3⟩ := g4 j a S h5 h6
            exact ⟨x1, x2, Eq.trans (upd_ne x2) (b3 _ _ x1 x3)⟩
          · omega
        · rcases get_snoc hS2 with ⟨c2, _⟩ | ⟨_, rfl⟩
          · omega
          · exact ⟨qp, qD, Eq.trans (upd_ne qD) h3⟩
      · intro S hS2
        rcases List.mem_append.mp hS2 with hS2 | hS2
        · exact g5 S hS2
        · obtain rfl := List.mem_singleton.mp hS2
          exact hR
    rintro H12 ⟨bt, A12, as, rows, g1, g2, g3, g4, g5⟩
    have L12 : LsP p H12 D rows := ⟨as, nDp, g1, g2, fun j a R x y => ⟨(g4 j a R x y).1, (g4 j a R x y).2.2⟩⟩
    have h12 := bt _ _ lp h11
    have hpn12 : H12 p ≠ none := by
      obtain ⟨o, ho⟩ := sk_some A12.s
      rw [ho]
      exact fun z => by cases z
    have rl : rows.length ≤ 6 := by omega
    have gok : ∀ R ∈ rows, Rok R := fun R hR => ⟨(g5 R hR).2.1, fun x hx => big ((g5 R hR).b20 x hx) (by decide)⟩
    have gr6 : ∀ R ∈ rows, Rw6 R := fun R hR => ⟨(g5 R hR).1, (gok R hR).1, (gok R hR).2⟩
    clear g4 g1 g2 bt A10 A11 h10 h11
    -- the chains
    refine ⟨_, rfl, l, ns, rfl, h12, hp, h0, fun q its H13 hT13 hs13 => ⟨_, rfl, Nat.zero_le _, fun x3 hx3 => ⟨_, rfl, one, fun x4 hx4 => ⟨four, fun T hT => ?_⟩⟩⟩⟩
    have e13 := hT13.b.1
    have e14 := Evl.Ex.new (o := .lst []) hx3
    have e15 := Evl.Ex.new (o := .lst [.ref l]) hx4
    have e16 := Evl.Ex.new (o := .tup [.ref q, .ref D, .ref x3, .ref x4]) hT
    have C1 : LsP p H13 q (rowL ns) := LsP.tr hT13 hpn12 hs13
    have x3p : x3 ≠ p := sk_ne (A12.ex e13).s hx3
    have x4p : x4 ≠ p := sk_ne ((A12.ex e13).ex e14).s hx4
    have Tp : T ≠ p := sk_ne (((A12.ex e13).ex e14).ex e15).s hT
    have C3 : LsP p (upd H13 x3 (.lst [])) x3 [] := ⟨[], x3p, upd_same, rfl, fun j a R h => by cases h⟩
    have C4 : LsP p (upd (upd H13 x3 (.lst [])) x4 (.lst [.ref l])) x4 [ns] := ⟨[l], x4p, upd_same, rfl, fun j a R x y => by
      match j, x, y with
      | 0, x, y =>
        cases x
        cases y
        exact ⟨lp, e15 _ _ (e14 _ _ (e13 _ _ h12))⟩⟩
    have A16 := (((A12.ex e13).ex e14).ex e15).ex e16
    have D1 := ((C1.go (But.of_ex e14)).go (But.of_ex e15)).go (But.of_ex e16)
    have D2 := (((L12.go (But.of_ex e13)).go (But.of_ex e14)).go (But.of_ex e15)).go (But.of_ex e16)
    have D3 := (C3.go (But.of_ex e15)).go (But.of_ex e16)
    have D4 := C4.go (But.of_ex e16)
    have hT16 : upd (upd (upd H13 x3 (.lst [])) x4 (.lst [.ref l])) T (.tup [.ref q, .ref D, .ref x3, .ref x4]) T = some (.tup [.ref q, .ref D, .ref x3, .ref x4]) := upd_same
    generalize upd (upd (upd H13 x3 (.lst [])) x4 (.lst [.ref l])) T (.tup [.ref q, .ref D, .ref x3, .ref x4]) = H16 at A16 D1 D2 D3 D4 hT16
    clear e13 e14 e15 e16 C1 C3 C4 hT hx3 hx4 hT13 A12 L12 h12
    have each : ∀ (i : Nat) (v : V), [V.ref q, V.ref D, V.ref x3, V.ref x4][i]? = some v → ∃ (x : Addr) (rs : List (List Int)), v = .ref x ∧ LsP p H16 x rs ∧ rs.length ≤ 8 ∧ (∀ R ∈ rs, Rok R) ∧ ∀ R ∈ rs, Rw6 R := by
      intro i v hv
      match i, hv with
      | 0, hv => exact ⟨q, _, (Option.some.inj hv).symm, D1, hrow, hrok, hr6⟩
      | 1, hv => exact ⟨D, _, (Option.some.inj hv).symm, D2, by omega, gok, gr6⟩
      | 2, hv => exact ⟨x3, _, (Option.some.inj hv).symm, D3, by simp, (fun R h => by cases h), (fun R h => by cases h)⟩
      | 3, hv => exact ⟨x4, _, (Option.some.inj hv).symm, D4, by simp, (fun R h => by obtain rfl := List.mem_singleton.mp h; exact nok), (fun R h => by obtain rfl := List.mem_singleton.mp h; exact ⟨hp.1, nok.1, nok.2⟩)⟩
    clear D1 D2 D3 D4
    refine ⟨T, rfl, ⟨_, SqT.of hT16⟩, ?_⟩
    refine for_tup (xs := [.ref q, .ref D, .ref x3, .ref x4]) (fun i σ H' => But p H16 H' ∧ Al p H H' (m + 131 + 20 * n.toNat + 10 * i) ∧ ∃ (v2 v3 v4 v5 v6 v7 : Option V), σ = [some (.ref p), some (.ref l), v2, v3, v4, v5, v6, v7, none])
      ⟨But.refl _ _, A16, _, _, _, _, _, _, rfl⟩ (fun i σ H' _ z => SqT.of (z.1 _ _ Tp hT16)) ?_ ?_
    · rintro i v σ H' hi ⟨bi, Ai, v2, v3, v4, v5, v6, v7, rfl⟩
      have i4 : i < 4 := by
        have := (List.getElem?_eq_some_iff.mp hi).1
        simpa using this
      obtain ⟨x, rs, rfl, hLs, hrl, hrk, hrw⟩ := each i v hi
      have L0 := hLs.go bi
      obtain ⟨u1, u2, u3, u4⟩ := shw_rows hrl hrk
      refine ⟨_, rfl, x, rowsD rs, rfl, dp_lists L0.ls, u1, u2, u3, u4, ?_⟩
      -- the ends
      refine ⟨two, fun t1 ht1 => ?_⟩
      have e1 := Evl.Ex.new (o := .tup [.int 0, .int 1]) ht1
      have A1 := Ai.ex e1
      have t1p := sk_ne Ai.s ht1
      have f1 : Fr (upd H' t1 (.tup [.int 0, .int 1])) t1 0 1 := upd_same
      have L1 := L0.go (But.of_ex e1)
      have b1 := bi.trans (But.of_ex e1)
      generalize upd H' t1 (.tup [.int 0, .int 1]) = H1 at e1 A1 f1 L1 b1
      refine ⟨_, rfl, p, _, rfl, A1.s, by omega, fun t3 u d H2 b2 s2 ht3 f3 hq3 => ?_⟩
      have A2 := A1.go b2 s2
      have t3p := sk_ne A1.s ht3
      refine ⟨_, rfl, p, 13, _, rfl, A2.s, by omega, by decide, by decide, fun y H3 y0 y1 b3 s3 z3 => ⟨y, 6, rfl, rfl, ?_⟩⟩
      have A3 := A2.go b3 s3
      refine ⟨y - 6, 2, rfl, Nat.lt_of_le_of_lt (show (y - 6).natAbs ≤ 12 by omega) (Nat.lt_of_lt_of_le (show 12 < 2 ^ 4 by decide) (Nat.pow_le_pow_right (by decide) (by decide))), Nat.lt_of_lt_of_le (show (2 : Int).natAbs < 2 ^ 4 by decide) (Nat.pow_le_pow_right (by decide) (by decide)), by decide, fun t4 H4 ht4 e4 f4 => ?_⟩
      have A4 := A3.ex e4
      have hq4 := qn_half y0 y1
      refine ⟨four, fun T2 hT2 => ?_⟩
      have e5 := Evl.Ex.new (o := .tup [.ref t1, .non, .ref t3, .ref t4]) hT2
      have A5 := A4.ex e5
      have hT25 : upd H4 T2 (.tup [.ref t1, .non, .ref t3, .ref t4]) T2 = some (.tup [.ref t1, .non, .ref t3, .ref t4]) := upd_same
      have g1 := e5 _ _ (e4 _ _ (b3 _ _ t1p (b2 _ _ t1p f1)))
      have g3 := e5 _ _ (e4 _ _ (b3 _ _ t3p f3))
      have g4 := e5 _ _ f4
      have L5 := (((L1.go b2).go b3).go (But.of_ex e4)).go (But.of_ex e5)
      have b5 := (((b1.trans b2).trans b3).trans (But.of_ex e4)).trans (But.of_ex e5)
      generalize upd H4 T2 (.tup [.ref t1, .non, .ref t3, .ref t4]) = H5 at e5 A5 hT25 g1 g3 g4 L5 b5
      have ends : ∀ (j : Nat) (v : V), [V.ref t1, V.non, V.ref t3, V.ref t4][j]? = some v → ∃ e, SpotAt H5 v e := by
        intro j v hv
        match j, hv with
        | 0, hv => exact ⟨some (0, 1), t1, (Option.some.inj hv).symm, g1, qn_01⟩
        | 1, hv => exact ⟨none, (Option.some.inj hv).symm⟩
        | 2, hv => exact ⟨some (u, d), t3, (Option.some.inj hv).symm, g3, hq3⟩
        | 3, hv => exact ⟨some _, t4, (Option.some.inj hv).symm, g4, hq4⟩
      clear g1 g3 g4 f4 f3 f1 hq3 hq4
      refine ⟨T2, rfl, ⟨_, SqT.of hT25⟩, for_tup (xs := [.ref t1, .non, .ref t3, .ref t4]) (fun j σ H' => Evl.Ex H5 H' ∧ ∃ v6 v7 : Option V, σ = [some (.ref p), some (.ref l), some (.str (rowsD rs).shown), v3, v4, some (.ref x), v6, v7, none]) ⟨Evl.Ex.refl _, _, _, rfl⟩ (fun j σ H' _ z => SqT.of (z.1 _ _ hT25)) ?_ ?_⟩
      · rintro j v σ H6 hj ⟨e6, v6, v7, rfl⟩
        obtain ⟨e, hv⟩ := ends j v hj
        have hv6 := hv.ex e6
        have L6 := L5.ls.ex e6
        refine ⟨_, rfl, _, rfl, x, v, rs, e, rfl, L6, hrl, hrw, hv6, fun H7 e7 => ?_⟩
        have ft : (trnL (mkL rs e) : Int) = (flpL (nz (mkL rs e)) : Int) := by
          rw [trn_flp fun s hs => by
            unfold mkL at hs
            obtain ⟨R, _, rfl⟩ := List.mem_map.mp hs
            exact sgn_val _]
        rw [← ft]
        have tb : (trnL (mkL rs e)) ≤ 8 := by
          have h1 := trn_flp (ms := mkL rs e) fun s hs => by
            unfold mkL at hs
            obtain ⟨R, _, rfl⟩ := List.mem_map.mp hs
            exact sgn_val _
          rw [h1]
          unfold flpL
          have h2 := List.length_filter_le (flq (nz (mkL rs e))) (List.range (nz (mkL rs e)).length)
          have h3 := nz_len (mkL rs e)
          have h4 : (mkL rs e).length = rs.length := by unfold mkL; rw [List.length_map]
          rw [List.length_range] at h2
          omega
        generalize hN : ((trnL (mkL rs e) : Nat) : Int) = N at *
        have nb : ∀ z ∈ [N, N], z.natAbs < 2 ^ 1701 := fun z hz => by
          have : z = N := by simpa using hz
          rw [this, ← hN, Int.natAbs_natCast]
          exact Nat.lt_of_le_of_lt tb (Nat.lt_of_lt_of_le (show 8 < 2 ^ 4 by decide) (Nat.pow_le_pow_right (by decide) (by decide)))
        obtain ⟨y1, y2, y3, y4⟩ := (sm_ints (ns := [N, N]) (by simp) nb).shw
        have L7 := L6.ex e7
        have hv7 := hv6.ex e7
        refine ⟨_, rfl, _, rfl, x, v, rs, e, rfl, L7, hrl, hrw, hv7, fun H8 e8 => ?_⟩
        rw [hN]
        refine ⟨_, rfl, _, rfl, rfl, x, v, rs, e, rfl, L7.ex e8, hrl, hrw, hv7.ex e8, fun H9 e9 => ?_⟩
        rw [hN]
        refine ⟨two, fun z1 hz1 => ?_⟩
        have e10 := Evl.Ex.new (o := .lst [.int N, .int N]) hz1
        refine ⟨z1, .list ([N, N].map .int), rfl, .lst (SqL.of upd_same) (dpI [N, N]), y1, y2, y3, y4, ?_⟩
        generalize upd H9 z1 (.lst [.int N, .int N]) = H10 at e10
        refine ⟨_, rfl, _, rfl, two, fun z2 hz2 => ?_⟩
        have e11 := Evl.Ex.new (o := .lst [.int N, .int N]) hz2
        refine ⟨z2, .list ([N, N].map .int), rfl, .lst (SqL.of upd_same) (dpI [N, N]), y1, y2, y3, y4, rfl, _, rfl, if_f (by simp) ?_⟩
        exact ⟨((((e6.trans e7).trans e8).trans e9).trans e10).trans e11, _, _, rfl⟩
      · rintro σ H6 ⟨e6, v6, v7, rfl⟩
        refine ⟨_, rfl, x, rowsD rs, rfl, dp_lists (L5.ls.ex e6), u1, u2, u3, u4, _, rfl, rfl, _, rfl, if_f (by simp) ?_⟩
        exact ⟨b5.trans (But.of_ex e6), (A5.ex e6).le (by omega), _, _, _, _, _, _, rfl⟩
    · rintro σ H' ⟨bi, Ai, v2, v3, v4, v5, v6, v7, rfl⟩
      exact k H' Ai.b
end
end V2


namespace V2
open PySem L2
open PySem.Spec PyProof.Rows
theorem sq_ex_but {K : PySem.W.Frag} {H H1 H2 : Hp} {a q : Addr} {xs : List V} (h : SqL K H a xs) (hq : H q = none) (e : Evl.Ex H H1) (b : But q H1 H2) : SqL K H2 a xs := by
  rcases h with h | h
  · left
    have go : ∀ o, H a = some o → H2 a = some o := fun o ho => b a o (ne_of_none ho hq) (e a o ho)
    rcases h with h | ⟨o, h⟩
    · exact .inl (go _ h)
    · exact .inr ⟨o, go _ h⟩
  · exact .inr h
def spLaw (K : PySem.W.Frag) : Sp := fun vs H Q _ => ∃ (a : Addr) (ns : List Int), vs = [.ref a] ∧ SqL K H a (iV ns) ∧ ns.length ≤ 63 ∧ ∀ H', Q (.bl true) H'
structure T6 (mg : Str → Option Value) : Prop where
  rng : mg "range" = none
  len : mg "len" = none
  max : mg "max" = none
  min : mg "min" = none
section
variable {base : Heap} {mg : Str → Option Value} {K : PySem.W.Frag} {w : World} {P : Program}
theorem ok_law {f : Addr} {fd : FuncData} (F : Fun K "law" "law" s_law f fd) (T : T6 mg) (cS : Cal P w K mg base 1 "_law_pv_sack" p_l_sack (spSack K)) (cK : CalG P w K mg base 7 "_law_pv_checked" p_l_checked spChecked5) : FnG P w K mg base 8 f fd p_law (spLaw K) := by
  refine Fun.okG F sc_law (fun vs H Q E h => ?_) (fun cdv A outer s H vs Q E hg hr h => ?_)
  · obtain ⟨a, ns, rfl, _⟩ := h
    rfl
  · obtain ⟨a, ns, rfl, hS, hl, k⟩ := h
    have nd := sc_law.nd
    have r1 : Room 1 _ := hr.mono (by decide)
    refine ⟨_, pss_cons (ps_for PassesOwn.never rfl (pi_range1 (by rfl) T.rng (pa_cons (pe_callB (call_max2 rfl) (by rfl) T.max (by decide +kernel) (pa_cons pe_int (pa_cons (pe_callB (call_min2 rfl) (by rfl) T.min (by decide +kernel) (pa_cons pe_int (pa_cons (pe_callB call_len_seq (by rfl) T.len PySem.boot_len (pa_cons (pv 0) pa_nil)) pa_nil))) pa_nil))) pa_nil)) (pg_name (i := 1) nd rfl (Or.inl rfl))
        (pss_one (ps_if (pt_not (pt_val (pe_cg cK hg hr (pa_cons (pe_c cS r1 (pa_cons (pv 0) (pa_cons (pv 1) pa_nil))) pa_nil)))) (pss_one (ps_ret pe_bl)) pss_nil)))
      (pss_one (ps_ret pe_bl)), ?_⟩
    refine ⟨_, rfl, a, _, rfl, .inl hS, _, _, rfl, _, _, rfl, _, rfl, ?_, ?_, ?_⟩
    · split <;> split <;> omega
    · split <;> split <;> omega
    have hb : (if (if ((iV ns).length : Int) < 4 then ((iV ns).length : Int) else 4) > 1 then (if ((iV ns).length : Int) < 4 then ((iV ns).length : Int) else 4) else 1 : Int) ≤ 4 := by split <;> split <;> omega
    generalize (if (if ((iV ns).length : Int) < 4 then ((iV ns).length : Int) else 4) > 1 then (if ((iV ns).length : Int) < 4 then ((iV ns).length : Int) else 4) else 1 : Int) = n at hb
    refine for_range (n := n.toNat) (fun i σ H' => ∃ v1, σ = [some (.ref a), v1] ∧ SqL K H' a (iV ns)) ⟨none, rfl, hS⟩ ?_ ?_
    · rintro i σ H1 hi ⟨v1, rfl, hS1⟩
      refine ⟨_, rfl, _, rfl, a, ns, i, ?_, hS1, hl, by omega, fun q H2 hq e2 h2 => ?_⟩
      · rw [Int.zero_add]
        rfl
      exact ⟨q, 0, rfl, h2, by decide, fun H3 b3 => ⟨true, rfl, if_f rfl ⟨_, rfl, sq_ex_but hS1 hq e2 b3⟩⟩⟩
    · rintro σ H1 ⟨v1, rfl, hS1⟩
      exact k H1
end
end V2


namespace V2
open PySem L2
open PySem.Spec PyProof.Rows
/-! ## what the top has left -/
def Lay (K : PySem.W.Frag) (mg : Str → Option Value) (x : Str) (st : Stmt) (ps : List Str) : Prop := ∃ (f : Addr) (fd : FuncData), Fun K x x st f fd ∧ mg x = some (.ref f) ∧ PySem.W.keepIn K (.ref f) = true ∧ Binds K fd ps []
theorem lay_mk {K : PySem.W.Frag} {h : Heap} {mg : Str → Option Value} {x : Str} {st : Stmt} {ps : List Str} {f : Addr} {od an : Option Addr} {sl : Array (Option Value)} {oc kV dc pm cd ct : Value} (X : K.In h) (G : h.Ns mainGlobals mg)
    (a : PySem.W.nsIn K mainGlobals x = some (some (.ref f))) (l : K.lookup f = some ⟨oc, od, .func (PySem.W.fnOf x x (defArgs st) (defBody st) (defScope st) .none kV dc pm an cd ct), sl⟩) (c : PySem.W.codeIn K cd x = true) (k : PySem.W.keepIn K (.ref f) = true)
    (hb : ∀ (kV doc pm : Value) (an : Option Addr) (cdv ct : Value) (us : List Value), us.length = ps.length → bindArgs (PySem.W.fnOf x x (defArgs st) (defBody st) (defScope st) .none kV doc pm an cdv ct) ⟨us, []⟩ = pure (ps.zip us)) : Lay K mg x st ps :=
  ⟨f, _, fun_mk l c k, PySem.W.mg_of X G a, k, Fun.binds (fun_mk l c k) hb⟩
def swU : List Value → List Value
  | [a, b] => [b, a]
  | z => z
theorem swp_rel : ∀ {zs : List V} {ws : List Value}, Vals zs ws → Vals (swp zs) (swU ws)
  | _, _, .nil => .nil
  | _, _, .cons a .nil => .cons a .nil
  | _, _, .cons a (.cons b .nil) => .cons b (.cons a .nil)
  | _, _, .cons a (.cons b (.cons c r)) => .cons a (.cons b (.cons c r))
section
variable {base : Heap} {mg : Str → Option Value} {K : PySem.W.Frag} {w : World} {P : Program}
theorem kb_turnsS {f : Addr} {fd : FuncData} (F : Fun K "turns" "turns" s_turns f fd) : KBn K fd p_turns 0 ["spot", "told"] (fun _ ws => swU ws) (fun _ zs => swp zs) := by
  obtain ⟨ow, oe, kw, dc, pn, am, cdv, cu, sl, rfl, lk, hcd⟩ := F.ex
  exact ⟨fun s us ws X l1 l2 => match us, ws, l1, l2 with | [], [_, _], _, _ => .of_eq rfl, fun _ r => swp_rel r⟩
theorem kb_row {f : Addr} {fd : FuncData} (F : Fun K "row" "row" s_row f fd) : KBn K fd p_row 0 ["one"] (fun _ ws => ws) (fun _ zs => id zs) := by
  obtain ⟨ow, oe, kw, dc, pn, am, cdv, cu, sl, rfl, lk, hcd⟩ := F.ex
  exact ⟨fun s us ws X l1 l2 => match us, ws, l1, l2 with | [], [_], _, _ => .of_eq rfl, fun _ r => r⟩
theorem Lay.cal {x : Str} {st : Stmt} {ps : List Str} {k : Nat} {sp : Sp} (L : Lay K mg x st ps) (h : ∀ f fd, Fun K x x st f fd → FnOk P w K mg base CX0 k f fd ps sp) : Cal P w K mg base k x ps sp := by
  obtain ⟨f, fd, F, m, kp, b⟩ := L
  exact ⟨f, fd, h f fd F, m, kp, b⟩
theorem Lay.calG {x : Str} {st : Stmt} {ps : List Str} {k : Nat} {sp : Sp} (L : Lay K mg x st ps) (h : ∀ f fd, Fun K x x st f fd → FnG P w K mg base k f fd ps sp) : CalG P w K mg base k x ps sp := by
  obtain ⟨f, fd, F, m, kp, b⟩ := L
  exact ⟨f, fd, h f fd F, m, kp, b⟩
theorem Lay.calK {x : Str} {st : Stmt} {ps ks : List Str} {k : Nat} {sp : Sp} {g : List Value → List Value → List Value} {gV : List V → List V} (L : Lay K mg x st ps) (h : ∀ f fd, Fun K x x st f fd → FnOk P w K mg base CX0 k f fd ps sp) (hb : ∀ f fd, Fun K x x st f fd → KBn K fd ps 0 ks g (fun _ zs => gV zs)) : CalK P w K mg base k x ps ks gV sp := by
  obtain ⟨f, fd, F, m, kp, b⟩ := L
  exact ⟨f, fd, g, h f fd F, m, kp, hb f fd F⟩
structure Top (K : PySem.W.Frag) (mg : Str → Option Value) : Prop where
  sign_of_ : Lay K mg "sign_of" s_sign_of p_sign_of
  cut_ : Lay K mg "cut" s_cut p_cut
  negated_ : Lay K mg "negated" s_negated p_negated
  slope_ : Lay K mg "slope" s_slope p_slope
  scaled_value_ : Lay K mg "scaled_value" s_scaled_value p_scaled_value
  content_ : Lay K mg "content" s_content p_content
  primitive_ : Lay K mg "primitive" s_primitive p_primitive
  remainder_ : Lay K mg "remainder" s_remainder p_remainder
  signed_rests_ : Lay K mg "signed_rests" s_signed_rests p_signed_rests
  row_of_ : Lay K mg "row_of" s_row_of p_row_of
  leading_ : Lay K mg "leading" s_leading p_leading
  turns_of_ : Lay K mg "turns_of" s_turns_of p_turns_of
  copied_ : Lay K mg "copied" s_copied p_copied
  is_integer_ : Lay K mg "is_integer" s_is_integer p_is_integer
  is_fraction_ : Lay K mg "is_fraction" s_is_fraction p_is_fraction
  is_polynomial_ : Lay K mg "is_polynomial" s_is_polynomial p_is_polynomial
  check_polynomials_ : Lay K mg "check_polynomials" s_check_polynomials p_check_polynomials
  check_not_zero_ : Lay K mg "check_not_zero" s_check_not_zero p_check_not_zero
  check_fraction_ : Lay K mg "check_fraction" s_check_fraction p_check_fraction
  row_ : Lay K mg "row" s_row p_row
  turns_ : Lay K mg "turns" s_turns p_turns
  l_sack_ : Lay K mg "_law_pv_sack" s_l_sack p_l_sack
  l_coin_ : Lay K mg "_law_pv_coin" s_l_coin p_l_coin
  l_shared_ : Lay K mg "_law_pv_shared" s_l_shared p_l_shared
  l_ratio_ : Lay K mg "_law_pv_ratio" s_l_ratio p_l_ratio
  l_add_ : Lay K mg "_law_pv_add" s_l_add p_l_add
  l_mul_ : Lay K mg "_law_pv_mul" s_l_mul p_l_mul
  l_trim_ : Lay K mg "_law_pv_trim" s_l_trim p_l_trim
  l_product_ : Lay K mg "_law_pv_product" s_l_product p_l_product
  l_slope_ : Lay K mg "_law_pv_slope" s_l_slope p_l_slope
  l_at_ : Lay K mg "_law_pv_at" s_l_at p_l_at
  l_thin_ : Lay K mg "_law_pv_thin" s_l_thin p_l_thin
  l_left_ : Lay K mg "_law_pv_left" s_l_left p_l_left
  l_chain_ : Lay K mg "_law_pv_chain" s_l_chain p_l_chain
  l_mark_ : Lay K mg "_law_pv_mark" s_l_mark p_l_mark
  l_flips_ : Lay K mg "_law_pv_flips" s_l_flips p_l_flips
  l_poly_ : Lay K mg "_law_pv_poly" s_l_poly p_l_poly
  l_any_ratio_ : Lay K mg "_law_pv_any_ratio" s_l_any_ratio p_l_any_ratio
  l_copied_ : Lay K mg "_law_pv_copied" s_l_copied p_l_copied
  l_lists_ : Lay K mg "_law_pv_lists" s_l_lists p_l_lists
  l_marked_ : Lay K mg "_law_pv_marked" s_l_marked p_l_marked
  l_right_ : Lay K mg "_law_pv_right" s_l_right p_l_right
  l_power_ : Lay K mg "_law_pv_power" s_l_power p_l_power
  l_whole_root_ : Lay K mg "_law_pv_whole_root" s_l_whole_root p_l_whole_root
  l_number_ : Lay K mg "_law_pv_number" s_l_number p_l_number
  l_drawn_number_ : Lay K mg "_law_pv_drawn_number" s_l_drawn_number p_l_drawn_number
  l_base_ : Lay K mg "_law_pv_base" s_l_base p_l_base
  l_factor_ : Lay K mg "_law_pv_factor" s_l_factor p_l_factor
  l_factors_ : Lay K mg "_law_pv_factors" s_l_factors p_l_factors
  l_multiplied_ : Lay K mg "_law_pv_multiplied" s_l_multiplied p_l_multiplied
  l_checked_ : Lay K mg "_law_pv_checked" s_l_checked p_l_checked
  z_len : mg "len" = none
  z_max : mg "max" = none
  z_abs : mg "abs" = none
  z_int : mg "int" = none
  z_range : mg "range" = none
  z_list : mg "list" = none
  z_enumerate : mg "enumerate" = none
  z_isinstance : mg "isinstance" = none
  z_bool : mg "bool" = none
  z_tuple : mg "tuple" = none
  z_all : mg "all" = none
  z_repr : mg "repr" = none
  z_min : mg "min" = none
  z_sum : mg "sum" = none
  z_gcd : mg "gcd" = some (.builtin "math.gcd")
theorem whole (T : Top K mg) {f : Addr} {fd : FuncData} (F : Fun K "law" "law" s_law f fd) : FnG P w K mg base 8 f fd p_law (spLaw K) := by
  have t0 : T0 mg := ⟨T.z_len, T.z_max, T.z_abs, T.z_int⟩
  obtain ⟨fS, _, _, mS, _, _⟩ := id T.l_shared_
  obtain ⟨fR, _, _, mR, _, _⟩ := id T.l_ratio_
  have t1 : T1 mg fS fR := { toT0 := t0, rng := T.z_range, lst := T.z_list, gS := mS, gR := mR }
  have t2 : T2 mg := ⟨T.z_len, T.z_max, T.z_range, T.z_enumerate⟩
  have t3 : T3 mg := ⟨T.z_isinstance, T.z_int, T.z_bool, T.z_list, T.z_tuple, T.z_len, T.z_all, T.z_gcd⟩
  have t4 : T4 mg := ⟨T.z_isinstance, T.z_list, T.z_tuple, T.z_len, T.z_range, T.z_repr⟩
  have t7 : T7 mg := ⟨T.z_len, T.z_abs, T.z_enumerate, T.z_gcd⟩
  have coin : Cal P w K mg base 1 "_law_pv_coin" p_l_coin spCoin := T.l_coin_.cal fun f fd F => ok_coin F t0
  have sack : Cal P w K mg base 1 "_law_pv_sack" p_l_sack (spSack K) := T.l_sack_.cal fun f fd F => ok_sack F t0
  have shared : Cal P w K mg base 1 "_law_pv_shared" p_l_shared spShared := T.l_shared_.cal fun f fd F => ok_shared F t1
  have ratio : Cal P w K mg base 2 "_law_pv_ratio" p_l_ratio spRatio := T.l_ratio_.cal fun f fd F => ok_ratio F t0 shared
  have ratio1 : Cal P w K mg base 2 "_law_pv_ratio" p_l_ratio spRatioW := T.l_ratio_.cal fun f fd F => ok_ratioW F t0 shared
  have add : Cal P w K mg base 3 "_law_pv_add" p_l_add spAddW := T.l_add_.cal fun f fd F => ok_addW F ratio
  have mul : Cal P w K mg base 3 "_law_pv_mul" p_l_mul spMulW := T.l_mul_.cal fun f fd F => ok_mulW F ratio
  have trim : Cal P w K mg base 1 "_law_pv_trim" p_l_trim (spTrim K) := T.l_trim_.cal fun f fd F => ok_trim F t1
  have prod : Cal P w K mg base 2 "_law_pv_product" p_l_product (spTwo fun xs ys => trm (pmul xs ys)) := T.l_product_.cal fun f fd F => ok_product F t2 trim
  have thin : Cal P w K mg base 2 "_law_pv_thin" p_l_thin spPrim := T.l_thin_.cal fun f fd F => ok_thin F shared
  have left : Cal P w K mg base 4 "_law_pv_left" p_l_left spRemW := T.l_left_.cal fun f fd F => ok_left F ⟨T.z_len, T.z_range, shared, ratio1, add, mul, trim, thin⟩
  have lslope : Cal P w K mg base 1 "_law_pv_slope" p_l_slope spSlope := T.l_slope_.cal fun f fd F => ok_l_slope F T.z_enumerate
  have chain : Cal P w K mg base 5 "_law_pv_chain" p_l_chain spRow := T.l_chain_.cal fun f fd F => ok_chain F T.z_len T.z_list T.z_range lslope left
  have lat : Cal P w K mg base 4 "_law_pv_at" p_l_at spAtW := T.l_at_.cal fun f fd F => ok_atW F add mul
  have mark : Cal P w K mg base 5 "_law_pv_mark" p_l_mark spMark := T.l_mark_.cal fun f fd F => ok_mark F T.z_int lat
  have flips : Cal P w K mg base 6 "_law_pv_flips" p_l_flips spFlips := T.l_flips_.cal fun f fd F => ok_flips F T.z_len T.z_range mark
  have poly : Cal P w K mg base 2 "_law_pv_poly" p_l_poly spPolyN := T.l_poly_.cal fun f fd F => ok_polyN F T.z_range coin
  have any : Cal P w K mg base 3 "_law_pv_any_ratio" p_l_any_ratio spAny := T.l_any_ratio_.cal fun f fd F => ok_any F coin ratio
  have power : Cal P w K mg base 1 "_law_pv_power" p_l_power spPower := T.l_power_.cal fun f fd F => ok_power F T.z_range
  have wroot : Cal P w K mg base 2 "_law_pv_whole_root" p_l_whole_root spWhole := T.l_whole_root_.cal fun f fd F => ok_whole F T.z_range power
  have number : Cal P w K mg base 3 "_law_pv_number" p_l_number spNumber := T.l_number_.cal fun f fd F => ok_number F T.z_int ratio wroot
  have drawn : Cal P w K mg base 4 "_law_pv_drawn_number" p_l_drawn_number spDrawn := T.l_drawn_number_.cal fun f fd F => ok_drawn F coin number
  have lbase : Cal P w K mg base 1 "_law_pv_base" p_l_base spBase := T.l_base_.cal fun f fd F => ok_base F
  have t9 : T9 P w K mg base := ⟨T.z_int, T.z_max, T.z_abs, T.z_len, T.z_range, T.z_sum, coin, ratio⟩
  have factor : Cal P w K mg base 5 "_law_pv_factor" p_l_factor spFactor := T.l_factor_.cal fun f fd F => ok_factor F t9 drawn lbase
  have factors : Cal P w K mg base 6 "_law_pv_factors" p_l_factors spFactors := T.l_factors_.cal fun f fd F => ok_factors F t9 factor
  have mult : Cal P w K mg base 3 "_law_pv_multiplied" p_l_multiplied spMult := T.l_multiplied_.cal fun f fd F => ok_multiplied5 F prod
  have cut : Cal P w K mg base 1 "cut" p_cut (spTrim K) := T.cut_.cal fun f fd F => ok_cut F T.z_len
  have content : Cal P w K mg base 1 "content" p_content (spCont K) := T.content_.cal fun f fd F => ok_content F T.z_gcd
  have primitive : Cal P w K mg base 2 "primitive" p_primitive spPrim := T.primitive_.cal fun f fd F => ok_primitive F content
  have remainder : Cal P w K mg base 3 "remainder" p_remainder spRemW := T.remainder_.cal fun f fd F => ok_remainder F t7 cut primitive
  have negated : Cal P w K mg base 1 "negated" p_negated spNeg := T.negated_.cal fun f fd F => ok_negated F
  have slope : Cal P w K mg base 1 "slope" p_slope spSlope := T.slope_.cal fun f fd F => ok_slope F T.z_enumerate
  have rests : Cal P w K mg base 4 "signed_rests" p_signed_rests spRests := T.signed_rests_.cal fun f fd F => ok_rests F ⟨T.z_list⟩ negated remainder
  have row_of : Cal P w K mg base 5 "row_of" p_row_of spRow := T.row_of_.cal fun f fd F => ok_row_of F slope rests
  have isint : Cal P w K mg base 1 "is_integer" p_is_integer spInt := T.is_integer_.cal fun f fd F => ok_is_integer F t3
  have ispol : Cal P w K mg base 2 "is_polynomial" p_is_polynomial spPolW := T.is_polynomial_.cal fun f fd F => ok_is_polynomialW F t3 isint
  have chk : Cal P w K mg base 3 "check_polynomials" p_check_polynomials spChkW := T.check_polynomials_.cal fun f fd F => ok_check_polynomialsW F ispol
  have chn : Cal P w K mg base 1 "check_not_zero" p_check_not_zero spNz := T.check_not_zero_.cal fun f fd F => ok_check_not_zero F
  have isfr : Cal P w K mg base 2 "is_fraction" p_is_fraction spIsFr := T.is_fraction_.cal fun f fd F => ok_is_fraction F t3 isint
  have chf : Cal P w K mg base 3 "check_fraction" p_check_fraction spChkFr := T.check_fraction_.cal fun f fd F => ok_check_fraction F isfr
  have sgnof : Cal P w K mg base 1 "sign_of" p_sign_of spSgn := T.sign_of_.cal fun f fd F => ok_sign_of F
  have scaled : Cal P w K mg base 1 "scaled_value" p_scaled_value spScaledW := T.scaled_value_.cal fun f fd F => ok_scaledW F t2
  have leading : Cal P w K mg base 2 "leading" p_leading spLead := T.leading_.cal fun f fd F => ok_leading F scaled
  have turnsof : Cal P w K mg base 3 "turns_of" p_turns_of spTurnsOf := T.turns_of_.cal fun f fd F => ok_turns_of F leading sgnof
  have lists0 : Cal P w K mg base 1 "_law_pv_lists" p_l_lists spL0 := T.l_lists_.cal fun f fd F => ok_lists0 F t4
  have lists1 : Cal P w K mg base 2 "_law_pv_lists" p_l_lists spL1 := T.l_lists_.cal fun f fd F => ok_lists1 F t4 lists0
  have lists2 : Cal P w K mg base 3 "_law_pv_lists" p_l_lists spL2 := T.l_lists_.cal fun f fd F => ok_lists2 F t4 lists1
  have cop0 : Cal P w K mg base 1 "_law_pv_copied" p_l_copied spC0 := T.l_copied_.cal fun f fd F => ok_copied0 F t4
  have cop1 : Cal P w K mg base 2 "_law_pv_copied" p_l_copied spC1 := T.l_copied_.cal fun f fd F => ok_copied1 F t4 cop0
  have cop2 : Cal P w K mg base 3 "_law_pv_copied" p_l_copied spC2 := T.l_copied_.cal fun f fd F => ok_copied2 F t4 cop1
  have marked : CalG P w K mg base 4 "_law_pv_marked" p_l_marked spM := T.l_marked_.calG fun f fd F => ok_marked F t4 lists2
  have right : CalG P w K mg base 5 "_law_pv_right" p_l_right spR := T.l_right_.calG fun f fd F => ok_right F t4 cop2 marked
  have c : C6 P w K mg base := {
    rng := T.z_range, rep := T.z_repr, coin := coin, poly := poly, any := any, ratio := ratio, factors := factors, mult := mult, chain := chain, flips := flips, right := right
    row := T.row_.cal fun f fd F => ok_row F chk chn row_of
    rowK := T.row_.calK (fun f fd F => ok_row F chk chn row_of) fun f fd F => kb_row F
    turns := T.turns_.cal fun f fd F => ok_turns F chk chf turnsof
    turnsS := T.turns_.calK (fun f fd F => ok_turns F chk chf turnsof) fun f fd F => kb_turnsS F }
  have checked : CalG P w K mg base 7 "_law_pv_checked" p_l_checked spChecked5 := T.l_checked_.calG fun f fd F => ok_checked F c
  exact ok_law F ⟨T.z_range, T.z_len, T.z_max, T.z_min⟩ sack checked
end
end V2


namespace V2
open PySem L2
open PySem.Spec PyProof.Rows
theorem all_mk {l : PySem.W.OpenLaw} {w : World} {K : PySem.W.Frag} {h : Heap} {mg : Str → Option Value} {fa f_sign_of f_cut f_negated f_slope f_scaled_value f_content f_primitive f_remainder f_signed_rests f_row_of f_leading f_turns_of f_copied f_is_integer f_is_fraction f_is_polynomial f_check_polynomials f_check_not_zero f_check_fraction f_row f_turns f_l_sack f_l_coin f_l_shared f_l_ratio f_l_add f_l_mul f_l_trim f_l_product f_l_slope f_l_at f_l_thin f_l_left f_l_chain f_l_mark f_l_flips f_l_poly f_l_any_ratio f_l_copied f_l_lists f_l_marked f_l_right f_l_power f_l_whole_root f_l_number f_l_drawn_number f_l_base f_l_factor f_l_factors f_l_multiplied f_l_checked f_lw : Addr}
    {od_sign_of an_sign_of od_cut an_cut od_negated an_negated od_slope an_slope od_scaled_value an_scaled_value od_content an_content od_primitive an_primitive od_remainder an_remainder od_signed_rests an_signed_rests od_row_of an_row_of od_leading an_leading od_turns_of an_turns_of od_copied an_copied od_is_integer an_is_integer od_is_fraction an_is_fraction od_is_polynomial an_is_polynomial od_check_polynomials an_check_polynomials od_check_not_zero an_check_not_zero od_check_fraction an_check_fraction od_row an_row od_turns an_turns od_l_sack an_l_sack od_l_coin an_l_coin od_l_shared an_l_shared od_l_ratio an_l_ratio od_l_add an_l_add od_l_mul an_l_mul od_l_trim an_l_trim od_l_product an_l_product od_l_slope an_l_slope od_l_at an_l_at od_l_thin an_l_thin od_l_left an_l_left od_l_chain an_l_chain od_l_mark an_l_mark od_l_flips an_l_flips od_l_poly an_l_poly od_l_any_ratio an_l_any_ratio od_l_copied an_l_copied od_l_lists an_l_lists od_l_marked an_l_marked od_l_right an_l_right od_l_power an_l_power od_l_whole_root an_l_whole_root od_l_number an_l_number od_l_drawn_number an_l_drawn_number od_l_base an_l_base od_l_factor an_l_factor od_l_factors an_l_factors od_l_multiplied an_l_multiplied od_l_checked an_l_checked od_lw an_lw : Option Addr} {sl_sign_of sl_cut sl_negated sl_slope sl_scaled_value sl_content sl_primitive sl_remainder sl_signed_rests sl_row_of sl_leading sl_turns_of sl_copied sl_is_integer sl_is_fraction sl_is_polynomial sl_check_polynomials sl_check_not_zero sl_check_fraction sl_row sl_turns sl_l_sack sl_l_coin sl_l_shared sl_l_ratio sl_l_add sl_l_mul sl_l_trim sl_l_product sl_l_slope sl_l_at sl_l_thin sl_l_left sl_l_chain sl_l_mark sl_l_flips sl_l_poly sl_l_any_ratio sl_l_copied sl_l_lists sl_l_marked sl_l_right sl_l_power sl_l_whole_root sl_l_number sl_l_drawn_number sl_l_base sl_l_factor sl_l_factors sl_l_multiplied sl_l_checked sl_lw : Array (Option Value)} {oc_sign_of kV_sign_of dc_sign_of pm_sign_of cd_sign_of ct_sign_of oc_cut kV_cut dc_cut pm_cut cd_cut ct_cut oc_negated kV_negated dc_negated pm_negated cd_negated ct_negated oc_slope kV_slope dc_slope pm_slope cd_slope ct_slope oc_scaled_value kV_scaled_value dc_scaled_value pm_scaled_value cd_scaled_value ct_scaled_value oc_content kV_content dc_content pm_content cd_content ct_content oc_primitive kV_primitive dc_primitive pm_primitive cd_primitive ct_primitive oc_remainder kV_remainder dc_remainder pm_remainder cd_remainder ct_remainder oc_signed_rests kV_signed_rests dc_signed_rests pm_signed_rests cd_signed_rests ct_signed_rests oc_row_of kV_row_of dc_row_of pm_row_of cd_row_of ct_row_of oc_leading kV_leading dc_leading pm_leading cd_leading ct_leading oc_turns_of kV_turns_of dc_turns_of pm_turns_of cd_turns_of ct_turns_of oc_copied kV_copied dc_copied pm_copied cd_copied ct_copied oc_is_integer kV_is_integer dc_is_integer pm_is_integer cd_is_integer ct_is_integer oc_is_fraction kV_is_fraction dc_is_fraction pm_is_fraction cd_is_fraction ct_is_fraction oc_is_polynomial kV_is_polynomial dc_is_polynomial pm_is_polynomial cd_is_polynomial ct_is_polynomial oc_check_polynomials kV_check_polynomials dc_check_polynomials pm_check_polynomials cd_check_polynomials ct_check_polynomials oc_check_not_zero kV_check_not_zero dc_check_not_zero pm_check_not_zero cd_check_not_zero ct_check_not_zero oc_check_fraction kV_check_fraction dc_check_fraction pm_check_fraction cd_check_fraction ct_check_fraction oc_row kV_row dc_row pm_row cd_row ct_row oc_turns kV_turns dc_turns pm_turns cd_turns ct_turns oc_l_sack kV_l_sack dc_l_sack pm_l_sack cd_l_sack ct_l_sack oc_l_coin kV_l_coin dc_l_coin pm_l_coin cd_l_coin ct_l_coin oc_l_shared kV_l_shared dc_l_shared pm_l_shared cd_l_shared ct_l_shared oc_l_ratio kV_l_ratio dc_l_ratio pm_l_ratio cd_l_ratio ct_l_ratio oc_l_add kV_l_add dc_l_add pm_l_add cd_l_add ct_l_add oc_l_mul kV_l_mul dc_l_mul pm_l_mul cd_l_mul ct_l_mul oc_l_trim kV_l_trim dc_l_trim pm_l_trim cd_l_trim ct_l_trim oc_l_product kV_l_product dc_l_product pm_l_product cd_l_product ct_l_product oc_l_slope kV_l_slope dc_l_slope pm_l_slope cd_l_slope ct_l_slope oc_l_at kV_l_at dc_l_at pm_l_at cd_l_at ct_l_at oc_l_thin kV_l_thin dc_l_thin pm_l_thin cd_l_thin ct_l_thin oc_l_left kV_l_left dc_l_left pm_l_left cd_l_left ct_l_left oc_l_chain kV_l_chain dc_l_chain pm_l_chain cd_l_chain ct_l_chain oc_l_mark kV_l_mark dc_l_mark pm_l_mark cd_l_mark ct_l_mark oc_l_flips kV_l_flips dc_l_flips pm_l_flips cd_l_flips ct_l_flips oc_l_poly kV_l_poly dc_l_poly pm_l_poly cd_l_poly ct_l_poly oc_l_any_ratio kV_l_any_ratio dc_l_any_ratio pm_l_any_ratio cd_l_any_ratio ct_l_any_ratio oc_l_copied kV_l_copied dc_l_copied pm_l_copied cd_l_copied ct_l_copied oc_l_lists kV_l_lists dc_l_lists pm_l_lists cd_l_lists ct_l_lists oc_l_marked kV_l_marked dc_l_marked pm_l_marked cd_l_marked ct_l_marked oc_l_right kV_l_right dc_l_right pm_l_right cd_l_right ct_l_right oc_l_power kV_l_power dc_l_power pm_l_power cd_l_power ct_l_power oc_l_whole_root kV_l_whole_root dc_l_whole_root pm_l_whole_root cd_l_whole_root ct_l_whole_root oc_l_number kV_l_number dc_l_number pm_l_number cd_l_number ct_l_number oc_l_drawn_number kV_l_drawn_number dc_l_drawn_number pm_l_drawn_number cd_l_drawn_number ct_l_drawn_number oc_l_base kV_l_base dc_l_base pm_l_base cd_l_base ct_l_base oc_l_factor kV_l_factor dc_l_factor pm_l_factor cd_l_factor ct_l_factor oc_l_factors kV_l_factors dc_l_factors pm_l_factors cd_l_factors ct_l_factors oc_l_multiplied kV_l_multiplied dc_l_multiplied pm_l_multiplied cd_l_multiplied ct_l_multiplied oc_l_checked kV_l_checked dc_l_checked pm_l_checked cd_l_checked ct_l_checked oc_lw kV_lw dc_lw pm_lw cd_lw ct_lw : Value}
    (X : K.In h) (G : h.Ns mainGlobals mg) (hfa : mg "law" = some (.ref fa))
    (a_sign_of : PySem.W.nsIn K mainGlobals "sign_of" = some (some (.ref f_sign_of))) (l_sign_of : K.lookup f_sign_of = some ⟨oc_sign_of, od_sign_of, .func (PySem.W.fnOf "sign_of" "sign_of" (defArgs s_sign_of) (defBody s_sign_of) (defScope s_sign_of) .none kV_sign_of dc_sign_of pm_sign_of an_sign_of cd_sign_of ct_sign_of), sl_sign_of⟩) (c_sign_of : PySem.W.codeIn K cd_sign_of "sign_of" = true) (k_sign_of : PySem.W.keepIn K (.ref f_sign_of) = true)
    (a_cut : PySem.W.nsIn K mainGlobals "cut" = some (some (.ref f_cut))) (l_cut : K.lookup f_cut = some ⟨oc_cut, od_cut, .func (PySem.W.fnOf "cut" "cut" (defArgs s_cut) (defBody s_cut) (defScope s_cut) .none kV_cut dc_cut pm_cut an_cut cd_cut ct_cut), sl_cut⟩) (c_cut : PySem.W.codeIn K cd_cut "cut" = true) (k_cut : PySem.W.keepIn K (.ref f_cut) = true)
    (a_negated : PySem.W.nsIn K mainGlobals "negated" = some (some (.ref f_negated))) (l_negated : K.lookup f_negated = some ⟨oc_negated, od_negated, .func (PySem.W.fnOf "negated" "negated" (defArgs s_negated) (defBody s_negated) (defScope s_negated) .none kV_negated dc_negated pm_negated an_negated cd_negated ct_negated), sl_negated⟩) (c_negated : PySem.W.codeIn K cd_negated "negated" = true) (k_negated : PySem.W.keepIn K (.ref f_negated) = true)
    (a_slope : PySem.W.nsIn K mainGlobals "slope" = some (some (.ref f_slope))) (l_slope : K.lookup f_slope = some ⟨oc_slope, od_slope, .func (PySem.W.fnOf "slope" "slope" (defArgs s_slope) (defBody s_slope) (defScope s_slope) .none kV_slope dc_slope pm_slope an_slope cd_slope ct_slope), sl_slope⟩) (c_slope : PySem.W.codeIn K cd_slope "slope" = true) (k_slope : PySem.W.keepIn K (.ref f_slope) = true)
    (a_scaled_value : PySem.W.nsIn K mainGlobals "scaled_value" = some (some (.ref f_scaled_value))) (l_scaled_value : K.lookup f_scaled_value = some ⟨oc_scaled_value, od_scaled_value, .func (PySem.W.fnOf "scaled_value" "scaled_value" (defArgs s_scaled_value) (defBody s_scaled_value) (defScope s_scaled_value) .none kV_scaled_value dc_scaled_value pm_scaled_value an_scaled_value cd_scaled_value ct_scaled_value), sl_scaled_value⟩) (c_scaled_value : PySem.W.codeIn K cd_scaled_value "scaled_value" = true) (k_scaled_value : PySem.W.keepIn K (.ref f_scaled_value) = true)
    (a_content : PySem.W.nsIn K mainGlobals "content" = some (some (.ref f_content))) (l_content : K.lookup f_content = some ⟨oc_content, od_content, .func (PySem.W.fnOf "content" "content" (defArgs s_content) (defBody s_content) (defScope s_content) .none kV_content dc_content pm_content an_content cd_content ct_content), sl_content⟩) (c_content : PySem.W.codeIn K cd_content "content" = true) (k_content : PySem.W.keepIn K (.ref f_content) = true)
    (a_primitive : PySem.W.nsIn K mainGlobals "primitive" = some (some (.ref f_primitive))) (l_primitive : K.lookup f_primitive = some ⟨oc_primitive, od_primitive, .func (PySem.W.fnOf "primitive" "primitive" (defArgs s_primitive) (defBody s_primitive) (defScope s_primitive) .none kV_primitive dc_primitive pm_primitive an_primitive cd_primitive ct_primitive), sl_primitive⟩) (c_primitive : PySem.W.codeIn K cd_primitive "primitive" = true) (k_primitive : PySem.W.keepIn K (.ref f_primitive) = true)
    (a_remainder : PySem.W.nsIn K mainGlobals "remainder" = some (some (.ref f_remainder))) (l_remainder : K.lookup f_remainder = some ⟨oc_remainder, od_remainder, .func (PySem.W.fnOf "remainder" "remainder" (defArgs s_remainder) (defBody s_remainder) (defScope s_remainder) .none kV_remainder dc_remainder pm_remainder an_remainder cd_remainder ct_remainder), sl_remainder⟩) (c_remainder : PySem.W.codeIn K cd_remainder "remainder" = true) (k_remainder : PySem.W.keepIn K (.ref f_remainder) = true)
    (a_signed_rests : PySem.W.nsIn K mainGlobals "signed_rests" = some (some (.ref f_signed_rests))) (l_signed_rests : K.lookup f_signed_rests = some ⟨oc_signed_rests, od_signed_rests, .func (PySem.W.fnOf "signed_rests" "signed_rests" (defArgs s_signed_rests) (defBody s_signed_rests) (defScope s_signed_rests) .none kV_signed_rests dc_signed_rests pm_signed_rests an_signed_rests cd_signed_rests ct_signed_rests), sl_signed_rests⟩) (c_signed_rests : PySem.W.codeIn K cd_signed_rests "signed_rests" = true) (k_signed_rests : PySem.W.keepIn K (.ref f_signed_rests) = true)
    (a_row_of : PySem.W.nsIn K mainGlobals "row_of" = some (some (.ref f_row_of))) (l_row_of : K.lookup f_row_of = some ⟨oc_row_of, od_row_of, .func (PySem.W.fnOf "row_of" "row_of" (defArgs s_row_of) (defBody s_row_of) (defScope s_row_of) .none kV_row_of dc_row_of pm_row_of an_row_of cd_row_of ct_row_of), sl_row_of⟩) (c_row_of : PySem.W.codeIn K cd_row_of "row_of" = true) (k_row_of : PySem.W.keepIn K (.ref f_row_of) = true)
    (a_leading : PySem.W.nsIn K mainGlobals "leading" = some (some (.ref f_leading))) (l_leading : K.lookup f_leading = some ⟨oc_leading, od_leading, .func (PySem.W.fnOf "leading" "leading" (defArgs s_leading) (defBody s_leading) (defScope s_leading) .none kV_leading dc_leading pm_leading an_leading cd_leading ct_leading), sl_leading⟩) (c_leading : PySem.W.codeIn K cd_leading "leading" = true) (k_leading : PySem.W.keepIn K (.ref f_leading) = true)
    (a_turns_of : PySem.W.nsIn K mainGlobals "turns_of" = some (some (.ref f_turns_of))) (l_turns_of : K.lookup f_turns_of = some ⟨oc_turns_of, od_turns_of, .func (PySem.W.fnOf "turns_of" "turns_of" (defArgs s_turns_of) (defBody s_turns_of) (defScope s_turns_of) .none kV_turns_of dc_turns_of pm_turns_of an_turns_of cd_turns_of ct_turns_of), sl_turns_of⟩) (c_turns_of : PySem.W.codeIn K cd_turns_of "turns_of" = true) (k_turns_of : PySem.W.keepIn K (.ref f_turns_of) = true)
    (a_copied : PySem.W.nsIn K mainGlobals "copied" = some (some (.ref f_copied))) (l_copied : K.lookup f_copied = some ⟨oc_copied, od_copied, .func (PySem.W.fnOf "copied" "copied" (defArgs s_copied) (defBody s_copied) (defScope s_copied) .none kV_copied dc_copied pm_copied an_copied cd_copied ct_copied), sl_copied⟩) (c_copied : PySem.W.codeIn K cd_copied "copied" = true) (k_copied : PySem.W.keepIn K (.ref f_copied) = true)
    (a_is_integer : PySem.W.nsIn K mainGlobals "is_integer" = some (some (.ref f_is_integer))) (l_is_integer : K.lookup f_is_integer = some ⟨oc_is_integer, od_is_integer, .func (PySem.W.fnOf "is_integer" "is_integer" (defArgs s_is_integer) (defBody s_is_integer) (defScope s_is_integer) .none kV_is_integer dc_is_integer pm_is_integer an_is_integer cd_is_integer ct_is_integer), sl_is_integer⟩) (c_is_integer : PySem.W.codeIn K cd_is_integer "is_integer" = true) (k_is_integer : PySem.W.keepIn K (.ref f_is_integer) = true)
    (a_is_fraction : PySem.W.nsIn K mainGlobals "is_fraction" = some (some (.ref f_is_fraction))) (l_is_fraction : K.lookup f_is_fraction = some ⟨oc_is_fraction, od_is_fraction, .func (PySem.W.fnOf "is_fraction" "is_fraction" (defArgs s_is_fraction) (defBody s_is_fraction) (defScope s_is_fraction) .none kV_is_fraction dc_is_fraction pm_is_fraction an_is_fraction cd_is_fraction ct_is_fraction), sl_is_fraction⟩) (c_is_fraction : PySem.W.codeIn K cd_is_fraction "is_fraction" = true) (k_is_fraction : PySem.W.keepIn K (.ref f_is_fraction) = true)
    (a_is_polynomial : PySem.W.nsIn K mainGlobals "is_polynomial" = some (some (.ref f_is_polynomial))) (l_is_polynomial : K.lookup f_is_polynomial = some ⟨oc_is_polynomial, od_is_polynomial, .func (PySem.W.fnOf "is_polynomial" "is_polynomial" (defArgs s_is_polynomial) (defBody s_is_polynomial) (defScope s_is_polynomial) .none kV_is_polynomial dc_is_polynomial pm_is_polynomial an_is_polynomial cd_is_polynomial ct_is_polynomial), sl_is_polynomial⟩) (c_is_polynomial : PySem.W.codeIn K cd_is_polynomial "is_polynomial" = true) (k_is_polynomial : PySem.W.keepIn K (.ref f_is_polynomial) = true)
    (a_check_polynomials : PySem.W.nsIn K mainGlobals "check_polynomials" = some (some (.ref f_check_polynomials))) (l_check_polynomials : K.lookup f_check_polynomials = some ⟨oc_check_polynomials, od_check_polynomials, .func (PySem.W.fnOf "check_polynomials" "check_polynomials" (defArgs s_check_polynomials) (defBody s_check_polynomials) (defScope s_check_polynomials) .none kV_check_polynomials dc_check_polynomials pm_check_polynomials an_check_polynomials cd_check_polynomials ct_check_polynomials), sl_check_polynomials⟩) (c_check_polynomials : PySem.W.codeIn K cd_check_polynomials "check_polynomials" = true) (k_check_polynomials : PySem.W.keepIn K (.ref f_check_polynomials) = true)
    (a_check_not_zero : PySem.W.nsIn K mainGlobals "check_not_zero" = some (some (.ref f_check_not_zero))) (l_check_not_zero : K.lookup f_check_not_zero = some ⟨oc_check_not_zero, od_check_not_zero, .func (PySem.W.fnOf "check_not_zero" "check_not_zero" (defArgs s_check_not_zero) (defBody s_check_not_zero) (defScope s_check_not_zero) .none kV_check_not_zero dc_check_not_zero pm_check_not_zero an_check_not_zero cd_check_not_zero ct_check_not_zero), sl_check_not_zero⟩) (c_check_not_zero : PySem.W.codeIn K cd_check_not_zero "check_not_zero" = true) (k_check_not_zero : PySem.W.keepIn K (.ref f_check_not_zero) = true)
    (a_check_fraction : PySem.W.nsIn K mainGlobals "check_fraction" = some (some (.ref f_check_fraction))) (l_check_fraction : K.lookup f_check_fraction = some ⟨oc_check_fraction, od_check_fraction, .func (PySem.W.fnOf "check_fraction" "check_fraction" (defArgs s_check_fraction) (defBody s_check_fraction) (defScope s_check_fraction) .none kV_check_fraction dc_check_fraction pm_check_fraction an_check_fraction cd_check_fraction ct_check_fraction), sl_check_fraction⟩) (c_check_fraction : PySem.W.codeIn K cd_check_fraction "check_fraction" = true) (k_check_fraction : PySem.W.keepIn K (.ref f_check_fraction) = true)
    (a_row : PySem.W.nsIn K mainGlobals "row" = some (some (.ref f_row))) (l_row : K.lookup f_row = some ⟨oc_row, od_row, .func (PySem.W.fnOf "row" "row" (defArgs s_row) (defBody s_row) (defScope s_row) .none kV_row dc_row pm_row an_row cd_row ct_row), sl_row⟩) (c_row : PySem.W.codeIn K cd_row "row" = true) (k_row : PySem.W.keepIn K (.ref f_row) = true)
    (a_turns : PySem.W.nsIn K mainGlobals "turns" = some (some (.ref f_turns))) (l_turns : K.lookup f_turns = some ⟨oc_turns, od_turns, .func (PySem.W.fnOf "turns" "turns" (defArgs s_turns) (defBody s_turns) (defScope s_turns) .none kV_turns dc_turns pm_turns an_turns cd_turns ct_turns), sl_turns⟩) (c_turns : PySem.W.codeIn K cd_turns "turns" = true) (k_turns : PySem.W.keepIn K (.ref f_turns) = true)
    (a_l_sack : PySem.W.nsIn K mainGlobals "_law_pv_sack" = some (some (.ref f_l_sack))) (l_l_sack : K.lookup f_l_sack = some ⟨oc_l_sack, od_l_sack, .func (PySem.W.fnOf "_law_pv_sack" "_law_pv_sack" (defArgs s_l_sack) (defBody s_l_sack) (defScope s_l_sack) .none kV_l_sack dc_l_sack pm_l_sack an_l_sack cd_l_sack ct_l_sack), sl_l_sack⟩) (c_l_sack : PySem.W.codeIn K cd_l_sack "_law_pv_sack" = true) (k_l_sack : PySem.W.keepIn K (.ref f_l_sack) = true)
    (a_l_coin : PySem.W.nsIn K mainGlobals "_law_pv_coin" = some (some (.ref f_l_coin))) (l_l_coin : K.lookup f_l_coin = some ⟨oc_l_coin, od_l_coin, .func (PySem.W.fnOf "_law_pv_coin" "_law_pv_coin" (defArgs s_l_coin) (defBody s_l_coin) (defScope s_l_coin) .none kV_l_coin dc_l_coin pm_l_coin an_l_coin cd_l_coin ct_l_coin), sl_l_coin⟩) (c_l_coin : PySem.W.codeIn K cd_l_coin "_law_pv_coin" = true) (k_l_coin : PySem.W.keepIn K (.ref f_l_coin) = true)
    (a_l_shared : PySem.W.nsIn K mainGlobals "_law_pv_shared" = some (some (.ref f_l_shared))) (l_l_shared : K.lookup f_l_shared = some ⟨oc_l_shared, od_l_shared, .func (PySem.W.fnOf "_law_pv_shared" "_law_pv_shared" (defArgs s_l_shared) (defBody s_l_shared) (defScope s_l_shared) .none kV_l_shared dc_l_shared pm_l_shared an_l_shared cd_l_shared ct_l_shared), sl_l_shared⟩) (c_l_shared : PySem.W.codeIn K cd_l_shared "_law_pv_shared" = true) (k_l_shared : PySem.W.keepIn K (.ref f_l_shared) = true)
    (a_l_ratio : PySem.W.nsIn K mainGlobals "_law_pv_ratio" = some (some (.ref f_l_ratio))) (l_l_ratio : K.lookup f_l_ratio = some ⟨oc_l_ratio, od_l_ratio, .func (PySem.W.fnOf "_law_pv_ratio" "_law_pv_ratio" (defArgs s_l_ratio) (defBody s_l_ratio) (defScope s_l_ratio) .none kV_l_ratio dc_l_ratio pm_l_ratio an_l_ratio cd_l_ratio ct_l_ratio), sl_l_ratio⟩) (c_l_ratio : PySem.W.codeIn K cd_l_ratio "_law_pv_ratio" = true) (k_l_ratio : PySem.W.keepIn K (.ref f_l_ratio) = true)
    (a_l_add : PySem.W.nsIn K mainGlobals "_law_pv_add" = some (some (.ref f_l_add))) (l_l_add : K.lookup f_l_add = some ⟨oc_l_add, od_l_add, .func (PySem.W.fnOf "_law_pv_add" "_law_pv_add" (defArgs s_l_add) (defBody s_l_add) (defScope s_l_add) .none kV_l_add dc_l_add pm_l_add an_l_add cd_l_add ct_l_add), sl_l_add⟩) (c_l_add : PySem.W.codeIn K cd_l_add "_law_pv_add" = true) (k_l_add : PySem.W.keepIn K (.ref f_l_add) = true)
    (a_l_mul : PySem.W.nsIn K mainGlobals "_law_pv_mul" = some (some (.ref f_l_mul))) (l_l_mul : K.lookup f_l_mul = some ⟨oc_l_mul, od_l_mul, .func (PySem.W.fnOf "_law_pv_mul" "_law_pv_mul" (defArgs s_l_mul) (defBody s_l_mul) (defScope s_l_mul) .none kV_l_mul dc_l_mul pm_l_mul an_l_mul cd_l_mul ct_l_mul), sl_l_mul⟩) (c_l_mul : PySem.W.codeIn K cd_l_mul "_law_pv_mul" = true) (k_l_mul : PySem.W.keepIn K (.ref f_l_mul) = true)
    (a_l_trim : PySem.W.nsIn K mainGlobals "_law_pv_trim" = some (some (.ref f_l_trim))) (l_l_trim : K.lookup f_l_trim = some ⟨oc_l_trim, od_l_trim, .func (PySem.W.fnOf "_law_pv_trim" "_law_pv_trim" (defArgs s_l_trim) (defBody s_l_trim) (defScope s_l_trim) .none kV_l_trim dc_l_trim pm_l_trim an_l_trim cd_l_trim ct_l_trim), sl_l_trim⟩) (c_l_trim : PySem.W.codeIn K cd_l_trim "_law_pv_trim" = true) (k_l_trim : PySem.W.keepIn K (.ref f_l_trim) = true)
    (a_l_product : PySem.W.nsIn K mainGlobals "_law_pv_product" = some (some (.ref f_l_product))) (l_l_product : K.lookup f_l_product = some ⟨oc_l_product, od_l_product, .func (PySem.W.fnOf "_law_pv_product" "_law_pv_product" (defArgs s_l_product) (defBody s_l_product) (defScope s_l_product) .none kV_l_product dc_l_product pm_l_product an_l_product cd_l_product ct_l_product), sl_l_product⟩) (c_l_product : PySem.W.codeIn K cd_l_product "_law_pv_product" = true) (k_l_product : PySem.W.keepIn K (.ref f_l_product) = true)
    (a_l_slope : PySem.W.nsIn K mainGlobals "_law_pv_slope" = some (some (.ref f_l_slope))) (l_l_slope : K.lookup f_l_slope = some ⟨oc_l_slope, od_l_slope, .func (PySem.W.fnOf "_law_pv_slope" "_law_pv_slope" (defArgs s_l_slope) (defBody s_l_slope) (defScope s_l_slope) .none kV_l_slope dc_l_slope pm_l_slope an_l_slope cd_l_slope ct_l_slope), sl_l_slope⟩) (c_l_slope : PySem.W.codeIn K cd_l_slope "_law_pv_slope" = true) (k_l_slope : PySem.W.keepIn K (.ref f_l_slope) = true)
    (a_l_at : PySem.W.nsIn K mainGlobals "_law_pv_at" = some (some (.ref f_l_at))) (l_l_at : K.lookup f_l_at = some ⟨oc_l_at, od_l_at, .func (PySem.W.fnOf "_law_pv_at" "_law_pv_at" (defArgs s_l_at) (defBody s_l_at) (defScope s_l_at) .none kV_l_at dc_l_at pm_l_at an_l_at cd_l_at ct_l_at), sl_l_at⟩) (c_l_at : PySem.W.codeIn K cd_l_at "_law_pv_at" = true) (k_l_at : PySem.W.keepIn K (.ref f_l_at) = true)
    (a_l_thin : PySem.W.nsIn K mainGlobals "_law_pv_thin" = some (some (.ref f_l_thin))) (l_l_thin : K.lookup f_l_thin = some ⟨oc_l_thin, od_l_thin, .func (PySem.W.fnOf "_law_pv_thin" "_law_pv_thin" (defArgs s_l_thin) (defBody s_l_thin) (defScope s_l_thin) .none kV_l_thin dc_l_thin pm_l_thin an_l_thin cd_l_thin ct_l_thin), sl_l_thin⟩) (c_l_thin : PySem.W.codeIn K cd_l_thin "_law_pv_thin" = true) (k_l_thin : PySem.W.keepIn K (.ref f_l_thin) = true)
    (a_l_left : PySem.W.nsIn K mainGlobals "_law_pv_left" = some (some (.ref f_l_left))) (l_l_left : K.lookup f_l_left = some ⟨oc_l_left, od_l_left, .func (PySem.W.fnOf "_law_pv_left" "_law_pv_left" (defArgs s_l_left) (defBody s_l_left) (defScope s_l_left) .none kV_l_left dc_l_left pm_l_left an_l_left cd_l_left ct_l_left), sl_l_left⟩) (c_l_left : PySem.W.codeIn K cd_l_left "_law_pv_left" = true) (k_l_left : PySem.W.keepIn K (.ref f_l_left) = true)
    (a_l_chain : PySem.W.nsIn K mainGlobals "_law_pv_chain" = some (some (.ref f_l_chain))) (l_l_chain : K.lookup f_l_chain = some ⟨oc_l_chain, od_l_chain, .func (PySem.W.fnOf "_law_pv_chain" "_law_pv_chain" (defArgs s_l_chain) (defBody s_l_chain) (defScope s_l_chain) .none kV_l_chain dc_l_chain pm_l_chain an_l_chain cd_l_chain ct_l_chain), sl_l_chain⟩) (c_l_chain : PySem.W.codeIn K cd_l_chain "_law_pv_chain" = true) (k_l_chain : PySem.W.keepIn K (.ref f_l_chain) = true)
    (a_l_mark : PySem.W.nsIn K mainGlobals "_law_pv_mark" = some (some (.ref f_l_mark))) (l_l_mark : K.lookup f_l_mark = some ⟨oc_l_mark, od_l_mark, .func (PySem.W.fnOf "_law_pv_mark" "_law_pv_mark" (defArgs s_l_mark) (defBody s_l_mark) (defScope s_l_mark) .none kV_l_mark dc_l_mark pm_l_mark an_l_mark cd_l_mark ct_l_mark), sl_l_mark⟩) (c_l_mark : PySem.W.codeIn K cd_l_mark "_law_pv_mark" = true) (k_l_mark : PySem.W.keepIn K (.ref f_l_mark) = true)
    (a_l_flips : PySem.W.nsIn K mainGlobals "_law_pv_flips" = some (some (.ref f_l_flips))) (l_l_flips : K.lookup f_l_flips = some ⟨oc_l_flips, od_l_flips, .func (PySem.W.fnOf "_law_pv_flips" "_law_pv_flips" (defArgs s_l_flips) (defBody s_l_flips) (defScope s_l_flips) .none kV_l_flips dc_l_flips pm_l_flips an_l_flips cd_l_flips ct_l_flips), sl_l_flips⟩) (c_l_flips : PySem.W.codeIn K cd_l_flips "_law_pv_flips" = true) (k_l_flips : PySem.W.keepIn K (.ref f_l_flips) = true)
    (a_l_poly : PySem.W.nsIn K mainGlobals "_law_pv_poly" = some (some (.ref f_l_poly))) (l_l_poly : K.lookup f_l_poly = some ⟨oc_l_poly, od_l_poly, .func (PySem.W.fnOf "_law_pv_poly" "_law_pv_poly" (defArgs s_l_poly) (defBody s_l_poly) (defScope s_l_poly) .none kV_l_poly dc_l_poly pm_l_poly an_l_poly cd_l_poly ct_l_poly), sl_l_poly⟩) (c_l_poly : PySem.W.codeIn K cd_l_poly "_law_pv_poly" = true) (k_l_poly : PySem.W.keepIn K (.ref f_l_poly) = true)
    (a_l_any_ratio : PySem.W.nsIn K mainGlobals "_law_pv_any_ratio" = some (some (.ref f_l_any_ratio))) (l_l_any_ratio : K.lookup f_l_any_ratio = some ⟨oc_l_any_ratio, od_l_any_ratio, .func (PySem.W.fnOf "_law_pv_any_ratio" "_law_pv_any_ratio" (defArgs s_l_any_ratio) (defBody s_l_any_ratio) (defScope s_l_any_ratio) .none kV_l_any_ratio dc_l_any_ratio pm_l_any_ratio an_l_any_ratio cd_l_any_ratio ct_l_any_ratio), sl_l_any_ratio⟩) (c_l_any_ratio : PySem.W.codeIn K cd_l_any_ratio "_law_pv_any_ratio" = true) (k_l_any_ratio : PySem.W.keepIn K (.ref f_l_any_ratio) = true)
    (a_l_copied : PySem.W.nsIn K mainGlobals "_law_pv_copied" = some (some (.ref f_l_copied))) (l_l_copied : K.lookup f_l_copied = some ⟨oc_l_copied, od_l_copied, .func (PySem.W.fnOf "_law_pv_copied" "_law_pv_copied" (defArgs s_l_copied) (defBody s_l_copied) (defScope s_l_copied) .none kV_l_copied dc_l_copied pm_l_copied an_l_copied cd_l_copied ct_l_copied), sl_l_copied⟩) (c_l_copied : PySem.W.codeIn K cd_l_copied "_law_pv_copied" = true) (k_l_copied : PySem.W.keepIn K (.ref f_l_copied) = true)
    (a_l_lists : PySem.W.nsIn K mainGlobals "_law_pv_lists" = some (some (.ref f_l_lists))) (l_l_lists : K.lookup f_l_lists = some ⟨oc_l_lists, od_l_lists, .func (PySem.W.fnOf "_law_pv_lists" "_law_pv_lists" (defArgs s_l_lists) (defBody s_l_lists) (defScope s_l_lists) .none kV_l_lists dc_l_lists pm_l_lists an_l_lists cd_l_lists ct_l_lists), sl_l_lists⟩) (c_l_lists : PySem.W.codeIn K cd_l_lists "_law_pv_lists" = true) (k_l_lists : PySem.W.keepIn K (.ref f_l_lists) = true)
    (a_l_marked : PySem.W.nsIn K mainGlobals "_law_pv_marked" = some (some (.ref f_l_marked))) (l_l_marked : K.lookup f_l_marked = some ⟨oc_l_marked, od_l_marked, .func (PySem.W.fnOf "_law_pv_marked" "_law_pv_marked" (defArgs s_l_marked) (defBody s_l_marked) (defScope s_l_marked) .none kV_l_marked dc_l_marked pm_l_marked an_l_marked cd_l_marked ct_l_marked), sl_l_marked⟩) (c_l_marked : PySem.W.codeIn K cd_l_marked "_law_pv_marked" = true) (k_l_marked : PySem.W.keepIn K (.ref f_l_marked) = true)
    (a_l_right : PySem.W.nsIn K mainGlobals "_law_pv_right" = some (some (.ref f_l_right))) (l_l_right : K.lookup f_l_right = some ⟨oc_l_right, od_l_right, .func (PySem.W.fnOf "_law_pv_right" "_law_pv_right" (defArgs s_l_right) (defBody s_l_right) (defScope s_l_right) .none kV_l_right dc_l_right pm_l_right an_l_right cd_l_right ct_l_right), sl_l_right⟩) (c_l_right : PySem.W.codeIn K cd_l_right "_law_pv_right" = true) (k_l_right : PySem.W.keepIn K (.ref f_l_right) = true)
    (a_l_power : PySem.W.nsIn K mainGlobals "_law_pv_power" = some (some (.ref f_l_power))) (l_l_power : K.lookup f_l_power = some ⟨oc_l_power, od_l_power, .func (PySem.W.fnOf "_law_pv_power" "_law_pv_power" (defArgs s_l_power) (defBody s_l_power) (defScope s_l_power) .none kV_l_power dc_l_power pm_l_power an_l_power cd_l_power ct_l_power), sl_l_power⟩) (c_l_power : PySem.W.codeIn K cd_l_power "_law_pv_power" = true) (k_l_power : PySem.W.keepIn K (.ref f_l_power) = true)
    (a_l_whole_root : PySem.W.nsIn K mainGlobals "_law_pv_whole_root" = some (some (.ref f_l_whole_root))) (l_l_whole_root : K.lookup f_l_whole_root = some ⟨oc_l_whole_root, od_l_whole_root, .func (PySem.W.fnOf "_law_pv_whole_root" "_law_pv_whole_root" (defArgs s_l_whole_root) (defBody s_l_whole_root) (defScope s_l_whole_root) .none kV_l_whole_root dc_l_whole_root pm_l_whole_root an_l_whole_root cd_l_whole_root ct_l_whole_root), sl_l_whole_root⟩) (c_l_whole_root : PySem.W.codeIn K cd_l_whole_root "_law_pv_whole_root" = true) (k_l_whole_root : PySem.W.keepIn K (.ref f_l_whole_root) = true)
    (a_l_number : PySem.W.nsIn K mainGlobals "_law_pv_number" = some (some (.ref f_l_number))) (l_l_number : K.lookup f_l_number = some ⟨oc_l_number, od_l_number, .func (PySem.W.fnOf "_law_pv_number" "_law_pv_number" (defArgs s_l_number) (defBody s_l_number) (defScope s_l_number) .none kV_l_number dc_l_number pm_l_number an_l_number cd_l_number ct_l_number), sl_l_number⟩) (c_l_number : PySem.W.codeIn K cd_l_number "_law_pv_number" = true) (k_l_number : PySem.W.keepIn K (.ref f_l_number) = true)
    (a_l_drawn_number : PySem.W.nsIn K mainGlobals "_law_pv_drawn_number" = some (some (.ref f_l_drawn_number))) (l_l_drawn_number : K.lookup f_l_drawn_number = some ⟨oc_l_drawn_number, od_l_drawn_number, .func (PySem.W.fnOf "_law_pv_drawn_number" "_law_pv_drawn_number" (defArgs s_l_drawn_number) (defBody s_l_drawn_number) (defScope s_l_drawn_number) .none kV_l_drawn_number dc_l_drawn_number pm_l_drawn_number an_l_drawn_number cd_l_drawn_number ct_l_drawn_number), sl_l_drawn_number⟩) (c_l_drawn_number : PySem.W.codeIn K cd_l_drawn_number "_law_pv_drawn_number" = true) (k_l_drawn_number : PySem.W.keepIn K (.ref f_l_drawn_number) = true)
    (a_l_base : PySem.W.nsIn K mainGlobals "_law_pv_base" = some (some (.ref f_l_base))) (l_l_base : K.lookup f_l_base = some ⟨oc_l_base, od_l_base, .func (PySem.W.fnOf "_law_pv_base" "_law_pv_base" (defArgs s_l_base) (defBody s_l_base) (defScope s_l_base) .none kV_l_base dc_l_base pm_l_base an_l_base cd_l_base ct_l_base), sl_l_base⟩) (c_l_base : PySem.W.codeIn K cd_l_base "_law_pv_base" = true) (k_l_base : PySem.W.keepIn K (.ref f_l_base) = true)
    (a_l_factor : PySem.W.nsIn K mainGlobals "_law_pv_factor" = some (some (.ref f_l_factor))) (l_l_factor : K.lookup f_l_factor = some ⟨oc_l_factor, od_l_factor, .func (PySem.W.fnOf "_law_pv_factor" "_law_pv_factor" (defArgs s_l_factor) (defBody s_l_factor) (defScope s_l_factor) .none kV_l_factor dc_l_factor pm_l_factor an_l_factor cd_l_factor ct_l_factor), sl_l_factor⟩) (c_l_factor : PySem.W.codeIn K cd_l_factor "_law_pv_factor" = true) (k_l_factor : PySem.W.keepIn K (.ref f_l_factor) = true)
    (a_l_factors : PySem.W.nsIn K mainGlobals "_law_pv_factors" = some (some (.ref f_l_factors))) (l_l_factors : K.lookup f_l_factors = some ⟨oc_l_factors, od_l_factors, .func (PySem.W.fnOf "_law_pv_factors" "_law_pv_factors" (defArgs s_l_factors) (defBody s_l_factors) (defScope s_l_factors) .none kV_l_factors dc_l_factors pm_l_factors an_l_factors cd_l_factors ct_l_factors), sl_l_factors⟩) (c_l_factors : PySem.W.codeIn K cd_l_factors "_law_pv_factors" = true) (k_l_factors : PySem.W.keepIn K (.ref f_l_factors) = true)
    (a_l_multiplied : PySem.W.nsIn K mainGlobals "_law_pv_multiplied" = some (some (.ref f_l_multiplied))) (l_l_multiplied : K.lookup f_l_multiplied = some ⟨oc_l_multiplied, od_l_multiplied, .func (PySem.W.fnOf "_law_pv_multiplied" "_law_pv_multiplied" (defArgs s_l_multiplied) (defBody s_l_multiplied) (defScope s_l_multiplied) .none kV_l_multiplied dc_l_multiplied pm_l_multiplied an_l_multiplied cd_l_multiplied ct_l_multiplied), sl_l_multiplied⟩) (c_l_multiplied : PySem.W.codeIn K cd_l_multiplied "_law_pv_multiplied" = true) (k_l_multiplied : PySem.W.keepIn K (.ref f_l_multiplied) = true)
    (a_l_checked : PySem.W.nsIn K mainGlobals "_law_pv_checked" = some (some (.ref f_l_checked))) (l_l_checked : K.lookup f_l_checked = some ⟨oc_l_checked, od_l_checked, .func (PySem.W.fnOf "_law_pv_checked" "_law_pv_checked" (defArgs s_l_checked) (defBody s_l_checked) (defScope s_l_checked) .none kV_l_checked dc_l_checked pm_l_checked an_l_checked cd_l_checked ct_l_checked), sl_l_checked⟩) (c_l_checked : PySem.W.codeIn K cd_l_checked "_law_pv_checked" = true) (k_l_checked : PySem.W.keepIn K (.ref f_l_checked) = true)
    (a_lw : PySem.W.nsIn K mainGlobals "law" = some (some (.ref f_lw))) (l_lw : K.lookup f_lw = some ⟨oc_lw, od_lw, .func (PySem.W.fnOf "law" "law" (defArgs s_law) (defBody s_law) (defScope s_law) .none kV_lw dc_lw pm_lw an_lw cd_lw ct_lw), sl_lw⟩) (c_lw : PySem.W.codeIn K cd_lw "law" = true) (k_lw : PySem.W.keepIn K (.ref f_lw) = true)
    (z_len : PySem.W.nsIn K mainGlobals "len" = some none)
    (z_max : PySem.W.nsIn K mainGlobals "max" = some none)
    (z_abs : PySem.W.nsIn K mainGlobals "abs" = some none)
    (z_int : PySem.W.nsIn K mainGlobals "int" = some none)
    (z_range : PySem.W.nsIn K mainGlobals "range" = some none)
    (z_list : PySem.W.nsIn K mainGlobals "list" = some none)
    (z_enumerate : PySem.W.nsIn K mainGlobals "enumerate" = some none)
    (z_isinstance : PySem.W.nsIn K mainGlobals "isinstance" = some none)
    (z_bool : PySem.W.nsIn K mainGlobals "bool" = some none)
    (z_tuple : PySem.W.nsIn K mainGlobals "tuple" = some none)
    (z_all : PySem.W.nsIn K mainGlobals "all" = some none)
    (z_repr : PySem.W.nsIn K mainGlobals "repr" = some none)
    (z_min : PySem.W.nsIn K mainGlobals "min" = some none)
    (z_sum : PySem.W.nsIn K mainGlobals "sum" = some none)
    (z_gcd : PySem.W.nsIn K mainGlobals "gcd" = some (some (.builtin "math.gcd"))) :
    ∃ fd : FuncData, (∀ (s : Shared) (v : Value), BindsTo s fd ⟨[v], []⟩ [("script", v)]) ∧ ∀ base : Heap, K.In base → base.Ns mainGlobals mg → FnG l.prog w K mg base 8 fa fd ["script"] (spLaw K) := by
  have e := hfa.symm.trans (PySem.W.mg_of X G a_lw)
  cases e
  have T : Top K mg := {
    sign_of_ := lay_mk X G a_sign_of l_sign_of c_sign_of k_sign_of fun _ _ _ _ _ _ us hl => match us, hl with | [_], _ => rfl
    cut_ := lay_mk X G a_cut l_cut c_cut k_cut fun _ _ _ _ _ _ us hl => match us, hl with | [_], _ => rfl
    negated_ := lay_mk X G a_negated l_negated c_negated k_negated fun _ _ _ _ _ _ us hl => match us, hl with | [_], _ => rfl
    slope_ := lay_mk X G a_slope l_slope c_slope k_slope fun _ _ _ _ _ _ us hl => match us, hl with | [_], _ => rfl
    scaled_value_ := lay_mk X G a_scaled_value l_scaled_value c_scaled_value k_scaled_value fun _ _ _ _ _ _ us hl => match us, hl with | [_, _], _ => rfl
    content_ := lay_mk X G a_content l_content c_content k_content fun _ _ _ _ _ _ us hl => match us, hl with | [_], _ => rfl
    primitive_ := lay_mk X G a_primitive l_primitive c_primitive k_primitive fun _ _ _ _ _ _ us hl => match us, hl with | [_], _ => rfl
    remainder_ := lay_mk X G a_remainder l_remainder c_remainder k_remainder fun _ _ _ _ _ _ us hl => match us, hl with | [_, _], _ => rfl
    signed_rests_ := lay_mk X G a_signed_rests l_signed_rests c_signed_rests k_signed_rests fun _ _ _ _ _ _ us hl => match us, hl with | [_, _], _ => rfl
    row_of_ := lay_mk X G a_row_of l_row_of c_row_of k_row_of fun _ _ _ _ _ _ us hl => match us, hl with | [_], _ => rfl
    leading_ := lay_mk X G a_leading l_leading c_leading k_leading fun _ _ _ _ _ _ us hl => match us, hl with | [_, _], _ => rfl
    turns_of_ := lay_mk X G a_turns_of l_turns_of c_turns_of k_turns_of fun _ _ _ _ _ _ us hl => match us, hl with | [_, _], _ => rfl
    copied_ := lay_mk X G a_copied l_copied c_copied k_copied fun _ _ _ _ _ _ us hl => match us, hl with | [_], _ => rfl
    is_integer_ := lay_mk X G a_is_integer l_is_integer c_is_integer k_is_integer fun _ _ _ _ _ _ us hl => match us, hl with | [_], _ => rfl
    is_fraction_ := lay_mk X G a_is_fraction l_is_fraction c_is_fraction k_is_fraction fun _ _ _ _ _ _ us hl => match us, hl with | [_], _ => rfl
    is_polynomial_ := lay_mk X G a_is_polynomial l_is_polynomial c_is_polynomial k_is_polynomial fun _ _ _ _ _ _ us hl => match us, hl with | [_], _ => rfl
    check_polynomials_ := lay_mk X G a_check_polynomials l_check_polynomials c_check_polynomials k_check_polynomials fun _ _ _ _ _ _ us hl => match us, hl with | [_], _ => rfl
    check_not_zero_ := lay_mk X G a_check_not_zero l_check_not_zero c_check_not_zero k_check_not_zero fun _ _ _ _ _ _ us hl => match us, hl with | [_], _ => rfl
    check_fraction_ := lay_mk X G a_check_fraction l_check_fraction c_check_fraction k_check_fraction fun _ _ _ _ _ _ us hl => match us, hl with | [_], _ => rfl
    row_ := lay_mk X G a_row l_row c_row k_row fun _ _ _ _ _ _ us hl => match us, hl with | [_], _ => rfl
    turns_ := lay_mk X G a_turns l_turns c_turns k_turns fun _ _ _ _ _ _ us hl => match us, hl with | [_, _], _ => rfl
    l_sack_ := lay_mk X G a_l_sack l_l_sack c_l_sack k_l_sack fun _ _ _ _ _ _ us hl => match us, hl with | [_, _], _ => rfl
    l_coin_ := lay_mk X G a_l_coin l_l_coin c_l_coin k_l_coin fun _ _ _ _ _ _ us hl => match us, hl with | [_, _], _ => rfl
    l_shared_ := lay_mk X G a_l_shared l_l_shared c_l_shared k_l_shared fun _ _ _ _ _ _ us hl => match us, hl with | [_, _], _ => rfl
    l_ratio_ := lay_mk X G a_l_ratio l_l_ratio c_l_ratio k_l_ratio fun _ _ _ _ _ _ us hl => match us, hl with | [_, _], _ => rfl
    l_add_ := lay_mk X G a_l_add l_l_add c_l_add k_l_add fun _ _ _ _ _ _ us hl => match us, hl with | [_, _], _ => rfl
    l_mul_ := lay_mk X G a_l_mul l_l_mul c_l_mul k_l_mul fun _ _ _ _ _ _ us hl => match us, hl with | [_, _], _ => rfl
    l_trim_ := lay_mk X G a_l_trim l_l_trim c_l_trim k_l_trim fun _ _ _ _ _ _ us hl => match us, hl with | [_], _ => rfl
    l_product_ := lay_mk X G a_l_product l_l_product c_l_product k_l_product fun _ _ _ _ _ _ us hl => match us, hl with | [_, _], _ => rfl
    l_slope_ := lay_mk X G a_l_slope l_l_slope c_l_slope k_l_slope fun _ _ _ _ _ _ us hl => match us, hl with | [_], _ => rfl
    l_at_ := lay_mk X G a_l_at l_l_at c_l_at k_l_at fun _ _ _ _ _ _ us hl => match us, hl with | [_, _], _ => rfl
    l_thin_ := lay_mk X G a_l_thin l_l_thin c_l_thin k_l_thin fun _ _ _ _ _ _ us hl => match us, hl with | [_], _ => rfl
    l_left_ := lay_mk X G a_l_left l_l_left c_l_left k_l_left fun _ _ _ _ _ _ us hl => match us, hl with | [_, _], _ => rfl
    l_chain_ := lay_mk X G a_l_chain l_l_chain c_l_chain k_l_chain fun _ _ _ _ _ _ us hl => match us, hl with | [_], _ => rfl
    l_mark_ := lay_mk X G a_l_mark l_l_mark c_l_mark k_l_mark fun _ _ _ _ _ _ us hl => match us, hl with | [_, _], _ => rfl
    l_flips_ := lay_mk X G a_l_flips l_l_flips c_l_flips k_l_flips fun _ _ _ _ _ _ us hl => match us, hl with | [_, _], _ => rfl
    l_poly_ := lay_mk X G a_l_poly l_l_poly c_l_poly k_l_poly fun _ _ _ _ _ _ us hl => match us, hl with | [_, _], _ => rfl
    l_any_ratio_ := lay_mk X G a_l_any_ratio l_l_any_ratio c_l_any_ratio k_l_any_ratio fun _ _ _ _ _ _ us hl => match us, hl with | [_], _ => rfl
    l_copied_ := lay_mk X G a_l_copied l_l_copied c_l_copied k_l_copied fun _ _ _ _ _ _ us hl => match us, hl with | [_], _ => rfl
    l_lists_ := lay_mk X G a_l_lists l_l_lists c_l_lists k_l_lists fun _ _ _ _ _ _ us hl => match us, hl with | [_], _ => rfl
    l_marked_ := lay_mk X G a_l_marked l_l_marked c_l_marked k_l_marked fun _ _ _ _ _ _ us hl => match us, hl with | [_], _ => rfl
    l_right_ := lay_mk X G a_l_right l_l_right c_l_right k_l_right fun _ _ _ _ _ _ us hl => match us, hl with | [_, _], _ => rfl
    l_power_ := lay_mk X G a_l_power l_l_power c_l_power k_l_power fun _ _ _ _ _ _ us hl => match us, hl with | [_, _], _ => rfl
    l_whole_root_ := lay_mk X G a_l_whole_root l_l_whole_root c_l_whole_root k_l_whole_root fun _ _ _ _ _ _ us hl => match us, hl with | [_, _], _ => rfl
    l_number_ := lay_mk X G a_l_number l_l_number c_l_number k_l_number fun _ _ _ _ _ _ us hl => match us, hl with | [_, _, _], _ => rfl
    l_drawn_number_ := lay_mk X G a_l_drawn_number l_l_drawn_number c_l_drawn_number k_l_drawn_number fun _ _ _ _ _ _ us hl => match us, hl with | [_, _], _ => rfl
    l_base_ := lay_mk X G a_l_base l_l_base c_l_base k_l_base fun _ _ _ _ _ _ us hl => match us, hl with | [_], _ => rfl
    l_factor_ := lay_mk X G a_l_factor l_l_factor c_l_factor k_l_factor fun _ _ _ _ _ _ us hl => match us, hl with | [_], _ => rfl
    l_factors_ := lay_mk X G a_l_factors l_l_factors c_l_factors k_l_factors fun _ _ _ _ _ _ us hl => match us, hl with | [_, _], _ => rfl
    l_multiplied_ := lay_mk X G a_l_multiplied l_l_multiplied c_l_multiplied k_l_multiplied fun _ _ _ _ _ _ us hl => match us, hl with | [_, _], _ => rfl
    l_checked_ := lay_mk X G a_l_checked l_l_checked c_l_checked k_l_checked fun _ _ _ _ _ _ us hl => match us, hl with | [_], _ => rfl
    z_len := PySem.W.mg_none_of X G z_len
    z_max := PySem.W.mg_none_of X G z_max
    z_abs := PySem.W.mg_none_of X G z_abs
    z_int := PySem.W.mg_none_of X G z_int
    z_range := PySem.W.mg_none_of X G z_range
    z_list := PySem.W.mg_none_of X G z_list
    z_enumerate := PySem.W.mg_none_of X G z_enumerate
    z_isinstance := PySem.W.mg_none_of X G z_isinstance
    z_bool := PySem.W.mg_none_of X G z_bool
    z_tuple := PySem.W.mg_none_of X G z_tuple
    z_all := PySem.W.mg_none_of X G z_all
    z_repr := PySem.W.mg_none_of X G z_repr
    z_min := PySem.W.mg_none_of X G z_min
    z_sum := PySem.W.mg_none_of X G z_sum
    z_gcd := PySem.W.mg_of X G z_gcd
  }
  exact ⟨_, fun s v => .of_eq rfl, fun base _ _ => whole T (fun_mk (st := s_law) l_lw c_lw k_lw)⟩
end V2


open PyProof.Rows PySem.W PySem in
set_option maxRecDepth 99000 in
set_option maxHeartbeats 0 in
theorem PySem.Challenge.cw_valvelevels_k05_rows_of_rests_and_turns_holds : PySem.Challenge.rw_valvelevels_k05_rows_of_rests_and_turns.Holds := by
  w_on
  o_law
  k_head
  (case hw => w_witness2)
  k_fill
  refine V2.walk_G (l := PySem.Challenge.rw_valvelevels_k05_rows_of_rests_and_turns) (n := 63) (k := 8) (x := "script") (sp := V2.spLaw) rfl (by decide) rfl ⟨rfl, by decide, by decide⟩ (fun w h Y => PySem.W.kIn_of Y) ?F (fun K H a ns hl _ hS => ⟨a, ns, rfl, hS, hl, fun _ => rfl⟩)
  case F =>
    intro w mg fa h KX G hmg
    refine' V2.all_mk KX G hmg ?a_sign_of ?l_sign_of ?c_sign_of ?k_sign_of ?a_cut ?l_cut ?c_cut ?k_cut ?a_negated ?l_negated ?c_negated ?k_negated ?a_slope ?l_slope ?c_slope ?k_slope ?a_scaled_value ?l_scaled_value ?c_scaled_value ?k_scaled_value ?a_content ?l_content ?c_content ?k_content ?a_primitive ?l_primitive ?c_primitive ?k_primitive ?a_remainder ?l_remainder ?c_remainder ?k_remainder ?a_signed_rests ?l_signed_rests ?c_signed_rests ?k_signed_rests ?a_row_of ?l_row_of ?c_row_of ?k_row_of ?a_leading ?l_leading ?c_leading ?k_leading ?a_turns_of ?l_turns_of ?c_turns_of ?k_turns_of ?a_copied ?l_copied ?c_copied ?k_copied ?a_is_integer ?l_is_integer ?c_is_integer ?k_is_integer ?a_is_fraction ?l_is_fraction ?c_is_fraction ?k_is_fraction ?a_is_polynomial ?l_is_polynomial ?c_is_polynomial ?k_is_polynomial ?a_check_polynomials ?l_check_polynomials ?c_check_polynomials ?k_check_polynomials ?a_check_not_zero ?l_check_not_zero ?c_check_not_zero ?k_check_not_zero ?a_check_fraction ?l_check_fraction ?c_check_fraction ?k_check_fraction ?a_row ?l_row ?c_row ?k_row ?a_turns ?l_turns ?c_turns ?k_turns ?a_l_sack ?l_l_sack ?c_l_sack ?k_l_sack ?a_l_coin ?l_l_coin ?c_l_coin ?k_l_coin ?a_l_shared ?l_l_shared ?c_l_shared ?k_l_shared ?a_l_ratio ?l_l_ratio ?c_l_ratio ?k_l_ratio ?a_l_add ?l_l_add ?c_l_add ?k_l_add ?a_l_mul ?l_l_mul ?c_l_mul ?k_l_mul ?a_l_trim ?l_l_trim ?c_l_trim ?k_l_trim ?a_l_product ?l_l_product ?c_l_product ?k_l_product ?a_l_slope ?l_l_slope ?c_l_slope ?k_l_slope ?a_l_at ?l_l_at ?c_l_at ?k_l_at ?a_l_thin ?l_l_thin ?c_l_thin ?k_l_thin ?a_l_left ?l_l_left ?c_l_left ?k_l_left ?a_l_chain ?l_l_chain ?c_l_chain ?k_l_chain ?a_l_mark ?l_l_mark ?c_l_mark ?k_l_mark ?a_l_flips ?l_l_flips ?c_l_flips ?k_l_flips ?a_l_poly ?l_l_poly ?c_l_poly ?k_l_poly ?a_l_any_ratio ?l_l_any_ratio ?c_l_any_ratio ?k_l_any_ratio ?a_l_copied ?l_l_copied ?c_l_copied ?k_l_copied ?a_l_lists ?l_l_lists ?c_l_lists ?k_l_lists ?a_l_marked ?l_l_marked ?c_l_marked ?k_l_marked ?a_l_right ?l_l_right ?c_l_right ?k_l_right ?a_l_power ?l_l_power ?c_l_power ?k_l_power ?a_l_whole_root ?l_l_whole_root ?c_l_whole_root ?k_l_whole_root ?a_l_number ?l_l_number ?c_l_number ?k_l_number ?a_l_drawn_number ?l_l_drawn_number ?c_l_drawn_number ?k_l_drawn_number ?a_l_base ?l_l_base ?c_l_base ?k_l_base ?a_l_factor ?l_l_factor ?c_l_factor ?k_l_factor ?a_l_factors ?l_l_factors ?c_l_factors ?k_l_factors ?a_l_multiplied ?l_l_multiplied ?c_l_multiplied ?k_l_multiplied ?a_l_checked ?l_l_checked ?c_l_checked ?k_l_checked ?a_lw ?l_lw ?c_lw ?k_lw ?z_len ?z_max ?z_abs ?z_int ?z_range ?z_list ?z_enumerate ?z_isinstance ?z_bool ?z_tuple ?z_all ?z_repr ?z_min ?z_sum ?z_gcd
    (case a_sign_of => k_is)
    (case l_sign_of => k_is)
    (case c_sign_of => k_is)
    (case k_sign_of => k_is)
    (case a_cut => k_is)
    (case l_cut => k_is)
    (case c_cut => k_is)
    (case k_cut => k_is)
    (case a_negated => k_is)
    (case l_negated => k_is)
    (case c_negated => k_is)
    (case k_negated => k_is)
    (case a_slope => k_is)
    (case l_slope => k_is)
    (case c_slope => k_is)
    (case k_slope => k_is)
    (case a_scaled_value => k_is)
    (case l_scaled_value => k_is)
    (case c_scaled_value => k_is)
    (case k_scaled_value => k_is)
    (case a_content => k_is)
    (case l_content => k_is)
    (case c_content => k_is)
    (case k_content => k_is)
    (case a_primitive => k_is)
    (case l_primitive => k_is)
    (case c_primitive => k_is)
    (case k_primitive => k_is)
    (case a_remainder => k_is)
    (case l_remainder => k_is)
    (case c_remainder => k_is)
    (case k_remainder => k_is)
    (case a_signed_rests => k_is)
    (case l_signed_rests => k_is)
    (case c_signed_rests => k_is)
    (case k_signed_rests => k_is)
    (case a_row_of => k_is)
    (case l_row_of => k_is)
    (case c_row_of => k_is)
    (case k_row_of => k_is)
    (case a_leading => k_is)
    (case l_leading => k_is)
    (case c_leading => k_is)
    (case k_leading => k_is)
    (case a_turns_of => k_is)
    (case l_turns_of => k_is)
    (case c_turns_of => k_is)
    (case k_turns_of => k_is)
    (case a_copied => k_is)
    (case l_copied => k_is)
    (case c_copied => k_is)
    (case k_copied => k_is)
    (case a_is_integer => k_is)
    (case l_is_integer => k_is)
    (case c_is_integer => k_is)
    (case k_is_integer => k_is)
    (case a_is_fraction => k_is)
    (case l_is_fraction => k_is)
    (case c_is_fraction => k_is)
    (case k_is_fraction => k_is)
    (case a_is_polynomial => k_is)
    (case l_is_polynomial => k_is)
    (case c_is_polynomial => k_is)
    (case k_is_polynomial => k_is)
    (case a_check_polynomials => k_is)
    (case l_check_polynomials => k_is)
    (case c_check_polynomials => k_is)
    (case k_check_polynomials => k_is)
    (case a_check_not_zero => k_is)
    (case l_check_not_zero => k_is)
    (case c_check_not_zero => k_is)
    (case k_check_not_zero => k_is)
    (case a_check_fraction => k_is)
    (case l_check_fraction => k_is)
    (case c_check_fraction => k_is)
    (case k_check_fraction => k_is)
    (case a_row => k_is)
    (case l_row => k_is)
    (case c_row => k_is)
    (case k_row => k_is)
    (case a_turns => k_is)
    (case l_turns => k_is)
    (case c_turns => k_is)
    (case k_turns => k_is)
    (case a_l_sack => k_is)
    (case l_l_sack => k_is)
    (case c_l_sack => k_is)
    (case k_l_sack => k_is)
    (case a_l_coin => k_is)
    (case l_l_coin => k_is)
    (case c_l_coin => k_is)
    (case k_l_coin => k_is)
    (case a_l_shared => k_is)
    (case l_l_shared => k_is)
    (case c_l_shared => k_is)
    (case k_l_shared => k_is)
    (case a_l_ratio => k_is)
    (case l_l_ratio => k_is)
    (case c_l_ratio => k_is)
    (case k_l_ratio => k_is)
    (case a_l_add => k_is)
    (case l_l_add => k_is)
    (case c_l_add => k_is)
    (case k_l_add => k_is)
    (case a_l_mul => k_is)
    (case l_l_mul => k_is)
    (case c_l_mul => k_is)
    (case k_l_mul => k_is)
    (case a_l_trim => k_is)
    (case l_l_trim => k_is)
    (case c_l_trim => k_is)
    (case k_l_trim => k_is)
    (case a_l_product => k_is)
    (case l_l_product => k_is)
    (case c_l_product => k_is)
    (case k_l_product => k_is)
    (case a_l_slope => k_is)
    (case l_l_slope => k_is)
    (case c_l_slope => k_is)
    (case k_l_slope => k_is)
    (case a_l_at => k_is)
    (case l_l_at => k_is)
    (case c_l_at => k_is)
    (case k_l_at => k_is)
    (case a_l_thin => k_is)
    (case l_l_thin => k_is)
    (case c_l_thin => k_is)
    (case k_l_thin => k_is)
    (case a_l_left => k_is)
    (case l_l_left => k_is)
    (case c_l_left => k_is)
    (case k_l_left => k_is)
    (case a_l_chain => k_is)
    (case l_l_chain => k_is)
    (case c_l_chain => k_is)
    (case k_l_chain => k_is)
    (case a_l_mark => k_is)
    (case l_l_mark => k_is)
    (case c_l_mark => k_is)
    (case k_l_mark => k_is)
    (case a_l_flips => k_is)
    (case l_l_flips => k_is)
    (case c_l_flips => k_is)
    (case k_l_flips => k_is)
    (case a_l_poly => k_is)
    (case l_l_poly => k_is)
    (case c_l_poly => k_is)
    (case k_l_poly => k_is)
    (case a_l_any_ratio => k_is)
    (case l_l_any_ratio => k_is)
    (case c_l_any_ratio => k_is)
    (case k_l_any_ratio => k_is)
    (case a_l_copied => k_is)
    (case l_l_copied => k_is)
    (case c_l_copied => k_is)
    (case k_l_copied => k_is)
    (case a_l_lists => k_is)
    (case l_l_lists => k_is)
    (case c_l_lists => k_is)
    (case k_l_lists => k_is)
    (case a_l_marked => k_is)
    (case l_l_marked => k_is)
    (case c_l_marked => k_is)
    (case k_l_marked => k_is)
    (case a_l_right => k_is)
    (case l_l_right => k_is)
    (case c_l_right => k_is)
    (case k_l_right => k_is)
    (case a_l_power => k_is)
    (case l_l_power => k_is)
    (case c_l_power => k_is)
    (case k_l_power => k_is)
    (case a_l_whole_root => k_is)
    (case l_l_whole_root => k_is)
    (case c_l_whole_root => k_is)
    (case k_l_whole_root => k_is)
    (case a_l_number => k_is)
    (case l_l_number => k_is)
    (case c_l_number => k_is)
    (case k_l_number => k_is)
    (case a_l_drawn_number => k_is)
    (case l_l_drawn_number => k_is)
    (case c_l_drawn_number => k_is)
    (case k_l_drawn_number => k_is)
    (case a_l_base => k_is)
    (case l_l_base => k_is)
    (case c_l_base => k_is)
    (case k_l_base => k_is)
    (case a_l_factor => k_is)
    (case l_l_factor => k_is)
    (case c_l_factor => k_is)
    (case k_l_factor => k_is)
    (case a_l_factors => k_is)
    (case l_l_factors => k_is)
    (case c_l_factors => k_is)
    (case k_l_factors => k_is)
    (case a_l_multiplied => k_is)
    (case l_l_multiplied => k_is)
    (case c_l_multiplied => k_is)
    (case k_l_multiplied => k_is)
    (case a_l_checked => k_is)
    (case l_l_checked => k_is)
    (case c_l_checked => k_is)
    (case k_l_checked => k_is)
    (case a_lw => k_is)
    (case l_lw => k_is)
    (case c_lw => k_is)
    (case k_lw => k_is)
    (case z_len => k_is)
    (case z_max => k_is)
    (case z_abs => k_is)
    (case z_int => k_is)
    (case z_range => k_is)
    (case z_list => k_is)
    (case z_enumerate => k_is)
    (case z_isinstance => k_is)
    (case z_bool => k_is)
    (case z_tuple => k_is)
    (case z_all => k_is)
    (case z_repr => k_is)
    (case z_min => k_is)
    (case z_sum => k_is)
    (case z_gcd => k_is)


