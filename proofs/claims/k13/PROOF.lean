import PyProof.Rows.All
import Wide.All
import OpenK.AllK
import Wide.FinOn
import HandS.ForMost
import HandS.ForExc
import HandS.Wide
import HandS.Gcd
import HandS.IsInst
import HandS.Defaults
import HandS.Flow
import HandS.EndBits
import HandS.Property
import HandS.Walk
import HandS.Style
import PySem.Challenge.RW_valvelevels_k13_scripts_told
import HandS.Evl
import HandS.Steps
import PyProof.ReprRoads
import HandS.Head0
import HandS.Head1
import HandS.Head2
import HandS.Head3
import HandS.HeadHook1
import HandS.HeadHook2
import HandS.More
import HandS.Star
import KE.KExcIs
import HandS.TryOnly
import HandS.ExcInit
import HandS.ExcField
import HandS.ExcOwn
import HandS.ExcIs
import HandS.OwnEq
import KE.KFmtOwn
import HandS.Text
import PyProof.ReprReads
import HandS.Iter
import HandS.Dict
import HandS.Deep
import HandS.Exc
import HandS.WordsExc
import HandS.MakeKwOnly
import HandS.HotCalls
import HandS.Lambda
import PyProof.Rows.Digits
import PyProof.StrReplace2
set_option Elab.async false
set_option linter.all false
set_option maxRecDepth 100000
set_option maxHeartbeats 20000000
set_option exponentiation.threshold 100000
namespace V2
open PySem L2
/-! the text by its places -/
def topS (i : Nat) : Stmt := PySem.Challenge.pw_valvelevels_k13_scripts_told.main.body.getD i (.Pass ⟨0, 0, 0, 0⟩)
/-- a def in a class's body -/
def inClass (st : Stmt) (i : Nat) : Stmt := match st with
  | .ClassDef _ _ _ body _ _ _ _ _ _ _ => body.getD i (.Pass ⟨0, 0, 0, 0⟩)
  | _ => .Pass ⟨0, 0, 0, 0⟩

abbrev s_order_of_fractions : Stmt := topS 2
abbrev n_order_of_fractions : List Str := ["one", "other"]
abbrev p_order_of_fractions : List Str := ["one", "other"]
theorem sc_order_of_fractions : FnScope n_order_of_fractions p_order_of_fractions (defScope s_order_of_fractions) := ⟨rfl, rfl, rfl, by decide +kernel, rfl, by decide +kernel, by decide +kernel⟩
abbrev s_sign_of : Stmt := topS 3
abbrev n_sign_of : List Str := ["number"]
abbrev p_sign_of : List Str := ["number"]
theorem sc_sign_of : FnScope n_sign_of p_sign_of (defScope s_sign_of) := ⟨rfl, rfl, rfl, by decide +kernel, rfl, by decide +kernel, by decide +kernel⟩
abbrev s_TE_init : Stmt := inClass (topS 5) 0
abbrev n_TE_init : List Str := ["self", "value"]
abbrev p_TE_init : List Str := ["self", "value"]
theorem sc_TE_init : FnScope n_TE_init p_TE_init (defScope s_TE_init) := ⟨rfl, rfl, rfl, by decide +kernel, rfl, by decide +kernel, by decide +kernel⟩
abbrev s_copied : Stmt := topS 12
abbrev n_copied : List Str := ["thing", "part"]
abbrev p_copied : List Str := ["thing"]
theorem sc_copied : FnScope n_copied p_copied (defScope s_copied) := ⟨rfl, rfl, rfl, by decide +kernel, rfl, by decide +kernel, by decide +kernel⟩
abbrev s_is_integer : Stmt := topS 13
abbrev n_is_integer : List Str := ["thing"]
abbrev p_is_integer : List Str := ["thing"]
theorem sc_is_integer : FnScope n_is_integer p_is_integer (defScope s_is_integer) := ⟨rfl, rfl, rfl, by decide +kernel, rfl, by decide +kernel, by decide +kernel⟩
abbrev s_is_fraction : Stmt := topS 14
abbrev n_is_fraction : List Str := ["thing", "above", "below"]
abbrev p_is_fraction : List Str := ["thing"]
theorem sc_is_fraction : FnScope n_is_fraction p_is_fraction (defScope s_is_fraction) := ⟨rfl, rfl, rfl, by decide +kernel, rfl, by decide +kernel, by decide +kernel⟩
abbrev s_is_amount : Stmt := topS 17
abbrev n_is_amount : List Str := ["thing"]
abbrev p_is_amount : List Str := ["thing"]
theorem sc_is_amount : FnScope n_is_amount p_is_amount (defScope s_is_amount) := ⟨rfl, rfl, rfl, by decide +kernel, rfl, by decide +kernel, by decide +kernel⟩
abbrev s_is_tank : Stmt := topS 18
abbrev n_is_tank : List Str := ["thing", "width", "amount"]
abbrev p_is_tank : List Str := ["thing"]
theorem sc_is_tank : FnScope n_is_tank p_is_tank (defScope s_is_tank) := ⟨rfl, rfl, rfl, by decide +kernel, rfl, by decide +kernel, by decide +kernel⟩
abbrev s_check_tanks : Stmt := topS 19
abbrev n_check_tanks : List Str := ["tanks", "tank"]
abbrev p_check_tanks : List Str := ["tanks"]
theorem sc_check_tanks : FnScope n_check_tanks p_check_tanks (defScope s_check_tanks) := ⟨rfl, rfl, rfl, by decide +kernel, rfl, by decide +kernel, by decide +kernel⟩
abbrev s_is_ascending : Stmt := topS 20
abbrev n_is_ascending : List Str := ["told", "number", "k"]
abbrev p_is_ascending : List Str := ["told"]
theorem sc_is_ascending : FnScope n_is_ascending p_is_ascending (defScope s_is_ascending) := ⟨rfl, rfl, rfl, by decide +kernel, rfl, by decide +kernel, by decide +kernel⟩
abbrev s_is_step : Stmt := topS 21
abbrev n_is_step : List Str := ["thing", "word"]
abbrev p_is_step : List Str := ["thing"]
theorem sc_is_step : FnScope n_is_step p_is_step (defScope s_is_step) := ⟨rfl, rfl, rfl, by decide +kernel, rfl, by decide +kernel, by decide +kernel⟩
abbrev s_tanks_of : Stmt := topS 22
abbrev n_tanks_of : List Str := ["step"]
abbrev p_tanks_of : List Str := ["step"]
theorem sc_tanks_of : FnScope n_tanks_of p_tanks_of (defScope s_tanks_of) := ⟨rfl, rfl, rfl, by decide +kernel, rfl, by decide +kernel, by decide +kernel⟩
abbrev s_check_numbers : Stmt := topS 23
abbrev n_check_numbers : List Str := ["numbers", "many", "number"]
abbrev p_check_numbers : List Str := ["numbers", "many"]
theorem sc_check_numbers : FnScope n_check_numbers p_check_numbers (defScope s_check_numbers) := ⟨rfl, rfl, rfl, by decide +kernel, rfl, by decide +kernel, by decide +kernel⟩
abbrev s_check_part : Stmt := topS 24
abbrev n_check_part : List Str := ["part"]
abbrev p_check_part : List Str := ["part"]
theorem sc_check_part : FnScope n_check_part p_check_part (defScope s_check_part) := ⟨rfl, rfl, rfl, by decide +kernel, rfl, by decide +kernel, by decide +kernel⟩
abbrev s_check_step : Stmt := topS 25
abbrev n_check_step : List Str := ["step", "many"]
abbrev p_check_step : List Str := ["step", "many"]
theorem sc_check_step : FnScope n_check_step p_check_step (defScope s_check_step) := ⟨rfl, rfl, rfl, by decide +kernel, rfl, by decide +kernel, by decide +kernel⟩
abbrev s_check_index : Stmt := topS 26
abbrev n_check_index : List Str := ["index", "many"]
abbrev p_check_index : List Str := ["index", "many"]
theorem sc_check_index : FnScope n_check_index p_check_index (defScope s_check_index) := ⟨rfl, rfl, rfl, by decide +kernel, rfl, by decide +kernel, by decide +kernel⟩
abbrev s_check_exchange : Stmt := topS 27
abbrev n_check_exchange : List Str := ["index", "many"]
abbrev p_check_exchange : List Str := ["index", "many"]
theorem sc_check_exchange : FnScope n_check_exchange p_check_exchange (defScope s_check_exchange) := ⟨rfl, rfl, rfl, by decide +kernel, rfl, by decide +kernel, by decide +kernel⟩
abbrev s_Sc_init : Stmt := inClass (topS 29) 0
abbrev n_Sc_init : List Str := ["self", "tanks", "steps", "step"]
abbrev p_Sc_init : List Str := ["self", "tanks", "steps"]
theorem sc_Sc_init : FnScope n_Sc_init p_Sc_init (defScope s_Sc_init) := ⟨rfl, rfl, rfl, by decide +kernel, rfl, by decide +kernel, by decide +kernel⟩
abbrev s_Sc_tanks : Stmt := inClass (topS 29) 1
abbrev n_Sc_tanks : List Str := ["self"]
abbrev p_Sc_tanks : List Str := ["self"]
theorem sc_Sc_tanks : FnScope n_Sc_tanks p_Sc_tanks (defScope s_Sc_tanks) := ⟨rfl, rfl, rfl, by decide +kernel, rfl, by decide +kernel, by decide +kernel⟩
abbrev s_Sc_steps : Stmt := inClass (topS 29) 2
abbrev n_Sc_steps : List Str := ["self"]
abbrev p_Sc_steps : List Str := ["self"]
theorem sc_Sc_steps : FnScope n_Sc_steps p_Sc_steps (defScope s_Sc_steps) := ⟨rfl, rfl, rfl, by decide +kernel, rfl, by decide +kernel, by decide +kernel⟩
abbrev s_Sc_unknown : Stmt := inClass (topS 29) 3
abbrev n_Sc_unknown : List Str := ["self", "width", "_"]
abbrev p_Sc_unknown : List Str := ["self"]
theorem sc_Sc_unknown : FnScope n_Sc_unknown p_Sc_unknown (defScope s_Sc_unknown) := ⟨rfl, rfl, rfl, by decide +kernel, rfl, by decide +kernel, by decide +kernel⟩
abbrev s_Sc_getitem : Stmt := inClass (topS 29) 4
abbrev n_Sc_getitem : List Str := ["self", "at"]
abbrev p_Sc_getitem : List Str := ["self", "at"]
theorem sc_Sc_getitem : FnScope n_Sc_getitem p_Sc_getitem (defScope s_Sc_getitem) := ⟨rfl, rfl, rfl, by decide +kernel, rfl, by decide +kernel, by decide +kernel⟩
abbrev s_Sc_iter : Stmt := inClass (topS 29) 5
abbrev n_Sc_iter : List Str := ["self"]
abbrev p_Sc_iter : List Str := ["self"]
theorem sc_Sc_iter : FnScope n_Sc_iter p_Sc_iter (defScope s_Sc_iter) := ⟨rfl, rfl, rfl, by decide +kernel, rfl, by decide +kernel, by decide +kernel⟩
abbrev s_Sc_without : Stmt := inClass (topS 29) 6
abbrev n_Sc_without : List Str := ["self", "index"]
abbrev p_Sc_without : List Str := ["self", "index"]
theorem sc_Sc_without : FnScope n_Sc_without p_Sc_without (defScope s_Sc_without) := ⟨rfl, rfl, rfl, by decide +kernel, rfl, by decide +kernel, by decide +kernel⟩
abbrev s_Sc_exchanged : Stmt := inClass (topS 29) 7
abbrev n_Sc_exchanged : List Str := ["self", "index", "first", "behind"]
abbrev p_Sc_exchanged : List Str := ["self", "index"]
theorem sc_Sc_exchanged : FnScope n_Sc_exchanged p_Sc_exchanged (defScope s_Sc_exchanged) := ⟨rfl, rfl, rfl, by decide +kernel, rfl, by decide +kernel, by decide +kernel⟩
abbrev s_Sc_len : Stmt := inClass (topS 29) 8
abbrev n_Sc_len : List Str := ["self"]
abbrev p_Sc_len : List Str := ["self"]
theorem sc_Sc_len : FnScope n_Sc_len p_Sc_len (defScope s_Sc_len) := ⟨rfl, rfl, rfl, by decide +kernel, rfl, by decide +kernel, by decide +kernel⟩
abbrev s_Sc_eq : Stmt := inClass (topS 29) 9
abbrev n_Sc_eq : List Str := ["self", "other"]
abbrev p_Sc_eq : List Str := ["self", "other"]
theorem sc_Sc_eq : FnScope n_Sc_eq p_Sc_eq (defScope s_Sc_eq) := ⟨rfl, rfl, rfl, by decide +kernel, rfl, by decide +kernel, by decide +kernel⟩
abbrev s_l_sack : Stmt := topS 31
abbrev n_l_sack : List Str := ["script", "rank", "cell"]
abbrev p_l_sack : List Str := ["script", "rank"]
theorem sc_l_sack : FnScope n_l_sack p_l_sack (defScope s_l_sack) := ⟨rfl, rfl, rfl, by decide +kernel, rfl, by decide +kernel, by decide +kernel⟩
abbrev s_l_coin : Stmt := topS 32
abbrev n_l_coin : List Str := ["sack", "many", "drawn", "stirred"]
abbrev p_l_coin : List Str := ["sack", "many"]
theorem sc_l_coin : FnScope n_l_coin p_l_coin (defScope s_l_coin) := ⟨rfl, rfl, rfl, by decide +kernel, rfl, by decide +kernel, by decide +kernel⟩
abbrev s_l_shared : Stmt := topS 33
abbrev n_l_shared : List Str := ["left", "right", "turn"]
abbrev p_l_shared : List Str := ["left", "right"]
theorem sc_l_shared : FnScope n_l_shared p_l_shared (defScope s_l_shared) := ⟨rfl, rfl, rfl, by decide +kernel, rfl, by decide +kernel, by decide +kernel⟩
abbrev s_l_ratio : Stmt := topS 34
abbrev n_l_ratio : List Str := ["up", "down", "shared"]
abbrev p_l_ratio : List Str := ["up", "down"]
theorem sc_l_ratio : FnScope n_l_ratio p_l_ratio (defScope s_l_ratio) := ⟨rfl, rfl, rfl, by decide +kernel, rfl, by decide +kernel, by decide +kernel⟩
abbrev s_l_copied : Stmt := topS 35
abbrev n_l_copied : List Str := ["thing", "part"]
abbrev p_l_copied : List Str := ["thing"]
theorem sc_l_copied : FnScope n_l_copied p_l_copied (defScope s_l_copied) := ⟨rfl, rfl, rfl, by decide +kernel, rfl, by decide +kernel, by decide +kernel⟩
abbrev s_l_lists : Stmt := topS 36
abbrev n_l_lists : List Str := ["thing", "found", "part"]
abbrev p_l_lists : List Str := ["thing"]
theorem sc_l_lists : FnScope n_l_lists p_l_lists (defScope s_l_lists) := ⟨rfl, rfl, rfl, by decide +kernel, rfl, by decide +kernel, by decide +kernel⟩
abbrev s_l_marked : Stmt := topS 37
abbrev n_l_marked : List Str := ["thing", "some", "k"]
abbrev p_l_marked : List Str := ["thing"]
theorem sc_l_marked : FnScope n_l_marked p_l_marked (defScope s_l_marked) := ⟨rfl, rfl, rfl, by decide +kernel, rfl, by decide +kernel, by decide +kernel⟩
abbrev s_l_right : Stmt := topS 38
abbrev n_l_right : List Str := ["found", "due"]
abbrev p_l_right : List Str := ["found", "due"]
theorem sc_l_right : FnScope n_l_right p_l_right (defScope s_l_right) := ⟨rfl, rfl, rfl, by decide +kernel, rfl, by decide +kernel, by decide +kernel⟩
abbrev s_l_part : Stmt := topS 39
abbrev n_l_part : List Str := ["sack", "most", "down"]
abbrev p_l_part : List Str := ["sack", "most"]
theorem sc_l_part : FnScope n_l_part p_l_part (defScope s_l_part) := ⟨rfl, rfl, rfl, by decide +kernel, rfl, by decide +kernel, by decide +kernel⟩
abbrev s_l_vessels : Stmt := topS 40
abbrev n_l_vessels : List Str := ["sack", "many", "most", "rank", "found", "k", "filled", "broad"]
abbrev p_l_vessels : List Str := ["sack", "many", "most"]
theorem sc_l_vessels : FnScope n_l_vessels p_l_vessels (defScope s_l_vessels) := ⟨rfl, rfl, rfl, by decide +kernel, rfl, by decide +kernel, by decide +kernel⟩
abbrev s_l_two : Stmt := topS 41
abbrev n_l_two : List Str := ["sack", "many", "left"]
abbrev p_l_two : List Str := ["sack", "many"]
theorem sc_l_two : FnScope n_l_two p_l_two (defScope s_l_two) := ⟨rfl, rfl, rfl, by decide +kernel, rfl, by decide +kernel, by decide +kernel⟩
abbrev s_l_deed : Stmt := topS 42
abbrev n_l_deed : List Str := ["sack", "many", "most", "kinds", "kind", "left", "right", "k"]
abbrev p_l_deed : List Str := ["sack", "many", "most", "kinds"]
theorem sc_l_deed : FnScope n_l_deed p_l_deed (defScope s_l_deed) := ⟨rfl, rfl, rfl, by decide +kernel, rfl, by decide +kernel, by decide +kernel⟩
abbrev s_l_shape : Stmt := topS 43
abbrev n_l_shape : List Str := ["sack", "most", "many", "deeds", "valves", "halts", "turn", "kinds", "deed"]
abbrev p_l_shape : List Str := ["sack"]
theorem sc_l_shape : FnScope n_l_shape p_l_shape (defScope s_l_shape) := ⟨rfl, rfl, rfl, by decide +kernel, rfl, by decide +kernel, by decide +kernel⟩
abbrev s_l_long : Stmt := topS 44
abbrev n_l_long : List Str := ["sack", "many", "kinds", "size", "deeds", "turn"]
abbrev p_l_long : List Str := ["sack"]
theorem sc_l_long : FnScope n_l_long p_l_long (defScope s_l_long) := ⟨rfl, rfl, rfl, by decide +kernel, rfl, by decide +kernel, by decide +kernel⟩
abbrev s_l_script : Stmt := topS 45
abbrev n_l_script : List Str := ["shape"]
abbrev p_l_script : List Str := ["shape"]
theorem sc_l_script : FnScope n_l_script p_l_script (defScope s_l_script) := ⟨rfl, rfl, rfl, by decide +kernel, rfl, by decide +kernel, by decide +kernel⟩
abbrev s_l_same_script : Stmt := topS 46
abbrev n_l_same_script : List Str := ["made", "shape", "vessels", "deeds", "lone", "turn", "found", "again", "k"]
abbrev p_l_same_script : List Str := ["made", "shape"]
theorem sc_l_same_script : FnScope n_l_same_script p_l_same_script (defScope s_l_same_script) := ⟨rfl, rfl, rfl, by decide +kernel, rfl, by decide +kernel, by decide +kernel⟩
abbrev s_l_at_index : Stmt := topS 47
abbrev n_l_at_index : List Str := ["made", "way", "spot_here", "found", "e"]
abbrev p_l_at_index : List Str := ["made", "way", "spot_here"]
theorem sc_l_at_index : FnScope n_l_at_index p_l_at_index (defScope s_l_at_index) := ⟨rfl, rfl, rfl, by decide +kernel, rfl, by decide +kernel, by decide +kernel⟩
abbrev s_l_indexes_right : Stmt := topS 48
abbrev n_l_indexes_right : List Str := ["sack", "made", "deeds", "size", "spots", "k", "lesser", "swapped", "first", "way", "due"]
abbrev p_l_indexes_right : List Str := ["sack", "made", "deeds"]
theorem sc_l_indexes_right : FnScope n_l_indexes_right p_l_indexes_right (defScope s_l_indexes_right) := ⟨rfl, rfl, rfl, by decide +kernel, rfl, by decide +kernel, by decide +kernel⟩
abbrev s_l_near : Stmt := topS 49
abbrev n_l_near : List Str := ["sack", "shape", "vessels", "deeds", "way", "many", "k", "broad", "filled"]
abbrev p_l_near : List Str := ["sack", "shape"]
theorem sc_l_near : FnScope n_l_near p_l_near (defScope s_l_near) := ⟨rfl, rfl, rfl, by decide +kernel, rfl, by decide +kernel, by decide +kernel⟩
abbrev s_l_equal_right : Stmt := topS 50
abbrev n_l_equal_right : List Str := ["sack", "made", "shape", "rival", "fellow", "due", "thing"]
abbrev p_l_equal_right : List Str := ["sack", "made", "shape"]
theorem sc_l_equal_right : FnScope n_l_equal_right p_l_equal_right (defScope s_l_equal_right) := ⟨rfl, rfl, rfl, by decide +kernel, rfl, by decide +kernel, by decide +kernel⟩
abbrev s_l_checked : Stmt := topS 51
abbrev n_l_checked : List Str := ["sack", "shape", "vessels", "deeds", "made", "turn", "size", "elder", "former", "k", "pair"]
abbrev p_l_checked : List Str := ["sack"]
theorem sc_l_checked : FnScope n_l_checked p_l_checked (defScope s_l_checked) := ⟨rfl, rfl, rfl, by decide +kernel, rfl, by decide +kernel, by decide +kernel⟩
abbrev s_law : Stmt := topS 52
abbrev n_law : List Str := ["script", "rank"]
abbrev p_law : List Str := ["script"]
theorem sc_law : FnScope n_law p_law (defScope s_law) := ⟨rfl, rfl, rfl, by decide +kernel, rfl, by decide +kernel, by decide +kernel⟩
end V2


namespace V2
open PySem L2
open PySem.Spec PyProof.Rows
def CPowX (i j : Int) : Prop := 0 ≤ j ∧ (Builtin.Int.intBits i : Int) * j ≤ 2 ^ 27
theorem op_powX {X : Cx} : OpR X (binaryOp .Pow) (rI CPowX fun i j => .int (i ^ j.toNat)) :=
  opI fun _ _ _ _ _ _ _ hc q => pow_int hc.1 hc.2 q
theorem pow_ok {i : Int} {k n : Nat} (hi : i.natAbs < 2 ^ k) (h : k * n ≤ 134217728) : CPowX i (n : Int) := by
  (refine ⟨Int.natCast_nonneg _, ?_⟩)
  have h1 := intBits_le hi
  have h2 : Builtin.Int.intBits i * n ≤ k * n := Nat.mul_le_mul_right n h1
  have h3 : ((Builtin.Int.intBits i * n : Nat) : Int) ≤ 134217728 := by omega
  have e : (2 : Int) ^ 27 = 134217728 := (by decide)
  rw [e, ← Int.natCast_mul]
  exact h3
/-- all but the list at p is as it was (and there may be new things) -/
def But (p : Addr) (H H' : Hp) : Prop := ∀ b o, b ≠ p → H b = some o → H' b = some o
theorem But.refl (p : Addr) (H : Hp) : But p H H := fun _ _ _ h => h
theorem But.trans {p : Addr} {H H1 H2 : Hp} (a : But p H H1) (b : But p H1 H2) : But p H H2 := fun c o n h => b c o n (a c o n h)
theorem But.of_ex {p : Addr} {H H' : Hp} (e : Evl.Ex H H') : But p H H' := fun b o _ h => e b o h
theorem But.upd {p : Addr} {H : Hp} {o : HO} : But p H (upd H p o) := fun b u n h => by
  rw [upd_ne n]; exact h
/-- the law's sack at p: three ints, at most m draws so far -/
def Sk (H : Hp) (p : Addr) (m : Nat) : Prop := ∃ a b c : Int, H p = some (.lst [.int a, .int b, .int c]) ∧ 0 ≤ a ∧ 0 ≤ b ∧ b < 2 ^ 80 ∧ 0 ≤ c ∧ c ≤ m
theorem Sk.le {H : Hp} {p : Addr} {m n : Nat} (h : Sk H p m) (l : m ≤ n) : Sk H p n := by
  obtain ⟨a, b, c, h1, h2, h3, h4, h5, h6⟩ := h
  exact ⟨a, b, c, h1, h2, h3, h4, h5, by omega⟩
theorem Sk.ex {H H' : Hp} {p : Addr} {m : Nat} (h : Sk H p m) (e : Evl.Ex H H') : Sk H' p m := by
  obtain ⟨a, b, c, h1, h2⟩ := h
  exact ⟨a, b, c, e _ _ h1, h2⟩
/-- a draw: any number below many, the sack goes on -/
def spCoin : Sp := fun vs H Q _ => ∃ (p : Addr) (many : Int) (m : Nat), vs = [.ref p, .int many] ∧ Sk H p m ∧ m ≤ 100000 ∧ 0 < many ∧ many.natAbs < 2 ^ 200 ∧
  ∀ (r : Int) (H' : Hp), 0 ≤ r → r < many → But p H H' → Sk H' p (m + 1) → (∀ q, H q = none → H' q = none) → Q (.int r) H'
structure T0 (mg : Str → Option Value) : Prop where
  len : mg "len" = none
  max : mg "max" = none
  abs : mg "abs" = none
  int : mg "int" = none
theorem at0 {a b c : V} : atI [a, b, c] 0 = some a := by rfl
theorem at1 {a b c : V} : atI [a, b, c] 1 = some b := by rfl
theorem at2 {a b c : V} : atI [a, b, c] 2 = some c := by rfl
theorem ixN3 (j : Nat) (h : j < 3) : ixN 3 (j : Int) = some j := Evl.ixN_nat h
section
variable {base : Heap} {mg : Str → Option Value} {K : PySem.W.Frag} {w : World} {P : Program}
theorem ok_coin {f : Addr} {fd : FuncData} (F : Fun K "_law_pv_coin" "_law_pv_coin" s_l_coin f fd) (T : T0 mg) : FnOk P w K mg base CX0 1 f fd p_l_coin spCoin := by
  refine F.ok sc_l_coin (fun vs H Q E h => ?_) (fun cdv A outer s H vs Q E hr h => ?_)
  · obtain ⟨p, many, m, rfl, _⟩ := h
    rfl
  · obtain ⟨p, many, m, rfl, ⟨a, b, c, hp, ha, hb, hb2, hc, hc2⟩, hm, h0, h200, k⟩ := h
    have nd := sc_l_coin.nd
    refine ⟨_, pss_cons (ps_if (pt_cmpR op_gt (pe_ix ix_list (pv 0) pe_int (fun _ _ => rfl)) pe_int (nomark _))
        (pss_cons (ps_set (i := 2) nd rfl (Or.inl rfl) (pe_op op_mod (pe_callTy call_int1 (by rfl) T.int (by decide +kernel) (pa_cons (pe_ix ix_list (pv 0) pe_int (fun _ _ => rfl)) pa_nil)) (pv 1)))
        (pss_cons (ps_asg (pe_op op_fdivW (pe_ix ix_list (pv 0) pe_int (fun _ _ => rfl)) (pv 1)) (pg_sub (pv 0) pe_int set_list))
        (pss_one (ps_ret (pv 2))))) pss_nil)
      (pss_cons (ps_asg (pe_op op_add (pe_ix ix_list (pv 0) pe_int (fun _ _ => rfl)) pe_int) (pg_sub (pv 0) pe_int set_list))
      (pss_cons (ps_set (i := 3) nd rfl (Or.inl rfl) (pe_op op_mod (pe_op op_powX (pe_callTy call_int1 (by rfl) T.int (by decide +kernel) (pa_cons (pe_op op_add (pe_ix ix_list (pv 0) pe_int (fun _ _ => rfl)) (pe_op op_mul pe_int (pe_ix ix_list (pv 0) pe_int (fun _ _ => rfl)))) pa_nil)) pe_int) (pe_op op_add (pe_op op_powX pe_int pe_int) pe_int)))
      (pss_cons (ps_set (i := 3) nd rfl (Or.inl rfl) (pe_op op_mod (pe_op op_powX (pe_callTy call_int1 (by rfl) T.int (by decide +kernel) (pa_cons (pe_op op_add (pv 3) (pe_op op_mul pe_int (pe_ix ix_list (pv 0) pe_int (fun _ _ => rfl)))) pa_nil)) pe_int) (pe_op op_add (pe_op op_powX pe_int pe_int) pe_int)))
      (pss_one (ps_ret (pe_op op_mod (pe_callTy call_int1 (by rfl) T.int (by decide +kernel) (pa_cons (pe_op op_fdivW (pv 3) pe_int) pa_nil)) (pv 1))))))), ?_⟩
    refine ⟨_, rfl, p, _, _, _, rfl, rfl, SqL.of hp, at0, _, _, rfl, rfl, _, rfl, ?_⟩
    refine ite2 (fun q => ?_) (fun _ => ?_)
    · have q0 : 0 < a := by simpa using q
      refine ⟨_, rfl, p, _, _, _, rfl, rfl, SqL.of hp, at0, .inl ⟨_, rfl, _, rfl, _, _, rfl, rfl, h0, ?_⟩⟩
      refine ⟨_, rfl, p, _, _, _, rfl, rfl, SqL.of hp, at0, _, rfl, _, _, rfl, rfl, wide_div h0 h200 (by decide) (by decide), _, rfl, p, _, 0, 0, rfl, rfl, hp, ixN3 0 (by decide), ?_⟩
      refine ⟨_, rfl, k _ _ (Int.emod_nonneg _ (by omega)) (Int.emod_lt_of_pos _ h0) But.upd ⟨a / many, b, c, upd_same, Int.ediv_nonneg ha (by omega), hb, hb2, hc, by omega⟩ (fun q hq => ?_)⟩
      rw [upd_ne (fun z => by rw [z, hp] at hq; cases hq)]; exact hq
    · have e24 : ((10 : Int) ^ (24 : Int).toNat + 7) = 1000000000000000000000007 := by decide
      have e25 : ((10 : Int) ^ (25 : Int).toNat + 13) = 10000000000000000000000013 := by decide
      have p80 : (2 : Int) ^ 80 = 1208925819614629174706176 := by decide
      have n81 : (2 : Nat) ^ 81 = 2417851639229258349412352 := by decide
      have n85 : (2 : Nat) ^ 85 = 38685626227668133590597632 := by decide
      rw [p80] at hb2
      have w1 : CPowX (b + 1640531527 * (c + 1)) 3 := pow_ok (k := 81) (n := 3) (by rw [n81]; omega) (by decide)
      have w25 : CPowX 10 25 := pow_ok (k := 4) (n := 25) (by decide) (by decide)
      have w24 : CPowX 10 24 := pow_ok (k := 4) (n := 24) (by decide) (by decide)
      have hp2 : upd H p (.lst [.int a, .int b, .int (c + 1)]) p = some (.lst [.int a, .int b, .int (c + 1)]) := upd_same
      refine ⟨_, rfl, p, _, _, _, rfl, rfl, SqL.of hp, at2, _, _, rfl, rfl, _, rfl, p, _, 2, 2, rfl, rfl, hp, ixN3 2 (by decide), ?_⟩
      refine ⟨_, rfl, p, _, _, _, rfl, rfl, SqL.of hp2, at1, _, rfl, p, _, _, _, rfl, rfl, SqL.of hp2, at2, _, _, rfl, rfl, .inl ⟨by decide, by decide⟩, _, _, rfl, rfl, .inl ⟨_, rfl, ?_⟩⟩
      have g25 : (0 : Int) < 10 ^ (25 : Int).toNat + 13 := by rw [e25]; decide
      have g24 : (0 : Int) < 10 ^ (24 : Int).toNat + 7 := by rw [e24]; decide
      refine ⟨_, 3, rfl, rfl, w1, 10, 25, rfl, rfl, w25, _, 13, rfl, rfl, _, _, rfl, rfl, g25, ?_⟩
      have x0 : 0 ≤ (b + 1640531527 * (c + 1)) ^ (3 : Int).toNat % (10 ^ (25 : Int).toNat + 13) := Int.emod_nonneg _ (by omega)
      have x1 : (b + 1640531527 * (c + 1)) ^ (3 : Int).toNat % (10 ^ (25 : Int).toNat + 13) < 10000000000000000000000013 := by rw [← e25]; exact Int.emod_lt_of_pos _ g25
      have w2 : CPowX ((b + 1640531527 * (c + 1)) ^ (3 : Int).toNat % (10 ^ (25 : Int).toNat + 13) + 805459861 * (c + 1)) 2 := pow_ok (k := 85) (n := 2) (by rw [n85]; omega) (by decide)
      refine ⟨_, rfl, _, rfl, p, _, _, _, rfl, rfl, SqL.of hp2, at2, _, _, rfl, rfl, .inl ⟨by decide, by decide⟩, _, _, rfl, rfl, .inl ⟨_, rfl, ?_⟩⟩
      refine ⟨_, 2, rfl, rfl, w2, 10, 24, rfl, rfl, w24, _, 7, rfl, rfl, _, _, rfl, rfl, g24, ?_⟩
      refine ⟨_, rfl, _, 1024, rfl, rfl, wide_div (b := 11) (by decide) (by decide) (by decide) (by decide), .inl ⟨_, rfl, _, rfl, _, _, rfl, rfl, h0, ?_⟩⟩
      refine k _ _ (Int.emod_nonneg _ (by omega)) (Int.emod_lt_of_pos _ h0) But.upd ⟨a, b, c + 1, hp2, ha, hb, by rw [p80]; exact hb2, by omega, by omega⟩ (fun q hq => ?_)
      rw [upd_ne (fun z => by rw [z, hp] at hq; cases hq)]; exact hq
end
end V2



namespace V2
/-- how many zeros a list begins with -/
def zer : List Int → Nat
  | [] => 0
  | x :: r => if x = 0 then zer r + 1 else 0
theorem zer_le : ∀ l : List Int, zer l ≤ l.length
  | [] => Nat.le_refl _
  | x :: r => by
    unfold zer
    split
    · have := zer_le r; simp only [List.length_cons]; omega
    · exact Nat.zero_le _
theorem zer_in : ∀ (l : List Int) (j : Nat), j < zer l → l[j]? = some 0
  | [], j, h => absurd h (Nat.not_lt_zero _)
  | x :: r, j, h => by
    unfold zer at h
    split at h
    · rename_i e
      cases j with
      | zero => simp [e]
      | succ j => simpa using zer_in r j (by omega)
    · exact absurd h (Nat.not_lt_zero _)
theorem zer_at : ∀ (l : List Int), zer l < l.length → ∃ x, l[zer l]? = some x ∧ x ≠ 0
  | [], h => absurd h (Nat.not_lt_zero _)
  | x :: r, h => by
    unfold zer at h ⊢
    split
    · rename_i e
      rw [if_pos e, List.length_cons] at h
      obtain ⟨y, h1, h2⟩ := zer_at r (by omega)
      exact ⟨y, by simpa using h1, h2⟩
    · rename_i e
      exact ⟨x, rfl, e⟩
/-- how many zeros stand at the end -/
def tz (ns : List Int) : Nat := zer ns.reverse
theorem tz_le (ns : List Int) : tz ns ≤ ns.length := by
  have := zer_le ns.reverse
  rwa [List.length_reverse] at this
theorem tz_in (ns : List Int) (j : Nat) (h : j < tz ns) : ns[ns.length - 1 - j]? = some 0 := by
  have h1 := zer_in ns.reverse j h
  have h2 := tz_le ns
  rwa [List.getElem?_reverse (by omega)] at h1
theorem tz_at (ns : List Int) (h : tz ns < ns.length) : ∃ x, ns[ns.length - 1 - tz ns]? = some x ∧ x ≠ 0 := by
  have h1 := zer_at ns.reverse (by rwa [List.length_reverse])
  obtain ⟨x, h2, h3⟩ := h1
  refine ⟨x, ?_, h3⟩
  change ns.reverse[tz ns]? = some x at h2
  rwa [List.getElem?_reverse h] at h2
/-- without the zeros at the end -/
def trm (ns : List Int) : List Int := ns.take (ns.length - tz ns)
/-- no 0 at the end -/
def Pol (ns : List Int) : Prop := ∀ x, ns[ns.length - 1]? = some x → x ≠ 0
theorem pol_trm (ns : List Int) : Pol (trm ns) := by
  intro x h
  unfold trm at h
  have h2 := tz_le ns
  rw [List.length_take, Nat.min_eq_left (Nat.sub_le _ _)] at h
  by_cases h3 : tz ns < ns.length
  · obtain ⟨y, h4, h5⟩ := tz_at ns h3
    rw [List.getElem?_take, if_pos (by omega), show ns.length - tz ns - 1 = ns.length - 1 - tz ns by omega, h4] at h
    cases h; exact h5
  · rw [List.getElem?_take, if_neg (by omega)] at h
    cases h
theorem trm_len (ns : List Int) : (trm ns).length ≤ ns.length := by
  unfold trm; rw [List.length_take]; omega
theorem trm_mem {ns : List Int} {x : Int} (h : x ∈ trm ns) : x ∈ ns := List.mem_of_mem_take h
theorem mod_half {l r : Nat} (h0 : 0 < r) (h : r < l) : r * (l % r) * 2 ≤ l * r := by
  have h1 := Nat.mod_lt l h0
  have h2 : l % r + r ≤ l := by
    have := Nat.div_add_mod l r
    have h3 : 1 ≤ l / r := Nat.div_pos (Nat.le_of_lt h) h0
    have h4 : r * 1 ≤ r * (l / r) := Nat.mul_le_mul_left r h3
    omega
  have h5 : (l % r) * 2 ≤ l := by omega
  calc r * (l % r) * 2 = r * ((l % r) * 2) := by rw [Nat.mul_assoc]
    _ ≤ r * l := Nat.mul_le_mul_left r h5
    _ = l * r := Nat.mul_comm _ _
/-- behind i turns -/
def Euc (B x y i l r : Nat) : Prop := Nat.gcd l r = Nat.gcd x y ∧ l < 2 ^ B ∧ r < 2 ^ B ∧ (i = 0 ∨ (r < l ∧ l * r * 2 ^ (i - 1) < 2 ^ (2 * B)))
theorem euc_0 {B x y : Nat} (hx : x < 2 ^ B) (hy : y < 2 ^ B) : Euc B x y 0 x y := ⟨rfl, hx, hy, .inl rfl⟩
theorem euc_s {B x y i l r : Nat} (h : Euc B x y i l r) (h0 : 0 < r) : Euc B x y (i + 1) r (l % r) := by
  obtain ⟨hg, hl, hr, hi⟩ := h
  have hm := Nat.mod_lt l h0
  refine ⟨?_, hr, Nat.lt_trans hm hr, .inr ⟨hm, ?_⟩⟩
  · rw [← hg, Nat.gcd_comm r, ← Nat.gcd_rec, Nat.gcd_comm]
  · rw [Nat.add_sub_cancel]
    rcases hi with rfl | ⟨hlt, hb⟩
    · rw [Nat.pow_zero, Nat.mul_one, Nat.two_mul, Nat.pow_add]
      exact Nat.mul_lt_mul'' hr (Nat.lt_trans hm hr)
    · cases i with
      | zero =>
        rw [Nat.pow_zero, Nat.mul_one, Nat.two_mul, Nat.pow_add]
        exact Nat.mul_lt_mul'' hr (Nat.lt_trans hm hr)
      | succ i =>
        rw [Nat.add_sub_cancel] at hb
        refine Nat.lt_of_le_of_lt ?_ hb
        rw [Nat.pow_succ, Nat.mul_comm (2 ^ i) 2, ← Nat.mul_assoc]
        exact Nat.mul_le_mul_right _ (mod_half h0 hlt)
theorem euc_end {B x y i l r : Nat} (h : Euc B x y i l r) (hi : 2 * B + 1 ≤ i) : r = 0 := by
  obtain ⟨_, _, _, h | ⟨hlt, hb⟩⟩ := h
  · omega
  · rcases Nat.eq_zero_or_pos r with e | e
    · exact e
    · exfalso
      have h1 : 1 * 2 ^ (2 * B) ≤ l * r * 2 ^ (i - 1) := Nat.mul_le_mul (Nat.mul_pos (by omega) e) (Nat.pow_le_pow_right (by decide) (by omega))
      omega
theorem euc_val {B x y i l : Nat} (h : Euc B x y i l 0) : l = Nat.gcd x y := by
  rw [← h.1, Nat.gcd_zero_right]
def fr (u d : Int) : Int × Int := (u / (Int.gcd u d : Int), d / (Int.gcd u d : Int))
theorem gcd_pos {u d : Int} (h : 0 < d) : (0 : Int) < (Int.gcd u d : Int) := by
  have := Int.gcd_pos_of_ne_zero_right u (show d ≠ 0 by omega)
  omega
theorem fr_mul {u d : Int} (h : 0 < d) : u = (fr u d).1 * (Int.gcd u d : Int) ∧ d = (fr u d).2 * (Int.gcd u d : Int) :=
  ⟨(Int.ediv_mul_cancel (Int.gcd_dvd_left ..)).symm, (Int.ediv_mul_cancel (Int.gcd_dvd_right ..)).symm⟩
theorem fr_pos {u d : Int} (h : 0 < d) : 0 < (fr u d).2 := by
  have g := gcd_pos (u := u) h
  have e := (fr_mul (u := u) h).2
  rcases Int.lt_or_le 0 (fr u d).2 with h1 | h1
  · exact h1
  · exfalso
    have : (fr u d).2 * (Int.gcd u d : Int) ≤ 0 := Int.mul_nonpos_of_nonpos_of_nonneg h1 (by omega)
    omega
theorem fr_cop {u d : Int} (h : 0 < d) : Int.gcd (fr u d).1 (fr u d).2 = 1 := by
  have g := gcd_pos (u := u) h
  unfold fr
  exact Int.gcd_ediv_gcd_ediv_gcd (by omega)
theorem fr_abs1 {a b : Int} (hb : 0 < b) : (fr a b).1.natAbs ≤ a.natAbs := by
  obtain ⟨h1, _⟩ := fr_mul (u := a) hb
  have g := gcd_pos (u := a) hb
  generalize Int.gcd a b = n at h1 g
  have e : a.natAbs = (fr a b).1.natAbs * n := by
    have := congrArg Int.natAbs h1
    rw [Int.natAbs_mul, Int.natAbs_natCast] at this
    exact this
  rw [e]
  exact Nat.le_mul_of_pos_right _ (by omega)
theorem fr_abs2 {a b : Int} (hb : 0 < b) : (fr a b).2.natAbs ≤ b.natAbs := by
  obtain ⟨_, h1⟩ := fr_mul (u := a) hb
  have g := gcd_pos (u := a) hb
  generalize Int.gcd a b = n at h1 g
  have e : b.natAbs = (fr a b).2.natAbs * n := by
    have := congrArg Int.natAbs h1
    rw [Int.natAbs_mul, Int.natAbs_natCast] at this
    exact this
  rw [e]
  exact Nat.le_mul_of_pos_right _ (by omega)
end V2


namespace V2
open PySem L2
open PySem.Spec PyProof.Rows
def RetU (xs : List V) (H : Hp) (Q : VK) : Prop := ∀ p H2, H p = none → Evl.Ex H H2 → H2 p = some (.tup xs) → Q (.ref p) H2
def iV (ns : List Int) : List V := ns.map V.int
theorem iV_len (ns : List Int) : (iV ns).length = ns.length := List.length_map ..
theorem iV_at {ns : List Int} {j : Nat} {n : Int} (h : ns[j]? = some n) : (iV ns)[j]? = some (.int n) := by
  unfold iV; rw [List.getElem?_map, h]; rfl
theorem cut_to (xs : List V) {k : Nat} (h : k ≤ xs.length) : cutV xs none (some (k : Int)) = xs.take k := by
  unfold cutV HT.sIx
  have e1 : Int.toNat (k : Int) = k := Int.toNat_natCast k
  simp
  first
    | done
    | (split <;> simp_all <;> omega)
    | omega
/-- the script, the rank: a new sack -/
def spSack (K : PySem.W.Frag) : Sp := fun vs H Q _ => ∃ (a : Addr) (ns : List Int) (r : Nat), vs = [.ref a, .int (r : Int)] ∧ SqL K H a (iV ns) ∧ ns.length ≤ 63 ∧ r ≤ 63 ∧
  ∀ (q : Addr) (H' : Hp), H q = none → Evl.Ex H H' → Sk H' q 0 → Q (.ref q) H'
def spShared : Sp := fun vs H Q _ => ∃ x y : Int, vs = [.int x, .int y] ∧ x.natAbs < 2 ^ 9000 ∧ y.natAbs < 2 ^ 9000 ∧ Evl.RetV (.int (Int.gcd x y : Int)) H Q
def spRatio : Sp := fun vs H Q _ => ∃ x y : Int, vs = [.int x, .int y] ∧ x.natAbs < 2 ^ 9000 ∧ y.natAbs < 2 ^ 9000 ∧ 0 < y ∧ RetU [.int (fr x y).1, .int (fr x y).2] H Q
structure T1 (mg : Str → Option Value) (fS fR : Addr) : Prop extends T0 mg where
  rng : mg "range" = none
  lst : mg "list" = none
  gS : mg "_law_pv_shared" = some (.ref fS)
  gR : mg "_law_pv_ratio" = some (.ref fR)
section
variable {base : Heap} {mg : Str → Option Value} {K : PySem.W.Frag} {w : World} {P : Program}
theorem ok_sack {f : Addr} {fd : FuncData} (F : Fun K "_law_pv_sack" "_law_pv_sack" s_l_sack f fd) (T : T0 mg) : FnOk P w K mg base CX0 1 f fd p_l_sack (spSack K) := by
  refine F.ok sc_l_sack (fun vs H Q E h => ?_) (fun cdv A outer s H vs Q E hr h => ?_)
  · obtain ⟨a, ns, r, rfl, _⟩ := h
    rfl
  · obtain ⟨a, ns, r, rfl, hS, hl, hr63, k⟩ := h
    have nd := sc_l_sack.nd
    refine ⟨_, pss_cons (ps_set (i := 2) nd rfl (Or.inl rfl) (pe_ifExp (pt_cmpR op_lt (pv 1) (pe_callB call_len_seq (by rfl) T.len PySem.boot_len (pa_cons (pv 0) pa_nil)) (nomark _)) (pe_ix ix_list (pv 0) (pv 1) (fun _ _ => rfl)) pe_int))
      (pss_one (ps_ret (pe_lst (pa_cons (pe_callB (call_max2 rfl) (by rfl) T.max (by decide +kernel) (pa_cons pe_int (pa_cons (pe_op op_sub (pe_callB call_abs (by rfl) T.abs (by decide +kernel) (pa_cons (pv 2) pa_nil)) (pe_op op_powX pe_int pe_int)) pa_nil)))
        (pa_cons (pe_op op_mod (pe_callTy call_int1 (by rfl) T.int (by decide +kernel) (pa_cons (pe_op op_add (pe_op op_add (pe_op op_mul (pv 2) pe_int) (pe_op op_mul (pv 1) pe_int)) pe_int) pa_nil)) (pe_op op_add (pe_op op_powX pe_int pe_int) pe_int))
        (pa_cons pe_int pa_nil)))))), ?_⟩
    have w18 : CPowX 10 18 := pow_ok (k := 4) (n := 18) (by decide) (by decide)
    have w24 : CPowX 10 24 := pow_ok (k := 4) (n := 24) (by decide) (by decide)
    have e24 : ((10 : Int) ^ (24 : Int).toNat + 7) = 1000000000000000000000007 := by decide
    have g24 : (0 : Int) < 10 ^ (24 : Int).toNat + 7 := by rw [e24]; decide
    have p80 : (2 : Int) ^ 80 = 1208925819614629174706176 := by decide
    (refine ⟨_, rfl, _, rfl, a, _, rfl, .inl hS, _, _, rfl, rfl, _, rfl, ?_⟩)
    refine ite2 (fun q => ?_) (fun _ => ?_)
    · have q2 : r < ns.length := by
        have q1 := of_decide_eq_true q
        rw [iV_len] at q1
        omega
      refine ⟨_, rfl, _, rfl, a, _, _, _, rfl, rfl, hS, atI_nat (iV_at (List.getElem?_eq_getElem q2)), ?_⟩
      refine ⟨_, rfl, _, rfl, 10, 18, rfl, rfl, w18, _, _, rfl, rfl, _, _, rfl, ?_⟩
      refine ⟨_, rfl, _, 69857, rfl, rfl, .inr ⟨by decide, by decide⟩, _, rfl, _, 9176291, rfl, rfl, .inr ⟨by decide, by decide⟩, _, _, rfl, rfl, _, _, rfl, rfl, .inl ⟨_, rfl, ?_⟩⟩
      refine ⟨10, 24, rfl, rfl, w24, _, 7, rfl, rfl, _, _, rfl, rfl, g24, ?_⟩
      refine ⟨by show 3 ≤ sizeLine; decide, fun q hq => ?_⟩
      refine k q _ hq (Evl.Ex.new hq) ⟨_, _, _, upd_same, ?_, Int.emod_nonneg _ (by omega), Int.lt_trans (Int.emod_lt_of_pos _ g24) (by rw [e24, p80]; decide), Int.le_refl _, Int.le_refl _⟩
      split <;> omega
    · refine ⟨_, rfl, _, rfl, 10, 18, rfl, rfl, w18, _, _, rfl, rfl, _, _, rfl, ?_⟩
      refine ⟨_, rfl, _, 69857, rfl, rfl, .inr ⟨by decide, by decide⟩, _, rfl, _, 9176291, rfl, rfl, .inr ⟨by decide, by decide⟩, _, _, rfl, rfl, _, _, rfl, rfl, .inl ⟨_, rfl, ?_⟩⟩
      refine ⟨10, 24, rfl, rfl, w24, _, 7, rfl, rfl, _, _, rfl, rfl, g24, ?_⟩
      refine ⟨by show 3 ≤ sizeLine; decide, fun q hq => ?_⟩
      refine k q _ hq (Evl.Ex.new hq) ⟨_, _, _, upd_same, ?_, Int.emod_nonneg _ (by omega), Int.lt_trans (Int.emod_lt_of_pos _ g24) (by rw [e24, p80]; decide), Int.le_refl _, Int.le_refl _⟩
      split <;> omega
theorem ok_shared {f : Addr} {fd : FuncData} (F : Fun K "_law_pv_shared" "_law_pv_shared" s_l_shared f fd) {fS fR : Addr} (T : T1 mg fS fR) : FnOk P w K mg base CX0 1 f fd p_l_shared spShared := by
  refine F.ok sc_l_shared (fun vs H Q E h => ?_) (fun cdv A outer s H vs Q E hr h => ?_)
  · obtain ⟨x, y, rfl, _⟩ := h
    rfl
  · obtain ⟨x, y, rfl, hx, hy, k⟩ := h
    have nd := sc_l_shared.nd
    refine ⟨_, pss_cons (ps_par (i := 0) (j := 1) rfl nd rfl rfl (by decide) rfl rfl (pa_cons (pe_callB call_abs (by rfl) T.abs (by decide +kernel) (pa_cons (pv 0) pa_nil)) (pa_cons (pe_callB call_abs (by rfl) T.abs (by decide +kernel) (pa_cons (pv 1) pa_nil)) pa_nil)) (by rfl))
      (pss_cons (ps_for PassesOwn.never rfl (pi_range1 (by rfl) T.rng (pa_cons pe_int pa_nil)) (pg_name (i := 2) nd rfl (Or.inl rfl))
        (pss_cons (ps_if (pt_cmpR op_eq (pv 1) pe_int (nomark _)) (pss_one (ps_ret (pv 0))) pss_nil)
        (pss_one (ps_par (i := 0) (j := 1) rfl nd rfl rfl (by decide) rfl rfl (pa_cons (pv 1) (pa_cons (pe_op op_mod (pe_callTy call_int1 (by rfl) T.int (by decide +kernel) (pa_cons (pv 0) pa_nil)) (pe_callTy call_int1 (by rfl) T.int (by decide +kernel) (pa_cons (pv 1) pa_nil))) pa_nil)) (by rfl)))))
      (pss_one (ps_ret (pv 0)))), ?_⟩
    have ab : ∀ z : Int, (if z < 0 then -z else z) = (z.natAbs : Int) := fun z => by split <;> omega
    refine ⟨_, rfl, _, rfl, _, rfl, _, rfl, _, _, rfl, ?_⟩
    rw [ab, ab]
    refine ⟨20000, rfl, by decide, by decide, for_range (n := 20000) (fun i σ H' => H' = H ∧ ∃ (l r : Nat) (v : Option V), σ = [some (.int l), some (.int r), v] ∧ Euc 9000 x.natAbs y.natAbs i l r)
      ⟨rfl, _, _, none, rfl, euc_0 hx hy⟩ ?_ ?_⟩
    · rintro i σ H' hi ⟨rfl, l, r, v, rfl, he⟩
      (refine ⟨_, rfl, rfl, _, rfl, ?_⟩)
      refine ite2 (fun q => ?_) (fun q => ?_)
      · have q1 : r = 0 := by
          have := of_decide_eq_true q
          injection this with h1
          omega
        subst q1
        refine ⟨_, rfl, ?_⟩
        have e : (l : Int) = (Int.gcd x y : Int) := by rw [euc_val he]; rfl
        rw [e]
        exact k _ (Evl.Ex.refl _)
      · have q1 : 0 < r := by
          rcases Nat.eq_zero_or_pos r with e | e
          · subst e; exact absurd (by decide) q
          · exact e
        refine ⟨_, rfl, _, rfl, .inl ⟨_, rfl, _, rfl, .inl ⟨_, rfl, _, _, rfl, rfl, (by show (0 : Int) < (r : Int); omega), _, _, rfl, ?_⟩⟩⟩
        exact ⟨rfl, r, l % r, _, rfl, euc_s he q1⟩
    · rintro σ H' ⟨rfl, l, r, v, rfl, he⟩
      have := euc_end he (by decide)
      subst this
      refine ⟨_, rfl, ?_⟩
      have e : (l : Int) = (Int.gcd x y : Int) := by rw [euc_val he]; rfl
      rw [e]
      exact k _ (Evl.Ex.refl _)
end
end V2


namespace V2
open PySem L2
open PySem.Spec PyProof.Rows
/-- a def that may be called by its name x -/
def Cal (P : Program) (w : World) (K : PySem.W.Frag) (mg : Str → Option Value) (base : Heap) (k : Nat) (x : Str) (ps : List Str) (sp : Sp) : Prop :=
  ∃ (f : Addr) (fd : FuncData), FnOk P w K mg base CX0 k f fd ps sp ∧ mg x = some (.ref f) ∧ PySem.W.keepIn K (.ref f) = true ∧ Binds K fd ps []
theorem pe_c {X : Cx} {k : Nat} {x : Str} {ps : List Str} {sp : Sp} {e : Expr} {es : List Expr} {t : TA} {p pos : Pos} (c : Cal X.prog X.w X.K X.mg X.base k x ps sp) (hr : Room k X.A) (ha : PA X (e :: es) t) (hg : Gl X x := by rfl)
    (he : starEach (e :: es) X.env = (false, eval e X.env) :: starEach es X.env := by rfl)
    (hpl : (backTo pos (starEach es X.env)).any (fun b => b.1) = false := by rfl) (hdb : (x == ("__debug__" : Str)) = false := by decide) :
    PE X (.Call (.Name x p) (e :: es) [] pos) (tCall sp [] E0 t) := by
  obtain ⟨f, fd, F, hm, hk, hb⟩ := c
  exact pe_call F hr hg hm hk hb .nil pass0 ha hdb he hpl
section
variable {base : Heap} {mg : Str → Option Value} {K : PySem.W.Frag} {w : World} {P : Program}
theorem ok_ratio {f : Addr} {fd : FuncData} (F : Fun K "_law_pv_ratio" "_law_pv_ratio" s_l_ratio f fd) (T : T0 mg) (cS : Cal P w K mg base 1 "_law_pv_shared" p_l_shared spShared) : FnOk P w K mg base CX0 2 f fd p_l_ratio spRatio := by
  refine F.ok sc_l_ratio (fun vs H Q E h => ?_) (fun cdv A outer s H vs Q E hr h => ?_)
  · obtain ⟨x, y, rfl, _⟩ := h
    rfl
  · obtain ⟨x, y, rfl, hx, hy, y0, k⟩ := h
    have nd := sc_l_ratio.nd
    refine ⟨_, pss_cons (ps_set (i := 2) nd rfl (Or.inl rfl) (pe_op op_mul (pe_c cS hr (pa_cons (pv 0) (pa_cons (pv 1) pa_nil))) (pe_op op_sub pe_int (pe_op op_mul pe_int (pe_callTy call_int1 (by rfl) T.int (by decide +kernel) (pa_cons (pe_cmpR op_lt (pv 1) pe_int (nomark _)) pa_nil))))))
      (pss_one (ps_ret (pe_tup (pa_cons (pe_op op_fdivW (pv 0) (pv 2)) (pa_cons (pe_op op_fdivW (pv 1) (pv 2)) pa_nil))))), ?_⟩
    have e0 : (1 - 2 * (if decide (y < 0) = true then (1 : Int) else 0)) = 1 := by rw [decide_eq_false (by omega)]; rfl
    have g := gcd_pos (u := x) y0
    have gb : (Int.gcd x y : Int).natAbs < 2 ^ 9000 := by
      rw [Int.natAbs_natCast]
      exact Nat.lt_of_le_of_lt (Nat.gcd_le_right _ (by omega)) hy
    have eG : (Int.gcd x y : Int) * (1 - 2 * (if decide (y < 0) = true then (1 : Int) else 0)) = (Int.gcd x y : Int) := by rw [e0, Int.mul_one]
    have cD : CDivW x ((Int.gcd x y : Int) * (1 - 2 * (if decide (y < 0) = true then (1 : Int) else 0))) := by rw [eG]; exact wide_div g gb (by decide) (by decide)
    refine ⟨_, rfl, _, rfl, x, y, rfl, hx, hy, fun H2 e2 => ?_⟩
    refine ⟨_, rfl, _, _, rfl, rfl, .inr ⟨_, rfl, 2, _, rfl, rfl, .inl ⟨by decide, by decide⟩, 1, _, rfl, rfl, _, _, rfl, rfl, .inr ⟨by rw [e0]; decide, by rw [e0]; decide⟩, ?_⟩⟩
    refine ⟨_, rfl, _, rfl, _, _, rfl, rfl, cD, _, rfl, _, rfl, _, _, rfl, rfl, cD, (by show 2 ≤ sizeLine; decide), fun p hp => ?_⟩
    refine k p _ (Evl.fresh_back e2 hp) (e2.trans (Evl.Ex.new hp)) ?_
    rw [upd_same]
    show some (HO.tup [V.int (x / ((Int.gcd x y : Int) * (1 - 2 * (if decide (y < 0) = true then (1 : Int) else 0)))), V.int (y / ((Int.gcd x y : Int) * (1 - 2 * (if decide (y < 0) = true then (1 : Int) else 0))))]) = _
    rw [eG]
    rfl
end
end V2


namespace V2
def vec (N : Nat) (f : Nat → Int) : List Int := (List.range N).map f
theorem vec_len (N : Nat) (f : Nat → Int) : (vec N f).length = N := by unfold vec; simp
theorem vec_get {N : Nat} {f : Nat → Int} {i : Nat} (h : i < N) : (vec N f)[i]? = some (f i) := by
  unfold vec; simp [h]
theorem getD_at {l : List Int} {k : Nat} {x : Int} (h : l[k]? = some x) : l.getD k 0 = x := by
  rw [List.getD_eq_getElem?_getD, h]; rfl
theorem getD_out {l : List Int} {k : Nat} (h : l.length ≤ k) : l.getD k 0 = 0 := by
  rw [List.getD_eq_getElem?_getD, List.getElem?_eq_none h]; rfl
end V2


namespace V2
open PySem L2
open PySem.Spec PyProof.Rows
section
variable {base : Heap} {mg : Str → Option Value} {K : PySem.W.Frag} {w : World} {P : Program}
theorem if_t {c : Bool} {A B : Prop} (hc : c = true) (h : A) : if c = true then A else B := by
  rw [if_pos hc]; exact h
theorem if_f {c : Bool} {A B : Prop} (hc : c = false) (h : B) : if c = true then A else B := by
  rw [hc, if_neg Bool.false_ne_true]; exact h
end
end V2


namespace V2
open PySem L2
open PySem.Spec PyProof.Rows
/-- a list of ints at a -/
def Li (H : Hp) (a : Addr) (ns : List Int) : Prop := H a = some (.lst (iV ns))
theorem Li.sq {K : PySem.W.Frag} {H : Hp} {a : Addr} {ns : List Int} (h : Li H a ns) : SqL K H a (iV ns) := SqL.of h
theorem iV_get {ns : List Int} {i : Nat} {x : V} (h : (iV ns)[i]? = some x) : ∃ n, ns[i]? = some n ∧ x = .int n := by
  unfold iV at h
  rw [List.getElem?_map] at h
  cases e : ns[i]? with
  | none =>
    rw [e] at h
    cases h
  | some n => rw [e] at h; exact ⟨n, rfl, (Option.some.inj h).symm⟩
/-- a polynomial that may be handed over: at most 16 numbers below 2 ^ 64 -/
def Pn (ns : List Int) : Prop := Pol ns ∧ ns.length ≤ 16 ∧ ∀ x ∈ ns, -(2 ^ 64) < x ∧ x < 2 ^ 64
section
variable {base : Heap} {mg : Str → Option Value} {K : PySem.W.Frag} {w : World} {P : Program}
end
end V2


namespace V2
def hT (p q : Int) : List Int → Int
  | [] => 0
  | a :: r => hT p q r * p + a * q ^ r.length
def hA (p q : Int) : List Int → Int
  | [] => 0
  | a :: r => a * q ^ (r.length + 1) + p * hA p q r
end V2


namespace V2
open PySem L2
open PySem.Spec PyProof.Rows
/-- a fraction's tuple at a -/
def Fr (H : Hp) (a : Addr) (p q : Int) : Prop := H a = some (.tup [.int p, .int q])
def Qn (p q : Int) : Prop := 0 < q ∧ Int.gcd p q = 1 ∧ p.natAbs < 2 ^ 50 ∧ q.natAbs < 2 ^ 50
section
variable {base : Heap} {mg : Str → Option Value} {K : PySem.W.Frag} {w : World} {P : Program}
end
end V2


namespace V2
open PySem L2
open PySem.Spec PyProof.Rows
theorem big {x : Int} {n m : Nat} (h : x.natAbs < 2 ^ n) (l : n ≤ m) : x.natAbs < 2 ^ m := Nat.lt_of_lt_of_le h (Nat.pow_le_pow_right (by decide) l)
section
variable {base : Heap} {mg : Str → Option Value} {K : PySem.W.Frag} {w : World} {P : Program}
end
end V2


namespace V2
open PySem L2
open PySem.Spec PyProof.Rows
structure T3 (mg : Str → Option Value) : Prop where
  isi : mg "isinstance" = none
  int : mg "int" = none
  bool : mg "bool" = none
  lst : mg "list" = none
  tup : mg "tuple" = none
  len : mg "len" = none
  all : mg "all" = none
  gcd : mg "gcd" = some (.builtin "math.gcd")
def spInt : Sp := fun vs H Q _ => ∃ n : Int, vs = [.int n] ∧ Evl.RetV (.bl true) H Q
def spIsFr : Sp := fun vs H Q _ => ∃ (a : Addr) (p q : Int), vs = [.ref a] ∧ Fr H a p q ∧ Qn p q ∧ Evl.RetV (.bl true) H Q
theorem rep_snoc (n : Nat) (x : V) : List.replicate n x ++ [x] = List.replicate (n + 1) x := by
  rw [List.replicate_succ']
section
variable {base : Heap} {mg : Str → Option Value} {K : PySem.W.Frag} {w : World} {P : Program}
theorem ok_is_integer {f : Addr} {fd : FuncData} (F : Fun K "is_integer" "is_integer" s_is_integer f fd) (T : T3 mg) : FnOk P w K mg base CX0 1 f fd p_is_integer spInt := by
  refine F.ok sc_is_integer (fun vs H Q E h => ?_) (fun cdv A outer s H vs Q E hr h => ?_)
  · obtain ⟨n, rfl, _⟩ := h
    rfl
  · obtain ⟨n, rfl, k⟩ := h
    refine ⟨_, pss_one (ps_ret (pe_and (pe_callB call_isi (by rfl) T.isi (by decide +kernel) (pa_cons (pv 0) (pa_cons (pe_bltn (v := .ty "int") (by rfl) T.int (by decide +kernel) rfl) pa_nil)))
      (pe_one (pe_not (pe_callB call_isi (by rfl) T.isi (by decide +kernel) (pa_cons (pv 0) (pa_cons (pe_bltn (v := .ty "bool") (by rfl) T.bool (by decide +kernel) rfl) pa_nil))))))), ?_⟩
    refine ⟨_, rfl, _, _, _, _, true, rfl, .ty "int", .base (.int n), kit_ty (by decide +kernel), true, rfl, if_t rfl ?_⟩
    refine ⟨_, rfl, _, _, _, _, false, rfl, .ty "bool", .base (.int n), kit_ty (by decide +kernel), false, rfl, ?_⟩
    exact k _ (Evl.Ex.refl _)
theorem ok_is_fraction {f : Addr} {fd : FuncData} (F : Fun K "is_fraction" "is_fraction" s_is_fraction f fd) (T : T3 mg) (cI : Cal P w K mg base 1 "is_integer" p_is_integer spInt) : FnOk P w K mg base CX0 2 f fd p_is_fraction spIsFr := by
  refine F.ok sc_is_fraction (fun vs H Q E h => ?_) (fun cdv A outer s H vs Q E hr h => ?_)
  · obtain ⟨a, p, q, rfl, _⟩ := h
    rfl
  · obtain ⟨a, p, q, rfl, ha, ⟨q0, qc, pb, qb⟩, k⟩ := h
    have nd := sc_is_fraction.nd
    refine ⟨_, pss_cons (ps_if (PW.pt (pw_or (pt_not (pt_val (pe_callB call_isi (by rfl) T.isi (by decide +kernel) (pa_cons (pv 0) (pa_cons (pe_bltn (v := .ty "tuple") (by rfl) T.tup (by decide +kernel) rfl) pa_nil)))))
        (pw_or1 (pt_cmpR op_ne (pe_callB call_len_seq (by rfl) T.len PySem.boot_len (pa_cons (pv 0) pa_nil)) pe_int (nomark _))))) (pss_one (ps_ret pe_bl)) pss_nil)
      (pss_cons (ps_asg (pv 0) (pg_tup rfl (pgs_cons (pg_name (i := 1) nd rfl (Or.inl rfl)) (pgs_cons (pg_name (i := 2) nd rfl (Or.inl rfl)) pgs_nil))))
      (pss_one (ps_ret (pe_and (pe_c cI hr (pa_cons (pv 1) pa_nil)) (pe_and (pe_c cI hr (pa_cons (pv 2) pa_nil)) (pe_and (pe_cmpR op_ge (pv 2) pe_int (nomark _)) (pe_one (pe_cmpR op_eq (pe_callBfun cr_gcd (by rfl) T.gcd (pa_cons (pv 1) (pa_cons (pv 2) pa_nil))) pe_int (nomark _))))))))), ?_⟩
    refine ⟨_, rfl, _, _, _, _, true, rfl, .ty "tuple", .base (.tup ha), kit_ty (by decide +kernel), true, rfl, if_f rfl ?_⟩
    refine ⟨_, rfl, a, _, rfl, .inr (SqT.of ha), rfl, false, rfl, if_f rfl ?_⟩
    refine ⟨_, rfl, a, _, rfl, SqT.of ha, rfl, _, _, rfl, _, _, rfl, rfl, ?_⟩
    refine ⟨_, rfl, p, rfl, fun H1 e1 => ⟨_, rfl, if_t rfl ⟨_, rfl, q, rfl, fun H2 e2 => ⟨_, rfl, if_t rfl ⟨_, rfl, _, _, rfl, rfl, _, rfl, if_t (decide_eq_true (by omega)) ?_⟩⟩⟩⟩⟩
    refine ⟨_, rfl, _, rfl, p, q, rfl, rfl, ?_⟩
    have e : decide (V.int ((Nat.gcd p.natAbs q.natAbs : Nat) : Int) = V.int 1) = true := decide_eq_true (by
      have : Nat.gcd p.natAbs q.natAbs = 1 := qc
      rw [this]; rfl)
    show Q (.bl (decide (V.int ((Nat.gcd p.natAbs q.natAbs : Nat) : Int) = V.int 1))) H2
    rw [e]
    exact k _ (e1.trans e2)
end
end V2


namespace V2
open PySem L2
open PySem.Spec PyProof.Rows
structure FnG (P : Program) (w : World) (K : PySem.W.Frag) (mg : Str → Option Value) (base : Heap) (k : Nat) (f : Addr) (fd : FuncData) (ps : List Str) (sp : Sp) : Prop where
  len : ∀ vs H Qv Ee, sp vs H Qv Ee → vs.length = ps.length
  run : ∀ (A : Around) (outer : List Env) (s : Shared) (H : Hp) (args : Args) (us : List Value) (vs : List V) (Q : VK) (E : XK), A.guards = some [] → Room k A → Env0 P w K mg base A outer s H → BindsTo s fd args (ps.zip us) → Vals vs us → sp vs H Q E →
    codeAny (model P w) A (.call (.ref f) args) (CR CX0 outer P w H s Q E) s
/-- a def by its body, the way in told -/
theorem Fun.okG {P : Program} {w : World} {K : PySem.W.Frag} {mg : Str → Option Value} {base : Heap} {x qual : Str} {st : Stmt} {f : Addr} {fd : FuncData} {N ps : List Str} {k : Nat} {sp : Sp} (F : Fun K x qual st f fd) (S : FnScope N ps (defScope st))
    (len : ∀ vs H Qv Ee, sp vs H Qv Ee → vs.length = ps.length)
    (hbody : ∀ (cdv : Value) (A : Around) (outer : List Env) (s : Shared) (H : Hp) (vs : List V) (Q : VK) (E : XK), A.guards = some [] → Room k (A.deeper (envOfC qual (defScope st) s.heap.objs.size f cdv)) → sp vs H Q E →
      ∃ t, PSs (cxOf CX0 P w K mg base N qual (defScope st) f cdv A outer s H E).nox (defBody st) t ∧ t { nx := fun _ H' => Q .non H', rt := Q } (start N vs) H) :
    FnG P w K mg base (k + 1) f fd ps sp := by
  obtain ⟨ow, oe, kw, dc, pn, am, cdv, cu, sl, rfl, lk, hcd⟩ := F.ex
  constructor
  · exact len
  intro A outer s H args us vs Q E hg hr e0 hb r hsp
  have hl := len vs H Q E hsp
  have st1 : ∀ b o, base.get? b = some o → s.heap.get? b = some o := fun b o e => (e0.bs b o e).1
  have KX : K.In s.heap := e0.mod.kin.keeps st1
  have lim := e0.mod.nolimit.keeps st1
  have kinds : ∀ y ∈ ps.zip us, (defScope st).names.lookup y.1 = some .local ∨ ((defScope st).names.lookup y.1 = some .cell ∧ ((cellsFrom (s.heap.objs.size + 1) (defScope st).names []).lookup y.1).isSome = true) := by
    rintro ⟨n, v⟩ hy
    cases S.par n (List.of_mem_zip hy).1 with
    | inl q => exact .inl q
    | inr q => exact .inr ⟨q, PySem.W.cellsFrom_some _ _ _ (.inl q)⟩
  apply codeAny_call_function hr.depth (KX _ _ lk) rfl S.co S.gen rfl (PySem.W.codeRec_of KX hcd)
  apply hb
  apply wpAny_newFunctionEnv_cells S.kind kinds
  rintro env rfl s1 ic
  constructor
  · exact lim.keeps ic.toInCall.keep
  apply codeAny_func
  obtain ⟨t, ht, hq⟩ := hbody cdv A outer s H vs Q E hg (hr.deeper _) hsp
  have I := inv_start (CX := CX0) (E := E) (qual := qual) (f := f) (cd := cdv) S hr.hd e0 hl r ic
  apply wpAny_mono (ht.nox.run [] s1 (start N vs) H _ I hq)
  · intro fl s' hs
    cases fl with
    | ret u =>
      obtain ⟨v, σ', Hb, J, rr, q⟩ := hs
      exact ⟨v, Hb, J.os, J.bare, J.base, J.hok, rr, q⟩
    | next =>
      obtain ⟨σ', H', J, q⟩ := hs
      exact ⟨V.non, H', J.os, J.bare, J.base, J.hok, rfl, q⟩
    | brk => exact hs.elim fun _ z => z.elim fun _ z => z.2.elim
    | cont => exact hs.elim fun _ z => z.elim fun _ z => z.2.elim
  · exact fun e s' hs => hs
theorem FnOk.toG {P : Program} {w : World} {K : PySem.W.Frag} {mg : Str → Option Value} {base : Heap} {k : Nat} {f : Addr} {fd : FuncData} {ps : List Str} {sp : Sp} (F : FnOk P w K mg base CX0 k f fd ps sp) : FnG P w K mg base k f fd ps sp :=
  ⟨F.len, fun A outer s H args us vs Q E _ => F.run A outer s H args us vs Q E⟩
def CalG (P : Program) (w : World) (K : PySem.W.Frag) (mg : Str → Option Value) (base : Heap) (k : Nat) (x : Str) (ps : List Str) (sp : Sp) : Prop :=
  ∃ (f : Addr) (fd : FuncData), FnG P w K mg base k f fd ps sp ∧ mg x = some (.ref f) ∧ PySem.W.keepIn K (.ref f) = true ∧ Binds K fd ps []
theorem pe_cg {X : Cx} {k : Nat} {x : Str} {ps : List Str} {sp : Sp} {e : Expr} {es : List Expr} {t : TA} {p pos : Pos} (c : CalG X.prog X.w X.K X.mg X.base k x ps sp) (hgd : X.A.guards = some []) (hr : Room k X.A) (ha : PA X (e :: es) t) (hg : Gl X x := by rfl)
    (he : starEach (e :: es) X.env = (false, eval e X.env) :: starEach es X.env := by rfl)
    (hpl : (backTo pos (starEach es X.env)).any (fun b => b.1) = false := by rfl) (hdb : (x == ("__debug__" : Str)) = false := by decide) :
    PE X (.Call (.Name x p) (e :: es) [] pos) (tCall sp [] E0 t) := by
  obtain ⟨f, fd, F, hm, hk, hb⟩ := c
  constructor
  intro pins s σ H Q I h
  apply wpAny_Call_Name_kw
  apply ld_glob I hg hm _ hdb
  refine PySem.W.callWith_K (h₀ := X.base) I.ok.mod.kin hk ?_ he hpl
  apply thn (ha.run pos pins s σ H _ I h)
  rintro us s1 ⟨vs, H1, I1, r, q⟩
  refine ⟨I1.kIn, ?_⟩
  (show wpAny _ _ (call (.ref f) us) _ _ _)
  have q : sp (vs ++ []) H1 Q E0 := q
  rw [List.append_nil] at q
  have hl : us.length = ps.length := by rw [← Paired.length r]; exact F.len _ _ _ _ q
  have bb := hb s1 us I1.kIn (by rw [List.append_nil]; exact hl)
  rw [List.append_nil] at bb
  apply wpAny_call
  apply codeAny_mono (F.run X.A X.stack s1 H1 ⟨us, []⟩ us vs Q E0 hgd hr I1.env0 bb r q)
  intro r' s' hq
  cases r' with
  | error e => exact hq.elim
  | ok fl =>
    cases fl with
    | ret u => exact I1.after hq
    | next => exact hq.elim
    | brk => exact hq.elim
    | cont => exact hq.elim
end V2


namespace V2
open PySem L2
open PySem.Spec PyProof.Rows
/-- it says True and leaves what it found -/
def Fine (s₁ : Shared) : Result → Shared → Prop := fun r s2 =>
  r = .ok (.ret (.bool true)) ∧ OldK s₁.heap s2.heap ∧ s2.os = s₁.os ∧ AllBare s2.gens
section
variable {P : Program} {w : World} {K : PySem.W.Frag} {mg mb : Str → Option Value} {k : Nat} {fa a : Addr} {fd : FuncData} {x : Str} {sp : Sp} {s₁ : Shared} {vs : List Value} {ns : List Int}
/-- from an abstract heap that tracks the script at most -/
theorem core_G (KX : K.In s₁.heap) (hns : s₁.heap.Ns mainGlobals mg) (hb : s₁.heap.Ns builtinsNs mb) (hbb : ∀ x : Str, x ≠ "__name__" → mb x = bootBuiltins x) (hlim : s₁.heap.NoLimit) (hg : s₁.gens = #[])
    (ha : s₁.heap.get? a = some { cls := .type "list", data := .seq vs.toArray }) (hr : Room k callerA)
    (F : ∀ base : Heap, K.In base → base.Ns mainGlobals mg → FnG P w K mg base k fa fd [x] sp) (hbind : ∀ (s : Shared) (u : Value), BindsTo s fd ⟨[u], []⟩ [(x, u)])
    (H : Hp) (hO : Only H) (hq : sp [.ref a] H (fun v _ => v = .bl true) fun _ _ _ => False) (hok : HOk P w H s₁.heap) (hA : ∀ b u, H b = some u → b = a) (hK : ∀ u, H a = some u → K.lookup a = none) :
    codeAny (model P w) callerA (.call (.ref fa) ⟨[.ref a], []⟩) (Fine s₁) s₁ := by
  have dictNo : ∀ {b : Addr} {o : Obj} {es : Array DictEntry} {ep : Nat}, s₁.heap.get? b = some o → o.data = .dict es ep → H b = none := by
    intro b o es ep e d
    cases q : H b with
    | none => rfl
    | some u =>
      obtain rfl := hA b u q
      rw [ha] at e
      cases e
      cases d
  have hideNs : ∀ {b : Addr} {m : Str → Option Value}, s₁.heap.Ns b m → (hidT s₁.heap H).Ns b m := by
    rintro b m ⟨o, es, ep, e, d, r⟩
    exact ⟨o, es, ep, hidT_get e (dictNo e d), d, r⟩
  have hKb : K.In (hidT s₁.heap H) := by
    intro b o e
    apply hidT_get (KX b o e)
    cases q : H b with
    | none => rfl
    | some u =>
      obtain rfl := hA b u q
      rw [hK u q] at e
      cases e
  have hM : Mod K mg (hidT s₁.heap H) := by
    obtain ⟨mc, h1, h2⟩ := hlim
    exact ⟨hKb, hideNs hns, ⟨mb, hideNs hb, hbb⟩, ⟨mc, hideNs h1, h2⟩⟩
  have none_ : ∀ b ∈ frs [], H b = none := by
    intro b hb
    cases (show b ∈ ([] : List Addr) from hb)
  have e0 : Env0 P w K mg (hidT s₁.heap H) callerA [] s₁ H := ⟨rfl, hM, fun b o e => of_hidT e, Nat.le_of_eq (hidT_size _ _), trivial, none_, hok, .of_eq hg⟩
  apply codeAny_mono ((F _ hKb (hideNs hns)).run callerA [] s₁ H ⟨[.ref a], []⟩ [.ref a] [.ref a] _ _ rfl hr e0 (hbind s₁ (.ref a)) (.cons rfl .nil) hq)
  intro r s' h
  cases r with
  | error e => exact h.elim
  | ok fl =>
    cases fl with
    | next => exact h.elim
    | brk => exact h.elim
    | cont => exact h.elim
    | ret u =>
      obtain ⟨v, H', os, bare, un, hok', r', rfl⟩ := h
      have eu : u = Value.bool true := r'
      subst eu
      refine ⟨rfl, OldK.of_keep ?_, os, bare⟩
      intro b o e
      cases q : H b with
      | none => exact un.keep b o e q (by intro z; cases (show b ∈ ([] : List Addr) from z)) (by intro z; cases z)
      | some u =>
        (rcases hO b with z | ⟨ob, xs, z⟩)
        · rw [q] at z; cases z
        · have e1 := (hok b _ z).1
          have e2 := (hok' b _ (un.frzs b ob _ z)).1
          rw [e] at e1
          cases e1
          exact e2
theorem law_G (KX : K.In s₁.heap) (hns : s₁.heap.Ns mainGlobals mg) (hb : s₁.heap.Ns builtinsNs mb) (hbb : ∀ x : Str, x ≠ "__name__" → mb x = bootBuiltins x) (hlim : s₁.heap.NoLimit) (hg : s₁.gens = #[])
    (ha : s₁.heap.get? a = some { cls := .type "list", data := .seq vs.toArray })
    (hi : IntsAre vs ns) (hl : ns.length ≤ sizeLine) (hr : Room k callerA)
    (F : ∀ base : Heap, K.In base → base.Ns mainGlobals mg → FnG P w K mg base k fa fd [x] sp) (hbind : ∀ (s : Shared) (u : Value), BindsTo s fd ⟨[u], []⟩ [(x, u)])
    (hsp : ∀ H : Hp, Only H → SqL K H a (ns.map V.int) → sp [.ref a] H (fun v _ => v = .bl true) fun _ _ _ => False) :
    codeAny (model P w) callerA (.call (.ref fa) ⟨[.ref a], []⟩) (Fine s₁) s₁ := by
  have rv := vals_ints hi
  have lenV := hi.length
  cases hk : K.lookup a with
  | some o =>
    have e := KX a o hk
    rw [ha] at e
    cases e
    have hS : SqL K (fun _ => none) a (ns.map V.int) := .inr ⟨_, vs.toArray, _, hk, rfl, rfl, rfl, by rw [List.size_toArray, lenV]; exact hl, by simpa using rv⟩
    have hO : Only (fun _ => none) := fun _ => .inl rfl
    exact core_G KX hns hb hbb hlim hg ha hr F hbind _ hO (hsp _ hO hS) (fun b u z => by cases (show (none : Option HO) = some u from z)) (fun b u z => by cases (show (none : Option HO) = some u from z)) fun u z => by cases (show (none : Option HO) = some u from z)
  | none =>
    let H : Hp := fun b => if b = a then some (.frz { cls := .type "list", data := .seq vs.toArray } (.lst (ns.map V.int))) else none
    have at_a : H a = some (.frz { cls := .type "list", data := .seq vs.toArray } (.lst (ns.map V.int))) := if_pos rfl
    have off : ∀ b u, H b = some u → b = a := by
      intro b u z
      by_cases e : b = a
      · exact e
      · rw [show H b = none from if_neg e] at z; cases z
    have hO : Only H := by
      intro b
      by_cases e : b = a
      · exact .inr ⟨_, _, by rw [e]; exact at_a⟩
      · exact .inl (if_neg e)
    have hok : HOk P w H s₁.heap := by
      intro b u z
      obtain rfl := off b u z
      rw [at_a] at z
      cases z
      (exact ⟨ha, by rw [List.length_map]; exact hl, vs, _, rv, ha⟩)
    exact core_G KX hns hb hbb hlim hg ha hr F hbind H hO (hsp H hO (.inl (.inr ⟨_, at_a⟩))) hok off fun _ _ => hk
end
end V2


namespace V2
open PySem L2
open PySem.Spec PyProof.Rows
/-- a def, by where it stands -/
structure DfX where
  adr : PySem.W.Frag → Addr
  nm : Str
  ql : Str
  st : Stmt
abbrev RwX : Type := Option (Str × Str × Arguments × FuncBody × Scope × Addr × List (Str × Addr) × Value × Addr)
def DfX.seen (K : PySem.W.Frag) (d : DfX) : RwX := match K.lookup (d.adr K) with
  | some ⟨_, _, .func g, _⟩ => some (g.name, g.qualname, g.params, g.body, g.scope, g.globals, g.closure, g.defaults, g.builtins)
  | _ => none
def DfX.due (d : DfX) : RwX := some (d.nm, d.ql, defArgs d.st, .stmts (defBody d.st), defScope d.st, mainGlobals, [], .none, builtinsNs)
def DfX.good (K : PySem.W.Frag) (d : DfX) : Bool := PySem.W.keepIn K (.ref (d.adr K)) && (match K.lookup (d.adr K) with
  | some ⟨_, _, .func g, _⟩ => PySem.W.codeIn K g.code d.ql
  | _ => false)
theorem DfX.fun_ {K : PySem.W.Frag} {d : DfX} (e : d.seen K = d.due) (c : d.good K = true) : ∃ fd, Fun K d.nm d.ql d.st (d.adr K) fd := by
  obtain ⟨kp, c⟩ := He.ba c
  unfold DfX.seen at e
  cases q : K.lookup (d.adr K) with
  | none =>
    rw [q] at c
    cases c
  | some o =>
    obtain ⟨oc, od, dt, sl⟩ := o
    rw [q] at c e
    cases dt with
    | func g =>
      obtain ⟨g1, g2, g3, g4, g5, g6, g7, g8, g9, g10, g11, g12, g13, g14, g15⟩ := g
      have e : (some (g1, g2, g3, g4, g5, g6, g7, g8, g15) : RwX) = some (d.nm, d.ql, defArgs d.st, .stmts (defBody d.st), defScope d.st, mainGlobals, [], .none, builtinsNs) := e
      simp only [Option.some.injEq, Prod.mk.injEq] at e
      obtain ⟨rfl, rfl, rfl, rfl, rfl, rfl, rfl, rfl, rfl⟩ := e
      exact ⟨_, fun_mk q c kp⟩
    | _ => cases c
/-- the words of a dict -/
abbrev TbX : Type := Option (List (Option Str × Int) × Bool)
def wordOf : Value → Option Str
  | .str x _ => some x
  | _ => none
def tabX (K : PySem.W.Frag) (a : Addr) : TbX := match K.lookup a with
  | some ⟨.type c, none, .dict es _, sl⟩ => some (es.toList.map fun e => (wordOf e.key, e.hash), decide (c = "dict") && (sl.size == 0 && !(a == sysModules)))
  | _ => none
def tabDue (w : World) (xs : List Str) : TbX := some (xs.map fun x => (some x, PyData.keyHash w.params x), true)
theorem lit_of (P : Params) : ∀ (es : List DictEntry) (xs : List Str), (es.map fun e => (wordOf e.key, e.hash)) = (xs.map fun x => (some x, PyData.keyHash P x)) → PySem.W.KeysLit P es
  | [], _, _ => trivial
  | e :: es, [], h => by cases h
  | e :: es, x :: xs, h => by
    simp only [List.map_cons, List.cons.injEq, Prod.mk.injEq] at h
    obtain ⟨⟨h1, h2⟩, h3⟩ := h
    refine ⟨?_, lit_of P es xs h3⟩
    obtain ⟨hh, hk, hv⟩ := e
    cases hk with
    | str y t =>
      cases h1
      exact ⟨_, _, rfl, h2⟩
    | _ => cases h1
theorem tab_ok {K : PySem.W.Frag} {w : World} {a : Addr} {xs : List Str} (e : tabX K a = tabDue w xs) : ∃ es n, KDict K w a es n := by
  unfold tabX at e
  cases q : K.lookup a with
  | none =>
    rw [q] at e
    cases e
  | some o =>
    obtain ⟨oc, od, dt, sl⟩ := o
    rw [q] at e
    cases oc with
    | type c =>
      cases od with
      | none =>
        cases dt with
        | dict es n =>
          have e : (some (es.toList.map fun e => (wordOf e.key, e.hash), decide (c = "dict") && (sl.size == 0 && !(a == sysModules))) : TbX) = some (xs.map fun x => (some x, PyData.keyHash w.params x), true) := e
          simp only [Option.some.injEq, Prod.mk.injEq] at e
          obtain ⟨e1, e2⟩ := e
          obtain ⟨c1, c2⟩ := He.ba e2
          obtain ⟨c3, c4⟩ := He.ba c2
          have hc := of_decide_eq_true c1
          have hs : sl = #[] := Array.eq_empty_of_size_eq_zero (by simpa using c3)
          subst hc
          subst hs
          exact ⟨es, n, q, lit_of _ _ _ e1, by simpa using c4⟩
        | _ => cases e
      | some d => cases dt <;> cases e
    | _ => cases od <;> cases dt <;> cases e
/-- the getter of a property -/
def gt (K : PySem.W.Frag) (C p : Str) : Addr := match PySem.W.recIn K (He.ma K (He.ga K C) p) "property" with
  | some (.ref g :: _) => g
  | _ => 0
def bCls (C : Str) (K : PySem.W.Frag) : Bool := (He.Fa.cls C).ok K
def bMk (C : Str) (K : PySem.W.Frag) : Bool := (He.Fa.mkr C).ok K
def bMeth (C m : Str) (K : PySem.W.Frag) : Bool := (He.Fa.meth C m).ok K
def bNo (C f : Str) (K : PySem.W.Frag) : Bool := (He.Fa.noat C f).ok K
def bGlo (x : Str) (K : PySem.W.Frag) : Bool := (He.Fa.glo x).ok K
def bFree (x : Str) (K : PySem.W.Frag) : Bool := (He.Fa.free x).ok K
def bProp (C f : Str) (K : PySem.W.Frag) : Bool := He.eqO (PySem.W.findIn K (.ref (He.ga K C)) f) (some (some (.ref (He.ma K (He.ga K C) f)))) && (He.eqO (PySem.W.specialIn K (.ref (He.ma K (He.ga K C) f)) "__get__") (some (some (.builtin "property.__get__"))) && (decide (PySem.W.takesIn K (.ref (He.ma K (He.ga K C) f)) = some true) && (match PySem.W.recIn K (He.ma K (He.ga K C) f) "property" with
  | some (.ref _ :: _) => true
  | _ => false)))
def bBlt (x : Str) (b : String) (K : PySem.W.Frag) : Bool := He.eqO (PySem.W.nsIn K mainGlobals x) (some (some (.builtin b)))
/-- nobody has set the limit of digits -/
def bNoDig (K : PySem.W.Frag) : Bool := He.eqO (PySem.W.nsIn K cStatics "sys.int_max_str_digits") (some none)
/-- an entry of a dict of a global name: a text, an int -/
def bInt (a x : Str) (i : Int) (K : PySem.W.Frag) : Bool := match PySem.W.nsIn K (He.ga K a) x with
  | some (some (.int j _)) => decide (j = i)
  | _ => false
theorem prop_ok {K : PySem.W.Frag} {C f : Str} (c : bProp C f K = true) : PropOf K (He.ga K C) f (He.ma K (He.ga K C) f) (gt K C f) := by
  obtain ⟨c1, c⟩ := He.ba c
  obtain ⟨c2, c⟩ := He.ba c
  obtain ⟨c3, c4⟩ := He.ba c
  refine ⟨He.eqO_ok c1, He.eqO_ok c2, of_decide_eq_true c3, ?_⟩
  unfold gt
  cases q : PySem.W.recIn K (He.ma K (He.ga K C) f) "property" with
  | none =>
    rw [q] at c4
    cases c4
  | some l =>
    rw [q] at c4
    cases l with
    | nil => cases c4
    | cons v r =>
      cases v with
      | ref g => exact ⟨r, rfl⟩
      | _ => cases c4
theorem blt_ok {K : PySem.W.Frag} {h : Heap} {mg : Str → Option Value} (X : K.In h) (G : h.Ns mainGlobals mg) {x : Str} {b : String} (c : bBlt x b K = true) : mg x = some (.builtin b) := PySem.W.mg_of X G (He.eqO_ok c)
theorem dint_ok {K : PySem.W.Frag} {a x : Str} {i : Int} (c : bInt a x i K = true) : ∃ t, PySem.W.nsIn K (He.ga K a) x = some (some (.int i t)) := by
  unfold bInt at c
  cases q : PySem.W.nsIn K (He.ga K a) x with
  | none =>
    rw [q] at c
    cases c
  | some o =>
    rw [q] at c
    cases o with
    | none => cases c
    | some v =>
      cases v with
      | int j t =>
        have e := of_decide_eq_true c
        subst e
        exact ⟨t, rfl⟩
      | _ => cases c
abbrev AlX : Type := Bool × Bool × List RwX × List TbX
structure Lk where
  fb : List (PySem.W.Frag → Bool)
  ds : List DfX
  tb : List (Str × List Str)
def Lk.seen (L : Lk) (K : PySem.W.Frag) : AlX := (L.fb.all fun f => f K, L.ds.all fun d => d.good K, L.ds.map (·.seen K), L.tb.map fun t => tabX K (He.ga K t.1))
def Lk.due (L : Lk) (w : World) : AlX := (true, true, L.ds.map (·.due), L.tb.map fun t => tabDue w t.2)
/-- a list of objects, its addresses read once -/
def frK {α : Type} : PySem.W.Frag → (PySem.W.Frag → α) → α
  | [], k => k []
  | (a, o) :: r, k => HandSHeadRun.frNat a fun a => frK r fun r => k ((a, o) :: r)
theorem frK_eq {α : Type} : ∀ (K : PySem.W.Frag) (k : PySem.W.Frag → α), frK K k = k K
  | [], k => rfl
  | (a, o) :: r, k => by
    show HandSHeadRun.frNat a (fun a => frK r fun r => k ((a, o) :: r)) = _
    rw [HandSHeadRun.frNat_eq, frK_eq r]
/-- the first n objects -/
def Lk.off (L : Lk) (n : Nat) (g : Addr → Option Obj) : AlX := frK (He.frG g (List.range n)) fun K => L.seen K
def Lk.hook (L : Lk) (n : Nat) : PySem.W.Hook where
  α := AlX
  obs := fun s => L.off n s.heap.get?
  val := L.due
  says := fun w h => ∃ K : PySem.W.Frag, K.In h ∧ L.seen K = L.due w
  of := fun _ _ e => ⟨_, He.frG_in, (frK_eq _ _).symm.trans e⟩
  keeps := fun _ _ _ ⟨K, hK, c⟩ k => ⟨K, PySem.W.Frag.In.keeps hK k, c⟩
theorem Lk.off_eq {L : Lk} {n : Nat} {g : Addr → Option Obj} {s : Shared} (h : ∀ a, g a = s.heap.get? a) : L.off n g = (L.hook n).obs s := by
  have e : g = s.heap.get? := funext h
  rw [e] <;> rfl
section
variable {L : Lk} {K : PySem.W.Frag} {w : World}
theorem Lk.fact (c : L.seen K = L.due w) (i : Nat) {f : PySem.W.Frag → Bool} (h : L.fb[i]? = some f := by rfl) : f K = true := List.all_eq_true.mp (congrArg (fun z : AlX => z.1) c) f (List.mem_of_getElem? h)
theorem Lk.df (c : L.seen K = L.due w) (i : Nat) {d : DfX} (h : L.ds[i]? = some d := by rfl) : ∃ fd, Fun K d.nm d.ql d.st (d.adr K) fd := by
  have c2 : (L.ds.all fun d => d.good K) = true := congrArg (fun z : AlX => z.2.1) c
  have e : L.ds.map (·.seen K) = L.ds.map (·.due) := congrArg (fun z : AlX => z.2.2.1) c
  have e2 : (L.ds.map (·.seen K))[i]? = (L.ds.map (·.due))[i]? := by rw [e]
  rw [List.getElem?_map, List.getElem?_map, h] at e2
  exact DfX.fun_ (Option.some.inj e2) (List.all_eq_true.mp c2 d (List.mem_of_getElem? h))
theorem Lk.tab (c : L.seen K = L.due w) (i : Nat) {t : Str × List Str} (h : L.tb[i]? = some t := by rfl) : ∃ es n, KDict K w (He.ga K t.1) es n := by
  have e : (L.tb.map fun t => tabX K (He.ga K t.1)) = L.tb.map fun t => tabDue w t.2 := congrArg (fun z : AlX => z.2.2.2) c
  have e2 : (L.tb.map fun t => tabX K (He.ga K t.1))[i]? = (L.tb.map fun t => tabDue w t.2)[i]? := by rw [e]
  rw [List.getElem?_map, List.getElem?_map, h] at e2
  exact tab_ok (Option.some.inj e2)
end
/-- the run of a program with imports at its head -/
noncomputable abbrev whK (M : Nat) (r : PySem.W.OpenRow) (w : World) : Option (Shared × PySem.W.SharedT) := HandSHeadRun.wholeF (fun p => HandSHeadRun.stepQ (HandSHeadRun.denQ HandSHeadRun.tabQ) p w) HandSHeadRun.fenceQ M r.prog
noncomputable def lk0 (r : PySem.W.OpenRow) (q : Program) (loose : List Str) (x : Shared × PySem.W.SharedT) := (HandSHeadRun.looksF r.prog x.1.heap x.2.abs, HandSHeadRun.seenQ q loose (importedModules r.prog.main.body) (fun s => PySem.W.xlAt q [] s && PySem.W.recOk r.toRowW.records s) x.2.abs)
def lk1 (L : Lk) (n : Nat) (x : Shared × PySem.W.SharedT) : Bool × List TbX := frK (He.frG (HandSHeadRun.getT x.2) (List.range n)) fun K => (L.fb.all fun f => f K, L.tb.map fun t => tabX K (He.ga K t.1))
def lk2 (L : Lk) (n : Nat) (x : Shared × PySem.W.SharedT) : Bool := frK (He.frG (HandSHeadRun.getT x.2) (List.range n)) fun K => L.ds.all fun d => d.good K
def lk3 (L : Lk) (n : Nat) (x : Shared × PySem.W.SharedT) : List RwX := frK (He.frG (HandSHeadRun.getT x.2) (List.range n)) fun K => L.ds.map (·.seen K)
theorem Lk.run_parts {L : Lk} {n M : Nat} {r : PySem.W.OpenRow} {q : Program} {loose : List Str} {w : World} (h0 : (whK M r w).map (lk0 r q loose) = some (true, PySem.W.openGood q loose))
    (h1 : (whK M r w).map (lk1 L n) = some (true, L.tb.map fun t => tabDue w t.2)) (h2 : (whK M r w).map (lk2 L n) = some true) (h3 : (whK M r w).map (lk3 L n) = some (L.ds.map (·.due))) :
    HandSHeadRun.RunEqI r q (L.hook n) (fun s => L.off n (HandSHeadRun.getT s)) M loose w := by
  unfold HandSHeadRun.RunEqI
  show (whK M r w).map _ = _
  cases e : whK M r w with
  | none =>
    rw [e] at h0
    cases h0
  | some x =>
    rw [e] at h0 h1 h2 h3
    have h0 := Option.some.inj h0
    have h1 := Option.some.inj h1
    have h2 := Option.some.inj h2
    have h3 := Option.some.inj h3
    unfold lk0 at h0
    unfold lk1 at h1
    unfold lk2 at h2
    unfold lk3 at h3
    rw [frK_eq] at h1 h2 h3
    obtain ⟨a1, a2⟩ := Prod.mk.inj h0
    obtain ⟨b1, b2⟩ := Prod.mk.inj h1
    refine congrArg some ?_
    refine Prod.ext a1 (Prod.ext a2 ?_)
    show L.off n (HandSHeadRun.getT x.2) = L.due w
    unfold Lk.off
    rw [frK_eq]
    exact Prod.ext b1 (Prod.ext h2 (Prod.ext h3 b2))
theorem walk_GE {l : PySem.W.OpenLaw} {n k : Nat} {q : Program} {loose : List Str} {XP : (Str → Option Value) → Heap → Prop} {YP : World → Heap → Prop} {d : DefRec} {x : Str}
    (hn : l.most = some n) (hn2 : n ≤ sizeLine) (hdf : d.params.defaults = []) (hr : Room k callerA)
    (F : ∀ (w : World) (mg : Str → Option Value) (fa : Addr) (h : Heap), YP w h → h.Ns mainGlobals mg → mg d.name = some (.ref fa) →
      ∃ (K : PySem.W.Frag) (fd : FuncData) (sp : Sp), K.In h ∧ (∀ (s : Shared) (u : Value), BindsTo s fd ⟨[u], []⟩ [(x, u)]) ∧
        (∀ (H : Hp) (a : Addr) (ns : List Int), ns.length ≤ n → Only H → SqL K H a (ns.map V.int) → sp [.ref a] H (fun v _ => v = .bl true) fun _ _ _ => False) ∧
        ∀ base : Heap, K.In base → base.Ns mainGlobals mg → FnG l.prog w K mg base k fa fd [x] sp) :
    PySem.W.WalkO q loose XP YP l.row.toRowW d [] (fun f us => PySem.call f us) := by
  apply Att.attach_call hn hdf
  intro w s₀ s₁ mg mb fa o pm cd doc a vs ns G Y ho hd hcd hmg hobj hints hlen hg
  obtain ⟨K, fd, sp, KX, hb, hsp, hF⟩ := F w mg fa _ Y G.T.g hmg
  exact law_G KX G.T.g G.T.b G.T.builtins G.T.nolimit hg hobj hints (Nat.le_trans hlen hn2) hr hF hb fun H hO hS => hsp H a ns hlen hO hS
end V2


namespace V2
open PySem L2
open PySem.Spec PyProof.Rows
/-- what the written part says of an own class of errors, whose __init__ is fI's -/
structure EC (K : PySem.W.Frag) (C fI : Addr) : Prop where
  ox : OexC K C
  noV : PySem.W.findIn K (.ref C) "value" = some none
  iC : PySem.W.findIn K (.ref C) "__init__" = some (some (.ref fI))
  xf : XfC K C
  hcl : (PySem.W.clsIn K C).isSome = true
  ha : PySem.W.findIn K (.ref C) "__class__" = some (some (.builtin "object.__class__"))
  hm : PySem.W.mroIn K C (.type "object") = some true
/-- what is said for all of them -/
structure EG (K : PySem.W.Frag) (fI : Addr) : Prop where
  tI : PySem.W.typeIn K (.ref fI) = some (.type "function")
  hn : PySem.W.specialIn K (.builtin "object.__class__") "__get__" = some (some (.builtin "getset_descriptor.__get__"))
  ht : PySem.W.takesIn K (.builtin "object.__class__") = some true
/-- an error of the class at C, made with v, stands at e with its dict at d -/
structure Er (H : Hp) (e C d : Addr) (v : V) : Prop where
  at_ : H e = some (exo e C (some d))
  dict : H d = some (exd d [("value", v)])
theorem Er.ex {H H' : Hp} {e C d : Addr} {v : V} (h : Er H e C d v) (x : Evl.Ex H H') : Er H' e C d v := ⟨x _ _ h.at_, x _ _ h.dict⟩
def spInit (K : PySem.W.Frag) : Sp := fun vs H Q _ => ∃ (a C : Addr) (y : V), vs = [.ref a, y] ∧ OexC K C ∧ PySem.W.findIn K (.ref C) "value" = some none ∧ H a = some (exo a C none) ∧
  ∀ dx, H dx = none → dx ≠ a → Q .non (upd (upd H dx (exd dx [("value", y)])) a (exo a C (some dx)))
section
variable {base : Heap} {mg : Str → Option Value} {K : PySem.W.Frag} {w : World} {P : Program}
theorem ok_TE_init {f : Addr} {fd : FuncData} (F : Fun K "__init__" "TankError.__init__" s_TE_init f fd) : FnOk P w K mg base CX0 1 f fd p_TE_init (spInit K) := by
  refine F.ok sc_TE_init (fun vs H Q E h => ?_) (fun cdv A outer s H vs Q E hr h => ?_)
  · obtain ⟨a, C, y, rfl, _⟩ := h
    rfl
  · obtain ⟨a, C, y, rfl, T, hno, ha, k⟩ := h
    have nd := sc_TE_init.nd
    refine ⟨_, pss_one (ps_ost (pv 0) (pv 1)), ?_⟩
    exact ⟨_, rfl, _, rfl, a, C, rfl, T, hno, .inl ⟨ha, fun dx hd hn => k dx hd hn⟩⟩
end
section
variable {X : Cx} {x : Str} {C fI : Addr} {k : Nat} {fd : FuncData} {e : Expr} {ta : TA} {p pos : Pos}
end
end V2


namespace V2
open PySem L2
open PySem.Spec PyProof.Rows
abbrev eI (K : PySem.W.Frag) : Addr := He.ma K (He.ga K "TankError") "__init__"
def bObj (K : PySem.W.Frag) (C : Addr) : Bool := match K.lookup C with
  | some ⟨.type "type", _, .cls cd, sl⟩ => (match cd.mro, sl.toList with
    | .ref C' :: bm, [_, _, _, _, some (.builtin n), _] => C' == C && n == "ValueError.__new__" && !cd.hasDel && cd.hasDict && PySem.HandSPX.refsVE bm
    | _, _ => false)
  | _ => false
theorem obj_ok {K : PySem.W.Frag} {C : Addr} (q : bObj K C = true) : ∃ nm qn N bs bm sn sub ab col dd k0 k1 k2 k3 k5, K.lookup C = some (excClassObj nm qn C N bs bm true sn sub ab col dd k0 k1 k2 k3 k5 "ValueError.__new__") ∧ PySem.HandSPX.refsVE bm = true := by
  unfold bObj at q
  split at q
  · rename_i dd cd sl ho
    split at q
    · rename_i C' bm k0 k1 k2 k3 n k5 hm hs
      simp only [Bool.and_eq_true, beq_iff_eq, Bool.not_eq_true'] at q
      obtain ⟨⟨⟨⟨rfl, rfl⟩, hdel⟩, hdi⟩, hbm⟩ := q
      obtain ⟨nm, bs, mro, ns, qn, hd, sn, sub, ab, col, del⟩ := cd
      dsimp only at hm hdel hdi
      subst hm hdel hdi
      have hsl : sl = #[k0, k1, k2, k3, some (.builtin "ValueError.__new__"), k5] := by
        obtain ⟨l⟩ := sl
        simp only at hs
        rw [hs]
      subst hsl
      exact ⟨nm, qn, ns, bs, bm, sn, sub, ab, col, dd, k0, k1, k2, k3, k5, ho, hbm⟩
    · cases q
  · cases q
def bErr (x : Str) (K : PySem.W.Frag) : Bool := bObj K (He.ga K x) && (He.eqO (PySem.W.findIn K (.ref (He.ga K x)) "__setattr__") (some (some (.builtin "object.__setattr__"))) && (decide (PySem.W.typeIn K (.ref (He.ga K x)) = some (.type "type")) && (PySem.W.keepIn K (.ref (He.ga K x)) &&
  (He.eqO (PySem.W.findIn K (.ref (He.ga K x)) "value") (some none) && (He.eqO (PySem.W.findIn K (.ref (He.ga K x)) "__init__") (some (some (.ref (eI K)))) && (xfB K (He.ga K x) && ((PySem.W.clsIn K (He.ga K x)).isSome &&
  (He.eqO (PySem.W.findIn K (.ref (He.ga K x)) "__class__") (some (some (.builtin "object.__class__"))) && decide (PySem.W.mroIn K (He.ga K x) (.type "object") = some true)))))))))
theorem err_ok {K : PySem.W.Frag} {x : Str} (c : bErr x K = true) : EC K (He.ga K x) (eI K) := by
  obtain ⟨c1, c⟩ := He.ba c
  obtain ⟨c2, c⟩ := He.ba c
  obtain ⟨c3, c⟩ := He.ba c
  obtain ⟨c4, c⟩ := He.ba c
  obtain ⟨c5, c⟩ := He.ba c
  obtain ⟨c6, c⟩ := He.ba c
  obtain ⟨c7, c⟩ := He.ba c
  obtain ⟨c8, c⟩ := He.ba c
  obtain ⟨c9, c10⟩ := He.ba c
  have xf := xfB_ok c7
  exact ⟨⟨obj_ok c1, He.eqO_ok c2, xf.exC, of_decide_eq_true c3, c4⟩, He.eqO_ok c5, He.eqO_ok c6, xf, c8, He.eqO_ok c9, of_decide_eq_true c10⟩
def bEG (K : PySem.W.Frag) : Bool := decide (PySem.W.typeIn K (.ref (eI K)) = some (.type "function")) && (He.eqO (PySem.W.specialIn K (.builtin "object.__class__") "__get__") (some (some (.builtin "getset_descriptor.__get__"))) && decide (PySem.W.takesIn K (.builtin "object.__class__") = some true))
theorem eg_ok {K : PySem.W.Frag} (c : bEG K = true) : EG K (eI K) := by
  obtain ⟨c1, c⟩ := He.ba c
  obtain ⟨c2, c3⟩ := He.ba c
  exact ⟨of_decide_eq_true c1, He.eqO_ok c2, of_decide_eq_true c3⟩
def bSub (x y : Str) (b : Bool) (K : PySem.W.Frag) : Bool := decide (PySem.W.subIn K (.ref (He.ga K x)) (.ref (He.ga K y)) = some b)
theorem sub_ok {K : PySem.W.Frag} {x y : Str} {b : Bool} (c : bSub x y b K = true) : PySem.W.subIn K (.ref (He.ga K x)) (.ref (He.ga K y)) = some b := of_decide_eq_true c
def bTy (x : Str) (K : PySem.W.Frag) : Bool := He.eqO (PySem.W.findIn K (.ref (He.ga K x)) "__class__") (some (some (.builtin "object.__class__"))) && decide (PySem.W.mroIn K (He.ga K x) (.type "object") = some true)
theorem ty_ok {K : PySem.W.Frag} {x : Str} {H : Hp} {a dx : Addr} {fs : List (Str × V)} (G : bEG K = true) (c : bTy x K = true) (cl : Cls K (He.ga K x)) (e : H a = some (.ins (He.ga K x) dx fs)) : TyX K H (.ref a) (.ref (He.ga K x)) := by
  obtain ⟨c1, c2⟩ := He.ba c
  have g := eg_ok G
  exact .base (.ins e cl (He.eqO_ok c1) g.hn g.ht (of_decide_eq_true c2))
end V2


/-! ## == and != by an own __eq__, whatever it answers, whatever it is asked of -/
namespace PySem.W
open PySem PySem.Calls PyProof.Rows Builtin
section
variable {prog : Program} {w : World} {A : Around} {E : Value → Shared → Prop} {s : Shared} {K : Frag} {x C L f : Addr} {h₀ : Heap} {m : Str → Option Value} {ox : Obj} {od : Option Obj} {b tb : Value}
def NeB (Q : Value → Shared → Prop) (v : Value) (s' : Shared) : Prop := ∃ r, v = .bool r ∧ Q (.bool (!r)) s'
theorem ne_bound {M : Model} {args : List Value} {Q : Option Value → Shared → Prop} (X : K.In s.heap) (I : InstAt s.heap x ox C od) (hs : findIn K (.ref C) "__ne__" = some (some (.builtin "object.__ne__")))
    (h : wpAny M A (call (.builtin "object.__ne__") (.ref x :: args)) (fun v => Q (some v)) E s) : wpAny M A (callSpecialIfBound? (.ref x) "__ne__" args) Q E s := by
  simp only [callSpecialIfBound?, bindSpecialIfBound?]
  refine wpAny_holding (wpAny_bind (wpAny_bind (wpAny_bind (I.type.here ((looks_findIn X hs).here ?_)))))
  simp only [PySem.F.cmp_object.ne.bind]
  refine wpAny_bind (wpAny_askSetting (wpAny_ite ?_))
  have fin : wpAny M A (call (.builtin "object.__ne__") ([.ref x] ++ args) >>= fun v => pure (some v)) Q E s := wpAny_bind (wpAny_mono h (fun v s' h' => wpAny_pure h') fun _ _ h' => h')
  split
  · exact wpAny_bind (wpAny_pure (wpAny_pure fin))
  · exact wpAny_tryCatch (wpAny_bind (wpAny_pure (wpAny_pure fin)))
theorem ne_call {Q : Value → Shared → Prop} (hu : A.in1.units < cLine) (X : K.In s.heap) (I : InstAt s.heap x ox C od) (hm : mroIn K C (.type "object") = some true) (he : findIn K (.ref C) "__eq__" = some (some (.ref f))) (hf : isFn K (.ref f) = true)
    (h : wpAny (model prog w) A.in1 (call (.ref f) [.ref x, b]) (NeB Q) E s) : wpAny (model prog w) A (call (.builtin "object.__ne__") [.ref x, b]) Q E s := by
  refine wpAny_call (codeAny_call_builtin PySem.F.cmp_object.ne.plain PySem.F.cmpEntry_ne (check_slot (i := "object.__ne__") (owner := "object") (n := "__ne__") PySem.F.cmpKind_ne PySem.F.cmpSplit_ne (I.type.andThen (looks_mroIn X hm)) (PySem.F.cmpArgs_ne _ _) ?_))
  unfold Builtin.«object.__ne__»
  refine wpAny_bind (m := slotArgs "__ne__" 1 _) (wpAny_pure ?_)
  refine wpAny_bind (m := cRoomFor _ _) (wpAny_cRoomFor hu ?_)
  refine wpAny_bind (m := callSpecialIfBound? (.ref x) (Str.ofString "__eq__") _) (ifBound_K X I he hf (wpAny_mono h (fun r s' hq => ?_) fun _ _ y => y))
  obtain ⟨r, rfl, hq⟩ := hq
  exact wpAny_bind (wpAny_truthy_bool (wpAny_pure hq))
theorem cmp_Kne {Q : Value → Shared → Prop} (hu : A.in1.units < cLine) (hu0 : A.units < cLine) (F : Fr h₀ L s.heap m) (X₀ : K.In h₀) (I : InstAt s.heap x ox C od) (hb : Looks (model prog w) s.heap (typeOf b) tb) (hn : notFirst K C tb = true)
    (hs : findIn K (.ref C) "__ne__" = some (some (.builtin "object.__ne__"))) (he : findIn K (.ref C) "__eq__" = some (some (.ref f))) (hf : isFn K (.ref f) = true) (hm : mroIn K C (.type "object") = some true)
    (h : wpAny (model prog w) A.in1 (call (.ref f) [.ref x, b]) (NeB Q) E s) : wpAny (model prog w) A (richCompare .NotEq (.ref x) b) Q E s := by
  have X := X₀.keeps F.keep
  have one : wpAny (model prog w) A (tryCompare (.ref x) "__ne__" b) (fun r s' => ∃ v, r = some v ∧ Q v s') E s := by
    unfold tryCompare
    refine wpAny_bind (ne_bound X I hs (ne_call hu X I hm he hf (wpAny_mono h (fun v s' hv => ?_) fun _ _ e => e)))
    obtain ⟨r, rfl, hq⟩ := hv
    exact ⟨r, rfl, wpAny_pure ⟨_, rfl, hq⟩⟩
  unfold richCompare
  simp only [oneThing_ref]
  refine wpAny_holding (wpAny_bind (wpAny_cRoomFor hu0 ?_))
  rw [cmpInfo_NotEq]
  dsimp only
  refine wpAny_bind (I.type.here (wpAny_bind (hb.here ?_)))
  split
  · rename_i q
    have e : subIn K tb (.ref C) = some false := by
      rcases Bool.or_eq_true_iff.mp hn with e | e
      · rw [beq_iff_eq.mp e] at q; simp at q
      · exact beq_iff_eq.mp e
    refine wpAny_bind ((looks_subIn X e).here ?_)
    simp only [Bool.false_eq_true, if_false]
    refine wpAny_bind (wpAny_mono one (fun r s' z => ?_) fun _ _ e => e)
    obtain ⟨v, rfl, hq⟩ := z
    exact wpAny_pure hq
  · refine wpAny_bind (wpAny_pure ?_)
    simp only [Bool.false_eq_true, if_false]
    refine wpAny_bind (wpAny_mono one (fun r s' z => ?_) fun _ _ e => e)
    obtain ⟨v, rfl, hq⟩ := z
    exact wpAny_pure hq
end
end PySem.W
namespace L2
open PySem PySem.Spec PyProof.Rows
/-- what an instance of C is compared with -/
inductive Yt (K : PySem.W.Frag) (C : Addr) (H : Hp) : V → Value → Prop
  | ins {b dy : Addr} {gs : List (Str × V)} : H b = some (.ins C dy gs) → Yt K C H (.ref b) (.ref C)
  | lst {b : Addr} {xs : List V} : H b = some (.lst xs) → Yt K C H (.ref b) (.type "list")
  | tup {b : Addr} {xs : List V} : H b = some (.tup xs) → Yt K C H (.ref b) (.type "tuple")
  | non : Yt K C H .non (.type "NoneType")
  | str (z : Str) : Yt K C H (.str z) (.type "str")
  | int (i : Int) : Yt K C H (.int i) (.type "int")
structure EqC (K : PySem.W.Frag) (C f : Addr) : Prop where
  at_ : PySem.W.findIn K (.ref C) "__eq__" = some (some (.ref f))
  fn : PySem.W.isFn K (.ref f) = true
  ne : PySem.W.findIn K (.ref C) "__ne__" = some (some (.builtin "object.__ne__"))
  mro : PySem.W.mroIn K C (.type "object") = some true
def rEqO (C : Addr) (sp : Sp) (K : PySem.W.Frag) (E : XK) : R2 := fun x y H Q => ∃ (a dx : Addr) (fs : List (Str × V)) (t : Value), x = .ref a ∧ H a = some (.ins C dx fs) ∧ Yt K C H y t ∧ sp [x, y] H (fun v H' => ∃ r, v = .bl r ∧ Q (.bl r) H') E
def rNeO (C : Addr) (sp : Sp) (K : PySem.W.Frag) (E : XK) : R2 := fun x y H Q => ∃ (a dx : Addr) (fs : List (Str × V)) (t : Value), x = .ref a ∧ H a = some (.ins C dx fs) ∧ Yt K C H y t ∧ sp [x, y] H (fun v H' => ∃ r, v = .bl r ∧ Q (.bl (!r)) H') E
section
variable {X : Cx} {n : Nat}
theorem yt_looks {K : PySem.W.Frag} {M : Model} {C : Addr} {pins : List (Addr × Obj)} {σ : St} {H : Hp} {s : Shared} {y : V} {u t : Value} (I : Inv X pins σ H s) (ry : RelV y u) (h : Yt K C H y t) : PySem.W.Looks M s.heap (typeOf u) t := by
  cases h with
  | ins e =>
    cases ry
    obtain ⟨mB, J, _⟩ := ins_get I.hok e
    obtain ⟨od, J, _⟩ := J.look
    exact J.type
  | lst e =>
    cases ry
    obtain ⟨z, its, k, r, e⟩ := I.hok _ _ e
    exact (PySem.W.Looks.ld e).andThen .now
  | tup e =>
    cases ry
    obtain ⟨its, r, e, z⟩ := I.tuple (SqT.of e)
    obtain ⟨⟨cls, dd, data, sl⟩, ho, hc, n, hd⟩ := e
    simp only at hc
    subst hc
    exact (PySem.W.Looks.ld ho).andThen .now
  | non =>
    cases ry
    exact PySem.W.Looks.of_pure (by kernel_rfl)
  | str z =>
    obtain ⟨t, rfl⟩ := ry
    exact PySem.W.Looks.of_pure (by kernel_rfl)
  | int i =>
    obtain ⟨t, rfl⟩ := ry
    exact PySem.W.Looks.of_pure (by kernel_rfl)
theorem sub_no {K : PySem.W.Frag} {C : Addr} {T : String} {U : Value} (h : fastBuiltinMro T = some [.type T, U]) (u : U = .type "object" := by rfl) : (PySem.W.subIn K (.type T) (.ref C) == some false) = true := by
  subst u
  have e : PySem.W.subIn K (.type T) (.ref C) = (fastBuiltinMro T).map (·.contains (.ref C)) := rfl
  rw [e, h]
  simp
theorem yt_first {K : PySem.W.Frag} {C : Addr} {H : Hp} {y : V} {t : Value} (h : Yt K C H y t) : PySem.W.notFirst K C t = true := by
  unfold PySem.W.notFirst
  cases h with
  | ins e => simp
  | lst e => exact Bool.or_eq_true_iff.mpr (.inr (sub_no (by kernel_rfl)))
  | tup e => exact Bool.or_eq_true_iff.mpr (.inr (sub_no (by kernel_rfl)))
  | non => exact Bool.or_eq_true_iff.mpr (.inr (sub_no (by kernel_rfl)))
  | str z => exact Bool.or_eq_true_iff.mpr (.inr (sub_no (by kernel_rfl)))
  | int i => exact Bool.or_eq_true_iff.mpr (.inr (sub_no (by kernel_rfl)))
/-- the call of the own __eq__, from a comparison -/
theorem own_call {CX : CXT} {f a : Addr} {fd : FuncData} {ps : List Str} {sp : Sp} {E : XK} {A : Around} (F : FnOk X.prog X.w X.K X.mg X.base CX n f fd ps sp) (hb : Binds X.K fd ps []) (hx : Passes CX X E) (hA : Sub X n A)
    {pins : List (Addr × Obj)} {σ : St} {H : Hp} {s : Shared} {y : V} {u : Value} {Q : VK} (I : Inv X pins σ H s) (ry : RelV y u) (hsp : sp [.ref a, y] H (fun v H' => ∃ r, v = .bl r ∧ Q (.bl r) H') E) :
    wpAny (model X.prog X.w) A (call (.ref f) [.ref a, u]) (fun v s' => ∃ r H', v = .bool r ∧ Inv X pins σ H' s' ∧ Q (.bl r) H') X.xe s := by
  have e0 : Env0 X.prog X.w X.K X.mg X.base A X.stack s H := by
    have e := I.env0
    exact ⟨by rw [hA.fr]; exact e.frames, e.mod, e.bs, e.bsz, e.funs, e.frf, e.hok, e.bare⟩
  have hl := F.len _ _ _ _ hsp
  have r2 : Vals [V.ref a, y] [Value.ref a, u] := .cons rfl (.cons ry .nil)
  refine wpAny_call (codeAny_mono (F.run A X.stack s H ⟨[.ref a, u], []⟩ [.ref a, u] [.ref a, y] _ E hA.room e0 (by
    have := hb s [.ref a, u] I.kIn (by simpa using hl)
    simpa using this) r2 hsp) fun r s' hq => ?_)
  cases r with
  | error e => exact hx pins σ H s e s' I hq
  | ok fl =>
    cases fl with
    | ret w =>
      obtain ⟨z, H', I', rz, r, ez, q⟩ := I.after hq
      subst ez
      cases rz
      exact ⟨r, H', rfl, I', q⟩
    | next => exact False.elim hq
    | brk => exact False.elim hq
    | cont => exact False.elim hq
theorem op_eqO {CX : CXT} {C f : Addr} {fd : FuncData} {ps : List Str} {sp : Sp} {E : XK} (F : FnOk X.prog X.w X.K X.mg X.base CX n f fd ps sp) (c : EqC X.K C f) (hb : Binds X.K fd ps []) (hx : Passes CX X E) (hr : Room n X.A) : OpR X (compareOp .Eq) (rEqO C sp X.K E) := by
  intro pins s σ H x y v u Q I rx ry hq
  obtain ⟨a, dx, fs, t, rfl, ha, ht, hsp⟩ := hq
  cases rx
  obtain ⟨mA, J, _⟩ := ins_get I.hok ha
  obtain ⟨od, J, _⟩ := J.look
  obtain ⟨m, hF⟩ := I.fr
  have sb : Sub X n X.A := ⟨hr, rfl⟩
  show wpAny (model X.prog X.w) X.A (richCompare .Eq _ u) _ X.xe s
  refine PySem.W.cmp_K (op := .Eq) sb.room.units0 hF I.ok.mod.kin J (yt_looks I ry ht) (yt_first ht) c.at_ c.fn ?_
  refine wpAny_mono (own_call F hb hx sb I ry hsp) (fun v s' z => ?_) fun _ _ e => e
  obtain ⟨r, H', rfl, I', q⟩ := z
  exact ⟨.bl r, H', I', rfl, q⟩
theorem op_neO {CX : CXT} {C f : Addr} {fd : FuncData} {ps : List Str} {sp : Sp} {E : XK} (F : FnOk X.prog X.w X.K X.mg X.base CX n f fd ps sp) (c : EqC X.K C f) (hb : Binds X.K fd ps []) (hx : Passes CX X E) (hr : Room (n + 1) X.A) : OpR X (compareOp .NotEq) (rNeO C sp X.K E) := by
  intro pins s σ H x y v u Q I rx ry hq
  obtain ⟨a, dx, fs, t, rfl, ha, ht, hsp⟩ := hq
  cases rx
  obtain ⟨mA, J, _⟩ := ins_get I.hok ha
  obtain ⟨od, J, _⟩ := J.look
  obtain ⟨m, hF⟩ := I.fr
  have sb : Sub X n X.A.in1 := Sub.in1 ⟨hr, rfl⟩
  show wpAny (model X.prog X.w) X.A (richCompare .NotEq _ u) _ X.xe s
  refine PySem.W.cmp_Kne sb.room.units0 hr.units0 hF I.ok.mod.kin J (yt_looks I ry ht) (yt_first ht) c.ne c.at_ c.fn c.mro ?_
  refine wpAny_mono (own_call (Q := fun v H' => ∃ r, v = .bl r ∧ Q (.bl (!r)) H') F hb hx sb I ry ?_) (fun v s' z => ?_) fun _ _ e => e
  · refine cast ?_ hsp
    congr 1
    funext v H'
    apply propext
    constructor
    · rintro ⟨r, rfl, q⟩
      exact ⟨r, rfl, r, rfl, q⟩
    · rintro ⟨r, rfl, r', e, q⟩
      cases e
      exact ⟨_, rfl, q⟩
  · obtain ⟨r, H', rfl, I', r', e, q⟩ := z
    cases e
    exact ⟨r, rfl, .bl (!r), H', I', rfl, q⟩
end
end L2
namespace L2
open PySem PySem.Spec PyProof.Rows
/-- x[y] by an own __getitem__, that may raise -/
def tIxO (C : Addr) (sp : Sp) (E : St → XK) (ta tb : TE) : TE := fun σ H Q => ta σ H fun x H1 => tb σ H1 fun y H2 => ∃ (a dx : Addr) (fs : List (Str × V)), x = .ref a ∧ H2 a = some (.ins C dx fs) ∧ sp [x, y] H2 Q (E σ)
structure GiC (K : PySem.W.Frag) (C f : Addr) : Prop where
  at_ : PySem.W.findIn K (.ref C) "__getitem__" = some (some (.ref f))
  fn : PySem.W.isFn K (.ref f) = true
  fi : PySem.W.fnIn K f = true
section
variable {X : Cx} {n : Nat}
theorem sub_run {CX : CXT} {f : Addr} {fd : FuncData} {ps : List Str} {sp : Sp} {E : XK} {A : Around} (F : FnOk X.prog X.w X.K X.mg X.base CX n f fd ps sp) (hb : Binds X.K fd ps []) {σ : St} (hx : PassesAt CX X σ E) (hA : Sub X n A)
    {pins : List (Addr × Obj)} {H : Hp} {s : Shared} {vs : List V} {us : List Value} {Q : VK} (I : Inv X pins σ H s) (r2 : Vals vs us) (hsp : sp vs H Q E) :
    wpAny (model X.prog X.w) A (call (.ref f) us) (EP X pins σ Q) X.xe s := by
  have e0 : Env0 X.prog X.w X.K X.mg X.base A X.stack s H := by
    have e := I.env0
    exact ⟨by rw [hA.fr]; exact e.frames, e.mod, e.bs, e.bsz, e.funs, e.frf, e.hok, e.bare⟩
  have hl := F.len _ _ _ _ hsp
  refine wpAny_call (codeAny_mono (F.run A X.stack s H ⟨us, []⟩ us vs _ E hA.room e0 (by
    have := hb s us I.kIn (by rw [List.append_nil, ← r2.length]; exact hl)
    rw [List.append_nil] at this
    exact this) r2 hsp) fun r s' hq => ?_)
  cases r with
  | error e => exact hx pins H s e s' I hq
  | ok fl =>
    cases fl with
    | ret w => exact I.after hq
    | next => exact False.elim hq
    | brk => exact False.elim hq
    | cont => exact False.elim hq
theorem pe_ixO {CX : CXT} {C f : Addr} {fd : FuncData} {ps : List Str} {sp : Sp} {E : St → XK} {a b : Expr} {ta tb : TE} {pos : Pos} (ha : PE X a ta) (hb0 : PE X b tb) (F : FnOk X.prog X.w X.K X.mg X.base CX n f fd ps sp) (c : GiC X.K C f) (hb : Binds X.K fd ps []) (hx : ∀ τ, PassesAt CX X τ (E τ)) (hr : Room (n + 1) X.A)
    (hsl : ∀ o i, subscripted b true o i = runValue (.builtin "lifetime.subscript" ⟨[o, i], []⟩) := by intro _ _; rfl) : PE X (.Subscript a b pos) (tIxO C sp E ta tb) := by
  refine ⟨fun pins s σ H Q I h => ?_⟩
  refine Subscript_ (binT ha hb0 I (R := fun x y H2 => ∃ (a dx : Addr) (fs : List (Str × V)), x = .ref a ∧ H2 a = some (.ins C dx fs) ∧ sp [x, y] H2 Q (E σ)) h fun v u s2 x y H2 I2 rx ry q => ?_)
  obtain ⟨p, dx, fs, rfl, hp, hsp⟩ := q
  cases rx
  obtain ⟨mA, J, _⟩ := ins_get I2.hok hp
  obtain ⟨od, J, _⟩ := J.look
  obtain ⟨m, hF⟩ := I2.fr
  have sb : Sub X n X.A.in1 := Sub.in1 ⟨hr, rfl⟩
  exact PySem.W.sub_K hF I2.ok.mod.kin J c.at_ c.fi c.fn (sub_run (vs := [.ref p, y]) (us := [.ref p, u]) F hb (hx σ) sb I2 (.cons rfl (.cons ry .nil)) hsp) (hsl _ _)
end
end L2


namespace V2
open PySem L2
open PySem.Spec PyProof.Rows
/-! ## own == and subscripts: what a kernel run looks at -/
def bNe (x : Str) (K : PySem.W.Frag) : Bool := He.eqO (PySem.W.findIn K (.ref (He.ga K x)) "__ne__") (some (some (.builtin "object.__ne__"))) && decide (PySem.W.mroIn K (He.ga K x) (.type "object") = some true)
def bFi (x m : Str) (K : PySem.W.Frag) : Bool := PySem.W.fnIn K (He.ma K (He.ga K x) m)
def bKT (T : String) (x : Str) (K : PySem.W.Frag) : Bool := decide (PySem.W.kitOne K (.type T) (.ref (He.ga K x)) = some false)
theorem kt_ok {K : PySem.W.Frag} {T : String} {x : Str} (c : bKT T x K = true) : PySem.W.kitOne K (.type T) (.ref (He.ga K x)) = some false := of_decide_eq_true c
theorem eqc_ok {K : PySem.W.Frag} {x : Str} (c : bNe x K = true) (m : bMeth x "__eq__" K = true) : EqC K (He.ga K x) (He.ma K (He.ga K x) "__eq__") := by
  obtain ⟨c1, c2⟩ := He.ba c
  have h := He.meth_ok m
  exact ⟨h.at_, h.fn, He.eqO_ok c1, of_decide_eq_true c2⟩
theorem gic_ok {K : PySem.W.Frag} {x : Str} (c : bFi x "__getitem__" K = true) (m : bMeth x "__getitem__" K = true) : GiC K (He.ga K x) (He.ma K (He.ga K x) "__getitem__") := by
  have h := He.meth_ok m
  exact ⟨h.at_, h.fn, c⟩
end V2


namespace V2
open PySem L2
open PySem.Spec PyProof.Rows
def nm0 : List Str := ["gcd", "order_of_fractions", "sign_of", "TankError", "InvalidTank", "InvalidStep", "UnknownTank", "UnknownStep", "InvalidFraction", "copied", "is_integer", "is_fraction", "THINGS", "is_amount", "is_tank", "check_tanks", "is_ascending", "is_step", "tanks_of", "check_numbers"]
def nm1 : List Str := ["check_part", "check_step", "check_index", "check_exchange", "Script", "_law_pv_sack", "_law_pv_coin", "_law_pv_shared", "_law_pv_ratio", "_law_pv_copied", "_law_pv_lists", "_law_pv_marked", "_law_pv_right", "_law_pv_part", "_law_pv_vessels", "_law_pv_two", "_law_pv_deed", "_law_pv_shape", "_law_pv_long", "_law_pv_script"]
def nm2 : List Str := ["_law_pv_same_script", "_law_pv_at_index", "_law_pv_indexes_right", "_law_pv_near", "_law_pv_equal_right", "_law_pv_checked"]
def nms : List Str := nm0 ++ nm1 ++ nm2
def dfs0 : List DfX := [⟨(fun K => He.ga K "order_of_fractions"), "order_of_fractions", "order_of_fractions", s_order_of_fractions⟩, ⟨(fun K => He.ga K "sign_of"), "sign_of", "sign_of", s_sign_of⟩, ⟨(fun K => He.ga K "copied"), "copied", "copied", s_copied⟩, ⟨(fun K => He.ga K "is_integer"), "is_integer", "is_integer", s_is_integer⟩, ⟨(fun K => He.ga K "is_fraction"), "is_fraction", "is_fraction", s_is_fraction⟩, ⟨(fun K => He.ga K "is_amount"), "is_amount", "is_amount", s_is_amount⟩, ⟨(fun K => He.ga K "is_tank"), "is_tank", "is_tank", s_is_tank⟩, ⟨(fun K => He.ga K "check_tanks"), "check_tanks", "check_tanks", s_check_tanks⟩, ⟨(fun K => He.ga K "is_ascending"), "is_ascending", "is_ascending", s_is_ascending⟩, ⟨(fun K => He.ga K "is_step"), "is_step", "is_step", s_is_step⟩, ⟨(fun K => He.ga K "tanks_of"), "tanks_of", "tanks_of", s_tanks_of⟩, ⟨(fun K => He.ga K "check_numbers"), "check_numbers", "check_numbers", s_check_numbers⟩, ⟨(fun K => He.ga K "check_part"), "check_part", "check_part", s_check_part⟩, ⟨(fun K => He.ga K "check_step"), "check_step", "check_step", s_check_step⟩, ⟨(fun K => He.ga K "check_index"), "check_index", "check_index", s_check_index⟩, ⟨(fun K => He.ga K "check_exchange"), "check_exchange", "check_exchange", s_check_exchange⟩, ⟨(fun K => He.ga K "_law_pv_sack"), "_law_pv_sack", "_law_pv_sack", s_l_sack⟩, ⟨(fun K => He.ga K "_law_pv_coin"), "_law_pv_coin", "_law_pv_coin", s_l_coin⟩, ⟨(fun K => He.ga K "_law_pv_shared"), "_law_pv_shared", "_law_pv_shared", s_l_shared⟩, ⟨(fun K => He.ga K "_law_pv_ratio"), "_law_pv_ratio", "_law_pv_ratio", s_l_ratio⟩]
def dfs1 : List DfX := [⟨(fun K => He.ga K "_law_pv_copied"), "_law_pv_copied", "_law_pv_copied", s_l_copied⟩, ⟨(fun K => He.ga K "_law_pv_lists"), "_law_pv_lists", "_law_pv_lists", s_l_lists⟩, ⟨(fun K => He.ga K "_law_pv_marked"), "_law_pv_marked", "_law_pv_marked", s_l_marked⟩, ⟨(fun K => He.ga K "_law_pv_right"), "_law_pv_right", "_law_pv_right", s_l_right⟩, ⟨(fun K => He.ga K "_law_pv_part"), "_law_pv_part", "_law_pv_part", s_l_part⟩, ⟨(fun K => He.ga K "_law_pv_vessels"), "_law_pv_vessels", "_law_pv_vessels", s_l_vessels⟩, ⟨(fun K => He.ga K "_law_pv_two"), "_law_pv_two", "_law_pv_two", s_l_two⟩, ⟨(fun K => He.ga K "_law_pv_deed"), "_law_pv_deed", "_law_pv_deed", s_l_deed⟩, ⟨(fun K => He.ga K "_law_pv_shape"), "_law_pv_shape", "_law_pv_shape", s_l_shape⟩, ⟨(fun K => He.ga K "_law_pv_long"), "_law_pv_long", "_law_pv_long", s_l_long⟩, ⟨(fun K => He.ga K "_law_pv_script"), "_law_pv_script", "_law_pv_script", s_l_script⟩, ⟨(fun K => He.ga K "_law_pv_same_script"), "_law_pv_same_script", "_law_pv_same_script", s_l_same_script⟩, ⟨(fun K => He.ga K "_law_pv_at_index"), "_law_pv_at_index", "_law_pv_at_index", s_l_at_index⟩, ⟨(fun K => He.ga K "_law_pv_indexes_right"), "_law_pv_indexes_right", "_law_pv_indexes_right", s_l_indexes_right⟩, ⟨(fun K => He.ga K "_law_pv_near"), "_law_pv_near", "_law_pv_near", s_l_near⟩, ⟨(fun K => He.ga K "_law_pv_equal_right"), "_law_pv_equal_right", "_law_pv_equal_right", s_l_equal_right⟩, ⟨(fun K => He.ga K "_law_pv_checked"), "_law_pv_checked", "_law_pv_checked", s_l_checked⟩, ⟨(fun K => He.ga K "law"), "law", "law", s_law⟩, ⟨(fun K => He.ma K (He.ga K "TankError") "__init__"), "__init__", "TankError.__init__", s_TE_init⟩, ⟨(fun K => He.ma K (He.ga K "Script") "__init__"), "__init__", "Script.__init__", s_Sc_init⟩]
def dfs2 : List DfX := [⟨(fun K => gt K "Script" "tanks"), "tanks", "Script.tanks", s_Sc_tanks⟩, ⟨(fun K => gt K "Script" "steps"), "steps", "Script.steps", s_Sc_steps⟩, ⟨(fun K => gt K "Script" "unknown"), "unknown", "Script.unknown", s_Sc_unknown⟩, ⟨(fun K => He.ma K (He.ga K "Script") "__getitem__"), "__getitem__", "Script.__getitem__", s_Sc_getitem⟩, ⟨(fun K => He.ma K (He.ga K "Script") "without"), "without", "Script.without", s_Sc_without⟩, ⟨(fun K => He.ma K (He.ga K "Script") "exchanged"), "exchanged", "Script.exchanged", s_Sc_exchanged⟩, ⟨(fun K => He.ma K (He.ga K "Script") "__len__"), "__len__", "Script.__len__", s_Sc_len⟩, ⟨(fun K => He.ma K (He.ga K "Script") "__eq__"), "__eq__", "Script.__eq__", s_Sc_eq⟩]
def fbs0 : List (PySem.W.Frag → Bool) := [bGlo "order_of_fractions", bGlo "sign_of", bGlo "copied", bGlo "is_integer", bGlo "is_fraction", bGlo "is_amount", bGlo "is_tank", bGlo "check_tanks", bGlo "is_ascending", bGlo "is_step", bGlo "tanks_of", bGlo "check_numbers", bGlo "check_part", bGlo "check_step", bGlo "check_index", bGlo "check_exchange", bGlo "_law_pv_sack", bGlo "_law_pv_coin", bGlo "_law_pv_shared", bGlo "_law_pv_ratio"]
def fbs1 : List (PySem.W.Frag → Bool) := [bGlo "_law_pv_copied", bGlo "_law_pv_lists", bGlo "_law_pv_marked", bGlo "_law_pv_right", bGlo "_law_pv_part", bGlo "_law_pv_vessels", bGlo "_law_pv_two", bGlo "_law_pv_deed", bGlo "_law_pv_shape", bGlo "_law_pv_long", bGlo "_law_pv_script", bGlo "_law_pv_same_script", bGlo "_law_pv_at_index", bGlo "_law_pv_indexes_right", bGlo "_law_pv_near", bGlo "_law_pv_equal_right", bGlo "_law_pv_checked", bGlo "law", bEG, bGlo "TankError"]
def fbs2 : List (PySem.W.Frag → Bool) := [bGlo "UnknownStep", bErr "UnknownStep", bSub "UnknownStep" "UnknownStep" true, bGlo "Script", bCls "Script", bMk "Script", bProp "Script" "tanks", bProp "Script" "steps", bProp "Script" "unknown", bMeth "Script" "__getitem__", bMeth "Script" "without", bMeth "Script" "exchanged", bMeth "Script" "__len__", bMeth "Script" "__eq__", bTy "Script", bNo "Script" "_steps", bNo "Script" "_tanks", bGlo "THINGS", bInt "THINGS" "open" 2, bInt "THINGS" "pour" 3]
def fbs3 : List (PySem.W.Frag → Bool) := [bInt "THINGS" "scoop" 3, bInt "THINGS" "move" 4, bInt "THINGS" "unless" 3, bFree "abs", bFree "all", bFree "bool", bFree "enumerate", bFree "int", bFree "isinstance", bFree "len", bFree "list", bFree "max", bFree "min", bFree "range", bFree "repr", bFree "str", bFree "tuple", bBlt "gcd" "math.gcd", bNoDig, bNe "Script"]
def fbs4 : List (PySem.W.Frag → Bool) := [bFi "Script" "__getitem__", bKT "list" "Script", bKT "tuple" "Script", bKT "NoneType" "Script", bKT "str" "Script", bKT "int" "Script"]
def lk : Lk := ⟨fbs0 ++ fbs1 ++ fbs2 ++ fbs3 ++ fbs4, dfs0 ++ dfs1 ++ dfs2, [("THINGS", ["open", "pour", "scoop", "move", "unless"])]⟩
abbrev rwK : PySem.W.OpenRow := PySem.W.OpenLaw.row PySem.Challenge.rw_valvelevels_k13_scripts_told
abbrev vwK : Program := PySem.W.view rwK.prog [0, 52]
theorem run0F (w : World) : (whK 12000 rwK (w.withFollow "special-get-raises" false)).map (lk0 rwK vwK nms) = some (true, PySem.W.openGood vwK nms) := by
  kernel_rfl
theorem run0T (w : World) : (whK 12000 rwK (w.withFollow "special-get-raises" true)).map (lk0 rwK vwK nms) = some (true, PySem.W.openGood vwK nms) := by
  kernel_rfl
theorem run1F (w : World) : (whK 12000 rwK (w.withFollow "special-get-raises" false)).map (lk1 lk 900) = some (true, lk.tb.map fun t => tabDue (w.withFollow "special-get-raises" false) t.2) := by
  kernel_rfl
theorem run1T (w : World) : (whK 12000 rwK (w.withFollow "special-get-raises" true)).map (lk1 lk 900) = some (true, lk.tb.map fun t => tabDue (w.withFollow "special-get-raises" true) t.2) := by
  kernel_rfl
theorem run2F (w : World) : (whK 12000 rwK (w.withFollow "special-get-raises" false)).map (lk2 lk 900) = some true := by
  kernel_rfl
theorem run2T (w : World) : (whK 12000 rwK (w.withFollow "special-get-raises" true)).map (lk2 lk 900) = some true := by
  kernel_rfl
theorem run3F (w : World) : (whK 12000 rwK (w.withFollow "special-get-raises" false)).map (lk3 lk 900) = some (lk.ds.map (·.due)) := by
  kernel_rfl
theorem run3T (w : World) : (whK 12000 rwK (w.withFollow "special-get-raises" true)).map (lk3 lk 900) = some (lk.ds.map (·.due)) := by
  kernel_rfl
theorem runK (w : World) : HandSHeadRun.RunEqI rwK vwK (lk.hook 900) (fun s => lk.off 900 (HandSHeadRun.getT s)) 12000 nms w :=
  PySem.W.byRow2 "special-get-raises" (P := fun w => HandSHeadRun.RunEqI rwK vwK (lk.hook 900) (fun s => lk.off 900 (HandSHeadRun.getT s)) 12000 nms w) (fun w => Lk.run_parts (run0F w) (run1F w) (run2F w) (run3F w)) (fun w => Lk.run_parts (run0T w) (run1T w) (run2T w) (run3T w)) w
end V2


/-! ## data that its text tells -/
namespace V2
open PySem
def five : List Str := ["open", "pour", "scoop", "move", "unless"]
/-- data of no signs, whole numbers from 0 on, the words of steps, lists, tuples not of one -/
inductive Pl : PyData → Prop
  | non : Pl .none
  | int (n : Nat) : Pl (.int (n : Int))
  | str {x : Str} (h : x ∈ five) : Pl (.str x)
  | list {ds : List PyData} (h : ∀ d ∈ ds, Pl d) : Pl (.list ds)
  | tup {ds : List PyData} (h : ∀ d ∈ ds, Pl d) (n : ds.length ≠ 1) : Pl (.tuple ds)
abbrev tx (d : PyData) : List Nat := TL.tl d.shown
theorem tx_non : tx .none = [78, 111, 110, 101] := by decide +kernel
theorem tx_int (n : Nat) : tx (.int (n : Int)) = TL.numL n := TL.tl_num n
theorem tx_str {x : Str} (h : x ∈ five) : ∃ w, tx (.str x) = 39 :: (w ++ [39]) ∧ 39 ∉ w ∧ TL.tl x = w := by
  simp only [five, List.mem_cons, List.not_mem_nil, or_false] at h
  rcases h with rfl | rfl | rfl | rfl | rfl
  all_goals (refine ⟨TL.tl _, ?_, ?_, rfl⟩ <;> decide +kernel)
theorem shownAll_map (ds : List PyData) : (PyData.shownAll ds).map TL.tl = ds.map tx := by
  induction ds with
  | nil => rfl
  | cons d r ih => simp only [PyData.shownAll, List.map_cons, ih]
theorem tl_from : ∀ (ts : List Str) (k : Nat) (acc : Str), TL.tl (textFrom k acc ts) = TL.tl acc ++ (if k > 0 ∧ ts ≠ [] then [44, 32] else []) ++ TL.joinL [44, 32] (ts.map TL.tl)
  | [], k, acc => by simp [textFrom, TL.joinL]
  | [t], k, acc => by
    have s1 : TL.tl (Str.ofString (if k > 0 then ", " else "")) = if k > 0 then [44, 32] else [] := by split <;> rfl
    show TL.tl (acc ++ Str.ofString (if k > 0 then ", " else "") ++ t) = _
    rw [TL.tl_append, TL.tl_append, s1]
    by_cases h : k > 0 <;> simp [h, TL.joinL]
  | t :: u :: r, k, acc => by
    have s1 : TL.tl (Str.ofString (if k > 0 then ", " else "")) = if k > 0 then [44, 32] else [] := by split <;> rfl
    show TL.tl (textFrom (k + 1) (acc ++ Str.ofString (if k > 0 then ", " else "") ++ t) (u :: r)) = _
    rw [tl_from (u :: r) (k + 1), TL.tl_append, TL.tl_append, s1]
    have e : TL.joinL [44, 32] ((t :: u :: r).map TL.tl) = TL.tl t ++ ([44, 32] ++ TL.joinL [44, 32] ((u :: r).map TL.tl)) := by
      simp only [List.map_cons, TL.joinL, List.append_assoc]
    rw [e]
    by_cases h : k > 0 <;> simp [h]
theorem tx_list (ds : List PyData) : tx (.list ds) = 91 :: (TL.joinL [44, 32] (ds.map tx) ++ [93]) := by
  show TL.tl (PyData.shown (.list ds)) = _
  simp only [PyData.shown, listText]
  rw [TL.tl_append, tl_from, shownAll_map]
  rw [if_neg (fun z => absurd z.1 (Nat.lt_irrefl 0))]
  rfl
theorem tx_tup {ds : List PyData} (n : ds.length ≠ 1) : tx (.tuple ds) = 40 :: (TL.joinL [44, 32] (ds.map tx) ++ [41]) := by
  show TL.tl (PyData.shown (.tuple ds)) = _
  simp only [PyData.shown, tupleText]
  rw [TL.tl_append, TL.tl_append, TL.tl_join, shownAll_map]
  have e : ((PyData.shownAll ds).length == 1) = false := by
    have : (PyData.shownAll ds).length = ds.length := by
      have := congrArg List.length (shownAll_map ds)
      simpa using this
    rw [this]
    simpa using n
  rw [e]
  rfl
/-- what may follow -/
def Stp (r : List Nat) : Prop := r = [] ∨ ∃ c t, r = c :: t ∧ (c = 44 ∨ c = 93 ∨ c = 41)
theorem stp_c {c : Nat} {t : List Nat} (h : c = 44 ∨ c = 93 ∨ c = 41) : Stp (c :: t) := .inr ⟨c, t, rfl, h⟩
/-- how a text begins -/
def Hd (l : List Nat) : Prop := ∃ c t, l = c :: t ∧ c ≠ 44 ∧ c ≠ 93 ∧ c ≠ 41
theorem hd_of {d : PyData} (h : Pl d) : Hd (tx d) := by
  cases h with
  | non => exact ⟨_, _, tx_non, by decide, by decide, by decide⟩
  | int n =>
    have h1 := TL.numL_ne n
    have h2 := TL.numL_digits n
    rw [tx_int]
    cases e : TL.numL n with
    | nil => exact absurd e h1
    | cons c t =>
      rw [e] at h2
      have := TL.numL_free (n := n) (s := c)
      have hc : ¬ (c < 48 ∨ 57 < c) := fun z => this z (by rw [e]; exact List.mem_cons_self)
      exact ⟨c, t, rfl, by omega, by omega, by omega⟩
  | str h =>
    obtain ⟨w, e, _⟩ := tx_str h
    exact ⟨_, _, e, by decide, by decide, by decide⟩
  | list h => exact ⟨_, _, tx_list _, by decide, by decide, by decide⟩
  | tup h n => exact ⟨_, _, tx_tup n, by decide, by decide, by decide⟩
theorem num_cut : ∀ {l m r r' : List Nat}, (∀ c ∈ l, 48 ≤ c ∧ c ≤ 57) → (∀ c ∈ m, 48 ≤ c ∧ c ≤ 57) → Stp r → Stp r' → l ++ r = m ++ r' → l = m ∧ r = r'
  | [], [], r, r', _, _, _, _, h => ⟨rfl, h⟩
  | [], c :: m, r, r', _, hm, hr, _, h => by
    have hc := hm c List.mem_cons_self
    rcases hr with rfl | ⟨d, t, rfl, hd⟩
    · cases h
    · have : d = c := by injection h
      omega
  | c :: l, [], r, r', hl, _, _, hr, h => by
    have hc := hl c List.mem_cons_self
    rcases hr with rfl | ⟨d, t, rfl, hd⟩
    · cases h
    · have : c = d := by injection h
      omega
  | c :: l, d :: m, r, r', hl, hm, hr, hr', h => by
    injection h with h1 h2
    obtain ⟨h3, h4⟩ := num_cut (fun c hc => hl c (List.mem_cons_of_mem _ hc)) (fun c hc => hm c (List.mem_cons_of_mem _ hc)) hr hr' h2
    exact ⟨by rw [h1, h3], h4⟩
theorem quo_cut : ∀ {l m r r' : List Nat}, 39 ∉ l → 39 ∉ m → l ++ 39 :: r = m ++ 39 :: r' → l = m ∧ r = r'
  | [], [], _, _, _, _, h => by
    injection h with _ h
    exact ⟨rfl, h⟩
  | [], c :: m, _, _, _, hm, h => by
    injection h with h _
    exact absurd (h ▸ List.mem_cons_self) hm
  | c :: l, [], _, _, hl, _, h => by
    injection h with h _
    exact absurd (h ▸ List.mem_cons_self) hl
  | c :: l, d :: m, _, _, hl, hm, h => by
    injection h with h1 h2
    obtain ⟨h3, h4⟩ := quo_cut (fun z => hl (List.mem_cons_of_mem _ z)) (fun z => hm (List.mem_cons_of_mem _ z)) h2
    exact ⟨by rw [h1, h3], h4⟩
def Uq (d : PyData) : Prop := ∀ e r r', Pl e → Stp r → Stp r' → tx d ++ r = tx e ++ r' → d = e ∧ r = r'
theorem items {c : Nat} (hc : c = 93 ∨ c = 41) : ∀ (ds es : List PyData) (r r' : List Nat), (∀ d ∈ ds, Uq d) → (∀ e ∈ es, Pl e) → (∀ d ∈ ds, Pl d) → TL.joinL [44, 32] (ds.map tx) ++ c :: r = TL.joinL [44, 32] (es.map tx) ++ c :: r' → ds = es ∧ r = r'
  | [], [], r, r', _, _, _, h => by
    injection h with _ h
    exact ⟨rfl, h⟩
  | [], e :: es, r, r', _, he, _, h => by
    obtain ⟨b, t, hb, n1, n2, n3⟩ := hd_of (he e List.mem_cons_self)
    have h2 : ∃ z, c :: r = b :: z := by
      cases es with
      | nil =>
        rw [show TL.joinL [44, 32] ([e].map tx) = tx e from rfl, hb] at h
        exact ⟨_, h⟩
      | cons e2 es =>
        rw [show TL.joinL [44, 32] ((e :: e2 :: es).map tx) = tx e ++ [44, 32] ++ TL.joinL [44, 32] ((e2 :: es).map tx) by simp [TL.joinL], hb] at h
        rw [List.append_assoc, List.append_assoc] at h
        exact ⟨_, h⟩
    obtain ⟨_, h2⟩ := h2
    injection h2 with h2 _
    omega
  | d :: ds, [], r, r', _, _, hd, h => by
    obtain ⟨b, t, hb, n1, n2, n3⟩ := hd_of (hd d List.mem_cons_self)
    have h2 : ∃ z, b :: z = c :: r' := by
      cases ds with
      | nil =>
        rw [show TL.joinL [44, 32] ([d].map tx) = tx d from rfl, hb] at h
        exact ⟨_, h⟩
      | cons e2 es =>
        rw [show TL.joinL [44, 32] ((d :: e2 :: es).map tx) = tx d ++ [44, 32] ++ TL.joinL [44, 32] ((e2 :: es).map tx) by simp [TL.joinL], hb] at h
        rw [List.append_assoc, List.append_assoc] at h
        exact ⟨_, h⟩
    obtain ⟨_, h2⟩ := h2
    injection h2 with h2 _
    omega
  | [d], [e], r, r', hu, he, _, h => by
    obtain ⟨h1, h2⟩ := hu d List.mem_cons_self e _ _ (he e List.mem_cons_self) (stp_c (by omega)) (stp_c (by omega)) h
    injection h2 with _ h2
    exact ⟨by rw [h1], h2⟩
  | [d], e :: e2 :: es, r, r', hu, he, _, h => by
    rw [show TL.joinL [44, 32] ((e :: e2 :: es).map tx) = tx e ++ [44, 32] ++ TL.joinL [44, 32] ((e2 :: es).map tx) by simp [TL.joinL]] at h
    rw [List.append_assoc, List.append_assoc] at h
    obtain ⟨h1, h2⟩ := hu d List.mem_cons_self e _ _ (he e List.mem_cons_self) (stp_c (by omega)) (stp_c (.inl rfl)) h
    injection h2 with h2 _
    omega
  | d :: d2 :: ds, [e], r, r', hu, he, _, h => by
    rw [show TL.joinL [44, 32] ((d :: d2 :: ds).map tx) = tx d ++ [44, 32] ++ TL.joinL [44, 32] ((d2 :: ds).map tx) by simp [TL.joinL]] at h
    rw [List.append_assoc, List.append_assoc] at h
    obtain ⟨h1, h2⟩ := hu d List.mem_cons_self e _ _ (he e List.mem_cons_self) (stp_c (.inl rfl)) (stp_c (by omega)) h
    injection h2 with h2 _
    omega
  | d :: d2 :: ds, e :: e2 :: es, r, r', hu, he, hd, h => by
    rw [show TL.joinL [44, 32] ((d :: d2 :: ds).map tx) = tx d ++ [44, 32] ++ TL.joinL [44, 32] ((d2 :: ds).map tx) by simp [TL.joinL]] at h
    rw [show TL.joinL [44, 32] ((e :: e2 :: es).map tx) = tx e ++ [44, 32] ++ TL.joinL [44, 32] ((e2 :: es).map tx) by simp [TL.joinL]] at h
    rw [List.append_assoc, List.append_assoc, List.append_assoc, List.append_assoc] at h
    obtain ⟨h1, h2⟩ := hu d List.mem_cons_self e _ _ (he e List.mem_cons_self) (stp_c (.inl rfl)) (stp_c (.inl rfl)) h
    injection h2 with _ h2
    injection h2 with _ h2
    obtain ⟨h3, h4⟩ := items hc (d2 :: ds) (e2 :: es) r r' (fun x hx => hu x (List.mem_cons_of_mem _ hx)) (fun x hx => he x (List.mem_cons_of_mem _ hx)) (fun x hx => hd x (List.mem_cons_of_mem _ hx)) h2
    exact ⟨by rw [h1, h3], h4⟩
/-- the first sign of a text tells the kind -/
def knd : PyData → Nat
  | .none => 0
  | .int _ => 1
  | .str _ => 2
  | .list _ => 3
  | .tuple _ => 4
  | _ => 5
def kd (c : Nat) : Nat := if c = 78 then 0 else if c = 39 then 2 else if c = 91 then 3 else if c = 40 then 4 else 1
theorem kd_of {d : PyData} (h : Pl d) : ∃ c t, tx d = c :: t ∧ kd c = knd d := by
  cases h with
  | non => exact ⟨_, _, tx_non, rfl⟩
  | int n =>
    have h1 := TL.numL_ne n
    rw [tx_int]
    cases e : TL.numL n with
    | nil => exact absurd e h1
    | cons c t =>
      have := TL.numL_free (n := n) (s := c)
      have hc : ¬ (c < 48 ∨ 57 < c) := fun z => this z (by rw [e]; exact List.mem_cons_self)
      refine ⟨c, t, rfl, ?_⟩
      unfold kd
      rw [if_neg (by omega), if_neg (by omega), if_neg (by omega), if_neg (by omega)]
      rfl
  | str h =>
    obtain ⟨w, e, _⟩ := tx_str h
    exact ⟨_, _, e, rfl⟩
  | list h => exact ⟨_, _, tx_list _, rfl⟩
  | tup h n => exact ⟨_, _, tx_tup n, rfl⟩
theorem pl_uq {d : PyData} (h : Pl d) : Uq d := by
  induction h with
  | non =>
    intro e r r' he hr hr' h
    obtain ⟨c, t, hc, hk⟩ := kd_of he
    have h0 := h
    rw [tx_non, hc] at h
    injection h with h1 h2
    subst h1
    cases he with
    | non =>
      rw [tx_non] at h0
      exact ⟨rfl, List.append_cancel_left h0⟩
    | _ => cases hk
  | int n =>
    intro e r r' he hr hr' h
    obtain ⟨c, t, hc, hk⟩ := kd_of he
    obtain ⟨c', t', hc', hk'⟩ := kd_of (Pl.int n)
    have h0 := h
    rw [hc, hc'] at h
    injection h with h1 h2
    subst h1
    rw [hk'] at hk
    cases he with
    | int m =>
      rw [tx_int, tx_int] at h0
      have dg : ∀ (k : Nat), ∀ c ∈ TL.numL k, 48 ≤ c ∧ c ≤ 57 := fun k c hc => by
        have := TL.numL_free (n := k) (s := c)
        have hc : ¬ (c < 48 ∨ 57 < c) := fun z => this z hc
        omega
      obtain ⟨h3, h4⟩ := num_cut (dg _) (dg _) hr hr' h0
      rw [TL.numL_inj h3]
      exact ⟨rfl, h4⟩
    | _ => cases hk
  | str hx =>
    intro e r r' he hr hr' h
    obtain ⟨c, t, hc, hk⟩ := kd_of he
    obtain ⟨w, hw, nw, ew⟩ := tx_str hx
    have h0 := h
    rw [hc, hw] at h
    injection h with h1 h2
    subst h1
    cases he with
    | str hy =>
      obtain ⟨w', hw', nw', ew'⟩ := tx_str hy
      rw [hw, hw'] at h0
      injection h0 with _ h0
      replace h0 : (w ++ [39]) ++ r = (w' ++ [39]) ++ r' := h0
      rw [List.append_assoc, List.append_assoc] at h0
      obtain ⟨h3, h4⟩ := quo_cut nw nw' h0
      rw [← ew, ← ew'] at h3
      rw [TL.ext_tl h3]
      exact ⟨rfl, h4⟩
    | _ => cases hk
  | @list ds hd ih =>
    intro e r r' he hr hr' h
    obtain ⟨c, t, hc, hk⟩ := kd_of he
    have h0 := h
    rw [hc, tx_list] at h
    injection h with h1 h2
    subst h1
    cases he with
    | @list es hes =>
      rw [tx_list, tx_list] at h0
      injection h0 with _ h0
      replace h0 : (TL.joinL [44, 32] (ds.map tx) ++ [93]) ++ r = (TL.joinL [44, 32] (es.map tx) ++ [93]) ++ r' := h0
      rw [List.append_assoc, List.append_assoc] at h0
      obtain ⟨h3, h4⟩ := items (.inl rfl) ds es r r' ih hes hd h0
      rw [h3]
      exact ⟨rfl, h4⟩
    | _ => cases hk
  | @tup ds hd n ih =>
    intro e r r' he hr hr' h
    obtain ⟨c, t, hc, hk⟩ := kd_of he
    have h0 := h
    rw [hc, tx_tup n] at h
    injection h with h1 h2
    subst h1
    cases he with
    | @tup es hes n' =>
      rw [tx_tup n, tx_tup n'] at h0
      injection h0 with _ h0
      replace h0 : (TL.joinL [44, 32] (ds.map tx) ++ [41]) ++ r = (TL.joinL [44, 32] (es.map tx) ++ [41]) ++ r' := h0
      rw [List.append_assoc, List.append_assoc] at h0
      obtain ⟨h3, h4⟩ := items (.inr rfl) ds es r r' ih hes hd h0
      rw [h3]
      exact ⟨rfl, h4⟩
    | _ => cases hk
theorem pl_inj {d e : PyData} (h : Pl d) (k : Pl e) (q : d.shown = e.shown) : d = e :=
  (pl_uq h e [] [] k (.inl rfl) (.inl rfl) (by rw [show tx d = tx e from congrArg TL.tl q])).1
theorem all_eqv : ∀ {ds es : List PyData}, (∀ d ∈ ds, ∀ e, Pl e → (PyData.eqv d e = true ↔ d = e)) → (∀ e ∈ es, Pl e) → (PyData.eqvAll ds es = true ↔ ds = es)
  | [], [], _, _ => by simp [PyData.eqvAll]
  | [], _ :: _, _, _ => by simp [PyData.eqvAll]
  | _ :: _, [], _, _ => by simp [PyData.eqvAll]
  | d :: ds, e :: es, h, k => by
    have h1 := h d List.mem_cons_self e (k e List.mem_cons_self)
    have h2 := all_eqv (fun d hd => h d (List.mem_cons_of_mem _ hd)) (fun e he => k e (List.mem_cons_of_mem _ he)) (ds := ds) (es := es)
    simp only [PyData.eqvAll, Bool.and_eq_true, h1, h2, List.cons.injEq]
theorem pl_eqv1 {d : PyData} (h : Pl d) : ∀ e, Pl e → (PyData.eqv d e = true ↔ d = e) := by
  induction h with
  | non => intro e k; cases k <;> simp [PyData.eqv]
  | int n => intro e k; cases k <;> simp [PyData.eqv]
  | str hx => intro e k; cases k <;> simp [PyData.eqv]
  | @list ds hd ih =>
    intro e k
    cases k with
    | @list es hes => simp only [PyData.eqv, all_eqv ih hes, PyData.list.injEq]
    | _ => simp [PyData.eqv]
  | @tup ds hd n ih =>
    intro e k
    cases k with
    | @tup es hes n' => simp only [PyData.eqv, all_eqv ih hes, PyData.tuple.injEq]
    | _ => simp [PyData.eqv]
end V2


namespace V2
def cont : List Int → Nat
  | [] => 0
  | x :: r => Nat.gcd x.natAbs (cont r)
def prim (ns : List Int) : List Int := ns.map fun x => x / (cont ns : Int)
theorem cont_dvd : ∀ {ns : List Int} {x : Int}, x ∈ ns → (cont ns : Int) ∣ x
  | y :: r, x, h => by
    rcases (List.mem_cons.mp h) with e | h
    · subst e
      exact Int.ofNat_dvd_left.mpr (Nat.gcd_dvd_left _ _)
    · exact Int.dvd_trans (Int.natCast_dvd_natCast.mpr (Nat.gcd_dvd_right _ _)) (cont_dvd h)
theorem cont_scale (a : Nat) : ∀ ns : List Int, cont (ns.map fun x => (a : Int) * x) = a * cont ns
  | [] => rfl
  | x :: r => by
    show Nat.gcd ((a : Int) * x).natAbs (cont (r.map fun x => (a : Int) * x)) = a * Nat.gcd x.natAbs (cont r)
    rw [cont_scale a r, Int.natAbs_mul, Int.natAbs_natCast, Nat.gcd_mul_left]
theorem cont_zero : ∀ {ns : List Int}, cont ns = 0 → ∀ x ∈ ns, x = 0 := by
  intro ns h x hx
  have := cont_dvd hx
  rw [h] at this
  exact Int.zero_dvd.mp this
theorem prim_eq {xs ys : List Int} {a b : Nat} (ha : 0 < a) (hb : 0 < b) (h : (xs.map fun x => (a : Int) * x) = ys.map fun x => (b : Int) * x) : prim xs = prim ys := by
  have hc : a * cont xs = b * cont ys := by rw [← cont_scale, ← cont_scale, h]
  have hl : xs.length = ys.length := by
    have := (congrArg List.length h)
    rwa [List.length_map, List.length_map] at this
  refine List.ext_getElem (by unfold prim; rw [List.length_map, List.length_map, hl]) fun i h1 h2 => ?_
  unfold prim at h1 h2 ⊢
  rw [List.length_map] at h1 h2
  rw [List.getElem_map, List.getElem_map]
  have e : (a : Int) * xs[i] = (b : Int) * ys[i] := by
    have e1 : (xs.map fun x => (a : Int) * x)[i]'(by rw [List.length_map]; exact h1) = (ys.map fun x => (b : Int) * x)[i]'(by rw [List.length_map]; exact h2) := by
      simp only [h]
    rwa [List.getElem_map, List.getElem_map] at e1
  obtain ⟨p, hp⟩ := cont_dvd (List.getElem_mem h1)
  obtain ⟨q, hq⟩ := cont_dvd (List.getElem_mem h2)
  rcases Nat.eq_zero_or_pos (cont xs) with z | z
  · have z2 : cont ys = 0 := by
      rw [z, Nat.mul_zero] at hc
      rcases Nat.mul_eq_zero.mp hc.symm with c | c
      · omega
      · exact c
    rw [cont_zero z _ (List.getElem_mem h1), cont_zero z2 _ (List.getElem_mem h2), Int.zero_ediv, Int.zero_ediv]
  · have z2 : 0 < cont ys := by
      rcases Nat.eq_zero_or_pos (cont ys) with c | c
      · rw [c, Nat.mul_zero] at hc
        have := Nat.mul_pos ha z
        omega
      · exact c
    rw [hp, hq, Int.mul_ediv_cancel_left _ (by omega), Int.mul_ediv_cancel_left _ (by omega)]
    rw [hp, hq, ← Int.mul_assoc, ← Int.mul_assoc] at e
    have hcz : (a : Int) * (cont xs : Int) = (b : Int) * (cont ys : Int) := by
      rw [← Int.natCast_mul, ← Int.natCast_mul, hc]
    rw [hcz] at e
    exact Int.eq_of_mul_eq_mul_left (Int.ne_of_gt (Int.mul_pos (by omega) (by omega))) e
def cfF (f g : Nat → Int) : Nat → Nat → Int
  | 0, _ => 0
  | k + 1, i => cfF f g k i + (if k ≤ i then f k * g (i - k) else 0)
theorem cfF_lin (f g h : Nat → Int) (a b : Int) : ∀ k i, cfF f (fun j => a * g j + b * h j) k i = a * cfF f g k i + b * cfF f h k i
  | 0, _ => by show (0 : Int) = a * 0 + b * 0; rw [Int.mul_zero, Int.mul_zero, Int.add_zero]
  | k + 1, i => by
    show cfF f (fun j => a * g j + b * h j) k i + (if k ≤ i then f k * (a * g (i - k) + b * h (i - k)) else 0) = a * (cfF f g k i + (if k ≤ i then f k * g (i - k) else 0)) + b * (cfF f h k i + (if k ≤ i then f k * h (i - k) else 0))
    rw [cfF_lin f g h a b k i]
    split
    · simp only [Int.mul_add, Int.mul_left_comm (f k)]
      omega
    · simp only [Int.add_zero]
theorem cfF_zero (f g : Nat → Int) : ∀ k i, (∀ j, j < k → j ≤ i → f j * g (i - j) = 0) → cfF f g k i = 0
  | 0, _, _ => rfl
  | k + 1, i, h => by
    show cfF f g k i + (if k ≤ i then f k * g (i - k) else 0) = 0
    rw [cfF_zero f g k i fun j h1 h2 => h j (by omega) h2]
    split
    · rename_i c
      rw [h k (by omega) c]
      rfl
    · rfl
/-- one number alone, at place n -/
def dlt (n : Nat) : Nat → Int := fun i => if i = n then 1 else 0
theorem cfF_dlt (f : Nat → Int) (n : Nat) : ∀ k i, cfF f (dlt n) k i = if n ≤ i ∧ i - n < k then f (i - n) else 0
  | 0, i => by show (0 : Int) = _; rw [if_neg (by omega)]
  | k + 1, i => by
    show cfF f (dlt n) k i + (if k ≤ i then f k * dlt n (i - k) else 0) = _
    rw [cfF_dlt f n k i]
    unfold dlt
    by_cases h1 : n ≤ i ∧ i - n < k
    · rw [if_pos h1, if_pos (c := n ≤ i ∧ i - n < k + 1) (by omega)]
      by_cases h3 : k ≤ i
      · rw [if_pos h3, if_neg (by omega), Int.mul_zero, Int.add_zero]
      · rw [if_neg h3, Int.add_zero]
    · rw [if_neg h1, Int.zero_add]
      by_cases h2 : n ≤ i ∧ i - n = k
      · rw [if_pos (c := k ≤ i) (by omega), if_pos (c := i - k = n) (by omega), if_pos (c := n ≤ i ∧ i - n < k + 1) (by omega), Int.mul_one, h2.2]
      · rw [if_neg (c := n ≤ i ∧ i - n < k + 1) (by omega)]
        by_cases h3 : k ≤ i
        · rw [if_pos h3, if_neg (by omega), Int.mul_zero]
        · rw [if_neg h3]
/-- the top of a product -/
theorem cfF_top (f g : Nat → Int) (m n : Nat) (h : ∀ i, n < i → g i = 0) : cfF f g (m + 1) (n + m) = f m * g n := by
  show cfF f g m (n + m) + (if m ≤ n + m then f m * g (n + m - m) else 0) = _
  rw [cfF_zero f g m (n + m) fun j h1 h2 => by rw [h _ (by omega), Int.mul_zero], if_pos (by omega), Nat.add_sub_cancel, Int.zero_add]
theorem cfF_null {f g : Nat → Int} {m : Nat} (hf : f m ≠ 0) (hz : ∀ i, m ≤ i → cfF f g (m + 1) i = 0) : ∀ n, (∀ i, n ≤ i → g i = 0) → ∀ i, g i = 0
  | 0, h, i => h i (Nat.zero_le _)
  | n + 1, h, i => by
    refine cfF_null hf hz n (fun j hj => ?_) i
    rcases Nat.lt_or_ge n j with c | c
    · exact h j c
    · have e : j = n := by omega
      subst e
      have h1 := cfF_top f g m j fun i hi => h i hi
      rw [hz (j + m) (by omega)] at h1
      rcases Int.mul_eq_zero.mp h1.symm with z | z
      · exact absurd z hf
      · exact z
/-- L is what is left of P by B, up to a factor above 0 -/
def Rm (P B L : List Int) : Prop := Pol L ∧ L.length < B.length ∧ ∃ (g : Int) (q : Nat → Int) (N : Nat), 0 < g ∧ (∀ i, N ≤ i → q i = 0) ∧ ∀ i, g * P.getD i 0 = cfF (fun j => B.getD j 0) q B.length i + L.getD i 0
theorem getD_pol {L : List Int} (h : Pol L) {n : Nat} (hn : L.length = n + 1) : L.getD n 0 ≠ 0 := by
  have e : L[n]? = some L[n] := List.getElem?_eq_getElem (by omega)
  rw [getD_at e]
  refine h _ ?_
  have e2 : L.length - 1 = n := by omega
  rw [e2]
  exact e
theorem pol_len {L M : List Int} (hL : Pol L) (hM : Pol M) {a b : Int} (ha : 0 < a) (hb : 0 < b) (h : ∀ i, a * L.getD i 0 = b * M.getD i 0) : L.length ≤ M.length := by
  rcases Nat.lt_or_ge M.length L.length with c | c
  · exfalso
    obtain ⟨n, hn⟩ : ∃ n, L.length = n + 1 := ⟨L.length - 1, by omega⟩
    have h1 := h n
    rw [getD_out (l := M) (by omega), Int.mul_zero] at h1
    rcases Int.mul_eq_zero.mp h1 with z | z
    · omega
    · exact getD_pol hL hn z
  · exact c
theorem Rm.uniq {P B L M : List Int} (hB : Pol B) (h : Rm P B L) (k : Rm P B M) : prim L = prim M := by
  obtain ⟨l1, l2, g, q, N, g0, qz, qe⟩ := h
  obtain ⟨m1, m2, c, r, R, c0, rz, re⟩ := k
  obtain ⟨m, hm⟩ : ∃ m, B.length = m + 1 := ⟨B.length - 1, by omega⟩
  rw [hm] at qe re l2 m2
  have hw : ∀ i, cfF (fun j => B.getD j 0) (fun j => c * q j + (-g) * r j) (m + 1) i = g * M.getD i 0 - c * L.getD i 0 := by
    intro i
    rw [cfF_lin]
    have h1 := qe i
    have h2 := re i
    have h3 : c * (g * P.getD i 0) = g * (c * P.getD i 0) := Int.mul_left_comm _ _ _
    rw [h1, h2, Int.mul_add, Int.mul_add] at h3
    rw [Int.neg_mul]
    omega
  have hz : ∀ i, c * q i + (-g) * r i = 0 := by
    refine cfF_null (f := fun j => B.getD j 0) (g := fun j => c * q j + (-g) * r j) (m := m) (getD_pol hB hm) (fun i hi => ?_) (max N R) (fun i hi => ?_)
    · rw [hw i, getD_out (l := M) (by omega), getD_out (l := L) (by omega), Int.mul_zero, Int.mul_zero]
      rfl
    · show c * q i + (-g) * r i = 0
      rw [qz i (by omega), rz i (by omega), Int.mul_zero, Int.mul_zero]
      rfl
  have he : ∀ i, g * M.getD i 0 = c * L.getD i 0 := by
    intro i
    have := hw i
    rw [cfF_zero _ _ _ _ fun j _ _ => by rw [hz]; exact Int.mul_zero _] at this
    omega
  have hlen : L.length = M.length := Nat.le_antisymm (pol_len l1 m1 c0 g0 fun i => (he i).symm) (pol_len m1 l1 g0 c0 he)
  refine prim_eq (a := c.toNat) (b := g.toNat) (by omega) (by omega) ?_
  refine List.ext_getElem (by rw [List.length_map, List.length_map, hlen]) fun i h1 h2 => ?_
  rw [List.length_map] at h1 h2
  rw [List.getElem_map, List.getElem_map]
  have t := he i
  rw [getD_at (List.getElem?_eq_getElem h1), getD_at (List.getElem?_eq_getElem h2)] at t
  have ec : ((c.toNat : Nat) : Int) = c := Int.toNat_of_nonneg (by omega)
  have eg : ((g.toNat : Nat) : Int) = g := Int.toNat_of_nonneg (by omega)
  exact Eq.trans (congrArg (fun z => z * L[i]) ec) (Eq.trans t.symm (congrArg (fun z => z * M[i]) eg.symm))
theorem trm_getD (ns : List Int) (i : Nat) : (trm ns).getD i 0 = ns.getD i 0 := by
  unfold trm
  by_cases h : i < ns.length - tz ns
  · rw [List.getD_eq_getElem?_getD, List.getD_eq_getElem?_getD, List.getElem?_take, if_pos h]
  · rw [getD_out (by rw [List.length_take]; omega)]
    by_cases h2 : i < ns.length
    · have := tz_in ns (ns.length - 1 - i) (by omega)
      rw [show ns.length - 1 - (ns.length - 1 - i) = i by omega] at this
      rw [getD_at this]
    · rw [getD_out (by omega)]
end V2


namespace V2
def Rs (P B L : List Int) : Prop := ∃ (g : Int) (q : Nat → Int) (N : Nat), 0 < g ∧ (∀ i, N ≤ i → q i = 0) ∧ ∀ i, g * P.getD i 0 = cfF (fun j => B.getD j 0) q B.length i + L.getD i 0
theorem Rs.self (P B : List Int) : Rs P B P := ⟨1, fun _ => 0, 0, by decide, fun _ _ => rfl, fun i => by
  rw [cfF_zero _ _ _ _ fun _ _ _ => Int.mul_zero _, Int.one_mul, Int.zero_add]⟩
def tkn (B : List Int) (off : Nat) (t : Int) : List Int := List.replicate off 0 ++ B.map fun x => t * x
theorem tkn_getD (B : List Int) (off : Nat) (t : Int) (k : Nat) : (tkn B off t).getD k 0 = if off ≤ k then t * B.getD (k - off) 0 else 0 := by
  unfold tkn
  rw [(List.getD_eq_getElem?_getD)]
  by_cases h : off ≤ k
  · rw [if_pos h, List.getElem?_append_right (by rw [List.length_replicate]; exact h), List.length_replicate, List.getElem?_map, List.getD_eq_getElem?_getD]
    cases B[k - off]? with
    | none => show (0 : Int) = t * 0; rw [Int.mul_zero]
    | some x => rfl
  · rw [if_neg h, List.getElem?_append_left (by rw [List.length_replicate]; omega), List.getElem?_replicate, if_pos (by omega)]
    rfl
/-- one step of the program -/
def stepL (B L : List Int) (g t : Int) : List Int := vec L.length fun k => g * L.getD k 0 - (tkn B (L.length - B.length) t).getD k 0
theorem vec_getD (N : Nat) (f : Nat → Int) (i : Nat) : (vec N f).getD i 0 = if i < N then f i else 0 := by
  by_cases h : i < N
  · rw [if_pos h, getD_at (vec_get h)]
  · rw [if_neg h, getD_out (by rw [vec_len]; omega)]
theorem trm_short {ns : List Int} {n : Nat} (hn : ns.length = n + 1) (h : ns.getD n 0 = 0) : (trm ns).length < ns.length := by
  rcases Nat.eq_zero_or_pos (tz ns) with z | z
  · exfalso
    obtain ⟨x, h1, h2⟩ := tz_at ns (by omega)
    rw [z, hn] at h1
    have h1 : ns[n]? = some x := h1
    rw [getD_at h1] at h
    exact h2 h
  · unfold trm
    rw [List.length_take]
    omega
theorem rs_step {P B L : List Int} (h0 : B ≠ []) (h : Rs P B L) (hl : B.length ≤ L.length) {g t : Int} (hg : 0 < g) (ht : g * L.getD (L.length - 1) 0 = t * B.getD (B.length - 1) 0) : Rs P B (trm (stepL B L g t)) ∧ (trm (stepL B L g t)).length < L.length := by
  have lb : 0 < B.length := List.length_pos_iff.mpr h0
  constructor
  · obtain ⟨c, q, N, c0, qz, qe⟩ := h
    refine ⟨g * c, fun j => g * q j + t * dlt (L.length - B.length) j, max N (L.length - B.length + 1), Int.mul_pos hg c0, fun i hi => ?_, fun i => ?_⟩
    · show g * q i + t * dlt (L.length - B.length) i = 0
      unfold dlt
      rw [qz i (by omega), if_neg (by omega), Int.mul_zero, Int.mul_zero]
      rfl
    · rw [Int.mul_assoc, qe i, cfF_lin, cfF_dlt, trm_getD, Int.mul_add]
      unfold stepL
      rw [vec_getD, tkn_getD]
      have hb : (if L.length - B.length ≤ i ∧ i - (L.length - B.length) < B.length then B.getD (i - (L.length - B.length)) 0 else 0) = if L.length - B.length ≤ i then B.getD (i - (L.length - B.length)) 0 else 0 := by
        by_cases h1 : L.length - B.length ≤ i
        · rw [if_pos h1]
          by_cases h2 : i - (L.length - B.length) < B.length
          · rw [if_pos ⟨h1, h2⟩]
          · rw [if_neg (by omega), getD_out (by omega)]
        · rw [if_neg h1, if_neg (by omega)]
      rw [hb]
      by_cases h3 : i < L.length
      · rw [if_pos h3]
        by_cases h1 : L.length - B.length ≤ i
        · rw [if_pos h1, if_pos h1]; omega
        · rw [if_neg h1, if_neg h1, Int.mul_zero]; omega
      · rw [if_neg h3, getD_out (l := L) (by omega), if_pos (by omega), getD_out (l := B) (by omega), Int.mul_zero, Int.mul_zero]
        omega
  · have := trm_short (ns := stepL B L g t) (n := L.length - 1) (by unfold stepL; rw [vec_len]; omega) (by
      unfold stepL
      rw [vec_getD, if_pos (by omega), tkn_getD, if_pos (by omega), ht, show L.length - 1 - (L.length - B.length) = B.length - 1 by omega]
      omega)
    unfold stepL at this ⊢
    rw [vec_len] at this
    exact this
/-- grow and take -/
theorem grow_take {t d : Int} (hd : d ≠ 0) : ∃ f : Int, ((Nat.gcd t.natAbs d.natAbs : Nat) : Int) = f ∧ 0 < f ∧ f.natAbs ≤ d.natAbs ∧ 0 < (if d < 0 then -d else d) / f ∧ ((if d < 0 then -d else d) / f).natAbs ≤ d.natAbs ∧ (t / f).natAbs ≤ t.natAbs ∧
    (if d < 0 then -d else d) / f * t = (if d < 0 then -(t / f) else t / f) * d := by
  refine ⟨_, rfl, ?_⟩
  have g0 : 0 < Nat.gcd t.natAbs d.natAbs := Nat.gcd_pos_of_pos_right _ (by omega)
  obtain ⟨p, hp⟩ : ((Nat.gcd t.natAbs d.natAbs : Nat) : Int) ∣ t := Int.ofNat_dvd_left.mpr (Nat.gcd_dvd_left _ _)
  obtain ⟨r, hr⟩ : ((Nat.gcd t.natAbs d.natAbs : Nat) : Int) ∣ d := Int.ofNat_dvd_left.mpr (Nat.gcd_dvd_right _ _)
  have gl : Nat.gcd t.natAbs d.natAbs ≤ d.natAbs := Nat.gcd_le_right _ (by omega)
  generalize Nat.gcd t.natAbs d.natAbs = f at *
  have f0 : (0 : Int) < (f : Int) := by omega
  have e1 : t / (f : Int) = p := by rw [hp, Int.mul_ediv_cancel_left _ (by omega)]
  have e2 : (if d < 0 then -d else d) / (f : Int) = if d < 0 then -r else r := by
    split
    · rw [hr, ← Int.mul_neg, Int.mul_ediv_cancel_left _ (by omega)]
    · rw [hr, Int.mul_ediv_cancel_left _ (by omega)]
  have ab : ∀ x : Int, x.natAbs ≤ ((f : Int) * x).natAbs := fun x => by
    rw [Int.natAbs_mul, Int.natAbs_natCast]
    exact Nat.le_mul_of_pos_left _ g0
  have r1 : d < 0 → r < 0 := fun c => by
    rcases Int.lt_or_le r 0 with z | z
    · exact z
    · have := Int.mul_nonneg (Int.le_of_lt f0) z
      omega
  have r2 : ¬ d < 0 → 0 < r := fun c => by
    rcases Int.lt_or_le 0 r with z | z
    · exact z
    · have := Int.mul_nonpos_of_nonneg_of_nonpos (Int.le_of_lt f0) z
      omega
  rw [e1, e2]
  refine ⟨f0, by omega, ?_, ?_, ?_, ?_⟩
  · split
    · have := r1 ‹_›; omega
    · exact r2 ‹_›
  · have := ab r
    rw [← hr] at this
    split <;> omega
  · have := ab p
    rw [← hp] at this
    exact this
  · split
    · conv => lhs; rw [hp]
      conv => rhs; rw [hr]
      rw [Int.neg_mul, Int.neg_mul, Int.mul_left_comm, Int.mul_left_comm p, Int.mul_comm r p]
    · conv => lhs; rw [hp]
      conv => rhs; rw [hr]
      rw [Int.mul_left_comm, Int.mul_left_comm p, Int.mul_comm r p]
end V2


namespace V2
open PySem L2
open PySem.Spec PyProof.Rows
theorem sk_some {H : Hp} {p : Addr} {m : Nat} (h : Sk H p m) : ∃ o, H p = some o := by
  obtain ⟨a, b, c, h1, _⟩ := h
  exact ⟨_, h1⟩
theorem sk_ne {H : Hp} {p q : Addr} {m : Nat} (h : Sk H p m) (hq : H q = none) : q ≠ p := by
  intro z
  obtain ⟨o, h2⟩ := sk_some h
  rw [← z, hq] at h2
  cases h2
/-- small polynomials as the law draws them -/
def Sp6 (ns : List Int) : Prop := Pol ns ∧ ns.length ≤ 8 ∧ ∀ x ∈ ns, -1000000 ≤ x ∧ x ≤ 1000000
theorem Sp6.pn {ns : List Int} (h : Sp6 ns) : Pn ns := by
  refine ⟨h.1, by have := h.2.1; omega, fun x hx => ?_⟩
  have e : (2 : Int) ^ 64 = 18446744073709551616 := by decide
  have := h.2.2 x hx
  rw [e]
  omega
section
variable {base : Heap} {mg : Str → Option Value} {K : PySem.W.Frag} {w : World} {P : Program}
end
end V2


namespace V2
open PySem L2
open PySem.Spec PyProof.Rows
theorem Sp6.b20 {ns : List Int} (h : Sp6 ns) : ∀ x ∈ ns, x.natAbs < 2 ^ 20 := fun x hx => by
  have := h.2.2 x hx
  have e : (2 : Nat) ^ 20 = 1048576 := (by decide)
  rw [e]; omega
theorem more {ns : List Int} {A B : Nat} (h : ∀ x ∈ ns, x.natAbs < 2 ^ A) (hl : A ≤ B) : ∀ x ∈ ns, x.natAbs < 2 ^ B := fun x hx => big (h x hx) hl
section
variable {base : Heap} {mg : Str → Option Value} {K : PySem.W.Frag} {w : World} {P : Program}
end
end V2


namespace V2
def Bs (n : Nat) (ns : List Int) : Prop := ∀ x ∈ ns, x.natAbs < 2 ^ n
theorem Bs.le {n m : Nat} {ns : List Int} (h : Bs n ns) (l : n ≤ m) : Bs m ns := fun x hx => Nat.lt_of_lt_of_le (h x hx) (Nat.pow_le_pow_right (by decide) l)
theorem Bs.at_ {n : Nat} {ns : List Int} (h : Bs n ns) (i : Nat) : (ns.getD i 0).natAbs < 2 ^ n := by
  rw [List.getD_eq_getElem?_getD]
  cases e : ns[i]? with
  | none => exact Nat.pow_pos (by decide)
  | some x => exact h x (List.mem_of_getElem? e)
theorem bs_mul {i j : Int} {n m : Nat} (h1 : i.natAbs < 2 ^ n) (h2 : j.natAbs < 2 ^ m) : (i * j).natAbs < 2 ^ (n + m) := by
  rw [Int.natAbs_mul, Nat.pow_add]
  exact Nat.mul_lt_mul'' h1 h2
theorem vec_in {N : Nat} {f : Nat → Int} {x : Int} (h : x ∈ vec N f) : ∃ i, i < N ∧ x = f i := by
  unfold vec at h
  obtain ⟨i, hi, e⟩ := List.mem_map.mp h
  exact ⟨i, List.mem_range.mp hi, e.symm⟩
theorem bs_trm {n : Nat} {ns : List Int} (h : Bs n ns) : Bs n (trm ns) := fun x hx => h x (trm_mem hx)
theorem bs_step {B L : List Int} {g t : Int} {b c : Nat} (hL : Bs c L) (hg : g.natAbs < 2 ^ b) (ht : t.natAbs < 2 ^ c) (hB : Bs b B) : Bs (c + (b + 1)) (trm (stepL B L g t)) := by
  intro x hx
  obtain ⟨i, _, rfl⟩ := vec_in (trm_mem hx)
  have h2 := bs_mul hg (hL.at_ i)
  have h1 : ((tkn B (L.length - B.length) t).getD i 0).natAbs < 2 ^ (c + b) := by
    rw [tkn_getD]
    split
    · exact bs_mul ht (hB.at_ _)
    · exact Nat.pow_pos (by decide)
  have e : (2 : Nat) ^ (c + (b + 1)) = 2 ^ (c + b) + 2 ^ (c + b) := by
    rw [show c + (b + 1) = c + b + 1 from rfl, Nat.pow_succ]; omega
  rw [Nat.add_comm b c] at h2
  rw [e]
  omega
theorem last_at {ns : List Int} (h : ns ≠ []) : ∃ x, ns[ns.length - 1]? = some x ∧ x ∈ ns := by
  have l := List.length_pos_iff.mpr h
  exact ⟨ns[ns.length - 1]'(by omega), List.getElem?_eq_getElem (by omega), List.getElem_mem _⟩
theorem rem_loop {P B : List Int} {b : Nat} (hB : Pol B) (h0 : B ≠ []) (bb : Bs b B) : ∀ (n : Nat) (L : List Int) (c : Nat), L.length ≤ n → Pol L → Rs P B L → Bs c L → ∃ M, Rm P B M ∧ Bs (c + (L.length + 1 - B.length) * (b + 1)) M := by
  intro n
  have lb := List.length_pos_iff.mpr h0
  induction n with
  | zero =>
    intro L c hl hp hR hb
    exact ⟨L, ⟨hp, by omega, hR⟩, hb.le (by omega)⟩
  | succ n ih =>
    intro L c hl hp hR hb
    by_cases h : L.length < B.length
    · exact ⟨L, ⟨hp, h, hR⟩, hb.le (by omega)⟩
    · have L0 : L ≠ [] := fun z => by
        rw [z] at h
        exact h lb
      obtain ⟨tp, htp, htm⟩ := last_at L0
      obtain ⟨ld, hld, hlm⟩ := last_at h0
      have ld0 := hB ld hld
      obtain ⟨f, hf, f0, fb, g0, gb, tb, ge⟩ := grow_take (t := tp) (d := ld) ld0
      have ge' : (if ld < 0 then -ld else ld) / f * L.getD (L.length - 1) 0 = (if ld < 0 then -(tp / f) else tp / f) * B.getD (B.length - 1) 0 := by
        rw [getD_at htp, getD_at hld]
        exact ge
      obtain ⟨r1, r2⟩ := rs_step h0 hR (by omega) g0 ge'
      have hg : ((if ld < 0 then -ld else ld) / f).natAbs < 2 ^ b := Nat.lt_of_le_of_lt gb (bb ld hlm)
      have ht : (if ld < 0 then -(tp / f) else tp / f).natAbs < 2 ^ c := by
        have h1 := hb tp htm
        have h2 : (if ld < 0 then -(tp / f) else tp / f).natAbs = (tp / f).natAbs := by split <;> omega
        omega
      have hs := bs_step hb hg ht bb
      obtain ⟨M, hM, bM⟩ := ih _ (c + (b + 1)) (by omega) (pol_trm _) r1 hs
      refine ⟨M, hM, bM.le ?_⟩
      generalize (trm (stepL B L ((if ld < 0 then -ld else ld) / f) (if ld < 0 then -(tp / f) else tp / f))).length = k at r2
      have e1 : (k + 1 - B.length) + 1 ≤ L.length + 1 - B.length := by omega
      have e2 := Nat.mul_le_mul_right (b + 1) e1
      rw [Nat.succ_mul] at e2
      omega
theorem rem_ex {A B : List Int} {a b : Nat} (hA : Pol A) (hB : Pol B) (h0 : B ≠ []) (ba : Bs a A) (bb : Bs b B) : ∃ M, Rm A B M ∧ Bs (a + (A.length + 1 - B.length) * (b + 1)) M :=
  rem_loop hB h0 bb A.length A a (Nat.le_refl _) hA (Rs.self _ _) ba
open Classical in
/-- some rest, if there is one -/
noncomputable def remF (A B : List Int) : List Int := if h : ∃ L, Rm A B L then h.choose else []
theorem remF_rm {A B L : List Int} (h : Rm A B L) : Rm A B (remF A B) := by
  have hx : ∃ L, Rm A B L := ⟨L, h⟩
  unfold remF
  rw [dif_pos hx]
  exact hx.choose_spec
def negL (ns : List Int) : List Int := ns.map fun x => -x
/-- the next one of a row -/
noncomputable def nx (A B : List Int) : List Int := negL (prim (remF A B))
theorem nx_eq {A B L : List Int} (hB : Pol B) (h : Rm A B L) : nx A B = negL (prim L) := by
  unfold nx
  rw [(remF_rm h).uniq hB h]
theorem prim_length (ns : List Int) : (prim ns).length = ns.length := by unfold prim; rw [List.length_map]
theorem negL_length (ns : List Int) : (negL ns).length = ns.length := by unfold negL; rw [List.length_map]
theorem nx_len {A B : List Int} (h : B ≠ []) : (nx A B).length < B.length := by
  unfold nx
  rw [negL_length, prim_length]
  by_cases hx : ∃ L, Rm A B L
  · obtain ⟨L, hL⟩ := hx
    exact (remF_rm hL).2.1
  · unfold remF
    rw [dif_neg hx]
    exact List.length_pos_iff.mpr h
theorem bs_prim {L : List Int} {B : Nat} (h : Bs B L) : Bs B (prim L) := by
  intro y hy
  unfold prim at hy
  obtain ⟨x, hx, rfl⟩ := List.mem_map.mp hy
  obtain ⟨p, hp⟩ := cont_dvd hx
  rcases Nat.eq_zero_or_pos (cont L) with z | z
  · rw [z]
    show (x / 0).natAbs < 2 ^ B
    rw [Int.ediv_zero]
    exact Nat.pow_pos (by decide)
  · have e : x / (cont L : Int) = p := by
      conv => lhs; rw [hp]
      rw [Int.mul_ediv_cancel_left _ (by omega)]
    rw [e]
    have h1 := h x hx
    rw [hp, Int.natAbs_mul, Int.natAbs_natCast] at h1
    exact Nat.lt_of_le_of_lt (Nat.le_mul_of_pos_left _ z) h1
theorem bs_neg {L : List Int} {B : Nat} (h : Bs B L) : Bs B (negL L) := by
  intro y hy
  unfold negL at hy
  obtain ⟨x, hx, rfl⟩ := List.mem_map.mp hy
  rw [Int.natAbs_neg]
  exact h x hx
theorem pol_negL {L : List Int} (h : Pol L) : Pol (negL L) := by
  intro y hy
  unfold negL at hy
  rw [List.length_map, List.getElem?_map] at hy
  cases e : L[L.length - 1]? with
  | none => rw [e] at hy; cases hy
  | some x =>
    rw [e] at hy
    have := h x e
    have hy : -x = y := Option.some.inj hy
    omega
theorem pol_prim {L : List Int} (h : Pol L) : Pol (prim L) := by
  intro y hy
  unfold prim at hy
  rw [List.length_map, List.getElem?_map] at hy
  cases e : L[L.length - 1]? with
  | none => rw [e] at hy; cases hy
  | some x =>
    rw [e] at hy
    have hx := h x e
    have hy : x / (cont L : Int) = y := Option.some.inj hy
    have hm : x ∈ L := List.mem_of_getElem? e
    obtain ⟨p, hp⟩ := cont_dvd hm
    intro y0
    have c0 : (cont L : Int) ≠ 0 := fun z => by
      rw [z, Int.zero_mul] at hp
      exact hx hp
    have : x / (cont L : Int) = p := by
      conv => lhs; rw [hp]
      rw [Int.mul_ediv_cancel_left _ c0]
    rw [this, y0] at hy
    rw [hy, Int.mul_zero] at hp
    exact hx hp
theorem prim_one {x : Int} (h : x ≠ 0) : Bs 1 (prim [x]) := by
  intro y hy
  have e : prim [x] = [x / (x.natAbs : Int)] := by
    unfold prim cont cont
    rw [Nat.gcd_zero_right]
    rfl
  rw [e] at hy
  obtain rfl := List.mem_singleton.mp hy
  rcases Int.lt_or_gt_of_ne h with c | c
  · have e1 : (x.natAbs : Int) = -x := by omega
    rw [e1, Int.ediv_neg, Int.ediv_self h]
    decide
  · have e1 : (x.natAbs : Int) = x := by omega
    rw [e1, Int.ediv_self h]
    decide
def slopeL (p : List Int) : List Int := vec (p.length - 1) fun k => ((k + 1 : Nat) : Int) * p.getD (k + 1) 0
theorem slopeL_len (p : List Int) : (slopeL p).length = p.length - 1 := vec_len _ _
theorem slopeL_getD (p : List Int) (i : Nat) : (slopeL p).getD i 0 = ((i + 1 : Nat) : Int) * p.getD (i + 1) 0 := by
  unfold slopeL
  rw [vec_getD]
  split
  · rfl
  · rw [getD_out (l := p) (by omega), Int.mul_zero]
theorem pol_slope {p : List Int} (h : Pol p) : Pol (slopeL p) := by
  intro x hx
  rw [slopeL_len] at hx
  have hl : p.length - 1 - 1 < p.length - 1 := by
    have := (List.getElem?_eq_some_iff.mp hx).1
    rwa [slopeL_len] at this
  unfold slopeL at hx
  rw [vec_get hl] at hx
  have hx := Option.some.inj hx
  have e : p[p.length - 1]? = some (p[p.length - 1]'(by omega)) := List.getElem?_eq_getElem (by omega)
  rw [show p.length - 1 - 1 + 1 = p.length - 1 by omega, getD_at e] at hx
  rw [← hx]
  exact Int.mul_ne_zero (by omega) (h _ e)
/-- a polynomial that may be passed: at most eight numbers to 10 ** 6 -/
def P6 (p : List Int) : Prop := Pol p ∧ p.length ≤ 8 ∧ ∀ x ∈ p, -1000000 ≤ x ∧ x ≤ 1000000
theorem P6.at_ {p : List Int} (h : P6 p) (i : Nat) : -1000000 ≤ p.getD i 0 ∧ p.getD i 0 ≤ 1000000 := by
  rw [List.getD_eq_getElem?_getD]
  cases e : p[i]? with
  | none => exact ⟨by decide, by decide⟩
  | some x => exact h.2.2 x (List.mem_of_getElem? e)
theorem small_mul {k : Nat} {x : Int} (hk : k ≤ 7) (h : -1000000 ≤ x ∧ x ≤ 1000000) : (((k : Nat) : Int) * x).natAbs < 2 ^ 23 := by
  rw [Int.natAbs_mul, Int.natAbs_natCast]
  have : k * x.natAbs ≤ 7 * 1000000 := Nat.mul_le_mul hk (by omega)
  have e : (2 : Nat) ^ 23 = 8388608 := by decide
  omega
theorem P6.slope {p : List Int} (h : P6 p) : Bs 23 (slopeL p) := by
  intro x hx
  obtain ⟨i, hi, rfl⟩ := vec_in hx
  have := h.2.1
  exact small_mul (by omega) (h.at_ _)
theorem P6.b20 {p : List Int} (h : P6 p) : Bs 20 p := fun x hx => by
  have := h.2.2 x hx
  have e : (2 : Nat) ^ 20 = 1048576 := (by decide)
  rw [e]; omega
/-- a first step for the rest by the slope -/
def firstL (p : List Int) : List Int := vec (p.length - 1) fun k => (((p.length - 1 - k : Nat) : Int)) * p.getD k 0
theorem first_rs {p : List Int} (h2 : 2 ≤ p.length) : Rs p (slopeL p) (firstL p) := by
  refine ⟨((p.length - 1 : Nat) : Int), dlt 1, 2, by omega, fun i hi => by unfold dlt; rw [if_neg (by omega)], fun i => ?_⟩
  rw [cfF_dlt, slopeL_len]
  unfold firstL
  rw [vec_getD]
  by_cases h1 : 1 ≤ i ∧ i - 1 < p.length - 1
  · rw [if_pos h1, slopeL_getD, show i - 1 + 1 = i by omega]
    by_cases h3 : i < p.length - 1
    · rw [if_pos h3, ← Int.add_mul]
      congr 1
      omega
    · rw [if_neg h3, Int.add_zero]
      congr 2
      omega
  · rw [if_neg h1]
    by_cases h3 : i < p.length - 1
    · rw [if_pos h3, Int.zero_add]
      congr 2
      omega
    · rw [if_neg h3, getD_out (l := p) (by omega), Int.mul_zero]
      rfl
theorem rs_trm {P B L : List Int} (h : Rs P B L) : Rs P B (trm L) := by
  obtain ⟨g, q, N, h1, h2, h3⟩ := h
  exact ⟨g, q, N, h1, h2, fun i => by rw [trm_getD]; exact h3 i⟩
theorem rem_first {p : List Int} (h : P6 p) (h2 : 2 ≤ p.length) : ∃ M, Rm p (slopeL p) M ∧ Bs 47 M := by
  have s0 : slopeL p ≠ [] := fun z => by
    have := slopeL_len p
    rw [z, List.length_nil] at this
    omega
  have fb : Bs 23 (trm (firstL p)) := bs_trm (by
    intro x hx
    obtain ⟨i, hi, rfl⟩ := vec_in hx
    have := h.2.1
    exact small_mul (by omega) (h.at_ _))
  obtain ⟨M, hM, bM⟩ := rem_loop (pol_slope h.1) s0 h.slope _ _ 23 (Nat.le_refl _) (pol_trm _) (rs_trm (first_rs h2)) fb
  refine ⟨M, hM, bM.le ?_⟩
  have l1 := trm_len (firstL p)
  have l2 : (firstL p).length = p.length - 1 := vec_len _ _
  rw [slopeL_len]
  have : (trm (firstL p)).length + 1 - (p.length - 1) ≤ 1 := by omega
  have := Nat.mul_le_mul_right (23 + 1) this
  omega
noncomputable def rowF : Nat → List Int → List Int → List (List Int)
  | 0, _, _ => []
  | n + 1, A, B => if B = [] then [] else B :: rowF n B (nx A B)
theorem rowF_ext : ∀ (n m : Nat) (A B : List Int), B.length ≤ n → B.length ≤ m → rowF n A B = rowF m A B
  | 0, 0, _, _, _, _ => rfl
  | 0, m + 1, A, B, h, _ => by
    have : B = [] := List.eq_nil_of_length_eq_zero (by omega)
    subst this
    rfl
  | n + 1, 0, A, B, _, h => by
    have : B = [] := List.eq_nil_of_length_eq_zero (by omega)
    subst this
    rfl
  | n + 1, m + 1, A, B, h1, h2 => by
    unfold rowF
    by_cases e : B = []
    · rw [if_pos e, if_pos e]
    · rw [if_neg e, if_neg e]
      have := nx_len (A := A) e
      rw [rowF_ext n m B (nx A B) (by omega) (by omega)]
noncomputable def rowT (A B : List Int) : List (List Int) := rowF B.length A B
theorem rowT_nil (A : List Int) : rowT A [] = [] := rfl
theorem rowT_cons {A B : List Int} (h : B ≠ []) : rowT A B = B :: rowT B (nx A B) := by
  have l := List.length_pos_iff.mpr h
  unfold rowT
  obtain ⟨n, hn⟩ : ∃ n, B.length = n + 1 := ⟨B.length - 1, by omega⟩
  rw [hn]
  show (if B = [] then [] else B :: rowF n B (nx A B)) = _
  rw [if_neg h]
  have := nx_len (A := A) h
  rw [rowF_ext n _ B (nx A B) (by omega) (Nat.le_refl _)]
noncomputable def rowL (p : List Int) : List (List Int) := p :: rowT p (slopeL p)
/-- how many bits -/
def gam : Nat → Nat
  | 0 => 20
  | 1 => 23
  | 2 => 47
  | 3 => 119
  | 4 => 287
  | 5 => 695
  | 6 => 1679
  | _ => 4055
/-- two neighbours in a row -/
structure Nb (A B : List Int) : Prop where
  pa : Pol A
  pb : Pol B
  la : A.length ≤ 8
  lt : B.length < A.length
  ba : Bs (gam (8 - A.length)) A
  bb : Bs (gam (9 - A.length)) B
  b1 : B.length = 1 → Bs 23 B
  sm : Bs 1700 A
theorem gam_mono : ∀ i j : Nat, i ≤ j → gam i ≤ gam j := by
  have h1 : ∀ i, i < 9 → gam i ≤ 4055 := by decide
  have h2 : ∀ j, j < 8 → ∀ i, i ≤ j → gam i ≤ gam j := by decide
  intro i j h
  by_cases c : j < 8
  · exact h2 j c i h
  · have e : gam j = 4055 := by
      match j, c with
      | 0, c => exact absurd (by decide) c
      | 1, c => exact absurd (by decide) c
      | 2, c => exact absurd (by decide) c
      | 3, c => exact absurd (by decide) c
      | 4, c => exact absurd (by decide) c
      | 5, c => exact absurd (by decide) c
      | 6, c => exact absurd (by decide) c
      | n + 7, _ => rfl
    rw [e]
    by_cases c2 : i < 9
    · exact h1 i c2
    · have : gam i = 4055 := by
        match i, c2 with
        | n + 7, _ => rfl
        | 0, c => exact absurd (by decide) c
        | 1, c => exact absurd (by decide) c
        | 2, c => exact absurd (by decide) c
        | 3, c => exact absurd (by decide) c
        | 4, c => exact absurd (by decide) c
        | 5, c => exact absurd (by decide) c
        | 6, c => exact absurd (by decide) c
      omega
theorem gam_step : ∀ a, a < 8 → ∀ b, b < a → 2 ≤ b → gam (8 - a) + (a + 1 - b) * (gam (9 - a) + 1) ≤ gam (9 - b) := by decide
theorem gam_room : ∀ a, a < 9 → ∀ b, b < a → 2 ≤ b → gam (8 - a) + (a + 1 - b) * (2 * gam (9 - a) + 1) ≤ 8000 := by decide
theorem gam_room1 : ∀ a, a < 9 → 2 ≤ a → gam (8 - a) + a * 47 ≤ 8000 := by decide
theorem Nb.smb {A B : List Int} (h : Nb A B) : Bs 1700 B := by
  by_cases c : B.length = 1
  · exact (h.b1 c).le (by decide)
  · by_cases c2 : B.length = 0
    · have : B = [] := List.eq_nil_of_length_eq_zero c2
      subst this
      intro x hx
      cases hx
    · refine h.bb.le ?_
      have := h.lt
      have := gam_mono (9 - A.length) 6 (by omega)
      have : gam 6 = 1679 := rfl
      omega
/-- bits of both, and the room that a rest of them takes -/
theorem Nb.room {A B : List Int} (h : Nb A B) (h0 : B ≠ []) : ∃ bx by_ : Nat, Bs bx A ∧ Bs by_ B ∧ bx + (A.length + 1 - B.length) * (2 * by_ + 1) ≤ 8000 ∧ by_ ≤ 4055 := by
  have l := List.length_pos_iff.mpr h0
  have hl := h.lt
  have ha := h.la
  by_cases c : B.length = 1
  · refine ⟨_, 23, h.ba, h.b1 c, ?_, by decide⟩
    have := gam_room1 A.length (by omega) (by omega)
    rw [c]
    simp only [Nat.add_sub_cancel]
    omega
  · refine ⟨_, _, h.ba, h.bb, ?_, ?_⟩
    · exact gam_room A.length (by omega) B.length (by omega) (by omega)
    · exact gam_mono _ 7 (by omega)
theorem pol_one {L : List Int} (h : Pol L) (hl : L.length = 1) : ∃ x, L = [x] ∧ x ≠ 0 := by
  match L, hl with
  | [x], _ => exact ⟨x, rfl, h x rfl⟩
theorem nx_small {A B M : List Int} {m : Nat} (hB : Pol B) (hM : Rm A B M) (bM : Bs m M) : Pol (nx A B) ∧ Bs m (nx A B) ∧ ((nx A B).length = 1 → Bs 23 (nx A B)) := by
  rw [nx_eq hB hM]
  refine ⟨pol_negL (pol_prim hM.1), bs_neg (bs_prim bM), fun h => ?_⟩
  rw [negL_length, prim_length] at h
  obtain ⟨x, rfl, hx⟩ := pol_one hM.1 h
  exact (bs_neg (prim_one hx)).le (by decide)
theorem nb_first {p : List Int} (h : P6 p) (h0 : p ≠ []) : Nb p (slopeL p) where
  pa := h.1
  pb := pol_slope h.1
  la := h.2.1
  lt := by
    have := List.length_pos_iff.mpr h0
    rw [slopeL_len]
    omega
  ba := h.b20.le (gam_mono 0 _ (Nat.zero_le _))
  bb := h.slope.le (gam_mono 1 _ (by have := h.2.1; omega))
  b1 := fun _ => h.slope
  sm := h.b20.le (by decide)
theorem nb_second {p : List Int} (h : P6 p) (s0 : slopeL p ≠ []) : Nb (slopeL p) (nx p (slopeL p)) := by
  have l := List.length_pos_iff.mpr s0
  have sl := slopeL_len p
  obtain ⟨M, hM, bM⟩ := rem_first h (by omega)
  obtain ⟨n1, n2, n3⟩ := nx_small (pol_slope h.1) hM bM
  have h8 := h.2.1
  exact {
    pa := pol_slope h.1
    pb := n1
    la := by omega
    lt := nx_len s0
    ba := h.slope.le (gam_mono 1 _ (by omega))
    bb := n2.le (gam_mono 2 _ (by omega))
    b1 := n3
    sm := h.slope.le (by decide) }
theorem nb_next {A B : List Int} (h : Nb A B) (h7 : A.length ≤ 7) (h0 : B ≠ []) : Nb B (nx A B) := by
  have l := List.length_pos_iff.mpr h0
  have hl := h.lt
  obtain ⟨M, hM, bM⟩ := rem_ex h.pa h.pb h0 h.ba h.bb
  obtain ⟨n1, n2, n3⟩ := nx_small h.pb hM bM
  refine { pa := h.pb, pb := n1, la := by omega, lt := nx_len h0, ba := h.bb.le (gam_mono _ _ (by omega)), bb := ?_, b1 := n3, sm := h.smb }
  by_cases c : B.length = 1
  · have := nx_len (A := A) h0
    have : nx A B = [] := List.eq_nil_of_length_eq_zero (by omega)
    rw [this]
    intro x hx
    cases hx
  · exact n2.le (gam_step A.length (by omega) B.length (by omega) (by omega))
/-- where a row of p stands -/
structure Wr (p : List Int) (pre : List (List Int)) (A B : List Int) : Prop where
  nb : Nb A B
  hd : (A = p ∧ B = slopeL p) ∨ A.length ≤ 7
  all : pre ++ A :: rowT A B = rowL p
theorem Wr.start {p : List Int} (h : P6 p) (h0 : p ≠ []) : Wr p [] p (slopeL p) := ⟨nb_first h h0, .inl ⟨rfl, rfl⟩, rfl⟩
theorem Wr.next {p : List Int} {pre : List (List Int)} {A B : List Int} (hp : P6 p) (h : Wr p pre A B) (h0 : B ≠ []) : Wr p (pre ++ [A]) B (nx A B) := by
  obtain ⟨h1, h2, h3⟩ := h
  refine ⟨?_, .inr (by have := h1.la; have := h1.lt; omega), ?_⟩
  · rcases h2 with ⟨rfl, rfl⟩ | h2
    · exact nb_second hp h0
    · exact nb_next h1 h2 h0
  · rw [← h3, rowT_cons h0, List.append_assoc]
    rfl
theorem Wr.done {p : List Int} {pre : List (List Int)} {A : List Int} (h : Wr p pre A []) : pre ++ [A] = rowL p := by
  rw [← h.all, rowT_nil]
theorem Wr.one {p : List Int} {pre : List (List Int)} {A B : List Int} (h : Wr p pre A B) (h1 : B.length = 1) : pre ++ [A] ++ [B] = rowL p := by
  have h0 : B ≠ [] := fun z => by rw [z] at h1; cases h1
  have : nx A B = [] := List.eq_nil_of_length_eq_zero (by have := nx_len (A := A) h0; omega)
  rw [← h.all, rowT_cons h0, this, rowT_nil, List.append_assoc]
  rfl
end V2


namespace V2
open PySem L2
open PySem.Spec PyProof.Rows
/-- the constant n -/
def cp (n : Int) : List Int := if n = 0 then [] else [n]
section
variable {base : Heap} {mg : Str → Option Value} {K : PySem.W.Frag} {w : World} {P : Program}
end
end V2


namespace V2
open PySem L2
open PySem.Spec PyProof.Rows
def B26 (n : Int) : Prop := n.natAbs < 2 ^ 4400
section
variable {base : Heap} {mg : Str → Option Value} {K : PySem.W.Frag} {w : World} {P : Program}
theorem B26.g {t m : Int} (hm : 0 < m) (h : B26 m) : 0 < ((Int.gcd t m : Nat) : Int) ∧ B26 ((Int.gcd t m : Nat) : Int) := by
  have h0 : 0 < Int.gcd t m := Int.gcd_pos_of_ne_zero_right _ (by omega)
  refine ⟨by omega, ?_⟩
  unfold B26
  rw [Int.natAbs_natCast]
  refine Nat.lt_of_le_of_lt (Nat.le_of_dvd (by omega) ?_) h
  exact Int.natAbs_dvd_natAbs.mpr (Int.gcd_dvd_right _ _) |> (by simpa using ·)
end
end V2


namespace PySem
mutual
inductive ReadsS (h : Heap) : Value → PyData → Prop
  | none : ReadsS h .none .none
  | bool (b : Bool) : ReadsS h (.bool b) (.bool b)
  | int (i : Int) (t : Tok) : ReadsS h (.int i t) (.int i)
  | str (x : Str) (t : Tok) : ReadsS h (.str x t) (.str x)
  | list {a : Addr} {o : Obj} {vs : Array Value} {n : Nat} {xs : List PyData} : h.get? a = some o → o.cls = .type "list" → o.data = .seq vs n → ReadsAllS h vs.toList xs → ReadsS h (.ref a) (.list xs)
  | tuple {a : Addr} {o : Obj} {vs : Array Value} {n : Nat} {xs : List PyData} : h.get? a = some o → o.cls = .type "tuple" → o.data = .seq vs n → ReadsAllS h vs.toList xs → ReadsS h (.ref a) (.tuple xs)
  | dict {a : Addr} {o : Obj} {es : Array DictEntry} {n : Nat} {kvs : List (PyData × PyData)} : h.get? a = some o → o.cls = .type "dict" → o.data = .dict es n → (a == sysModules) = false → ReadsAllS h (es.toList.map (·.key)) (kvs.map (·.1)) →
      ReadsAllS h (es.toList.map (·.val)) (kvs.map (·.2)) → ReadsS h (.ref a) (.dict kvs)
inductive ReadsAllS (h : Heap) : List Value → List PyData → Prop
  | nil : ReadsAllS h [] []
  | cons {v : Value} {vs : List Value} {d : PyData} {ds : List PyData} : ReadsS h v d → ReadsAllS h vs ds → ReadsAllS h (v :: vs) (d :: ds)
end
section
variable {h : Heap}
mutual
theorem ReadsS.reads : ∀ {v : Value} {d : PyData}, ReadsS h v d → ∃ as, Reads h v d as
  | _, _, .none => ⟨_, .none⟩
  | _, _, .bool b => ⟨_, .bool b⟩
  | _, _, .int i t => ⟨_, .int i t⟩
  | _, _, .str x t => ⟨_, .str x t⟩
  | _, _, .list h1 h2 h3 h4 => let ⟨_, r⟩ := ReadsAllS.reads h4; ⟨_, .list h1 h2 h3 r⟩
  | _, _, .tuple h1 h2 h3 h4 => let ⟨_, r⟩ := ReadsAllS.reads h4; ⟨_, .tuple h1 h2 h3 r⟩
  | _, _, .dict h1 h2 h3 _ h4 h5 => let ⟨_, r⟩ := ReadsAllS.reads h4; let ⟨_, q⟩ := ReadsAllS.reads h5; ⟨_, .dict h1 h2 h3 r q⟩
theorem ReadsAllS.reads : ∀ {vs : List Value} {ds : List PyData}, ReadsAllS h vs ds → ∃ as, ReadsAll h vs ds as
  | _, _, .nil => ⟨_, .nil⟩
  | _, _, .cons r q => let ⟨_, a⟩ := ReadsS.reads r; let ⟨_, b⟩ := ReadsAllS.reads q; ⟨_, .cons a b⟩
end
end
section
variable {prog : Program} {w : World} {h₀ : Heap}
end
end PySem
namespace V2
open PySem L2
open PySem.Spec PyProof.Rows
mutual
/-- v is the data d, where the abstract heap is H -/
inductive Dq (H : Hp) : V → PyData → Prop
  | non : Dq H .non .none
  | bl (b : Bool) : Dq H (.bl b) (.bool b)
  | int (i : Int) : Dq H (.int i) (.int i)
  | str (x : Str) : Dq H (.str x) (.str x)
  | lst {a : Addr} {xs : List V} {ds : List PyData} : H a = some (.lst xs) → DqAll H xs ds → Dq H (.ref a) (.list ds)
  | tup {a : Addr} {xs : List V} {ds : List PyData} : H a = some (.tup xs) → DqAll H xs ds → Dq H (.ref a) (.tuple ds)
  | dct {a : Addr} {x : Str} {w : V} {d : PyData} : H a = some (.dK [(.inr x, w)]) → Dq H w d → Dq H (.ref a) (.dict [(.str x, d)])
inductive DqAll (H : Hp) : List V → List PyData → Prop
  | nil : DqAll H [] []
  | cons {v : V} {vs : List V} {d : PyData} {ds : List PyData} : Dq H v d → DqAll H vs ds → DqAll H (v :: vs) (d :: ds)
end
mutual
theorem Dq.go {H H' : Hp} : ∀ {d : PyData} {v : V}, Dq H v d → Evl.Ex H H' → Dq H' v d
  | _, _, .non, _ => .non
  | _, _, .bl b, _ => .bl b
  | _, _, .int i, _ => .int i
  | _, _, .str x, _ => .str x
  | _, _, .lst h r, e => .lst (e _ _ h) (DqAll.go r e)
  | _, _, .tup h r, e => .tup (e _ _ h) (DqAll.go r e)
  | _, _, .dct h r, e => .dct (e _ _ h) (Dq.go r e)
theorem DqAll.go {H H' : Hp} : ∀ {ds : List PyData} {vs : List V}, DqAll H vs ds → Evl.Ex H H' → DqAll H' vs ds
  | _, _, .nil, _ => .nil
  | _, _, .cons a b, e => .cons (Dq.go a e) (DqAll.go b e)
end
section
variable {X : Cx} {pins : List (Addr × Obj)} {σ : L2.St} {H : Hp} {s : Shared}
mutual
theorem Dq.reads (I : Inv X pins σ H s) : ∀ {d : PyData} {v : V}, Dq H v d → ∀ {u : Value}, RelV v u → ReadsS s.heap u d
  | _, _, .non, _, r => by
    cases r
    exact .none
  | _, _, .bl b, _, r => by
    cases r
    exact .bool b
  | _, _, .int i, _, r => by
    obtain ⟨t, rfl⟩ := r
    exact .int i t
  | _, _, .str x, _, r => by
    obtain ⟨t, rfl⟩ := r
    exact .str x t
  | _, _, .lst h q, _, r => by
    cases r
    obtain ⟨_, its, n, rv, ho⟩ := I.hok _ _ h
    exact .list ho rfl rfl (by simpa using DqAll.reads I q rv)
  | _, _, .tup h q, _, r => by
    cases r
    obtain ⟨_, its, rv, o, ho, hc, n, hd⟩ := I.hok _ _ h
    exact .tuple ho hc hd (by simpa using DqAll.reads I q rv)
  | _, _, .dct h q, _, r => by
    cases r
    obtain ⟨_, hsys, vs, kv, o, es, ep, ho, ⟨hc, _, _⟩, hd, _, hp, _⟩ := dk_of I.hok h
    obtain ⟨p1, p2, rfl, e1, e2⟩ : ∃ p1 p2, vs = [(p1, p2)] ∧ Sum.inr _ = p1 ∧ RelV _ p2 := by
      cases kv with
      | cons r1 r2 =>
        cases r2
        exact ⟨_, _, rfl, r1.1, r1.2⟩
    · subst e1
      refine .dict ho hc hd hsys ?_ ?_
      · generalize es.toList = l at hp
        cases hp with
        | cons a1 a2 a3 =>
          cases a3
          have z1 := a1
          rw [mixKind_is] at z1
          rcases keyIs_shape z1 with ⟨_, _, z, _⟩ | ⟨x', t, z, ht⟩
          · cases z
          cases z
          rw [List.map_cons, List.map_nil, ht]
          exact .cons (.str _ _) .nil
      · generalize es.toList = l at hp
        cases hp with
        | cons a1 a2 a3 =>
          cases a3
          rw [List.map_cons, List.map_nil, a2]
          exact .cons (Dq.reads I q e2) .nil
theorem DqAll.reads (I : Inv X pins σ H s) : ∀ {ds : List PyData} {vs : List V}, DqAll H vs ds → ∀ {us : List Value}, Vals vs us → ReadsAllS s.heap us ds
  | _, _, .nil, _, r => by
    cases r
    exact .nil
  | _, _, .cons a b, _, r => by
    cases r with
    | cons r1 r2 => exact .cons (Dq.reads I a r1) (DqAll.reads I b r2)
end
end
end V2


namespace V2
open PySem L2
open PySem.Spec PyProof.Rows
/-- what is new -/
def Nw (H H' : Hp) : Hp := fun b => if (H b).isSome = true then none else H' b
theorem Nw.ex {H H' : Hp} : Evl.Ex (Nw H H') H' := fun b o h => by
  unfold Nw at h
  split at h
  · cases h
  · exact h
theorem nw_at {H H' : Hp} {b : Addr} {o : HO} (n : H b = none) (h : H' b = some o) : Nw H H' b = some o := by
  unfold Nw
  rw [n]
  exact h
theorem nw_none {H H' : Hp} {b : Addr} {o : HO} (h : Nw H H' b = some o) : H b = none := by
  unfold Nw at h
  split at h
  · cases h
  · rename_i z
    cases e : H b with
    | none => rfl
    | some x =>
      rw [e] at z
      exact absurd rfl z
/-- data of lists and tuples, n deep at most -/
inductive Cp : Nat → PyData → Prop
  | non {n : Nat} : Cp n .none
  | bl {n : Nat} (b : Bool) : Cp n (.bool b)
  | int {n : Nat} (i : Int) : Cp n (.int i)
  | str {n : Nat} (x : Str) : Cp n (.str x)
  | lst {n : Nat} {ds : List PyData} : ds.length ≤ 100 → (∀ d ∈ ds, Cp n d) → Cp (n + 1) (.list ds)
  | tup {n : Nat} {ds : List PyData} : ds.length ≤ 100 → (∀ d ∈ ds, Cp n d) → Cp (n + 1) (.tuple ds)
theorem DqAll.len {H : Hp} : ∀ {ds : List PyData} {vs : List V}, DqAll H vs ds → vs.length = ds.length
  | _, _, .nil => rfl
  | _, _, .cons _ b => congrArg Nat.succ b.len
theorem DqAll.get {H : Hp} : ∀ {ds : List PyData} {vs : List V} {i : Nat} {v : V}, DqAll H vs ds → vs[i]? = some v → ∃ d, ds[i]? = some d ∧ Dq H v d
  | _, _, _, _, .nil, h => by cases h
  | _, _, 0, _, .cons a _, h => by
    cases h
    exact ⟨_, rfl, a⟩
  | _, _, i + 1, _, .cons _ b, h => b.get (i := i) h
theorem DqAll.snoc {H : Hp} : ∀ {ds : List PyData} {vs : List V} {v : V} {d : PyData}, DqAll H vs ds → Dq H v d → DqAll H (vs ++ [v]) (ds ++ [d])
  | _, _, _, _, .nil, h => .cons h .nil
  | _, _, _, _, .cons a b, h => .cons a (b.snoc h)
theorem ds_take {ds : List PyData} {i : Nat} {d : PyData} (h : ds[i]? = some d) : ds.take (i + 1) = ds.take i ++ [d] := by
  rw [List.take_add_one, h]
  rfl
def spCp (n : Nat) : Sp := fun vs H Q _ => ∃ (v : V) (d : PyData), vs = [v] ∧ Dq H v d ∧ Cp n d ∧ ∀ v' H', Evl.Ex H H' → Dq (Nw H H') v' d → Q v' H'
structure T5 (mg : Str → Option Value) : Prop where
  isi : mg "isinstance" = none
  lst : mg "list" = none
  tup : mg "tuple" = none
section
variable {base : Heap} {mg : Str → Option Value} {K : PySem.W.Frag} {w : World} {P : Program}
theorem ok_copied0 {f : Addr} {fd : FuncData} (F : Fun K "copied" "copied" s_copied f fd) (T : T5 mg) : FnOk P w K mg base CX0 1 f fd p_copied (spCp 0) := by
  refine F.ok sc_copied (fun vs H Q E h => ?_) (fun cdv A outer s H vs Q E hr h => ?_)
  · obtain ⟨v, d, rfl, _⟩ := h
    rfl
  · obtain ⟨v, d, rfl, hd, hc, k⟩ := h
    refine ⟨_, pss_cons (ps_if (pt_val (pe_callB call_isi (by rfl) T.isi (by decide +kernel) (pa_cons (pv 0) (pa_cons (pe_bltn (v := .ty "list") (by rfl) T.lst (by decide +kernel) rfl) pa_nil)))) (pss_one ps_never) pss_nil)
      (pss_cons (ps_if (pt_val (pe_callB call_isi (by rfl) T.isi (by decide +kernel) (pa_cons (pv 0) (pa_cons (pe_bltn (v := .ty "tuple") (by rfl) T.tup (by decide +kernel) rfl) pa_nil)))) (pss_one ps_never) pss_nil)
      (pss_one (ps_ret (pv 0)))), ?_⟩
    cases hc with
    | non =>
      cases hd
      exact ⟨_, rfl, _, _, _, _, false, rfl, .ty "list", .base .non, kit_ty (by decide +kernel), false, rfl, if_f rfl ⟨_, rfl, _, _, _, _, false, rfl, .ty "tuple", .base .non, kit_ty (by decide +kernel), false, rfl, if_f rfl ⟨_, rfl, k _ _ (Evl.Ex.refl _) .non⟩⟩⟩
    | bl b =>
      cases hd
      exact ⟨_, rfl, _, _, _, _, false, rfl, .ty "list", .base (.bl b), kit_ty (by decide +kernel), false, rfl, if_f rfl ⟨_, rfl, _, _, _, _, false, rfl, .ty "tuple", .base (.bl b), kit_ty (by decide +kernel), false, rfl, if_f rfl ⟨_, rfl, k _ _ (Evl.Ex.refl _) (.bl b)⟩⟩⟩
    | int i =>
      cases hd
      exact ⟨_, rfl, _, _, _, _, false, rfl, .ty "list", .base (.int i), kit_ty (by decide +kernel), false, rfl, if_f rfl ⟨_, rfl, _, _, _, _, false, rfl, .ty "tuple", .base (.int i), kit_ty (by decide +kernel), false, rfl, if_f rfl ⟨_, rfl, k _ _ (Evl.Ex.refl _) (.int i)⟩⟩⟩
    | str x =>
      cases hd
      exact ⟨_, rfl, _, _, _, _, false, rfl, .ty "list", .base (.str x), kit_ty (by decide +kernel), false, rfl, if_f rfl ⟨_, rfl, _, _, _, _, false, rfl, .ty "tuple", .base (.str x), kit_ty (by decide +kernel), false, rfl, if_f rfl ⟨_, rfl, k _ _ (Evl.Ex.refl _) (.str x)⟩⟩⟩
/-- the turns of the comprehension -/
theorem cp_turns {H H1 H2 H3 : Hp} {D : Addr} {v' : V} {acc : List V} {ds : List PyData} {d : PyData} (hD : H1 D = none) (e0 : Evl.Ex H H1) (e1 : Evl.Ex H1 H2) (hD2 : H2 D = some (.lst acc)) (ha : DqAll (Nw H (fun b => if b = D then none else H2 b)) acc ds) (e2 : Evl.Ex H2 H3) (hd : Dq (Nw H2 H3) v' d) :
    DqAll (Nw H (fun b => if b = D then none else upd H3 D (.lst (acc ++ [v'])) b)) (acc ++ [v']) (ds ++ [d]) := by
  have hHD : H D = none := Evl.fresh_back e0 hD
  refine DqAll.snoc (ha.go fun b o h => ?_) (hd.go fun b o h => ?_)
  · have n := nw_none h
    have z := Nw.ex _ _ h
    by_cases hb : b = D
    · rw [if_pos hb] at z
      cases z
    · rw [if_neg hb] at z
      refine nw_at n ?_
      show (if b = D then none else upd H3 D (.lst (acc ++ [v'])) b) = some o
      rw [if_neg hb, upd_ne hb]
      exact e2 _ _ z
  · have n := nw_none h
    have z := Nw.ex _ _ h
    have hb : b ≠ D := fun q => by
      rw [q, hD2] at n
      cases n
    refine nw_at (Evl.fresh_back (e0.trans e1) n) ?_
    show (if b = D then none else upd H3 D (.lst (acc ++ [v'])) b) = some o
    rw [if_neg hb, upd_ne hb]
    exact z
theorem ok_copiedS {n k : Nat} {f : Addr} {fd : FuncData} (F : Fun K "copied" "copied" s_copied f fd) (T : T5 mg) (c0 : Cal P w K mg base k "copied" p_copied (spCp n)) : FnOk P w K mg base CX0 (k + 1) f fd p_copied (spCp (n + 1)) := by
  refine F.ok sc_copied (fun vs H Q E h => ?_) (fun cdv A outer s H vs Q E hr h => ?_)
  · obtain ⟨v, d, rfl, _⟩ := h
    rfl
  · obtain ⟨v, d, rfl, hd, hc, kk⟩ := h
    have nd := sc_copied.nd
    cases hc with
    | non =>
      cases hd
      refine ⟨_, pss_cons (ps_if (pt_val (pe_callB call_isi (by rfl) T.isi (by decide +kernel) (pa_cons (pv 0) (pa_cons (pe_bltn (v := .ty "list") (by rfl) T.lst (by decide +kernel) rfl) pa_nil)))) (pss_one ps_never) pss_nil)
        (pss_cons (ps_if (pt_val (pe_callB call_isi (by rfl) T.isi (by decide +kernel) (pa_cons (pv 0) (pa_cons (pe_bltn (v := .ty "tuple") (by rfl) T.tup (by decide +kernel) rfl) pa_nil)))) (pss_one ps_never) pss_nil)
        (pss_one (ps_ret (pv 0)))), ?_⟩
      exact ⟨_, rfl, _, _, _, _, false, rfl, .ty "list", .base .non, kit_ty (by decide +kernel), false, rfl, if_f rfl ⟨_, rfl, _, _, _, _, false, rfl, .ty "tuple", .base .non, kit_ty (by decide +kernel), false, rfl, if_f rfl ⟨_, rfl, kk _ _ (Evl.Ex.refl _) .non⟩⟩⟩
    | bl b =>
      cases hd
      refine ⟨_, pss_cons (ps_if (pt_val (pe_callB call_isi (by rfl) T.isi (by decide +kernel) (pa_cons (pv 0) (pa_cons (pe_bltn (v := .ty "list") (by rfl) T.lst (by decide +kernel) rfl) pa_nil)))) (pss_one ps_never) pss_nil)
        (pss_cons (ps_if (pt_val (pe_callB call_isi (by rfl) T.isi (by decide +kernel) (pa_cons (pv 0) (pa_cons (pe_bltn (v := .ty "tuple") (by rfl) T.tup (by decide +kernel) rfl) pa_nil)))) (pss_one ps_never) pss_nil)
        (pss_one (ps_ret (pv 0)))), ?_⟩
      exact ⟨_, rfl, _, _, _, _, false, rfl, .ty "list", .base (.bl b), kit_ty (by decide +kernel), false, rfl, if_f rfl ⟨_, rfl, _, _, _, _, false, rfl, .ty "tuple", .base (.bl b), kit_ty (by decide +kernel), false, rfl, if_f rfl ⟨_, rfl, kk _ _ (Evl.Ex.refl _) (.bl b)⟩⟩⟩
    | int i =>
      cases hd
      refine ⟨_, pss_cons (ps_if (pt_val (pe_callB call_isi (by rfl) T.isi (by decide +kernel) (pa_cons (pv 0) (pa_cons (pe_bltn (v := .ty "list") (by rfl) T.lst (by decide +kernel) rfl) pa_nil)))) (pss_one ps_never) pss_nil)
        (pss_cons (ps_if (pt_val (pe_callB call_isi (by rfl) T.isi (by decide +kernel) (pa_cons (pv 0) (pa_cons (pe_bltn (v := .ty "tuple") (by rfl) T.tup (by decide +kernel) rfl) pa_nil)))) (pss_one ps_never) pss_nil)
        (pss_one (ps_ret (pv 0)))), ?_⟩
      exact ⟨_, rfl, _, _, _, _, false, rfl, .ty "list", .base (.int i), kit_ty (by decide +kernel), false, rfl, if_f rfl ⟨_, rfl, _, _, _, _, false, rfl, .ty "tuple", .base (.int i), kit_ty (by decide +kernel), false, rfl, if_f rfl ⟨_, rfl, kk _ _ (Evl.Ex.refl _) (.int i)⟩⟩⟩
    | str x =>
      cases hd
      refine ⟨_, pss_cons (ps_if (pt_val (pe_callB call_isi (by rfl) T.isi (by decide +kernel) (pa_cons (pv 0) (pa_cons (pe_bltn (v := .ty "list") (by rfl) T.lst (by decide +kernel) rfl) pa_nil)))) (pss_one ps_never) pss_nil)
        (pss_cons (ps_if (pt_val (pe_callB call_isi (by rfl) T.isi (by decide +kernel) (pa_cons (pv 0) (pa_cons (pe_bltn (v := .ty "tuple") (by rfl) T.tup (by decide +kernel) rfl) pa_nil)))) (pss_one ps_never) pss_nil)
        (pss_one (ps_ret (pv 0)))), ?_⟩
      exact ⟨_, rfl, _, _, _, _, false, rfl, .ty "list", .base (.str x), kit_ty (by decide +kernel), false, rfl, if_f rfl ⟨_, rfl, _, _, _, _, false, rfl, .ty "tuple", .base (.str x), kit_ty (by decide +kernel), false, rfl, if_f rfl ⟨_, rfl, kk _ _ (Evl.Ex.refl _) (.str x)⟩⟩⟩
    | @lst _ ds hl hcs =>
      cases hd with
      | @lst a xs _ ha hds =>
      refine ⟨_, pss_cons (ps_if (pt_val (pe_callB call_isi (by rfl) T.isi (by decide +kernel) (pa_cons (pv 0) (pa_cons (pe_bltn (v := .ty "list") (by rfl) T.lst (by decide +kernel) rfl) pa_nil))))
          (pss_one (ps_ret (pe_lc (own := [("part", 1)]) (g := gName 1) (tt := tYes) (te := tCall (spCp n) [] E0 (tCons (tVar 1) tNil)) rfl nd (pi_list (pv 0)) (blkOk_by (N := n_copied) (sc := defScope s_copied) (by decide +kernel)) (fun _ _ _ _ _ => pg_name (i := 1) nd rfl (Or.inl rfl)) (fun _ _ _ _ _ => pts_nil)
            (fun _ _ _ _ _ => pe_c c0 hr (pa_cons (pv 1) pa_nil))))) pss_nil)
        (pss_cons ps_never (pss_one ps_never)), ?_⟩
      refine ⟨_, rfl, _, _, _, _, true, rfl, .ty "list", .base (.lst ha), kit_ty (by decide +kernel), true, rfl, if_t rfl ?_⟩
      have hlen := hds.len
      refine ⟨_, rfl, a, rfl, ⟨_, SqL.of ha⟩, fun D hD => lc_list (xs := xs) (fun i H' => Evl.Ex H H' ∧ ∃ acc, H' D = some (.lst acc) ∧ DqAll (Nw H (fun b => if b = D then none else H' b)) acc (ds.take i)) ⟨Evl.Ex.new hD, [], upd_same, .nil⟩ (fun i H' _ q => SqL.of (q.1 _ _ ha)) ?_ ?_⟩
      · rintro i x H2 hi ⟨e2, acc, hD2, hacc⟩
        obtain ⟨d, hdi, hdx⟩ := hds.get hi
        refine ⟨rfl, ?_⟩
        show tCall (spCp n) [] E0 (tCons (tVar 1) tNil) _ _ _
        refine ⟨_, rfl, x, d, rfl, hdx.go e2, hcs d (List.mem_of_getElem? hdi), fun v' H3 e3 hv' => ⟨acc, e3 _ _ hD2, ?_, Evl.Ex.mut (e2.trans e3) hD, _, upd_same, ?_⟩⟩
        · have h1 := hacc.len
          rw [List.length_take] at h1
          exact Nat.lt_of_le_of_lt (show acc.length ≤ 100 by omega) (by decide)
        · rw [ds_take hdi]
          exact cp_turns hD (Evl.Ex.refl _) e2 hD2 hacc e3 hv'
      · rintro H2 ⟨e2, acc, hD2, hacc⟩
        rw [hlen, List.take_length] at hacc
        refine kk _ _ e2 (.lst (nw_at hD hD2) (hacc.go fun b o h => nw_at (nw_none h) ?_))
        have z := Nw.ex _ _ h
        by_cases hb : b = D
        · rw [if_pos hb] at z
          cases z
        · rw [if_neg hb] at z
          exact z
    | @tup _ ds hl hcs =>
      cases hd with
      | @tup a xs _ ha hds =>
      refine ⟨_, pss_cons (ps_if (pt_val (pe_callB call_isi (by rfl) T.isi (by decide +kernel) (pa_cons (pv 0) (pa_cons (pe_bltn (v := .ty "list") (by rfl) T.lst (by decide +kernel) rfl) pa_nil)))) (pss_one ps_never) pss_nil)
        (pss_cons (ps_if (pt_val (pe_callB call_isi (by rfl) T.isi (by decide +kernel) (pa_cons (pv 0) (pa_cons (pe_bltn (v := .ty "tuple") (by rfl) T.tup (by decide +kernel) rfl) pa_nil))))
          (pss_one (ps_ret (pe_callTy call_tuple_of (by rfl) T.tup (by decide +kernel) (pa_cons (pe_lc (own := [("part", 1)]) (g := gName 1) (tt := tYes) (te := tCall (spCp n) [] E0 (tCons (tVar 1) tNil)) rfl nd (pi_tup (pv 0)) (blkOk_by (N := n_copied) (sc := defScope s_copied) (by decide +kernel)) (fun _ _ _ _ _ => pg_name (i := 1) nd rfl (Or.inl rfl)) (fun _ _ _ _ _ => pts_nil)
            (fun _ _ _ _ _ => pe_c c0 hr (pa_cons (pv 1) pa_nil))) pa_nil)))) pss_nil)
        (pss_one ps_never)), ?_⟩
      refine ⟨_, rfl, _, _, _, _, false, rfl, .ty "list", .base (.tup ha), kit_ty (by decide +kernel), false, rfl, if_f rfl ?_⟩
      refine ⟨_, rfl, _, _, _, _, true, rfl, .ty "tuple", .base (.tup ha), kit_ty (by decide +kernel), true, rfl, if_t rfl ?_⟩
      have hlen := hds.len
      refine ⟨_, rfl, a, rfl, ⟨_, SqT.of ha⟩, fun D hD => lc_tup (xs := xs) (fun i H' => Evl.Ex H H' ∧ ∃ acc, H' D = some (.lst acc) ∧ DqAll (Nw H (fun b => if b = D then none else H' b)) acc (ds.take i)) ⟨Evl.Ex.new hD, [], upd_same, .nil⟩ (fun i H' _ q => SqT.of (q.1 _ _ ha)) ?_ ?_⟩
      · rintro i x H2 hi ⟨e2, acc, hD2, hacc⟩
        obtain ⟨d, hdi, hdx⟩ := hds.get hi
        refine ⟨rfl, ?_⟩
        show tCall (spCp n) [] E0 (tCons (tVar 1) tNil) _ _ _
        refine ⟨_, rfl, x, d, rfl, hdx.go e2, hcs d (List.mem_of_getElem? hdi), fun v' H3 e3 hv' => ⟨acc, e3 _ _ hD2, ?_, Evl.Ex.mut (e2.trans e3) hD, _, upd_same, ?_⟩⟩
        · have h1 := hacc.len
          rw [List.length_take] at h1
          exact Nat.lt_of_le_of_lt (show acc.length ≤ 100 by omega) (by decide)
        · rw [ds_take hdi]
          exact cp_turns hD (Evl.Ex.refl _) e2 hD2 hacc e3 hv'
      · rintro H2 ⟨e2, acc, hD2, hacc⟩
        rw [hlen, List.take_length] at hacc
        refine ⟨D, _, rfl, .inl ⟨SqL.of hD2, fun l hl2 => ?_⟩⟩
        have e3 := Evl.Ex.new (o := .tup acc) hl2
        refine kk _ _ (e2.trans e3) (.tup (nw_at (Evl.fresh_back e2 hl2) upd_same) (hacc.go fun b o h => nw_at (nw_none h) (e3 _ _ ?_)))
        have z := Nw.ex _ _ h
        by_cases hb : b = D
        · rw [if_pos hb] at z
          cases z
        · rw [if_neg hb] at z
          exact z
end
end V2


namespace V2
open PySem L2
open PySem.Spec PyProof.Rows
abbrev Tk := Option Int × Int
def wV : Option Int → V
  | none => .non
  | some z => .int z
def wD : Option Int → PyData
  | none => .none
  | some z => .int z
def tkD (t : Tk) : PyData := .tuple [wD t.1, .int t.2]
def okT (ts : List Tk) : Prop := ts.length ≤ 20 ∧ (∀ t ∈ ts, (∀ z, t.1 = some z → 1 ≤ z) ∧ 0 ≤ t.2) ∧ ts.countP (fun t => t.1.isNone) = 1
def TksAt (H : Hp) (l : Addr) (ts : List Tk) : Prop := ∃ as : List Addr, H l = some (.lst (as.map V.ref)) ∧ as.length = ts.length ∧ ∀ (i : Nat) (a : Addr) (t : Tk), as[i]? = some a → ts[i]? = some t → H a = some (.tup [wV t.1, .int t.2])
theorem TksAt.ex {H H' : Hp} {l : Addr} {ts : List Tk} (h : TksAt H l ts) (e : Evl.Ex H H') : TksAt H' l ts := by
  obtain ⟨as, h1, h2, h3⟩ := h
  exact ⟨as, e _ _ h1, h2, fun i a t x y => e _ _ (h3 i a t x y)⟩
theorem dq_w {H : Hp} {v : V} {w : Option Int} (h : Dq H v (wD w)) : v = wV w := by
  cases w with
  | none => cases h; rfl
  | some z => cases h; rfl
theorem dq_tk {H : Hp} {v : V} {t : Tk} (h : Dq H v (tkD t)) : ∃ a, v = .ref a ∧ H a = some (.tup [wV t.1, .int t.2]) := by
  cases h with
  | tup h1 h2 =>
    cases h2 with
    | cons a b =>
      cases b with
      | cons b c =>
        cases c
        cases b
        rw [dq_w a] at h1
        exact ⟨_, rfl, h1⟩
theorem dq_tks {H : Hp} : ∀ {ts : List Tk} {vs : List V}, DqAll H vs (ts.map tkD) → ∃ as : List Addr, vs = as.map V.ref ∧ as.length = ts.length ∧ ∀ (i : Nat) (a : Addr) (t : Tk), as[i]? = some a → ts[i]? = some t → H a = some (.tup [wV t.1, .int t.2])
  | [], _, .nil => ⟨[], rfl, rfl, fun i a t h => (by cases h)⟩
  | t :: ts, _, .cons a b => by
    obtain ⟨x, rfl, hx⟩ := dq_tk a
    obtain ⟨as, rfl, h2, h3⟩ := dq_tks b
    refine ⟨x :: as, rfl, congrArg Nat.succ h2, fun i a t' h1 h2 => ?_⟩
    cases i with
    | zero =>
      cases h1
      cases h2
      exact hx
    | succ i => exact h3 i a t' h1 h2
theorem Dq.tks {H : Hp} {v : V} {ts : List Tk} (h : Dq H v (.list (ts.map tkD))) : ∃ l, v = .ref l ∧ TksAt H l ts := by
  cases h with
  | lst h1 h2 =>
    obtain ⟨as, rfl, h3, h4⟩ := dq_tks h2
    exact ⟨_, rfl, as, h1, h3, h4⟩
theorem cp_tks {ts : List Tk} (h : ts.length ≤ 100) : Cp 2 (.list (ts.map tkD)) := by
  refine .lst (by rw [List.length_map]; exact h) fun d hd => ?_
  obtain ⟨t, _, rfl⟩ := List.mem_map.mp hd
  refine .tup (by show 2 ≤ 100; decide) fun x hx => ?_
  simp only [List.mem_cons, List.not_mem_nil, or_false] at hx
  rcases hx with rfl | rfl
  · cases t.1 with
    | none => exact .non
    | some z => exact .int z
  · exact .int _
def spAmt : Sp := fun vs H Q _ => ∃ n : Int, vs = [.int n] ∧ 0 ≤ n ∧ Evl.RetV (.bl true) H Q
def spTank : Sp := fun vs H Q _ => ∃ (a : Addr) (t : Tk), vs = [.ref a] ∧ H a = some (.tup [wV t.1, .int t.2]) ∧ (∀ z, t.1 = some z → 1 ≤ z) ∧ 0 ≤ t.2 ∧ Evl.RetV (.bl true) H Q
def spChkT : Sp := fun vs H Q _ => ∃ (l : Addr) (ts : List Tk), vs = [.ref l] ∧ TksAt H l ts ∧ okT ts ∧ Evl.RetV .non H Q
section
variable {base : Heap} {mg : Str → Option Value} {K : PySem.W.Frag} {w : World} {P : Program}
theorem ok_is_amount {f : Addr} {fd : FuncData} (F : Fun K "is_amount" "is_amount" s_is_amount f fd) (cI : Cal P w K mg base 1 "is_integer" p_is_integer spInt) : FnOk P w K mg base CX0 2 f fd p_is_amount spAmt := by
  refine F.ok sc_is_amount (fun vs H Q E h => ?_) (fun cdv A outer s H vs Q E hr h => ?_)
  · obtain ⟨n, rfl, _⟩ := h
    rfl
  · obtain ⟨n, rfl, h0, k⟩ := h
    refine ⟨_, pss_one (ps_ret (pe_and (pe_c cI hr (pa_cons (pv 0) pa_nil)) (pe_one (pe_cmpR op_ge (pv 0) pe_int (nomark _))))), ?_⟩
    refine ⟨_, rfl, n, rfl, fun H1 e1 => ⟨_, rfl, if_t rfl ?_⟩⟩
    refine ⟨_, rfl, _, _, rfl, rfl, ?_⟩
    have e : decide (n ≥ 0) = true := decide_eq_true h0
    show Q (.bl (decide (n ≥ 0))) H1
    rw [e]
    exact k _ e1
theorem ok_is_tank {f : Addr} {fd : FuncData} (F : Fun K "is_tank" "is_tank" s_is_tank f fd) (T : T3 mg) (cI : Cal P w K mg base 1 "is_integer" p_is_integer spInt) (cA : Cal P w K mg base 2 "is_amount" p_is_amount spAmt) : FnOk P w K mg base CX0 3 f fd p_is_tank spTank := by
  refine F.ok sc_is_tank (fun vs H Q E h => ?_) (fun cdv A outer s H vs Q E hr h => ?_)
  · obtain ⟨a, t, rfl, _⟩ := h
    rfl
  · obtain ⟨a, t, rfl, ha, hw, h0, k⟩ := h
    have nd := sc_is_tank.nd
    have r1 : Room 1 _ := hr.mono (by decide)
    refine ⟨_, pss_cons (ps_if (PW.pt (pw_or (pt_not (pt_val (pe_callB call_isi (by rfl) T.isi (by decide +kernel) (pa_cons (pv 0) (pa_cons (pe_bltn (v := .ty "tuple") (by rfl) T.tup (by decide +kernel) rfl) pa_nil)))))
        (pw_or1 (pt_cmpR op_ne (pe_callB call_len_seq (by rfl) T.len PySem.boot_len (pa_cons (pv 0) pa_nil)) pe_int (nomark _))))) (pss_one (ps_ret pe_bl)) pss_nil)
      (pss_cons (ps_asg (pv 0) (pg_tup rfl (pgs_cons (pg_name (i := 1) nd rfl (Or.inl rfl)) (pgs_cons (pg_name (i := 2) nd rfl (Or.inl rfl)) pgs_nil))))
      (pss_one (ps_ret (pe_and (pe_or (pe_cmp (pc_isN (pv 1))) (pe_one (pe_and (pe_c cI r1 (pa_cons (pv 1) pa_nil)) (pe_one (pe_cmpR op_ge (pv 1) pe_int (nomark _)))))) (pe_one (pe_c cA hr (pa_cons (pv 2) pa_nil))))))), ?_⟩
    refine ⟨_, rfl, _, _, _, _, true, rfl, .ty "tuple", .base (.tup ha), kit_ty (by decide +kernel), true, rfl, if_f rfl ?_⟩
    refine ⟨_, rfl, a, _, rfl, .inr (SqT.of ha), rfl, false, rfl, if_f rfl ?_⟩
    refine ⟨_, rfl, a, _, rfl, SqT.of ha, rfl, _, _, rfl, _, _, rfl, rfl, ?_⟩
    obtain ⟨tw, ta⟩ := t
    cases tw with
    | none => exact ⟨_, rfl, _, rfl, _, rfl, if_t rfl ⟨_, rfl, ta, rfl, h0, k⟩⟩
    | some z =>
      have hz := hw z rfl
      refine ⟨_, rfl, _, rfl, if_f rfl ⟨_, rfl, z, rfl, fun H1 e1 => ⟨_, rfl, if_t rfl ?_⟩⟩⟩
      refine ⟨_, rfl, _, _, rfl, rfl, _, rfl, if_t (decide_eq_true (by omega)) ?_⟩
      exact ⟨_, rfl, ta, rfl, h0, fun H' e' => k H' (e1.trans e')⟩
theorem cntN {ts : List Tk} {i : Nat} {t : Tk} (h : ts[i]? = some t) : (ts.take (i + 1)).countP (fun t => t.1.isNone) = (ts.take i).countP (fun t => t.1.isNone) + (if t.1 = none then 1 else 0) := by
  rw [List.take_add_one, h, List.countP_append]
  obtain ⟨w, a⟩ := t
  cases w <;> simp
theorem ok_check_tanks {f : Addr} {fd : FuncData} (F : Fun K "check_tanks" "check_tanks" s_check_tanks f fd) (mL : mg "len" = none) (cT : Cal P w K mg base 3 "is_tank" p_is_tank spTank) : FnOk P w K mg base CX0 4 f fd p_check_tanks spChkT := by
  refine F.ok sc_check_tanks (fun vs H Q E h => ?_) (fun cdv A outer s H vs Q E hr h => ?_)
  · obtain ⟨l, ts, rfl, _⟩ := h
    rfl
  · obtain ⟨l, ts, rfl, hT, ⟨h20, hts, hone⟩, k⟩ := h
    obtain ⟨as, hl, hlen, hat⟩ := hT
    have nd := sc_check_tanks.nd
    refine ⟨_, pss_cons (ps_for PassesOwn.never rfl (pi_list (pv 0)) (pg_name (i := 1) nd rfl (Or.inl rfl)) (pss_one (ps_if (pt_not (pt_val (pe_c cT hr (pa_cons (pv 1) pa_nil)))) (pss_one ps_never) pss_nil)))
      (pss_one (ps_if (pt_cmpR op_ne (pe_callB call_len_seq (by rfl) mL PySem.boot_len (pa_cons (pe_lc (own := [("tank", 1)]) (g := gName 1) (tt := tB (tIsN (tOp (rIxT K) (tVar 1) (tC (.int 0))))) (te := tVar 1) rfl nd (pi_list (pv 0)) (blkOk_by (N := n_check_tanks) (sc := defScope s_check_tanks) (by decide +kernel)) (fun _ _ _ _ _ => pg_name (i := 1) nd rfl (Or.inl rfl))
          (fun _ _ _ _ _ => pts_one (pt_cmp (pc_isN (pe_ix ix_tup (pv 1) pe_int (fun _ _ => rfl))))) (fun _ _ _ _ _ => pv 1)) pa_nil)) pe_int (nomark _)) (pss_one ps_never) pss_nil)), ?_⟩
    have get : ∀ {i : Nat} {x : V}, (as.map V.ref)[i]? = some x → ∃ a t, x = .ref a ∧ as[i]? = some a ∧ ts[i]? = some t ∧ H a = some (.tup [wV t.1, .int t.2]) := fun {i x} hx => by
      rw [List.getElem?_map] at hx
      cases e : as[i]? with
      | none =>
        rw [e] at hx
        cases hx
      | some a =>
        rw [e] at hx
        have hi : i < ts.length := by
          have := (List.getElem?_eq_some_iff.mp e).1
          omega
        exact ⟨a, ts[i], (Option.some.inj hx).symm, rfl, List.getElem?_eq_getElem hi, hat i a _ e (List.getElem?_eq_getElem hi)⟩
    refine ⟨_, rfl, l, rfl, ⟨_, SqL.of hl⟩, for_list (xs := as.map V.ref) (fun i σ H' => Evl.Ex H H' ∧ ∃ v, σ = [some (.ref l), v]) ⟨Evl.Ex.refl _, none, rfl⟩ (fun i σ H' _ q => SqL.of (q.1 _ _ hl)) ?_ ?_⟩
    · rintro i x σ H1 hi ⟨e1, v, rfl⟩
      obtain ⟨a, t, rfl, _, ht, ha⟩ := get hi
      obtain ⟨t1, t2⟩ := hts t (List.mem_of_getElem? ht)
      exact ⟨_, rfl, a, t, rfl, e1 _ _ ha, t1, t2, fun H2 e2 => ⟨true, rfl, if_f rfl ⟨e1.trans e2, _, rfl⟩⟩⟩
    · rintro σ H1 ⟨e1, v, rfl⟩
      refine ⟨_, rfl, l, rfl, ⟨_, SqL.of (e1 _ _ hl)⟩, fun D hD => lc_list (xs := as.map V.ref) (fun i H' => Evl.Ex H1 H' ∧ ∃ acc, H' D = some (.lst acc) ∧ acc.length = (ts.take i).countP (fun t => t.1.isNone)) ⟨Evl.Ex.new hD, [], upd_same, rfl⟩ (fun i H' _ q => SqL.of (q.1 _ _ (e1 _ _ hl))) ?_ ?_⟩
      · rintro i x H2 hi ⟨e2, acc, h2, hc⟩
        obtain ⟨a, t, rfl, _, ht, ha⟩ := get hi
        have hcn := cntN ht
        refine ⟨rfl, ?_⟩
        show tB (tIsN (tOp (rIxT K) (tVar 1) (tC (.int 0)))) _ _ _
        refine ⟨_, rfl, a, _, _, _, rfl, rfl, SqT.of (e2 _ _ (e1 _ _ ha)), rfl, _, rfl, ?_⟩
        obtain ⟨tw, ta⟩ := t
        cases tw with
        | none =>
          refine if_t rfl ?_
          show tVar 1 _ _ _
          refine ⟨_, rfl, acc, h2, ?_, Evl.Ex.mut e2 hD, _, upd_same, ?_⟩
          · have := List.countP_le_length (p := fun t : Tk => t.1.isNone) (l := ts.take i)
            rw [List.length_take] at this
            exact Nat.lt_of_le_of_lt (show acc.length ≤ 20 by omega) (by decide)
          · rw [List.length_append, hcn, hc]
            rfl
        | some z =>
          refine if_f rfl ⟨e2, acc, h2, ?_⟩
          rw [hcn, hc]
          rfl
      · rintro H2 ⟨e2, acc, h2, hc⟩
        rw [List.length_map, hlen, List.take_length, hone] at hc
        refine ⟨D, _, rfl, .inl (SqL.of h2), ?_⟩
        rw [hc]
        exact ⟨rfl, _, rfl, if_f rfl (k _ (e1.trans e2))⟩
end
end V2


namespace V2
open PySem L2
open PySem.Spec PyProof.Rows
inductive Deed
  | op (ks : List Int)
  | po (k a : Int)
  | sc (k p q : Int)
  | mv (k m p q : Int)
  | un (k m : Int)
def dD : Deed → PyData
  | .op ks => .tuple [.str "open", .list (ks.map .int)]
  | .po k a => .tuple [.str "pour", .int k, .int a]
  | .sc k p q => .tuple [.str "scoop", .int k, .tuple [.int p, .int q]]
  | .mv k m p q => .tuple [.str "move", .int k, .int m, .tuple [.int p, .int q]]
  | .un k m => .tuple [.str "unless", .int k, .int m]
def DAt (H : Hp) (a : Addr) : Deed → Prop
  | .op ks => ∃ l, H a = some (.tup [.str "open", .ref l]) ∧ Li H l ks
  | .po k x => H a = some (.tup [.str "pour", .int k, .int x])
  | .sc k p q => ∃ f, H a = some (.tup [.str "scoop", .int k, .ref f]) ∧ Fr H f p q
  | .mv k m p q => ∃ f, H a = some (.tup [.str "move", .int k, .int m, .ref f]) ∧ Fr H f p q
  | .un k m => H a = some (.tup [.str "unless", .int k, .int m])
theorem DAt.ex {H H' : Hp} {a : Addr} {d : Deed} (h : DAt H a d) (e : Evl.Ex H H') : DAt H' a d := by
  cases d with
  | op ks =>
    obtain ⟨l, h1, h2⟩ := h
    exact ⟨l, e _ _ h1, e _ _ h2⟩
  | po k x => exact e _ _ h
  | sc k p q =>
    obtain ⟨f, h1, h2⟩ := h
    exact ⟨f, e _ _ h1, e _ _ h2⟩
  | mv k m p q =>
    obtain ⟨f, h1, h2⟩ := h
    exact ⟨f, e _ _ h1, e _ _ h2⟩
  | un k m => exact e _ _ h
def Pt (p q : Int) : Prop := 0 ≤ p ∧ p ≤ q ∧ Qn p q
/-- a step that is right, for n tanks -/
def okD (n : Int) : Deed → Prop
  | .op ks => 2 ≤ ks.length ∧ ks.length ≤ 20 ∧ (∀ (i : Nat) (x y : Int), ks[i]? = some x → ks[i + 1]? = some y → x < y) ∧ ∀ k ∈ ks, 0 ≤ k ∧ k < n
  | .po k a => (0 ≤ k ∧ k < n) ∧ 0 ≤ a
  | .sc k p q => (0 ≤ k ∧ k < n) ∧ Pt p q
  | .mv k m p q => (0 ≤ k ∧ k < n) ∧ (0 ≤ m ∧ m < n) ∧ k ≠ m ∧ Pt p q
  | .un k m => (0 ≤ k ∧ k < n) ∧ (0 ≤ m ∧ m < n) ∧ k ≠ m
structure Th (K : PySem.W.Frag) (w : World) (mg : Str → Option Value) (aT : Addr) (es : Array DictEntry) (n : Nat) (t1 t2 t3 t4 t5 : Tok) : Prop where
  g : mg "THINGS" = some (.ref aT)
  D : KDict K w aT es n
  n1 : PySem.W.nsIn K aT "open" = some (some (.int 2 t1))
  n2 : PySem.W.nsIn K aT "pour" = some (some (.int 3 t2))
  n3 : PySem.W.nsIn K aT "scoop" = some (some (.int 3 t3))
  n4 : PySem.W.nsIn K aT "move" = some (some (.int 4 t4))
  n5 : PySem.W.nsIn K aT "unless" = some (some (.int 3 t5))
def spAsc : Sp := fun vs H Q _ => ∃ (l : Addr) (ks : List Int), vs = [.ref l] ∧ Li H l ks ∧ 2 ≤ ks.length ∧ ks.length ≤ 20 ∧ (∀ (i : Nat) (x y : Int), ks[i]? = some x → ks[i + 1]? = some y → x < y) ∧ Evl.RetV (.bl true) H Q
def spStep : Sp := fun vs H Q _ => ∃ (a : Addr) (d : Deed) (n : Int), vs = [.ref a] ∧ DAt H a d ∧ okD n d ∧ Evl.RetV (.bl true) H Q
section
variable {base : Heap} {mg : Str → Option Value} {K : PySem.W.Frag} {w : World} {P : Program} {aT : Addr} {es : Array DictEntry} {nT : Nat} {t1 t2 t3 t4 t5 : Tok}
theorem ok_is_ascending {f : Addr} {fd : FuncData} (F : Fun K "is_ascending" "is_ascending" s_is_ascending f fd) (T : T3 mg) (mR : mg "range" = none) (cI : Cal P w K mg base 1 "is_integer" p_is_integer spInt) : FnOk P w K mg base CX0 2 f fd p_is_ascending spAsc := by
  refine F.ok sc_is_ascending (fun vs H Q E h => ?_) (fun cdv A outer s H vs Q E hr h => ?_)
  · obtain ⟨l, ks, rfl, _⟩ := h
    rfl
  · obtain ⟨l, ks, rfl, hl, h2, h20, hasc, k⟩ := h
    have nd := sc_is_ascending.nd
    refine ⟨_, pss_cons (ps_if (PW.pt (pw_or (pt_not (pt_val (pe_callB call_isi (by rfl) T.isi (by decide +kernel) (pa_cons (pv 0) (pa_cons (pe_bltn (v := .ty "list") (by rfl) T.lst (by decide +kernel) rfl) pa_nil)))))
        (pw_or (pt_cmpR op_lt (pe_callB call_len_seq (by rfl) T.len PySem.boot_len (pa_cons (pv 0) pa_nil)) pe_int (nomark _))
        (pw_or1 (pt_not (pt_val (pe_callB (cr_all rfl) (by rfl) T.all (by decide +kernel) (pa_cons (pe_lc (own := [("number", 1)]) (g := gName 1) (tt := tYes) (te := tCall spInt [] E0 (tCons (tVar 1) tNil)) rfl nd (pi_list (pv 0)) (blkOk_by (N := n_is_ascending) (sc := defScope s_is_ascending) (by decide +kernel)) (fun _ _ _ _ _ => pg_name (i := 1) nd rfl (Or.inl rfl)) (fun _ _ _ _ _ => pts_nil)
          (fun _ _ _ _ _ => pe_c cI hr (pa_cons (pv 1) pa_nil))) pa_nil)))))))) (pss_one (ps_ret pe_bl)) pss_nil)
      (pss_one (ps_ret (pe_callB (cr_all rfl) (by rfl) T.all (by decide +kernel) (pa_cons (pe_lc (own := [("k", 2)]) (g := gName 2) (tt := tYes) (te := tOp (rI0 fun i j => .bl (decide (i < j))) (tOp (rIxL K) (tVar 0) (tVar 2)) (tOp (rIxL K) (tVar 0) (tOp (rI0 fun i j => .int (i + j)) (tVar 2) (tC (.int 1))))) rfl nd (pi_range1 (by rfl) mR (pa_cons (pe_op op_sub (pe_callB call_len_seq (by rfl) T.len PySem.boot_len (pa_cons (pv 0) pa_nil)) pe_int) pa_nil)) (blkOk_by (N := n_is_ascending) (sc := defScope s_is_ascending) (by decide +kernel)) (fun _ _ _ _ _ => pg_name (i := 2) nd rfl (Or.inl rfl)) (fun _ _ _ _ _ => pts_nil)
          (fun _ _ _ _ _ => pe_cmpR op_lt (pe_ix ix_list (pv 0) (pv 2) (fun _ _ => rfl)) (pe_ix ix_list (pv 0) (pe_op op_add (pv 2) pe_int) (fun _ _ => rfl)) (nomark _))) pa_nil)))), ?_⟩
    refine ⟨_, rfl, _, _, _, _, true, rfl, .ty "list", .base (.lst hl), kit_ty (by decide +kernel), true, rfl, if_f rfl ?_⟩
    refine ⟨_, rfl, l, _, rfl, .inl hl.sq, _, _, rfl, rfl, _, rfl, if_f (decide_eq_false (by rw [iV_len]; omega)) ?_⟩
    refine ⟨_, rfl, l, rfl, ⟨_, hl.sq⟩, fun D hD => lc_list (xs := iV ks) (fun i H' => Evl.Ex H H' ∧ H' D = some (.lst (List.replicate i (.bl true)))) ⟨Evl.Ex.new hD, upd_same⟩ (fun i H' _ q => SqL.of (q.1 _ _ hl)) ?_ ?_⟩
    · rintro i x H' hi ⟨e1, h1⟩
      obtain ⟨n, hn, rfl⟩ := iV_get hi
      have hlt : i < ks.length := (List.getElem?_eq_some_iff.mp hn).1
      refine ⟨rfl, ?_⟩
      show tCall spInt [] E0 (tCons (tVar 1) tNil) _ _ _
      refine ⟨_, rfl, n, rfl, fun H2 e2 => ⟨_, e2 _ _ h1, ?_, ?_, ?_⟩⟩
      · rw [List.length_replicate]; exact Nat.lt_of_lt_of_le (show i < 100 by omega) (by decide)
      · exact Evl.Ex.mut (e1.trans e2) hD
      · rw [upd_same, rep_snoc]
    · rintro H1 ⟨e1, h1⟩
      rw [iV_len] at h1
      refine ⟨D, List.replicate ks.length true, rfl, SqL.of (by rw [h1, List.map_replicate]), true, by simp, if_f rfl ?_⟩
      have hl1 : Li H1 l ks := e1 _ _ hl
      refine ⟨_, rfl, l, _, rfl, .inl hl1.sq, _, _, rfl, rfl, _, rfl, ?_, ?_, fun D2 hD2 => ?_⟩
      · rw [iV_len]; omega
      · rw [iV_len]; omega
      have en : (((iV ks).length : Int) - 1).toNat = ks.length - 1 := by rw [iV_len]; omega
      refine lc_range (n := (((iV ks).length : Int) - 1).toNat) (fun i H' => Evl.Ex H1 H' ∧ H' D2 = some (.lst (List.replicate i (.bl true)))) ⟨Evl.Ex.new hD2, upd_same⟩ ?_ ?_
      · rintro i H2 hi ⟨e2, h2'⟩
        rw [en] at hi
        obtain ⟨xa, g1⟩ : ∃ x, ks[i]? = some x := ⟨_, List.getElem?_eq_getElem (by omega)⟩
        obtain ⟨xb, g2⟩ : ∃ x, ks[i + 1]? = some x := ⟨_, List.getElem?_eq_getElem (by omega)⟩
        refine ⟨rfl, ?_⟩
        show tOp (rI0 fun i j => .bl (decide (i < j))) (tOp (rIxL K) (tVar 0) (tVar 2)) (tOp (rIxL K) (tVar 0) (tOp (rI0 fun i j => .int (i + j)) (tVar 2) (tC (.int 1)))) _ _ _
        refine ⟨_, rfl, _, rfl, l, _, _, _, rfl, rfl, SqL.of (e2 _ _ hl1), by rw [Int.zero_add]; exact atI_nat (iV_at g1), ?_⟩
        refine ⟨_, rfl, _, rfl, _, _, rfl, rfl, l, _, _, .int xb, rfl, rfl, SqL.of (e2 _ _ hl1), ?_, _, _, rfl, rfl, _, h2', ?_, Evl.Ex.mut e2 hD2, ?_⟩
        · show atI _ (0 + (i : Int) + 1) = _
          rw [show (0 + (i : Int) + 1) = ((i + 1 : Nat) : Int) by omega]
          exact atI_nat (iV_at g2)
        · rw [List.length_replicate]; exact Nat.lt_of_lt_of_le (show i < 100 by omega) (by decide)
        · rw [upd_same]
          show some (HO.lst (List.replicate i (V.bl true) ++ [V.bl (decide (xa < xb))])) = _
          rw [decide_eq_true (hasc i _ _ g1 g2), rep_snoc]
      · rintro H2 ⟨e2, h2'⟩
        rw [en] at h2'
        refine ⟨D2, List.replicate (ks.length - 1) true, rfl, SqL.of (by rw [h2', List.map_replicate]), ?_⟩
        have e : (List.replicate (ks.length - 1) true).all id = true := by simp
        rw [e]
        exact k _ (e1.trans e2)
theorem ok_is_step {f : Addr} {fd : FuncData} (F : Fun K "is_step" "is_step" s_is_step f fd) (T : T3 mg) (mS : mg "str" = none) (th : Th K w mg aT es nT t1 t2 t3 t4 t5) (cA : Cal P w K mg base 2 "is_ascending" p_is_ascending spAsc) (cM : Cal P w K mg base 2 "is_amount" p_is_amount spAmt) : FnOk P w K mg base CX0 3 f fd p_is_step spStep := by
  refine F.ok sc_is_step (fun vs H Q E h => ?_) (fun cdv A outer s H vs Q E hr h => ?_)
  · obtain ⟨a, d, n, rfl, _⟩ := h
    rfl
  · obtain ⟨a, d, n, rfl, hd, hok, k⟩ := h
    have nd := sc_is_step.nd
    refine ⟨_, pss_cons (ps_if (PW.pt (pw_or (pt_not (pt_val (pe_callB call_isi (by rfl) T.isi (by decide +kernel) (pa_cons (pv 0) (pa_cons (pe_bltn (v := .ty "tuple") (by rfl) T.tup (by decide +kernel) rfl) pa_nil)))))
        (pw_or (pt_not (pt_truth (pv 0) (by intro _; rfl)))
        (pw_or (pt_not (pt_val (pe_callB call_isi (by rfl) T.isi (by decide +kernel) (pa_cons (pe_ix ix_tup (pv 0) pe_int (fun _ _ => rfl)) (pa_cons (pe_bltn (v := .ty "str") (by rfl) mS (by decide +kernel) rfl) pa_nil)))))
        (pw_or1 (pt_cmpR (op_notIn_kd th.D) (pe_ix ix_tup (pv 0) pe_int (fun _ _ => rfl)) (pe_glob (v := .ref aT) (by rfl) th.g rfl) (by rfl))))))) (pss_one (ps_ret pe_bl)) pss_nil)
      (pss_cons (ps_set (i := 1) nd rfl (Or.inl rfl) (pe_ix ix_tup (pv 0) pe_int (fun _ _ => rfl)))
      (pss_cons (ps_if (pt_cmpR op_ne (pe_callB call_len_seq (by rfl) T.len PySem.boot_len (pa_cons (pv 0) pa_nil)) (pe_ix ix_kdict (pe_glob (v := .ref aT) (by rfl) th.g rfl) (pv 1) (fun _ _ => rfl)) (nomark _)) (pss_one (ps_ret pe_bl)) pss_nil)
      (pss_cons (ps_if (pt_cmpR op_eq (pv 1) pe_str (nomark _)) (pss_one (ps_ret (pe_c cA hr (pa_cons (pe_ix ix_tup (pv 0) pe_int (fun _ _ => rfl)) pa_nil)))) pss_nil)
      (pss_cons (ps_if (pt_cmpR op_eq (pv 1) pe_str (nomark _)) (pss_one (ps_ret (pe_c cM hr (pa_cons (pe_ix ix_tup (pv 0) pe_int (fun _ _ => rfl)) pa_nil)))) pss_nil)
      (pss_one (ps_ret (pe_or (pe_cmpR op_eq (pv 1) pe_str (nomark _)) (pe_one (pe_cmpR op_ne (pe_ix ix_tup (pv 0) pe_int (fun _ _ => rfl)) (pe_ix ix_tup (pv 0) pe_int (fun _ _ => rfl)) (nomark _)))))))))), ?_⟩
    cases d with
    | op ks =>
      obtain ⟨l, ha, hl⟩ := hd
      obtain ⟨h2, h20, hasc, _⟩ := hok
      refine ⟨_, rfl, _, _, _, _, true, rfl, .ty "tuple", .base (.tup ha), kit_ty (by decide +kernel), true, rfl, if_f rfl ?_⟩
      refine ⟨_, rfl, _, .inr (.inl ⟨_, SqT.of ha, rfl⟩), if_f rfl ?_⟩
      refine ⟨_, rfl, a, _, _, _, rfl, rfl, SqT.of ha, rfl, _, _, _, _, true, rfl, .ty "str", .base (.str _), kit_ty (by decide +kernel), true, rfl, if_f rfl ?_⟩
      refine ⟨_, rfl, a, _, _, _, rfl, rfl, SqT.of ha, rfl, _, _, rfl, rfl, th.n1, _, rfl, if_f rfl ?_⟩
      refine ⟨_, rfl, a, _, _, _, rfl, rfl, SqT.of ha, rfl, ?_⟩
      refine ⟨_, rfl, a, _, rfl, .inr (SqT.of ha), _, rfl, aT, _, .int 2, rfl, rfl, ⟨_, _, _, th.D.at_, th.D.lit, th.n1, ⟨_, rfl⟩⟩, rfl, _, rfl, if_f rfl ?_⟩
      refine ⟨_, rfl, rfl, _, rfl, if_t (by decide) ?_⟩
      exact ⟨_, rfl, a, _, _, _, rfl, rfl, SqT.of ha, rfl, l, ks, rfl, hl, h2, h20, hasc, k⟩
    | po j x =>
      have ha : H a = some (.tup [.str "pour", .int j, .int x]) := hd
      refine ⟨_, rfl, _, _, _, _, true, rfl, .ty "tuple", .base (.tup ha), kit_ty (by decide +kernel), true, rfl, if_f rfl ?_⟩
      refine ⟨_, rfl, _, .inr (.inl ⟨_, SqT.of ha, rfl⟩), if_f rfl ?_⟩
      refine ⟨_, rfl, a, _, _, _, rfl, rfl, SqT.of ha, rfl, _, _, _, _, true, rfl, .ty "str", .base (.str _), kit_ty (by decide +kernel), true, rfl, if_f rfl ?_⟩
      refine ⟨_, rfl, a, _, _, _, rfl, rfl, SqT.of ha, rfl, _, _, rfl, rfl, th.n2, _, rfl, if_f rfl ?_⟩
      refine ⟨_, rfl, a, _, _, _, rfl, rfl, SqT.of ha, rfl, ?_⟩
      refine ⟨_, rfl, a, _, rfl, .inr (SqT.of ha), _, rfl, aT, _, .int 3, rfl, rfl, ⟨_, _, _, th.D.at_, th.D.lit, th.n2, ⟨_, rfl⟩⟩, rfl, _, rfl, if_f rfl ?_⟩
      refine ⟨_, rfl, rfl, _, rfl, if_f (by decide) ?_⟩
      refine ⟨_, rfl, rfl, _, rfl, if_t (by decide) ?_⟩
      exact ⟨_, rfl, a, _, _, _, rfl, rfl, SqT.of ha, rfl, x, rfl, hok.2, k⟩
    | sc j p q =>
      obtain ⟨g, ha, hg⟩ := hd
      refine ⟨_, rfl, _, _, _, _, true, rfl, .ty "tuple", .base (.tup ha), kit_ty (by decide +kernel), true, rfl, if_f rfl ?_⟩
      refine ⟨_, rfl, _, .inr (.inl ⟨_, SqT.of ha, rfl⟩), if_f rfl ?_⟩
      refine ⟨_, rfl, a, _, _, _, rfl, rfl, SqT.of ha, rfl, _, _, _, _, true, rfl, .ty "str", .base (.str _), kit_ty (by decide +kernel), true, rfl, if_f rfl ?_⟩
      refine ⟨_, rfl, a, _, _, _, rfl, rfl, SqT.of ha, rfl, _, _, rfl, rfl, th.n3, _, rfl, if_f rfl ?_⟩
      refine ⟨_, rfl, a, _, _, _, rfl, rfl, SqT.of ha, rfl, ?_⟩
      refine ⟨_, rfl, a, _, rfl, .inr (SqT.of ha), _, rfl, aT, _, .int 3, rfl, rfl, ⟨_, _, _, th.D.at_, th.D.lit, th.n3, ⟨_, rfl⟩⟩, rfl, _, rfl, if_f rfl ?_⟩
      refine ⟨_, rfl, rfl, _, rfl, if_f (by decide) ?_⟩
      refine ⟨_, rfl, rfl, _, rfl, if_f (by decide) ?_⟩
      refine ⟨_, rfl, rfl, _, rfl, if_t (by decide) (k _ (Evl.Ex.refl _))⟩
    | mv j m p q =>
      obtain ⟨g, ha, hg⟩ := hd
      refine ⟨_, rfl, _, _, _, _, true, rfl, .ty "tuple", .base (.tup ha), kit_ty (by decide +kernel), true, rfl, if_f rfl ?_⟩
      refine ⟨_, rfl, _, .inr (.inl ⟨_, SqT.of ha, rfl⟩), if_f rfl ?_⟩
      refine ⟨_, rfl, a, _, _, _, rfl, rfl, SqT.of ha, rfl, _, _, _, _, true, rfl, .ty "str", .base (.str _), kit_ty (by decide +kernel), true, rfl, if_f rfl ?_⟩
      refine ⟨_, rfl, a, _, _, _, rfl, rfl, SqT.of ha, rfl, _, _, rfl, rfl, th.n4, _, rfl, if_f rfl ?_⟩
      refine ⟨_, rfl, a, _, _, _, rfl, rfl, SqT.of ha, rfl, ?_⟩
      refine ⟨_, rfl, a, _, rfl, .inr (SqT.of ha), _, rfl, aT, _, .int 4, rfl, rfl, ⟨_, _, _, th.D.at_, th.D.lit, th.n4, ⟨_, rfl⟩⟩, rfl, _, rfl, if_f rfl ?_⟩
      refine ⟨_, rfl, rfl, _, rfl, if_f (by decide) ?_⟩
      refine ⟨_, rfl, rfl, _, rfl, if_f (by decide) ?_⟩
      refine ⟨_, rfl, rfl, _, rfl, if_f (by decide) ?_⟩
      refine ⟨_, rfl, a, _, _, _, rfl, rfl, SqT.of ha, rfl, _, rfl, a, _, _, _, rfl, rfl, SqT.of ha, rfl, rfl, ?_⟩
      have e : (!decide (V.int j = V.int m)) = true := by
        rw [decide_eq_false fun z => hok.2.2.1 (by injection z)]
        rfl
      rw [e]
      exact k _ (Evl.Ex.refl _)
    | un j m =>
      have ha : H a = some (.tup [.str "unless", .int j, .int m]) := hd
      refine ⟨_, rfl, _, _, _, _, true, rfl, .ty "tuple", .base (.tup ha), kit_ty (by decide +kernel), true, rfl, if_f rfl ?_⟩
      refine ⟨_, rfl, _, .inr (.inl ⟨_, SqT.of ha, rfl⟩), if_f rfl ?_⟩
      refine ⟨_, rfl, a, _, _, _, rfl, rfl, SqT.of ha, rfl, _, _, _, _, true, rfl, .ty "str", .base (.str _), kit_ty (by decide +kernel), true, rfl, if_f rfl ?_⟩
      refine ⟨_, rfl, a, _, _, _, rfl, rfl, SqT.of ha, rfl, _, _, rfl, rfl, th.n5, _, rfl, if_f rfl ?_⟩
      refine ⟨_, rfl, a, _, _, _, rfl, rfl, SqT.of ha, rfl, ?_⟩
      refine ⟨_, rfl, a, _, rfl, .inr (SqT.of ha), _, rfl, aT, _, .int 3, rfl, rfl, ⟨_, _, _, th.D.at_, th.D.lit, th.n5, ⟨_, rfl⟩⟩, rfl, _, rfl, if_f rfl ?_⟩
      refine ⟨_, rfl, rfl, _, rfl, if_f (by decide) ?_⟩
      refine ⟨_, rfl, rfl, _, rfl, if_f (by decide) ?_⟩
      refine ⟨_, rfl, rfl, _, rfl, if_f (by decide) ?_⟩
      refine ⟨_, rfl, a, _, _, _, rfl, rfl, SqT.of ha, rfl, _, rfl, a, _, _, _, rfl, rfl, SqT.of ha, rfl, rfl, ?_⟩
      have e : (!decide (V.int j = V.int m)) = true := by
        rw [decide_eq_false fun z => hok.2.2 (by injection z)]
        rfl
      rw [e]
      exact k _ (Evl.Ex.refl _)
end
end V2


namespace V2
open PySem L2
open PySem.Spec PyProof.Rows
def sgn (x : Int) : Int := if x = 0 then 0 else if x > 0 then 1 else -1
theorem sgn_le {x : Int} (h : x ≤ 0) : sgn x ≤ 0 := by
  unfold sgn
  split
  · omega
  · split <;> omega
def spSgn : Sp := fun vs H Q _ => ∃ x : Int, vs = [.int x] ∧ Evl.RetV (.int (sgn x)) H Q
def spOrd : Sp := fun vs H Q _ => ∃ (a b : Addr) (p q x y : Int), vs = [.ref a, .ref b] ∧ Fr H a p q ∧ Fr H b x y ∧ p.natAbs < 2 ^ 50 ∧ q.natAbs < 2 ^ 50 ∧ x.natAbs < 2 ^ 50 ∧ y.natAbs < 2 ^ 50 ∧ Evl.RetV (.int (sgn (p * y - x * q))) H Q
def spTof (n : Int) : Sp := fun vs H Q _ => ∃ (a : Addr) (d : Deed), vs = [.ref a] ∧ DAt H a d ∧ okD n d ∧ ∀ (l : Addr) (ks : List Int) (H' : Hp), Evl.Ex H H' → Li H' l ks → ks.length ≤ 20 → (∀ k ∈ ks, 0 ≤ k ∧ k < n) → Q (.ref l) H'
def spNums : Sp := fun vs H Q _ => ∃ (l : Addr) (ks : List Int) (n : Int), vs = [.ref l, .int n] ∧ Li H l ks ∧ ks.length ≤ 20 ∧ (∀ k ∈ ks, 0 ≤ k ∧ k < n) ∧ Evl.RetV .non H Q
def spPart : Sp := fun vs H Q _ => ∃ (a : Addr) (p q : Int), vs = [.ref a] ∧ Fr H a p q ∧ Pt p q ∧ Evl.RetV .non H Q
def spChkS : Sp := fun vs H Q _ => ∃ (a : Addr) (d : Deed) (n : Int), vs = [.ref a, .int n] ∧ DAt H a d ∧ okD n d ∧ Evl.RetV .non H Q
section
variable {base : Heap} {mg : Str → Option Value} {K : PySem.W.Frag} {w : World} {P : Program} {aT : Addr} {es : Array DictEntry} {nT : Nat} {t1 t2 t3 t4 t5 : Tok}
theorem ok_sign_of {f : Addr} {fd : FuncData} (F : Fun K "sign_of" "sign_of" s_sign_of f fd) : FnOk P w K mg base CX0 1 f fd p_sign_of spSgn := by
  refine F.ok sc_sign_of (fun vs H Q E h => ?_) (fun cdv A outer s H vs Q E hr h => ?_)
  · obtain ⟨x, rfl, _⟩ := h
    rfl
  · obtain ⟨x, rfl, k⟩ := h
    refine ⟨_, pss_cons (ps_if (pt_cmpR op_eq (pv 0) pe_int (nomark _)) (pss_one (ps_ret pe_int)) pss_nil) (pss_one (ps_ret (pe_ifExp (pt_cmpR op_gt (pv 0) pe_int (nomark _)) pe_int (pe_un un_neg pe_int)))), ?_⟩
    refine ⟨_, rfl, rfl, _, rfl, ?_⟩
    unfold sgn at k
    by_cases h0 : x = 0
    · refine if_t (decide_eq_true (by rw [h0])) ?_
      rw [if_pos h0] at k
      exact k _ (Evl.Ex.refl _)
    · refine if_f (decide_eq_false (fun z => h0 (by injection z))) ?_
      rw [if_neg h0] at k
      by_cases h1 : x > 0
      · rw [if_pos h1] at k
        exact ⟨_, rfl, _, _, rfl, rfl, _, rfl, if_t (decide_eq_true h1) (k _ (Evl.Ex.refl _))⟩
      · rw [if_neg h1] at k
        exact ⟨_, rfl, _, _, rfl, rfl, _, rfl, if_f (decide_eq_false h1) ⟨_, rfl, k _ (Evl.Ex.refl _)⟩⟩
theorem ok_order {f : Addr} {fd : FuncData} (F : Fun K "order_of_fractions" "order_of_fractions" s_order_of_fractions f fd) (cS : Cal P w K mg base 1 "sign_of" p_sign_of spSgn) : FnOk P w K mg base CX0 2 f fd p_order_of_fractions spOrd := by
  refine F.ok sc_order_of_fractions (fun vs H Q E h => ?_) (fun cdv A outer s H vs Q E hr h => ?_)
  · obtain ⟨a, b, p, q, x, y, rfl, _⟩ := h
    rfl
  · obtain ⟨a, b, p, q, x, y, rfl, ha, hb, h1, h2, h3, h4, k⟩ := h
    refine ⟨_, pss_one (ps_ret (pe_c cS hr (pa_cons (pe_op op_sub (pe_op op_mulW (pe_ix ix_tup (pv 0) pe_int (fun _ _ => rfl)) (pe_ix ix_tup (pv 1) pe_int (fun _ _ => rfl))) (pe_op op_mulW (pe_ix ix_tup (pv 1) pe_int (fun _ _ => rfl)) (pe_ix ix_tup (pv 0) pe_int (fun _ _ => rfl)))) pa_nil))), ?_⟩
    refine ⟨_, rfl, a, _, _, _, rfl, rfl, SqT.of ha, rfl, _, rfl, b, _, _, _, rfl, rfl, SqT.of hb, rfl, p, y, rfl, rfl, wide_mul (a := 50) (b := 50) h1 h4 (by decide) (by decide) (by decide), ?_⟩
    refine ⟨_, rfl, b, _, _, _, rfl, rfl, SqT.of hb, rfl, _, rfl, a, _, _, _, rfl, rfl, SqT.of ha, rfl, x, q, rfl, rfl, wide_mul (a := 50) (b := 50) h3 h2 (by decide) (by decide) (by decide), _, _, rfl, rfl, ?_⟩
    exact ⟨_, rfl, k⟩
theorem ok_tanks_of {n : Int} {f : Addr} {fd : FuncData} (F : Fun K "tanks_of" "tanks_of" s_tanks_of f fd) : FnOk P w K mg base CX0 1 f fd p_tanks_of (spTof n) := by
  refine F.ok sc_tanks_of (fun vs H Q E h => ?_) (fun cdv A outer s H vs Q E hr h => ?_)
  · obtain ⟨a, d, rfl, _⟩ := h
    rfl
  · obtain ⟨a, d, rfl, hd, hok, k⟩ := h
    have one : 1 ≤ sizeLine := by show 1 ≤ sizeLine; decide
    have two : 2 ≤ sizeLine := by show 2 ≤ sizeLine; decide
    refine ⟨_, pss_cons (ps_if (pt_cmpR op_eq (pe_ix ix_tup (pv 0) pe_int (fun _ _ => rfl)) pe_str (nomark _)) (pss_one (ps_ret (pe_ix ix_tup (pv 0) pe_int (fun _ _ => rfl)))) pss_nil)
      (pss_one (ps_ret (pe_ifExp (pt_cmpR op_in_seq (pe_ix ix_tup (pv 0) pe_int (fun _ _ => rfl)) (pe_tup (pa_cons pe_str (pa_cons pe_str pa_nil))) (by rfl))
        (pe_lst (pa_cons (pe_ix ix_tup (pv 0) pe_int (fun _ _ => rfl)) (pa_cons (pe_ix ix_tup (pv 0) pe_int (fun _ _ => rfl)) pa_nil))) (pe_lst (pa_cons (pe_ix ix_tup (pv 0) pe_int (fun _ _ => rfl)) pa_nil))))), ?_⟩
    cases d with
    | op ks =>
      obtain ⟨l, ha, hl⟩ := hd
      refine ⟨_, rfl, a, _, _, _, rfl, rfl, SqT.of ha, rfl, rfl, _, rfl, if_t (by decide) ?_⟩
      exact ⟨_, rfl, a, _, _, _, rfl, rfl, SqT.of ha, rfl, k l ks H (Evl.Ex.refl _) hl hok.2.1 hok.2.2.2⟩
    | po j x =>
      have ha : H a = some (.tup [.str "pour", .int j, .int x]) := hd
      refine ⟨_, rfl, a, _, _, _, rfl, rfl, SqT.of ha, rfl, rfl, _, rfl, if_f (by decide) ?_⟩
      refine ⟨_, rfl, a, _, _, _, rfl, rfl, SqT.of ha, rfl, two, fun t ht => ?_⟩
      have e1 := Evl.Ex.new (o := .tup [.str "move", .str "unless"]) ht
      refine ⟨t, _, rfl, .inr (SqT.of upd_same), rfl, rfl, _, rfl, if_f (by decide) ?_⟩
      refine ⟨_, rfl, a, _, _, _, rfl, rfl, SqT.of (e1 _ _ ha), rfl, one, fun l hl => k l [j] _ (e1.trans (Evl.Ex.new hl)) upd_same (by show 1 ≤ 20; decide) fun z hz => ?_⟩
      obtain rfl := List.mem_singleton.mp hz
      exact hok.1
    | sc j p q =>
      obtain ⟨g, ha, hg⟩ := hd
      refine ⟨_, rfl, a, _, _, _, rfl, rfl, SqT.of ha, rfl, rfl, _, rfl, if_f (by decide) ?_⟩
      refine ⟨_, rfl, a, _, _, _, rfl, rfl, SqT.of ha, rfl, two, fun t ht => ?_⟩
      have e1 := Evl.Ex.new (o := .tup [.str "move", .str "unless"]) ht
      refine ⟨t, _, rfl, .inr (SqT.of upd_same), rfl, rfl, _, rfl, if_f (by decide) ?_⟩
      refine ⟨_, rfl, a, _, _, _, rfl, rfl, SqT.of (e1 _ _ ha), rfl, one, fun l hl => k l [j] _ (e1.trans (Evl.Ex.new hl)) upd_same (by show 1 ≤ 20; decide) fun z hz => ?_⟩
      obtain rfl := List.mem_singleton.mp hz
      exact hok.1
    | mv j m p q =>
      obtain ⟨g, ha, hg⟩ := hd
      refine ⟨_, rfl, a, _, _, _, rfl, rfl, SqT.of ha, rfl, rfl, _, rfl, if_f (by decide) ?_⟩
      refine ⟨_, rfl, a, _, _, _, rfl, rfl, SqT.of ha, rfl, two, fun t ht => ?_⟩
      have e1 := Evl.Ex.new (o := .tup [.str "move", .str "unless"]) ht
      refine ⟨t, _, rfl, .inr (SqT.of upd_same), rfl, rfl, _, rfl, if_t (by decide) ?_⟩
      refine ⟨_, rfl, a, _, _, _, rfl, rfl, SqT.of (e1 _ _ ha), rfl, _, rfl, a, _, _, _, rfl, rfl, SqT.of (e1 _ _ ha), rfl, two, fun l hl => k l [j, m] _ (e1.trans (Evl.Ex.new hl)) upd_same (by show 2 ≤ 20; decide) fun z hz => ?_⟩
      simp only [List.mem_cons, List.not_mem_nil, or_false] at hz
      rcases hz with rfl | rfl
      · exact hok.1
      · exact hok.2.1
    | un j m =>
      have ha : H a = some (.tup [.str "unless", .int j, .int m]) := hd
      refine ⟨_, rfl, a, _, _, _, rfl, rfl, SqT.of ha, rfl, rfl, _, rfl, if_f (by decide) ?_⟩
      refine ⟨_, rfl, a, _, _, _, rfl, rfl, SqT.of ha, rfl, two, fun t ht => ?_⟩
      have e1 := Evl.Ex.new (o := .tup [.str "move", .str "unless"]) ht
      refine ⟨t, _, rfl, .inr (SqT.of upd_same), rfl, rfl, _, rfl, if_t (by decide) ?_⟩
      refine ⟨_, rfl, a, _, _, _, rfl, rfl, SqT.of (e1 _ _ ha), rfl, _, rfl, a, _, _, _, rfl, rfl, SqT.of (e1 _ _ ha), rfl, two, fun l hl => k l [j, m] _ (e1.trans (Evl.Ex.new hl)) upd_same (by show 2 ≤ 20; decide) fun z hz => ?_⟩
      simp only [List.mem_cons, List.not_mem_nil, or_false] at hz
      rcases hz with rfl | rfl
      · exact hok.1
      · exact hok.2.1
theorem ok_check_numbers {f : Addr} {fd : FuncData} (F : Fun K "check_numbers" "check_numbers" s_check_numbers f fd) (cA : Cal P w K mg base 2 "is_amount" p_is_amount spAmt) : FnOk P w K mg base CX0 3 f fd p_check_numbers spNums := by
  refine F.ok sc_check_numbers (fun vs H Q E h => ?_) (fun cdv A outer s H vs Q E hr h => ?_)
  · obtain ⟨l, ks, n, rfl, _⟩ := h
    rfl
  · obtain ⟨l, ks, n, rfl, hl, h20, hks, k⟩ := h
    have nd := sc_check_numbers.nd
    refine ⟨_, pss_one (ps_for PassesOwn.never rfl (pi_list (pv 0)) (pg_name (i := 2) nd rfl (Or.inl rfl)) (pss_one (ps_if (PW.pt (pw_or (pt_not (pt_val (pe_c cA hr (pa_cons (pv 2) pa_nil)))) (pw_or1 (pt_cmpR op_ge (pv 2) (pv 1) (nomark _))))) (pss_one ps_never) pss_nil))), ?_⟩
    refine ⟨_, rfl, l, rfl, ⟨_, hl.sq⟩, for_list (xs := iV ks) (fun i σ H' => Evl.Ex H H' ∧ ∃ v, σ = [some (.ref l), some (.int n), v]) ⟨Evl.Ex.refl _, none, rfl⟩ (fun i σ H' _ q => SqL.of (q.1 _ _ hl)) ?_ ?_⟩
    · rintro i x σ H1 hi ⟨e1, v, rfl⟩
      obtain ⟨z, hz, rfl⟩ := iV_get hi
      obtain ⟨z0, z1⟩ := hks z (List.mem_of_getElem? hz)
      refine ⟨_, rfl, z, rfl, z0, fun H2 e2 => ⟨true, rfl, if_f rfl ?_⟩⟩
      exact ⟨_, rfl, _, rfl, _, _, rfl, rfl, _, rfl, if_f (decide_eq_false (by omega)) ⟨e1.trans e2, _, rfl⟩⟩
    · rintro σ H1 ⟨e1, v, rfl⟩
      exact k _ e1
theorem ok_check_part {f : Addr} {fd : FuncData} (F : Fun K "check_part" "check_part" s_check_part f fd) (cF : Cal P w K mg base 2 "is_fraction" p_is_fraction spIsFr) (cO : Cal P w K mg base 2 "order_of_fractions" p_order_of_fractions spOrd) : FnOk P w K mg base CX0 3 f fd p_check_part spPart := by
  refine F.ok sc_check_part (fun vs H Q E h => ?_) (fun cdv A outer s H vs Q E hr h => ?_)
  · obtain ⟨a, p, q, rfl, _⟩ := h
    rfl
  · obtain ⟨a, p, q, rfl, ha, ⟨p0, pq, hQ⟩, k⟩ := h
    have two : 2 ≤ sizeLine := by show 2 ≤ sizeLine; decide
    refine ⟨_, pss_one (ps_if (PW.pt (pw_or (pt_not (pt_val (pe_c cF hr (pa_cons (pv 0) pa_nil)))) (pw_or (pt_cmpR op_lt (pe_ix ix_tup (pv 0) pe_int (fun _ _ => rfl)) pe_int (nomark _))
      (pw_or1 (pt_cmpR op_gt (pe_c cO hr (pa_cons (pv 0) (pa_cons (pe_tup (pa_cons pe_int (pa_cons pe_int pa_nil))) pa_nil))) pe_int (nomark _)))))) (pss_one ps_never) pss_nil), ?_⟩
    refine ⟨_, rfl, a, p, q, rfl, ha, hQ, fun H1 e1 => ⟨true, rfl, if_f rfl ?_⟩⟩
    refine ⟨_, rfl, a, _, _, _, rfl, rfl, SqT.of (e1 _ _ ha), rfl, _, _, rfl, rfl, _, rfl, if_f (decide_eq_false (by omega)) ?_⟩
    refine ⟨_, rfl, two, fun t ht => ?_⟩
    have e2 := Evl.Ex.new (o := .tup [.int 1, .int 1]) ht
    refine ⟨a, t, p, q, 1, 1, rfl, e2 _ _ (e1 _ _ ha), upd_same, hQ.2.2.1, hQ.2.2.2, by decide, by decide, fun H2 e3 => ⟨_, _, rfl, rfl, _, rfl, if_f (decide_eq_false ?_) (k _ ((e1.trans e2).trans e3))⟩⟩
    have := sgn_le (x := p * 1 - 1 * q) (by omega)
    omega
theorem ok_check_step {f : Addr} {fd : FuncData} (F : Fun K "check_step" "check_step" s_check_step f fd) (cS : Cal P w K mg base 3 "is_step" p_is_step spStep) (cT : ∀ n, Cal P w K mg base 1 "tanks_of" p_tanks_of (spTof n)) (cN : Cal P w K mg base 3 "check_numbers" p_check_numbers spNums) (cP : Cal P w K mg base 3 "check_part" p_check_part spPart) : FnOk P w K mg base CX0 4 f fd p_check_step spChkS := by
  refine F.ok sc_check_step (fun vs H Q E h => ?_) (fun cdv A outer s H vs Q E hr h => ?_)
  · obtain ⟨a, d, n, rfl, _⟩ := h
    rfl
  · obtain ⟨a, d, n, rfl, hd, hok, k⟩ := h
    have two : 2 ≤ sizeLine := by show 2 ≤ sizeLine; decide
    have r1 : Room 1 _ := hr.mono (by decide)
    refine ⟨_, pss_cons (ps_if (pt_not (pt_val (pe_c cS hr (pa_cons (pv 0) pa_nil)))) (pss_one ps_never) pss_nil)
      (pss_cons (ps_expr (pe_c cN hr (pa_cons (pe_c (cT n) r1 (pa_cons (pv 0) pa_nil)) (pa_cons (pv 1) pa_nil))))
      (pss_one (ps_if (pt_cmpR op_in_seq (pe_ix ix_tup (pv 0) pe_int (fun _ _ => rfl)) (pe_tup (pa_cons pe_str (pa_cons pe_str pa_nil))) (by rfl)) (pss_one (ps_expr (pe_c cP hr (pa_cons (pe_ix ix_tup (pv 0) (pe_un un_neg pe_int) (fun _ _ => rfl)) pa_nil)))) pss_nil))), ?_⟩
    refine ⟨_, rfl, a, d, n, rfl, hd, hok, fun H1 e1 => ⟨true, rfl, if_f rfl ?_⟩⟩
    refine ⟨_, rfl, a, d, rfl, hd.ex e1, hok, fun l ks H2 e2 hl h20 hks => ⟨_, rfl, l, ks, n, rfl, hl, h20, hks, fun H3 e3 => ?_⟩⟩
    have e13 := (e1.trans e2).trans e3
    cases d with
    | op ks =>
      obtain ⟨l, ha, hl⟩ := hd
      refine ⟨_, rfl, a, _, _, _, rfl, rfl, SqT.of (e13 _ _ ha), rfl, two, fun t ht => ⟨t, _, rfl, .inr (SqT.of upd_same), rfl, rfl, _, rfl, if_f (by decide) (k _ (e13.trans (Evl.Ex.new ht)))⟩⟩
    | po j x =>
      have ha : H a = some (.tup [.str "pour", .int j, .int x]) := hd
      refine ⟨_, rfl, a, _, _, _, rfl, rfl, SqT.of (e13 _ _ ha), rfl, two, fun t ht => ⟨t, _, rfl, .inr (SqT.of upd_same), rfl, rfl, _, rfl, if_f (by decide) (k _ (e13.trans (Evl.Ex.new ht)))⟩⟩
    | sc j p q =>
      obtain ⟨g, ha, hg⟩ := hd
      refine ⟨_, rfl, a, _, _, _, rfl, rfl, SqT.of (e13 _ _ ha), rfl, two, fun t ht => ⟨t, _, rfl, .inr (SqT.of upd_same), rfl, rfl, _, rfl, if_t (by decide) ?_⟩⟩
      have e4 := e13.trans (Evl.Ex.new (o := .tup [.str "scoop", .str "move"]) ht)
      exact ⟨_, rfl, _, rfl, a, _, _, _, rfl, rfl, SqT.of (e4 _ _ ha), rfl, g, p, q, rfl, e4 _ _ hg, hok.2, fun H5 e5 => k _ (e4.trans e5)⟩
    | mv j m p q =>
      obtain ⟨g, ha, hg⟩ := hd
      refine ⟨_, rfl, a, _, _, _, rfl, rfl, SqT.of (e13 _ _ ha), rfl, two, fun t ht => ⟨t, _, rfl, .inr (SqT.of upd_same), rfl, rfl, _, rfl, if_t (by decide) ?_⟩⟩
      have e4 := e13.trans (Evl.Ex.new (o := .tup [.str "scoop", .str "move"]) ht)
      exact ⟨_, rfl, _, rfl, a, _, _, _, rfl, rfl, SqT.of (e4 _ _ ha), rfl, g, p, q, rfl, e4 _ _ hg, hok.2.2.2, fun H5 e5 => k _ (e4.trans e5)⟩
    | un j m =>
      have ha : H a = some (.tup [.str "unless", .int j, .int m]) := hd
      refine ⟨_, rfl, a, _, _, _, rfl, rfl, SqT.of (e13 _ _ ha), rfl, two, fun t ht => ⟨t, _, rfl, .inr (SqT.of upd_same), rfl, rfl, _, rfl, if_f (by decide) (k _ (e13.trans (Evl.Ex.new ht)))⟩⟩
end
end V2


namespace V2
open PySem L2
open PySem.Spec PyProof.Rows
abbrev HdT : Type := List (Value × (Addr → Value → Option Addr → TS))
/-- the ends behind a clause: the name is gone -/
def unE (i : Nat) (D : Ends) : Ends := { nx := fun τ G => D.nx (τ.set i none) G, rt := D.rt, bk := fun τ G => D.bk (τ.set i none) G, ct := fun τ G => D.ct (τ.set i none) G }
def wEs (K : PySem.W.Frag) (i : Nat) (W0 : WX) (D : Ends) : HdT → WX
  | [] => W0
  | z :: r => fun k d τ G => ∃ yes, PySem.W.exmOne K k z.1 = some yes ∧ (yes = true → ∀ q, G q = none → z.2 q k d (unE i D) (τ.set i (some (.ref q))) G) ∧ (yes = false → wEs K i W0 D r k d τ G)
inductive HdE (X : Cx) (n : Str) : List ExceptHandler → HdT → Prop
  | nil : HdE X n [] []
  | cons {y : Str} {v : Value} {f : Addr → Value → Option Addr → TS} {b1 : Stmt} {bs : List Stmt} {u1 u2 : Pos} {r : List ExceptHandler} {l : HdT} (nm : Names X y v)
      (su : ∀ q ob k d ps, Zc k d ob → (∃ vs, ob.data = .fields vs) → PSs (X.suite q ((q, ob) :: ps)) (b1 :: bs) (f q k d)) (t : HdE X n r l) : HdE X n (.ExceptHandler (some (.Name y u1)) (some n) (b1 :: bs) u2 :: r) ((v, f) :: l)
section
variable {X : Cx} {n : Str} {i : Nat} {bd : List Stmt} {hh : ExceptHandler} {hr : List ExceptHandler} {l : HdT} {p : Pos} {tb : WX → TS} {W0 : WX}
theorem ps_try_es (st : X.stack = X.env :: X.outer) (fl : X.env.frame = some X.env.locals) (nd : X.N.Nodup) (ni : X.N[i]? = some n) (nk : X.env.kindOf n = some .local) (tk : Takes X W0)
    (hb : ∀ (W : WX) (ps : List (Addr × Obj)) (xe : Value → Shared → Prop), Takes (X.tr ps xe) W → PassesOwn (model X.prog X.w) X.A X.env xe → PSs (X.tr ps xe) bd (tb W)) (hds : HdE X n (hh :: hr) l) : PS X (.Try bd (hh :: hr) [] [] p) (fun D τ G => tb (wEs X.K i W0 D l) D τ G) := by
  constructor
  intro pins s τ G D I h
  have ok := I.ok
  have af : X.A.frames = some (X.env :: X.outer) := ok.frames.trans (congrArg some st)
  have body := (hb (wEs X.K i W0 D l) (X.pn ++ pins) (fun e z => wpAny (model X.prog X.w) X.A (noteFrame e X.env) (fun _ z => wpAny (model X.prog X.w) X.A (setFlight e none) (fun _ z => wpAny (model X.prog X.w) X.A (handleBy e X.env (hh :: hr)) (SP X pins D) X.xe z) X.xe z) X.xe z) (fun _ s' got => by
    obtain ⟨ea, bb, sI, pins', τ', G', k, d, rfl, J', nb, up, sky, na, os, ag, w⟩ := got
    have J : Inv X pins τ' G' sI := J'.ofTry ok
    have sk : Sky bb (X.env :: X.outer) ea (Zc k d) X.env.locals s'.heap := st ▸ sky
    show wpAny (model X.prog X.w) X.A (noteFrame (.ref ea) X.env) _ _ _
    refine Sky.land Zc.steady af fl sk fun h3 fl3 up3 => ?_
    have J3 : Inv X pins τ' G' { s' with heap := h3 } := J.landed nb fl3.1 (up.trans up3) os ag
    obtain ⟨o3, v3, he3, hz3, hd3⟩ := fl3.there
    have out : ea ∉ frs (X.env :: X.outer) := fun hm => by
      obtain ⟨_, o', e', no⟩ := fl3.2.2.1.mem hm
      rw [he3] at e'
      cases e'
      exact no _ hd3
    have oL : ea ≠ X.env.locals := fun z => out (List.mem_filterMap.mpr ⟨_, List.mem_cons_self, fl.trans (congrArg some z.symm)⟩)
    have oF : ea ∉ X.fs := fun hm => let ⟨e, he, q⟩ := List.mem_filterMap.mp hm; out (List.mem_filterMap.mpr ⟨e, List.mem_cons_of_mem _ he, q⟩)
    have S3 := J3.suite he3 hd3 na oL oF
    have go : ∀ {r : List ExceptHandler} {m : HdT}, HdE X n r m → wEs X.K i W0 D m k d τ' G' → wpAny (model X.prog X.w) X.A (handleBy (.ref ea) X.env r) (SP X pins D) X.xe { s' with heap := h3 } := by
      intro r m hk
      induction hk with
      | nil =>
        intro w
        refine wpAny_handleBy_nil ?_
        obtain ⟨k1, k2, k3, o, vs, T, oT, ts', he, hz, hd, h1, hr⟩ := id fl3
        unfold PySem.passOn
        refine wpAny_bind (wpAny_field he hd h1 ?_)
        rw [if_neg (by simp)]
        have fin : wpAny (model X.prog X.w) X.A (setFlight (.ref ea) X.env.frame) (fun _ z => wpAny (model X.prog X.w) X.A (throw (.ref ea) : Sem Flow) (SP X pins D) X.xe z) X.xe { s' with heap := h3 } := by
          rw [fl]
          exact HandSPX.setFlight_upZ fl3 fun h4 hh4 up4 => wpAny_throw (tk _ _ ⟨ea, bb, sI, pins, τ', G', k, d, rfl, J, nb, (up.trans up3).trans up4, .inr (.inr (st ▸ hh4)), na, os, ag, w⟩)
        first
          | exact wpAny_bind (wpAny_pure (wpAny_bind fin))
          | exact wpAny_bind fin
      | @cons y v f b1 bs u1 u2 r2 l2 nm su t ih =>
        rintro ⟨yes, e1, hy, hn⟩
        refine wpAny_handleBy_cons (codeAny_handlers_test ?_) (fun q => nomatch q)
        have LT : PySem.W.Looks (model X.prog X.w) h3 (typeOf (.ref ea)) k := fun _ _ _ _ kp q => wpAny_typeOf_ref (kp _ _ he3) (hz3.1.symm ▸ q)
        have LM := PySem.W.exm_one (M := model X.prog X.w) J3.kIn LT e1
        have asks : ∀ {Q E : Value → Shared → Prop}, Q v { s' with heap := h3 } → wpAny (model X.prog X.w) (X.A.mark (some (.ref ea))) (eval (.Name y u1) X.env) Q E { s' with heap := h3 } := fun q => by
          rcases nm with ⟨g1, g2, g3 | ⟨g3, g4, g5⟩⟩
          · exact ld_glob (X := X.suite ea ((ea, o3) :: (X.pn ++ pins))) S3 g1 g3 q g2
          · exact ld_blt (X := X.suite ea ((ea, o3) :: (X.pn ++ pins))) S3 g1 g3 g4 q g5 g2
        refine asks (LM.here ?_)
        match yes, hy, hn with
        | false, _, hn => exact ih (hn rfl)
        | true, hy, _ =>
          refine codeAny_handlers_suite_as (HandSPX.lands_againZ fl3 fun h4 fl4 up4 => ?_)
          have J4 : Inv X pins τ' G' { s' with heap := h4 } := J.landed nb fl4.1 ((up.trans up3).trans up4) os ag
          obtain ⟨o4, v4, he4, hz4, hd4⟩ := fl4.there
          refine store_ok (X := X.suite ea ((ea, o4) :: (X.pn ++ pins))) (v := .ref ea) (J4.suite he4 hd4 na oL oF) nd ni (.inl nk) rfl (fun s5 S5 => ?_) (.inr nk)
          refine wpAny_mono ((su ea o4 k d (X.pn ++ pins) hz4 ⟨_, hd4⟩).run [] s5 _ G' _ S5 (hy rfl ea na)) (fun g s6 sp => ?_) (fun _ _ z => z.elim)
          have off : ∀ {τ6 : L2.St} {G6 : Hp} {Q : Shared → Prop}, Inv (X.suite ea ((ea, o4) :: (X.pn ++ pins))) [] τ6 G6 s6 → (∀ s7, Inv X pins (τ6.set i none) G6 s7 → Q s7) → wpAny (model X.prog X.w) X.A (do bindName X.env n .none; unbindBehindTheSuite X.env n u2) (fun _ s7 => Q s7) X.xe s6 := fun S6 q => gone_ok (S6.unsuite ok) nd ni nk q
          match g, sp with
          | .next, ⟨τ6, G6, S6, q6⟩ => exact off S6 fun s7 J7 => ⟨_, _, J7, q6⟩
          | .brk, ⟨τ6, G6, S6, q6⟩ => exact off S6 fun s7 J7 => ⟨_, _, J7, q6⟩
          | .cont, ⟨τ6, G6, S6, q6⟩ => exact off S6 fun s7 J7 => ⟨_, _, J7, q6⟩
          | .ret u, ⟨v6, τ6, G6, S6, r6, q6⟩ => exact off S6 fun s7 J7 => ⟨_, _, _, J7, r6, q6⟩
    exact go hds w) PassesOwn.looking).run [] s τ G D (I.toTry _) h
  refine wpAny_Try_except (wpAny_mono body (fun g z sp => ?_) fun _ _ z => z)
  match g, sp with
  | .next, ⟨τ', G', J', q⟩ => exact wpAny_execs_nil ⟨τ', G', J'.ofTry ok, q⟩
  | .brk, ⟨τ', G', J', q⟩ => exact ⟨τ', G', J'.ofTry ok, q⟩
  | .cont, ⟨τ', G', J', q⟩ => exact ⟨τ', G', J'.ofTry ok, q⟩
  | .ret u, ⟨v, τ', G', J', r, q⟩ => exact ⟨v, τ', G', J'.ofTry ok, r, q⟩
end
end V2


namespace V2
open PySem L2
open PySem.Spec PyProof.Rows
def DObj : HO → Prop
  | .lst _ => True
  | .tup _ => True
  | .dK _ => True
  | _ => False
mutual
theorem Dq.keep {H H' : Hp} (e : ∀ b o, DObj o → H b = some o → H' b = some o) : ∀ {d : PyData} {v : V}, Dq H v d → Dq H' v d
  | _, _, .non => .non
  | _, _, .bl b => .bl b
  | _, _, .int i => .int i
  | _, _, .str x => .str x
  | _, _, .lst h r => .lst (e _ _ trivial h) (DqAll.keep e r)
  | _, _, .tup h r => .tup (e _ _ trivial h) (DqAll.keep e r)
  | _, _, .dct h r => .dct (e _ _ trivial h) (Dq.keep e r)
theorem DqAll.keep {H H' : Hp} (e : ∀ b o, DObj o → H b = some o → H' b = some o) : ∀ {ds : List PyData} {vs : List V}, DqAll H vs ds → DqAll H' vs ds
  | _, _, .nil => .nil
  | _, _, .cons a b => .cons (Dq.keep e a) (DqAll.keep e b)
end
theorem keep_ins {H H' : Hp} {x C dx : Addr} {fs : List (Str × V)} (hx : H x = some (.ins C dx fs)) (b : But x H H') : ∀ c o, DObj o → H c = some o → H' c = some o := fun c o d h => b c o (fun z => by
  rw [z, hx] at h
  cases h
  exact d) h
theorem cp_ints {n : Nat} {ks : List Int} (h : ks.length ≤ 100) : Cp (n + 1) (.list (ks.map .int)) := .lst (by rw [List.length_map]; exact h) fun d hd => by
  obtain ⟨t, _, rfl⟩ := List.mem_map.mp hd
  exact .int t
theorem cp_dD {d : Deed} {n : Int} (h : okD n d) : Cp 2 (dD d) := by
  cases d with
  | op ks =>
    refine .tup (by show 2 ≤ 100; decide) fun x hx => ?_
    simp only [List.mem_cons, List.not_mem_nil, or_false] at hx
    rcases hx with rfl | rfl
    · exact .str _
    · exact cp_ints (Nat.le_trans h.2.1 (by decide))
  | po k a =>
    refine .tup (by show 3 ≤ 100; decide) fun x hx => ?_
    simp only [List.mem_cons, List.not_mem_nil, or_false] at hx
    rcases hx with rfl | rfl | rfl
    · exact .str _
    · exact .int _
    · exact .int _
  | sc k p q =>
    refine .tup (by show 3 ≤ 100; decide) fun x hx => ?_
    simp only [List.mem_cons, List.not_mem_nil, or_false] at hx
    rcases hx with rfl | rfl | rfl
    · exact .str _
    · exact .int _
    · exact .tup (by show 2 ≤ 100; decide) fun y hy => by
        simp only [List.mem_cons, List.not_mem_nil, or_false] at hy
        rcases hy with rfl | rfl
        · exact .int _
        · exact .int _
  | mv k m p q =>
    refine .tup (by show 4 ≤ 100; decide) fun x hx => ?_
    simp only [List.mem_cons, List.not_mem_nil, or_false] at hx
    rcases hx with rfl | rfl | rfl | rfl
    · exact .str _
    · exact .int _
    · exact .int _
    · exact .tup (by show 2 ≤ 100; decide) fun y hy => by
        simp only [List.mem_cons, List.not_mem_nil, or_false] at hy
        rcases hy with rfl | rfl
        · exact .int _
        · exact .int _
  | un k m =>
    refine .tup (by show 3 ≤ 100; decide) fun x hx => ?_
    simp only [List.mem_cons, List.not_mem_nil, or_false] at hx
    rcases hx with rfl | rfl | rfl
    · exact .str _
    · exact .int _
    · exact .int _
theorem cp_deeds {ds : List Deed} {n : Int} (h : ∀ d ∈ ds, okD n d) (hl : ds.length ≤ 100) : Cp 3 (.list (ds.map dD)) := .lst (by rw [List.length_map]; exact hl) fun d hd => by
  obtain ⟨t, ht, rfl⟩ := List.mem_map.mp hd
  exact cp_dD (h t ht)
theorem dq_ints {H : Hp} : ∀ {ks : List Int} {vs : List V}, DqAll H vs (ks.map .int) → vs = iV ks
  | [], _, .nil => rfl
  | k :: ks, _, .cons a b => by
    cases a
    rw [dq_ints b]
    rfl
theorem dq_deed {H : Hp} {v : V} {d : Deed} (h : Dq H v (dD d)) : ∃ a, v = .ref a ∧ DAt H a d := by
  cases d with
  | op ks =>
    cases h with
    | tup h1 h2 =>
      cases h2 with
      | cons a b =>
        cases a
        cases b with
        | cons b c =>
          cases c
          cases b with
          | lst h3 h4 =>
            rw [dq_ints h4] at h3
            exact ⟨_, rfl, _, h1, h3⟩
  | po k x =>
    cases h with
    | tup h1 h2 =>
      cases h2 with
      | cons a b =>
        cases a
        cases b with
        | cons b c =>
          cases b
          cases c with
          | cons c e =>
            cases c
            cases e
            exact ⟨_, rfl, h1⟩
  | sc k p q =>
    cases h with
    | tup h1 h2 =>
      cases h2 with
      | cons a b =>
        cases a
        cases b with
        | cons b c =>
          cases b
          cases c with
          | cons c e =>
            cases e
            cases c with
            | tup h3 h4 =>
              rw [dq_ints (ks := [p, q]) h4] at h3
              exact ⟨_, rfl, _, h1, h3⟩
  | mv k m p q =>
    cases h with
    | tup h1 h2 =>
      cases h2 with
      | cons a b =>
        cases a
        cases b with
        | cons b c =>
          cases b
          cases c with
          | cons c e =>
            cases c
            cases e with
            | cons e g =>
              cases g
              cases e with
              | tup h3 h4 =>
                rw [dq_ints (ks := [p, q]) h4] at h3
                exact ⟨_, rfl, _, h1, h3⟩
  | un k m =>
    cases h with
    | tup h1 h2 =>
      cases h2 with
      | cons a b =>
        cases a
        cases b with
        | cons b c =>
          cases b
          cases c with
          | cons c e =>
            cases c
            cases e
            exact ⟨_, rfl, h1⟩
/-- the steps that stand in a list -/
def DsAt (H : Hp) (l : Addr) (ds : List Deed) : Prop := ∃ as : List Addr, H l = some (.lst (as.map V.ref)) ∧ as.length = ds.length ∧ ∀ (i : Nat) (a : Addr) (d : Deed), as[i]? = some a → ds[i]? = some d → DAt H a d
theorem DsAt.ex {H H' : Hp} {l : Addr} {ds : List Deed} (h : DsAt H l ds) (e : Evl.Ex H H') : DsAt H' l ds := by
  obtain ⟨as, h1, h2, h3⟩ := h
  exact ⟨as, e _ _ h1, h2, fun i a t x y => (h3 i a t x y).ex e⟩
theorem dq_deeds {H : Hp} : ∀ {ds : List Deed} {vs : List V}, DqAll H vs (ds.map dD) → ∃ as : List Addr, vs = as.map V.ref ∧ as.length = ds.length ∧ ∀ (i : Nat) (a : Addr) (d : Deed), as[i]? = some a → ds[i]? = some d → DAt H a d
  | [], _, .nil => ⟨[], rfl, rfl, fun i a t h => (by cases h)⟩
  | t :: ts, _, .cons a b => by
    obtain ⟨x, rfl, hx⟩ := dq_deed a
    obtain ⟨as, rfl, h2, h3⟩ := dq_deeds b
    refine ⟨x :: as, rfl, congrArg Nat.succ h2, fun i a t' h1 h2 => ?_⟩
    cases i with
    | zero =>
      cases h1
      cases h2
      exact hx
    | succ i => exact h3 i a t' h1 h2
theorem Dq.deeds {H : Hp} {v : V} {ds : List Deed} (h : Dq H v (.list (ds.map dD))) : ∃ l, v = .ref l ∧ DsAt H l ds := by
  cases h with
  | lst h1 h2 =>
    obtain ⟨as, rfl, h3, h4⟩ := dq_deeds h2
    exact ⟨_, rfl, as, h1, h3, h4⟩
structure ScC (K : PySem.W.Frag) (C fI fT fS pT pS : Addr) : Prop where
  cls : Cls K C
  na1 : NoAttr K C "_tanks"
  na2 : NoAttr K C "_steps"
  mkI : Mk K C fI
  prT : PropOf K C "tanks" pT fT
  prS : PropOf K C "steps" pS fS
/-- a script's shape that is right -/
def okS (ts : List Tk) (ds : List Deed) : Prop := okT ts ∧ ds.length ≤ 60 ∧ ∀ d ∈ ds, okD ts.length d
def scF (v u : V) : List (Str × V) := [("_tanks", v), ("_steps", u)]
def spScI (C : Addr) : Sp := fun vs H Q _ => ∃ (x dx : Addr) (v u : V) (ts : List Tk) (ds : List Deed), vs = [.ref x, v, u] ∧ H x = some (.ins C dx []) ∧ Dq H v (.list (ts.map tkD)) ∧ Dq H u (.list (ds.map dD)) ∧ okS ts ds ∧
  ∀ (v' u' : V) (fs : List (Str × V)) (H' : Hp), But x H H' → H' x = some (.ins C dx fs) → fs.lookup ("_tanks" : Str) = some v' → fs.lookup ("_steps" : Str) = some u' → Dq (Nw H H') v' (.list (ts.map tkD)) → Dq (Nw H H') u' (.list (ds.map dD)) → fs = scF v' u' → Q .non H'
section
variable {base : Heap} {mg : Str → Option Value} {K : PySem.W.Frag} {w : World} {P : Program} {C fI fT fS pT pS : Addr}
theorem ok_Sc_init {f : Addr} {fd : FuncData} (F : Fun K "__init__" "Script.__init__" s_Sc_init f fd) (mL : mg "len" = none) (c : ScC K C fI fT fS pT pS) (c2 : Cal P w K mg base 3 "copied" p_copied (spCp 2)) (c3 : Cal P w K mg base 4 "copied" p_copied (spCp 3)) (cT : Cal P w K mg base 4 "check_tanks" p_check_tanks spChkT) (cS : Cal P w K mg base 4 "check_step" p_check_step spChkS) : FnOk P w K mg base CX0 5 f fd p_Sc_init (spScI C) := by
  refine F.ok sc_Sc_init (fun vs H Q E h => ?_) (fun cdv A outer s H vs Q E hr h => ?_)
  · obtain ⟨x, dx, v, u, ts, ds, rfl, _⟩ := h
    rfl
  · obtain ⟨x, dx, v, u, ts, ds, rfl, hx, hv, hu, ⟨hT, h60, hD⟩, k⟩ := h
    have nd := sc_Sc_init.nd
    have r3 : Room 3 _ := hr.mono (by decide)
    obtain ⟨lt, rfl, hlt⟩ := hv.tks
    obtain ⟨ls, rfl, hls⟩ := hu.deeds
    refine ⟨_, pss_cons (ps_expr (pe_c cT hr (pa_cons (pv 1) pa_nil)))
      (pss_cons (ps_for PassesOwn.never rfl (pi_list (pv 2)) (pg_name (i := 3) nd rfl (Or.inl rfl)) (pss_one (ps_expr (pe_c cS hr (pa_cons (pv 3) (pa_cons (pe_callB call_len_seq (by rfl) mL PySem.boot_len (pa_cons (pv 1) pa_nil)) pa_nil))))))
      (pss_cons (ps_fld (pv 0) (pe_c c2 r3 (pa_cons (pv 1) pa_nil)) (by rfl))
      (pss_one (ps_fld (pv 0) (pe_c c3 hr (pa_cons (pv 2) pa_nil)) (by rfl))))), ?_⟩
    obtain ⟨as, hl, hlen, hat⟩ := id hls
    obtain ⟨bs, hlb, hlenb, hatb⟩ := id hlt
    refine ⟨_, rfl, lt, ts, rfl, hlt, hT, fun H1 e1 => ?_⟩
    refine ⟨_, rfl, ls, rfl, ⟨_, SqL.of (e1 _ _ hl)⟩, for_list (xs := as.map V.ref) (fun i σ H' => Evl.Ex H H' ∧ ∃ v, σ = [some (.ref x), some (.ref lt), some (.ref ls), v]) ⟨e1, none, rfl⟩ (fun i σ H' _ q => SqL.of (q.1 _ _ hl)) ?_ ?_⟩
    · rintro i y σ H2 hi ⟨e2, v, rfl⟩
      rw [List.getElem?_map] at hi
      obtain ⟨a, ha, rfl⟩ : ∃ a, as[i]? = some a ∧ y = .ref a := by
        cases e : as[i]? with
        | none =>
          rw [e] at hi
          cases hi
        | some a =>
          rw [e] at hi
          exact ⟨a, rfl, (Option.some.inj hi).symm⟩
      have hi2 : i < ds.length := by
        have := (List.getElem?_eq_some_iff.mp ha).1
        omega
      have hd : ds[i]? = some ds[i] := List.getElem?_eq_getElem hi2
      refine ⟨_, rfl, _, rfl, lt, _, rfl, .inl (SqL.of (e2 _ _ hlb)), a, ds[i], _, rfl, (hat i a _ ha hd).ex e2, ?_, fun H3 e3 => ⟨e2.trans e3, _, rfl⟩⟩
      have z := hD ds[i] (List.getElem_mem hi2)
      rw [List.length_map, hlenb]
      exact z
    · rintro σ H2 ⟨e2, v, rfl⟩
      refine ⟨_, rfl, _, _, rfl, hv.go e2, cp_tks (Nat.le_trans hT.1 (by decide)), fun v' H3 e3 hv' => ?_⟩
      have hx3 : H3 x = some (.ins C dx []) := e3 _ _ (e2 _ _ hx)
      refine ⟨_, rfl, x, C, dx, [], rfl, hx3, c.cls, c.na1, by decide, ?_⟩
      have b3 : But x H3 (upd H3 x (.ins C dx (putF "_tanks" v' []))) := But.upd
      have x4 : upd H3 x (.ins C dx (putF "_tanks" v' [])) x = some (.ins C dx (putF "_tanks" v' [])) := upd_same
      have hv4 : Dq (upd H3 x (.ins C dx (putF "_tanks" v' []))) v' (.list (ts.map tkD)) := (hv'.go Nw.ex).keep (keep_ins hx3 b3)
      have hu4 := ((hu.go e2).go e3).keep (keep_ins hx3 b3)
      have b4 : But x H (upd H3 x (.ins C dx (putF "_tanks" v' []))) := (But.of_ex (e2.trans e3)).trans b3
      generalize upd H3 x (.ins C dx (putF "_tanks" v' [])) = H4 at b3 x4 hv4 hu4 b4
      refine ⟨_, rfl, _, _, rfl, hu4, cp_deeds hD (Nat.le_trans h60 (by decide)), fun u' H5 e5 hu' => ?_⟩
      refine ⟨_, rfl, x, C, dx, _, rfl, e5 _ _ x4, c.cls, c.na2, by show 1 < 1000; decide, ?_⟩
      have b6 : But x H5 (upd H5 x (.ins C dx (putF "_steps" u' (putF "_tanks" v' [])))) := But.upd
      refine k v' u' _ _ ((b4.trans (But.of_ex e5)).trans b6) upd_same (by rfl) (by rfl) (hv'.go fun b o z => ?_) (hu'.go fun b o z => ?_) rfl
      · have n := nw_none z
        have nx : b ≠ x := fun q => by
          rw [q, e2 _ _ hx] at n
          cases n
        exact nw_at (Evl.fresh_back e2 n) (b6 _ _ nx (e5 _ _ (b3 _ _ nx (Nw.ex _ _ z))))
      · have n := nw_none z
        have nx : b ≠ x := fun q => by
          rw [q, x4] at n
          cases n
        refine nw_at ?_ (b6 _ _ nx (Nw.ex _ _ z))
        cases q : H b with
        | none => rfl
        | some o' =>
          rw [b4 _ _ nx q] at n
          cases n
end
end V2


namespace V2
open PySem L2
open PySem.Spec PyProof.Rows
def CsAt (H : Hp) (l : Addr) (ns : List Int) : Prop := ∃ as : List Addr, H l = some (.lst (as.map V.ref)) ∧ as.length = ns.length ∧ ∀ (i : Nat) (a : Addr) (n : Int), as[i]? = some a → ns[i]? = some n → Li H a (cp n)
theorem CsAt.ex {H H' : Hp} {l : Addr} {ns : List Int} (h : CsAt H l ns) (e : Evl.Ex H H') : CsAt H' l ns := by
  obtain ⟨as, h1, h2, h3⟩ := h
  exact ⟨as, e _ _ h1, h2, fun i a t x y => e _ _ (h3 i a t x y)⟩
theorem CsAt.get {H : Hp} {l : Addr} {ns : List Int} (h : CsAt H l ns) {i : Nat} {n : Int} (hn : ns[i]? = some n) : ∃ (xs : List V) (a : Addr), H l = some (.lst xs) ∧ xs[i]? = some (.ref a) ∧ Li H a (cp n) := by
  obtain ⟨as, h1, h2, h3⟩ := h
  have hi : i < as.length := by
    have := (List.getElem?_eq_some_iff.mp hn).1
    omega
  have ha : as[i]? = some as[i] := List.getElem?_eq_getElem hi
  exact ⟨_, as[i], h1, by rw [List.getElem?_map, ha]; rfl, h3 i _ n ha hn⟩
/-- while the list at D is being made: i of them are there -/
def CsN (H : Hp) (D : Addr) (ns : List Int) (i : Nat) : Prop := ∃ as : List Addr, H D = some (.lst (as.map V.ref)) ∧ as.length = i ∧ ∀ (j : Nat) (a : Addr) (n : Int), as[j]? = some a → ns[j]? = some n → a ≠ D ∧ Li H a (cp n)
theorem CsN.start {H : Hp} {D : Addr} {ns : List Int} (h : H D = some (.lst [])) : CsN H D ns 0 := ⟨[], h, rfl, fun j a n h => by cases h⟩
theorem get_app {α : Type} {as : List α} {r a : α} {j : Nat} (h : (as ++ [r])[j]? = some a) : (as[j]? = some a ∧ j < as.length) ∨ (j = as.length ∧ a = r) := by
  by_cases hj : j < as.length
  · rw [List.getElem?_append_left hj] at h
    exact .inl ⟨h, hj⟩
  · rw [List.getElem?_append_right (by omega)] at h
    have h1 : j - as.length < 1 := (List.getElem?_eq_some_iff.mp h).1
    have h2 : j = as.length := by omega
    subst h2
    rw [Nat.sub_self] at h
    exact .inr ⟨rfl, (Option.some.inj h).symm⟩
/-- one more: r, which is no part of the list -/
theorem CsN.more {H2 H3 : Hp} {D r : Addr} {ns : List Int} {i : Nat} {n : Int} (h : CsN H2 D ns i) (e : Evl.Ex H2 H3) (hr : r ≠ D) (h3 : Li H3 r (cp n)) (hn : ns[i]? = some n) (hi : i ≤ 100) :
    ∃ acc, H3 D = some (.lst acc) ∧ acc.length < sizeLine ∧ CsN (upd H3 D (.lst (acc ++ [.ref r]))) D ns (i + 1) := by
  obtain ⟨as, h1, h2, h4⟩ := h
  refine ⟨_, e _ _ h1, ?_, as ++ [r], ?_, ?_, fun j a m ha hm => ?_⟩
  · rw [List.length_map, h2]
    exact Nat.lt_of_le_of_lt hi (by decide)
  · rw [upd_same, List.map_append]
    rfl
  · rw [List.length_append, h2]
    rfl
  · rcases get_app ha with ⟨h5, _⟩ | ⟨h5, rfl⟩
    · obtain ⟨n1, n2⟩ := h4 j a m h5 hm
      exact ⟨n1, Eq.trans (upd_ne n1) (e _ _ n2)⟩
    · rw [h5, h2, hn] at hm
      cases hm
      exact ⟨hr, Eq.trans (upd_ne hr) h3⟩
theorem CsN.done {H : Hp} {D : Addr} {ns : List Int} (h : CsN H D ns ns.length) : CsAt H D ns := by
  obtain ⟨as, h1, h2, h3⟩ := h
  exact ⟨as, h1, h2, fun i a n x y => (h3 i a n x y).2⟩
/-- the widths, times what is below in the told one -/
def wid (u b : Int) (t : Tk) : Int := match t.1 with
  | none => u
  | some z => z * b
section
variable {base : Heap} {mg : Str → Option Value} {K : PySem.W.Frag} {w : World} {P : Program}
end
end V2


namespace V2
open PySem L2
open PySem.Spec PyProof.Rows
def pick (ns : List Int) (ks : List Int) : List Int := ks.map fun k => ns.getD k.toNat 0
/-- numbers of less than n bits -/
def Bn (n : Nat) (x : Int) : Prop := x.natAbs < 2 ^ n
theorem Bn.le {n m : Nat} {x : Int} (h : Bn n x) (l : n ≤ m) : Bn m x := Nat.lt_of_lt_of_le h (Nat.pow_le_pow_right (by decide) l)
/-- water: the amounts A by W -/
structure Wat (H : Hp) (t : Addr) (A : List Int) (W : Int) : Prop where
  at_ : ∃ la lw, H t = some (.tup [.ref la, .ref lw]) ∧ CsAt H la A ∧ Li H lw [W]
  pos : 0 < W
theorem Wat.ex {H H' : Hp} {t : Addr} {A : List Int} {W : Int} (h : Wat H t A W) (e : Evl.Ex H H') : Wat H' t A W := by
  obtain ⟨⟨la, lw, h1, h2, h3⟩, p⟩ := h
  exact ⟨⟨la, lw, e _ _ h1, h2.ex e, e _ _ h3⟩, p⟩
section
variable {base : Heap} {mg : Str → Option Value} {K : PySem.W.Frag} {w : World} {P : Program}
end
end V2


namespace V2
open PySem L2
open PySem.Spec PyProof.Rows
/-- the amounts behind a valve -/
def openA (A ws ks : List Int) : List Int := (List.range A.length).map fun (k : Nat) => if (k : Int) ∈ ks then (pick A ks).sum * ws.getD k 0 else A.getD k 0 * (pick ws ks).sum
section
variable {base : Heap} {mg : Str → Option Value} {K : PySem.W.Frag} {w : World} {P : Program}
end
end V2


namespace V2
open PySem L2
open PySem.Spec PyProof.Rows
def pourA (A : List Int) (W k a : Int) : List Int := (List.range A.length).map fun (j : Nat) => if (j : Int) = k then A.getD j 0 + a * W else A.getD j 0
/-- an element of a list of constants is not the list -/
theorem cs_ne {H : Hp} {l a : Addr} {as : List Addr} {i : Nat} {n : Int} (hl : H l = some (.lst (as.map V.ref))) (ha : as[i]? = some a) (h : Li H a (cp n)) : a ≠ l := by
  intro z
  have h : H a = some (.lst (iV (cp n))) := h
  rw [z, hl] at h
  injection h with h
  injection h with h
  have h2 := congrArg (fun x => x[i]?) h
  simp only [List.getElem?_map, ha] at h2
  have h2 : some (V.ref a) = (iV (cp n))[i]? := h2
  unfold iV at h2
  rw [List.getElem?_map] at h2
  cases e : (cp n)[i]? with
  | none =>
    rw [e] at h2
    cases h2
  | some x =>
    rw [e] at h2
    cases h2
section
variable {base : Heap} {mg : Str → Option Value} {K : PySem.W.Frag} {w : World} {P : Program}
end
end V2


namespace V2
open PySem L2
open PySem.Spec PyProof.Rows
/-- the amounts when p of q of tank k are taken, put into the tank o -/
def takeA (A : List Int) (k p q : Int) (o : Option Int) : List Int :=
  let B := (A.map (· * q)).set k.toNat (A.getD k.toNat 0 * (q - p))
  match o with
  | none => B
  | some m => B.set m.toNat (B.getD m.toNat 0 + A.getD k.toNat 0 * p)
section
variable {base : Heap} {mg : Str → Option Value} {K : PySem.W.Frag} {w : World} {P : Program}
end
end V2


namespace V2
open PySem L2
open PySem.Spec PyProof.Rows
/-- what a step does -/
def stepA (ws : List Int) (S : List Int × Int) : Deed → List Int × Int
  | .op ks => (openA S.1 ws ks, S.2 * (pick ws ks).sum)
  | .po k a => (pourA S.1 S.2 k a, S.2)
  | .sc k p q => (takeA S.1 k p q none, S.2 * q)
  | .mv k m p q => (takeA S.1 k p q (some m), S.2 * q)
  | .un _ _ => S
/-- the state of the water: amounts from 0 on, of at most N bits -/
structure OkW (N : Nat) (A : List Int) (W : Int) : Prop where
  nn : ∀ x ∈ A, 0 ≤ x
  bA : ∀ x ∈ A, Bn N x
  bW : Bn N W
  pos : 0 < W
def FmAt (H : Hp) (l : Addr) (fs : List (Int × Int)) : Prop := ∃ as : List Addr, H l = some (.lst (as.map V.ref)) ∧ as.length = fs.length ∧ ∀ (i : Nat) (a : Addr) (f : Int × Int), as[i]? = some a → fs[i]? = some f → ∃ x y, H a = some (.tup [.ref x, .ref y]) ∧ Li H x (cp f.1) ∧ Li H y [f.2]
section
variable {base : Heap} {mg : Str → Option Value} {K : PySem.W.Frag} {w : World} {P : Program}
end
end V2


namespace V2
open PySem L2
open PySem.Spec PyProof.Rows
/-- while the list of forms at D is being made -/
def FmN (H : Hp) (D : Addr) (fs : List (Int × Int)) (i : Nat) : Prop := ∃ as : List Addr, H D = some (.lst (as.map V.ref)) ∧ as.length = i ∧ ∀ (j : Nat) (a : Addr) (f : Int × Int), as[j]? = some a → fs[j]? = some f → ∃ x y, a ≠ D ∧ x ≠ D ∧ y ≠ D ∧ H a = some (.tup [.ref x, .ref y]) ∧ Li H x (cp f.1) ∧ Li H y [f.2]
theorem FmN.start {H : Hp} {D : Addr} {fs : List (Int × Int)} (h : H D = some (.lst [])) : FmN H D fs 0 := ⟨[], h, rfl, fun j a n h => by cases h⟩
theorem FmN.more {H2 H3 : Hp} {D r x y : Addr} {fs : List (Int × Int)} {i : Nat} {f : Int × Int} (h : FmN H2 D fs i) (e : Evl.Ex H2 H3) (hx : x ≠ D) (hy : y ≠ D) (hr : H3 r = some (.tup [.ref x, .ref y])) (h3 : Li H3 x (cp f.1)) (h4 : Li H3 y [f.2]) (hn : fs[i]? = some f) (hi : i ≤ 100) :
    ∃ acc, H3 D = some (.lst acc) ∧ acc.length < sizeLine ∧ FmN (upd H3 D (.lst (acc ++ [.ref r]))) D fs (i + 1) := by
  obtain ⟨as, h1, h2, h5⟩ := h
  have h1' := e _ _ h1
  have rD : r ≠ D := ne_of hr h1' (fun z => by cases z)
  refine ⟨_, h1', ?_, as ++ [r], ?_, ?_, fun j a m ha hm => ?_⟩
  · rw [List.length_map, h2]
    exact Nat.lt_of_le_of_lt hi (by decide)
  · rw [upd_same, List.map_append]
    rfl
  · rw [List.length_append, h2]
    rfl
  · rcases get_app ha with ⟨h6, _⟩ | ⟨h6, rfl⟩
    · obtain ⟨x', y', n1, n2, n3, g1, g2, g3⟩ := h5 j a m h6 hm
      exact ⟨x', y', n1, n2, n3, by rw [upd_ne n1]; exact e _ _ g1, Eq.trans (upd_ne n2) (e _ _ g2), Eq.trans (upd_ne n3) (e _ _ g3)⟩
    · rw [h6, h2, hn] at hm
      cases hm
      exact ⟨x, y, rD, hx, hy, by rw [upd_ne rD]; exact hr, Eq.trans (upd_ne hx) h3, Eq.trans (upd_ne hy) h4⟩
theorem FmN.done {H : Hp} {D : Addr} {fs : List (Int × Int)} (h : FmN H D fs fs.length) : FmAt H D fs := by
  obtain ⟨as, h1, h2, h3⟩ := h
  exact ⟨as, h1, h2, fun i a f x y => let ⟨u, v, _, _, _, g⟩ := h3 i a f x y; ⟨u, v, g⟩⟩
section
variable {base : Heap} {mg : Str → Option Value} {K : PySem.W.Frag} {w : World} {P : Program}
end
end V2


namespace V2
open PySem L2
/-- behind all steps -/
def runA (ws : List Int) (S : List Int × Int) (ds : List Deed) : List Int × Int := ds.foldl (stepA ws) S
end V2


namespace V2
open PySem L2
open PySem.Spec PyProof.Rows
/-- pairs of ints that stand in a list, as tuples -/
def PrAt (H : Hp) (l : Addr) (fs : List (Int × Int)) : Prop := ∃ as : List Addr, H l = some (.lst (as.map V.ref)) ∧ as.length = fs.length ∧ ∀ (i : Nat) (a : Addr) (f : Int × Int), as[i]? = some a → fs[i]? = some f → Fr H a f.1 f.2
theorem PrAt.ex {H H' : Hp} {l : Addr} {fs : List (Int × Int)} (h : PrAt H l fs) (e : Evl.Ex H H') : PrAt H' l fs := by
  obtain ⟨as, h1, h2, h3⟩ := h
  exact ⟨as, e _ _ h1, h2, fun i a t x y => e _ _ (h3 i a t x y)⟩
/-- whether a step ends the script -/
def endB (ws : List Int) (A : List Int) : Deed → Bool
  | .un j m => decide (A.getD m.toNat 0 * ws.getD j.toNat 0 < A.getD j.toNat 0 * ws.getD m.toNat 0)
  | _ => false
theorem dat_unless {H : Hp} {a : Addr} {d : Deed} (h : DAt H a d) : (∃ k m, d = .un k m) ∨ ∃ (x : Str) (r : List V), H a = some (.tup (.str x :: r)) ∧ decide (V.str x = V.str "unless") = false := by
  cases d with
  | op ks =>
    obtain ⟨l, h1, _⟩ := h
    exact .inr ⟨_, _, h1, by decide⟩
  | po k x => exact .inr ⟨_, _, h, by decide⟩
  | sc k p q =>
    obtain ⟨l, h1, _⟩ := h
    exact .inr ⟨_, _, h1, by decide⟩
  | mv k m p q =>
    obtain ⟨l, h1, _⟩ := h
    exact .inr ⟨_, _, h1, by decide⟩
  | un k m => exact .inl ⟨k, m, rfl⟩
section
variable {base : Heap} {mg : Str → Option Value} {K : PySem.W.Frag} {w : World} {P : Program}
end
end V2


namespace V2
open PySem L2
open PySem.Spec PyProof.Rows
/-- all but what stands at ps -/
def woL (ps : List Addr) (H : Hp) : Hp := fun b => if b ∈ ps then none else H b
theorem woL_ex {ps : List Addr} {H : Hp} : Evl.Ex (woL ps H) H := fun b o h => by
  unfold woL at h
  split at h
  · cases h
  · exact h
theorem woL_at {ps : List Addr} {b : Addr} {H : Hp} {o : HO} (n : b ∉ ps) (h : H b = some o) : woL ps H b = some o := by
  unfold woL
  rw [if_neg n]
  exact h
theorem woL_ne {ps : List Addr} {b : Addr} {H : Hp} {o : HO} (h : woL ps H b = some o) : b ∉ ps := fun z => by
  unfold woL at h
  rw [if_pos z] at h
  cases h
def ButL (ps : List Addr) (H H' : Hp) : Prop := ∀ b o, b ∉ ps → H b = some o → H' b = some o
theorem ButL.wo {ps qs : List Addr} {H H' : Hp} (h : ButL ps H H') (s : ∀ p ∈ ps, p ∈ qs) : Evl.Ex (woL qs H) (woL qs H') := fun b o z => woL_at (woL_ne z) (h b o (fun q => woL_ne z (s b q)) (woL_ex _ _ z))
theorem ButL.trans {ps : List Addr} {H H1 H2 : Hp} (a : ButL ps H H1) (b : ButL ps H1 H2) : ButL ps H H2 := fun c o n h => b c o n (a c o n h)
theorem ButL.of_ex {ps : List Addr} {H H' : Hp} (e : Evl.Ex H H') : ButL ps H H' := fun b o _ h => e b o h
theorem ButL.of_but {ps : List Addr} {p : Addr} {H H' : Hp} (h : But p H H') (m : p ∈ ps) : ButL ps H H' := fun b o n z => h b o (fun q => n (q ▸ m)) z
theorem ButL.mono {ps qs : List Addr} {H H' : Hp} (h : ButL ps H H') (s : ∀ p ∈ ps, p ∈ qs) : ButL qs H H' := fun b o n z => h b o (fun q => n (s b q)) z
/-- objects that are no part of water, widths or told widths -/
def Odd (H : Hp) (p : Addr) : Prop := (∃ ns : List Int, 2 ≤ ns.length ∧ H p = some (.lst (iV ns))) ∨ (∃ C dx fs, H p = some (.ins C dx fs)) ∨ ∃ ys c zs, H p = some (.lst (ys ++ [.ref c])) ∧ H c = some (.tup zs)
theorem Odd.get {H : Hp} {p : Addr} (k : Odd H p) : ∃ o, H p = some o := by
  rcases k with ⟨ns, n2, k⟩ | ⟨C, dx, fs, k⟩ | ⟨ys, c, zs, k, _⟩
  · exact ⟨_, k⟩
  · exact ⟨_, k⟩
  · exact ⟨_, k⟩
theorem Odd.ex {H H' : Hp} {p : Addr} (k : Odd H p) (e : Evl.Ex H H') : Odd H' p := by
  rcases k with ⟨ns, n2, k⟩ | ⟨C, dx, fs, k⟩ | ⟨ys, c, zs, k, k2⟩
  · exact .inl ⟨ns, n2, e _ _ k⟩
  · exact .inr (.inl ⟨_, _, _, e _ _ k⟩)
  · exact .inr (.inr ⟨_, _, _, e _ _ k, e _ _ k2⟩)
theorem Odd.but {H H' : Hp} {p x C dx : Addr} {fs : List (Str × V)} (k : Odd H p) (hx : H x = some (.ins C dx fs)) (b : But x H H') (n : p ≠ x) : Odd H' p := by
  rcases k with ⟨ns, n2, k⟩ | ⟨C, dx, fs, k⟩ | ⟨ys, c, zs, k, k2⟩
  · exact .inl ⟨ns, n2, b _ _ n k⟩
  · exact .inr (.inl ⟨_, _, _, b _ _ n k⟩)
  · exact .inr (.inr ⟨_, _, _, b _ _ n k, b _ _ (fun z => by rw [z, hx] at k2; cases k2) k2⟩)
theorem Odd.tup {H : Hp} {p q : Addr} {xs : List V} (k : Odd H p) (h : H q = some (.tup xs)) : q ≠ p := fun z => by
  rcases k with ⟨ns', n2, k⟩ | ⟨C, dx, fs, k⟩ | ⟨ys, c, zs, k, _⟩
  · rw [z, k] at h; cases h
  · rw [z, k] at h; cases h
  · rw [z, k] at h; cases h
theorem Odd.ints {H : Hp} {p q : Addr} {ns : List Int} (k : Odd H p) (h : Li H q ns) (l : ns.length ≤ 1) : q ≠ p := fun z => by
  have h : H q = some (.lst (iV ns)) := h
  rcases k with ⟨ns', n2, k⟩ | ⟨C, dx, fs, k⟩ | ⟨ys, c, zs, k, _⟩
  · rw [z, k] at h
    injection h with h
    injection h with h
    have := congrArg List.length h
    rw [iV_len, iV_len] at this
    omega
  · rw [z, k] at h; cases h
  · rw [z, k] at h
    injection h with h
    injection h with h
    have m : V.ref c ∈ iV ns := h ▸ List.mem_append_right _ (List.mem_singleton.mpr rfl)
    unfold iV at m
    obtain ⟨n, _, e⟩ := List.mem_map.mp m
    cases e
theorem Odd.cs {H : Hp} {p l : Addr} {ns : List Int} (k : Odd H p) (h : CsAt H l ns) : l ≠ p := fun z => by
  obtain ⟨as, h1, h2, h3⟩ := h
  rcases k with ⟨ns', n2, k⟩ | ⟨C, dx, fs, k⟩ | ⟨ys, c, zs, k, k2⟩
  · rw [z, k] at h1
    injection h1 with h1
    injection h1 with h1
    cases ns' with
    | nil => exact absurd n2 (by decide)
    | cons n r =>
      cases as with
      | nil => cases h1
      | cons x r => cases h1
  · rw [z, k] at h1; cases h1
  · rw [z, k] at h1
    injection h1 with h1
    injection h1 with h1
    have e : as.length = ys.length + 1 := by
      have := congrArg List.length h1
      rw [List.length_append, List.length_map] at this
      exact this.symm
    have ha : as[ys.length]? = some c := by
      have q : (as.map V.ref)[ys.length]? = some (.ref c) := by
        rw [← h1, List.getElem?_append_right (Nat.le_refl _), Nat.sub_self]
        rfl
      rw [List.getElem?_map] at q
      cases e2 : as[ys.length]? with
      | none =>
        rw [e2] at q
        cases q
      | some a =>
        rw [e2] at q
        injection q with q
        injection q with q
        rw [q]
    have hl : ys.length < ns.length := by omega
    have := h3 ys.length c _ ha (List.getElem?_eq_getElem hl)
    have this : H c = some (.lst _) := this
    rw [k2] at this
    cases this
def bnF (lq g lw ls lt : Addr) (v : V) : List (Str × V) := [("_tanks", .ref lq), ("_width", .ref g), ("_widths", .ref lw), ("_steps", .ref ls), ("_waters", .ref lt), ("_ended", v)]
/-- the parts of a bench that stay as they are: tanks, widths, the water (now and ahead of each step), the steps -/
structure BnP (H : Hp) (lq g lw t : Addr) (ts : List Tk) (A ws : List Int) (W u b : Int) (as bs : List Addr) (ds : List Deed) (S : List (List Int × Int)) : Prop where
  q : TksAt H lq ts
  f : Fr H g u b
  c : CsAt H lw ws
  w : Wat H t A W
  d : ∀ (i : Nat) (a : Addr) (d : Deed), as[i]? = some a → ds[i]? = some d → DAt H a d
  ww : ∀ (i : Nat) (a : Addr) (s : List Int × Int), bs[i]? = some a → S[i]? = some s → Wat H a s.1 s.2
theorem BnP.ex {H H' : Hp} {lq g lw t : Addr} {ts : List Tk} {A ws : List Int} {W u b : Int} {as bs : List Addr} {ds : List Deed} {S : List (List Int × Int)} (h : BnP H lq g lw t ts A ws W u b as bs ds S) (e : Evl.Ex H H') : BnP H' lq g lw t ts A ws W u b as bs ds S :=
  ⟨h.q.ex e, e _ _ h.f, h.c.ex e, h.w.ex e, fun i a d x y => (h.d i a d x y).ex e, fun i a s x y => (h.ww i a s x y).ex e⟩
/-- a bench with the lists that it changes; s: the sack; ds: its steps; S: the water ahead of each; A by W: the water now -/
structure BnAt (C s : Addr) (H : Hp) (x ls lt : Addr) (ts : List Tk) (ds : List Deed) (S : List (List Int × Int)) (A ws : List Int) (W u b : Int) (v : V) : Prop where
  ex : ∃ (dx lq g lw t : Addr) (as bs : List Addr), H x = some (.ins C dx (bnF lq g lw ls lt v)) ∧ H ls = some (.lst (as.map V.ref)) ∧ as.length = ds.length ∧ H lt = some (.lst (bs.map V.ref ++ [.ref t])) ∧ bs.length = S.length ∧ BnP (woL [s, x, ls, lt] H) lq g lw t ts A ws W u b as bs ds S
  ne : ls ≠ lt ∧ ls ≠ s ∧ lt ≠ s ∧ x ≠ s
  nv : v = .non ∨ ∃ i, v = .int i
  len : S.length = ds.length
theorem BnAt.sep {C s : Addr} {H : Hp} {x ls lt : Addr} {ts : List Tk} {ds : List Deed} {S : List (List Int × Int)} {A ws : List Int} {W u b : Int} {v : V} (h : BnAt C s H x ls lt ts ds S A ws W u b v) {H' : Hp} (e : Evl.Ex (woL [s] H) (woL [s] H')) : BnAt C s H' x ls lt ts ds S A ws W u b v := by
  obtain ⟨⟨dx, lq, g, lw, t, as, bs, h1, h2, h3, h4, h5, h6⟩, ⟨n1, n2, n3, n4⟩, nv, ln⟩ := h
  have w : ∀ {p : Addr} {o : HO}, p ≠ s → H p = some o → H' p = some o := fun hn hp => woL_ex _ _ (e _ _ (woL_at (fun z => hn (List.mem_singleton.mp z)) hp))
  refine ⟨⟨dx, lq, g, lw, t, as, bs, w n4 h1, w n2 h2, h3, w n3 h4, h5, h6.ex fun p o z => ?_⟩, ⟨n1, n2, n3, n4⟩, nv, ln⟩
  have nm := woL_ne z
  exact woL_at nm (w (fun q => nm (q ▸ List.mem_cons_self)) (woL_ex _ _ z))
theorem BnAt.go {C s : Addr} {H : Hp} {x ls lt : Addr} {ts : List Tk} {ds : List Deed} {S : List (List Int × Int)} {A ws : List Int} {W u b : Int} {v : V} (h : BnAt C s H x ls lt ts ds S A ws W u b v) {H' : Hp} (e : Evl.Ex H H') : BnAt C s H' x ls lt ts ds S A ws W u b v := h.sep fun p o z => woL_at (woL_ne z) (e _ _ (woL_ex _ _ z))
theorem TksAt.dq {H : Hp} {l : Addr} {ts : List Tk} (h : TksAt H l ts) : Dq H (.ref l) (.list (ts.map tkD)) := by
  obtain ⟨as, h1, h2, h3⟩ := h
  refine .lst h1 ?_
  have go : ∀ (as : List Addr) (ts : List Tk), as.length = ts.length → (∀ (i : Nat) (a : Addr) (t : Tk), as[i]? = some a → ts[i]? = some t → H a = some (.tup [wV t.1, .int t.2])) → DqAll H (as.map V.ref) (ts.map tkD) := by
    intro as
    induction as with
    | nil =>
      intro ts hl _
      cases ts with
      | nil => exact .nil
      | cons t r => cases hl
    | cons a r ih =>
      intro ts hl hi
      cases ts with
      | nil => cases hl
      | cons t q =>
        refine .cons (.tup (hi 0 a t rfl rfl) (.cons ?_ (.cons (.int _) .nil))) (ih q (by simpa using hl) fun i a' t' h1 h2 => hi (i + 1) a' t' h1 h2)
        cases t.1 with
        | none => exact .non
        | some z => exact .int z
  exact go as ts h2 h3
theorem TksAt.but {H H' : Hp} {x l : Addr} {ts : List Tk} {C dx : Addr} {fs : List (Str × V)} (h : TksAt H l ts) (hx : H x = some (.ins C dx fs)) (b : But x H H') : TksAt H' l ts := by
  obtain ⟨as, h1, h2, h3⟩ := h
  have w : ∀ {p : Addr} {o : HO}, H p = some o → DObj o → H' p = some o := fun hp hd => keep_ins hx b _ _ hd hp
  exact ⟨as, w h1 trivial, h2, fun i a t y z => w (h3 i a t y z) trivial⟩
theorem OkW.le {N M : Nat} {A : List Int} {W : Int} (h : OkW N A W) (l : N ≤ M) : OkW M A W := ⟨h.nn, fun x hx => (h.bA x hx).le l, h.bW.le l, h.pos⟩
theorem dqi {H : Hp} : ∀ ns : List Int, DqAll H (iV ns) (ns.map .int)
  | [] => .nil
  | n :: ns => .cons (.int _) (dqi ns)
theorem dat_dq {H : Hp} {a : Addr} {d : Deed} (h : DAt H a d) : Dq H (.ref a) (dD d) := by
  cases d with
  | op ks =>
    obtain ⟨l, h1, h2⟩ := h
    exact .tup h1 (.cons (.str _) (.cons (.lst h2 (dqi ks)) .nil))
  | po k x => exact .tup h (.cons (.str _) (.cons (.int _) (.cons (.int _) .nil)))
  | sc k p q =>
    obtain ⟨l, h1, h2⟩ := h
    exact .tup h1 (.cons (.str _) (.cons (.int _) (.cons (.tup h2 (.cons (.int _) (.cons (.int _) .nil))) .nil)))
  | mv k m p q =>
    obtain ⟨l, h1, h2⟩ := h
    exact .tup h1 (.cons (.str _) (.cons (.int _) (.cons (.int _) (.cons (.tup h2 (.cons (.int _) (.cons (.int _) .nil))) .nil))))
  | un k m => exact .tup h (.cons (.str _) (.cons (.int _) (.cons (.int _) .nil)))
section
variable {base : Heap} {mg : Str → Option Value} {K : PySem.W.Frag} {w : World} {P : Program} {C fI fC fL fW fE pE : Addr}
end
end V2


namespace V2
open PySem L2
open PySem.Spec PyProof.Rows
section
variable {X : Cx} {CX : CXT} {k : Nat} {f C : Addr} {fd : FuncData} {ps : List Str} {sp : Sp} {E : L2.St → XK} {m : Str} {p q : Pos} {o e : Expr} {es : List Expr} {to : TE} {t : TA}
/-- what follows on the arguments of raise C(y) -/
theorem raise_in {K : PySem.W.Frag} {C g : Addr} {G : Hp} {y : V} {Q : XK} (T : EC K C g) (q : ∀ d G', G d = none → Evl.Ex G G' → G' d = some (.xd [("value", y)]) → Q (.ref C) (some d) G') :
    [y].length ≤ 1000 ∧ ∀ a, G a = none → spInit K (.ref a :: ([y] ++ [])) (upd G a (exo a C none)) (fun v G2 => v = .non ∧ ∃ (d : Addr) (fs : List (Str × V)), G2 a = some (exo a C (some d)) ∧ G2 d = some (exd d fs) ∧ G d = none ∧ Q (.ref C) (some d) (upd (del G2 a) d (.xd fs))) (fun _ _ _ => False) := by
  refine ⟨by show 1 ≤ 1000; decide, fun a ha => ⟨a, C, y, rfl, T.ox, T.noV, upd_same, fun dx hd hne => ⟨rfl, dx, [("value", y)], upd_same, Eq.trans (upd_ne hne) upd_same, ?_⟩⟩⟩
  have hd' : G dx = none := (upd_ne hne).symm.trans hd
  refine ⟨hd', q dx _ hd' (fun b o hb => ?_) upd_same⟩
  exact Eq.trans (upd_ne (ne_of_none hb hd')) (Eq.trans (del_ne (ne_of_none hb ha)) (Eq.trans (upd_ne (ne_of_none hb ha)) (Eq.trans (upd_ne (ne_of_none hb hd')) (Eq.trans (upd_ne (ne_of_none hb ha)) hb))))
end
end V2


namespace V2
open PySem L2
open PySem.Spec PyProof.Rows
/-- a step as it may be wrong: nothing, a step of the right form, another word or length -/
inductive Bent where
  | nil
  | de (d : Deed)
  | bad (x : Str) (ds : List PyData)
def dB : Bent → PyData
  | .nil => .tuple []
  | .de d => dD d
  | .bad x ds => .tuple (.str x :: ds)
def BAt (H : Hp) (a : Addr) : Bent → Prop
  | .nil => H a = some (.tup [])
  | .de d => DAt H a d
  | .bad x ds => ∃ vs, H a = some (.tup (.str x :: vs)) ∧ DqAll H vs ds
/-- which word has which length -/
def thN (x : Str) : Option Nat := if x = "open" then some 2 else if x = "pour" then some 3 else if x = "scoop" then some 3 else if x = "move" then some 4 else if x = "unless" then some 3 else none
def badOk (x : Str) (ds : List PyData) : Prop := thN x ≠ some (ds.length + 1)
def BOk : Bent → Prop
  | .bad x ds => badOk x ds ∧ (thN x = none → x ∈ (["Open", "shut", "pours", "", "unles", "moves"] : List Str))
  | .de (.op ks) => ks.length ≤ 30
  | _ => True
def spAmtB : Sp := fun vs H Q _ => ∃ n : Int, vs = [.int n] ∧ Evl.RetV (.bl (decide (0 ≤ n))) H Q
section
variable {base : Heap} {mg : Str → Option Value} {K : PySem.W.Frag} {w : World} {P : Program} {aT : Addr} {es : Array DictEntry} {nT : Nat} {t1 t2 t3 t4 t5 : Tok}
theorem ok_is_amountB {f : Addr} {fd : FuncData} (F : Fun K "is_amount" "is_amount" s_is_amount f fd) (cI : Cal P w K mg base 1 "is_integer" p_is_integer spInt) : FnOk P w K mg base CX0 2 f fd p_is_amount spAmtB := by
  refine F.ok sc_is_amount (fun vs H Q E h => ?_) (fun cdv A outer s H vs Q E hr h => ?_)
  · obtain ⟨n, rfl, _⟩ := h
    rfl
  · obtain ⟨n, rfl, k⟩ := h
    refine ⟨_, pss_one (ps_ret (pe_and (pe_c cI hr (pa_cons (pv 0) pa_nil)) (pe_one (pe_cmpR op_ge (pv 0) pe_int (nomark _))))), ?_⟩
    refine ⟨_, rfl, n, rfl, fun H1 e1 => ⟨_, rfl, if_t rfl ?_⟩⟩
    refine ⟨_, rfl, _, _, rfl, rfl, ?_⟩
    exact k _ e1
end
end V2


namespace V2
open PySem L2
open PySem.Spec PyProof.Rows
/-- a fraction from 0 to 1 whose numbers are at most m -/
def spPt : Sp := fun vs H Q _ => ∃ (s : Addr) (m : Int) (n : Nat), vs = [.ref s, .int m] ∧ 0 < m ∧ m ≤ 1000 ∧ Sk H s n ∧ n ≤ 90000 ∧ ∀ (t : Addr) (p q : Int) (H' : Hp), But s H H' → Sk H' s (n + 2) → H t = none → H' t = some (.tup [.int p, .int q]) → Pt p q → Q (.ref t) H'
def spTwo2 : Sp := fun vs H Q _ => ∃ (s : Addr) (m : Int) (n : Nat), vs = [.ref s, .int m] ∧ 2 ≤ m ∧ m ≤ 20 ∧ Sk H s n ∧ n ≤ 90000 ∧ ∀ (t : Addr) (x y : Int) (H' : Hp), But s H H' → Sk H' s (n + 2) → H t = none → H' t = some (.tup [.int x, .int y]) → 0 ≤ x → x < m → 0 ≤ y → y < m → x ≠ y → Q (.ref t) H'
theorem fr_part {a d : Int} (hd : 0 < d) (h0 : 0 ≤ a) (h1 : a ≤ d) (hb : d ≤ 1001) : Pt (fr a d).1 (fr a d).2 := by
  have hp := fr_pos (u := a) hd
  have hm := fr_mul (u := a) hd
  have g0 : 0 < ((Int.gcd a d : Nat) : Int) := by
    have : 0 < Int.gcd a d := Int.gcd_pos_of_ne_zero_right _ (by omega)
    omega
  have n50 : (2 : Nat) ^ 50 = 1125899906842624 := by decide
  have a1 := fr_abs1 (a := a) hd
  have a2 := fr_abs2 (a := a) hd
  refine ⟨?_, ?_, hp, fr_cop hd, by rw [n50]; omega, by rw [n50]; omega⟩
  · refine Int.not_lt.mp fun z => ?_
    have := Int.mul_neg_of_neg_of_pos z g0
    omega
  · refine Int.not_lt.mp fun z => ?_
    have := Int.mul_lt_mul_of_pos_right z g0
    omega
theorem n200e : (2 : Nat) ^ 200 = 1606938044258990275541962092341162602522202993782792835301376 := by decide
/-- all but the object at p -/
def wo (p : Addr) (H : Hp) : Hp := fun b => if b = p then none else H b
theorem wo_ex {p : Addr} {H : Hp} : Evl.Ex (wo p H) H := fun b o h => by
  unfold wo at h
  split at h
  · cases h
  · exact h
theorem wo_at {p b : Addr} {H : Hp} {o : HO} (n : b ≠ p) (h : H b = some o) : wo p H b = some o := by
  unfold wo
  rw [if_neg n]
  exact h
theorem wo_ne {p b : Addr} {H : Hp} {o : HO} (h : wo p H b = some o) : b ≠ p := fun z => by
  unfold wo at h
  rw [if_pos z] at h
  cases h
theorem But.wo {p : Addr} {H H' : Hp} (h : But p H H') : Evl.Ex (wo p H) (V2.wo p H') := fun b o z => wo_at (wo_ne z) (h b o (wo_ne z) (wo_ex _ _ z))
theorem but_none {p q : Addr} {H H' : Hp} {n : Nat} (b : But p H H') (s : Sk H' p n) (h : H' q = none) : H q = none := by
  cases e : H q with
  | none => rfl
  | some o =>
    have h1 := b q o (sk_ne s h) e
    rw [h] at h1
    cases h1
theorem Sk.upd {H : Hp} {p l : Addr} {n : Nat} {o : HO} (s : Sk H p n) (h : l ≠ p) : Sk (L2.upd H l o) p n := by
  obtain ⟨a, b, c, h1, h2⟩ := s
  exact ⟨a, b, c, by rw [upd_ne h.symm]; exact h1, h2⟩
theorem ne_of_none' {H : Hp} {c l : Addr} {o : HO} (h : H c = some o) (hl : H l = none) : c ≠ l := fun z => by
  rw [z, hl] at h
  cases h
/-- many tanks, whose numbers are at most most -/
def spVats : Sp := fun vs H Q _ => ∃ (s : Addr) (m o : Int) (n : Nat), vs = [.ref s, .int m, .int o] ∧ 0 < m ∧ m ≤ 20 ∧ 0 < o ∧ o ≤ 1000 ∧ Sk H s n ∧ n ≤ 90000 ∧
  ∀ (l : Addr) (ts : List Tk) (H' : Hp), But s H H' → Sk H' s (n + 1 + 3 * m.toNat) → H l = none → TksAt (wo s H') l ts → okT ts → (ts.length : Int) = m → (∀ t ∈ ts, (∀ z, t.1 = some z → z ≤ 1000) ∧ t.2 ≤ 1000) → Q (.ref l) H'
theorem tks_more {p : Addr} {H : Hp} {l t : Addr} {ts : List Tk} {x : Tk} (h : TksAt (wo p H) l ts) (tp : t ≠ p) (ht : H t = some (.tup [wV x.1, .int x.2])) : ∃ acc, H l = some (.lst acc) ∧ acc.length = ts.length ∧ TksAt (wo p (upd H l (.lst (acc ++ [.ref t])))) l (ts ++ [x]) := by
  obtain ⟨as, h1, h2, h3⟩ := h
  have lp := wo_ne h1
  refine ⟨_, wo_ex _ _ h1, by rw [List.length_map]; exact h2, as ++ [t], ?_, by rw [List.length_append, List.length_append, h2]; rfl, fun i a y ha hy => ?_⟩
  · rw [List.map_append]
    exact wo_at lp upd_same
  · have ne : ∀ {a : Addr} {xs : List V}, wo p H a = some (.tup xs) → a ≠ l := fun h z => by
      rw [z, h1] at h
      cases h
    rcases get_app ha with ⟨h4, h5⟩ | ⟨h4, rfl⟩
    · rcases get_app hy with ⟨h6, _⟩ | ⟨h6, _⟩
      · have z := h3 i a y h4 h6
        exact wo_at (wo_ne z) (Eq.trans (upd_ne (ne z)) (wo_ex _ _ z))
      · omega
    · rcases get_app hy with ⟨h6, h7⟩ | ⟨_, rfl⟩
      · omega
      · exact wo_at tp (Eq.trans (upd_ne (ne (wo_at tp ht))) ht)
theorem cnt_more {ts : List Tk} {x : Tk} {rk : Int} {i : Nat} (h : ts.countP (fun t => t.1.isNone) = if rk < (i : Int) then 1 else 0) (hx : x.1 = none ↔ rk = (i : Int)) : (ts ++ [x]).countP (fun t => t.1.isNone) = if rk < ((i + 1 : Nat) : Int) then 1 else 0 := by
  rw [List.countP_append, h]
  obtain ⟨w, a⟩ := x
  cases w with
  | none =>
    have e := hx.mp rfl
    rw [if_neg (by omega), if_pos (by omega)]
    rfl
  | some z =>
    have e : rk ≠ (i : Int) := fun q => by cases hx.mpr q
    by_cases c : rk < (i : Int)
    · rw [if_pos c, if_pos (by omega)]
      rfl
    · rw [if_neg c, if_neg (by omega)]
      rfl
section
variable {base : Heap} {mg : Str → Option Value} {K : PySem.W.Frag} {w : World} {P : Program}
theorem ok_part {f : Addr} {fd : FuncData} (F : Fun K "_law_pv_part" "_law_pv_part" s_l_part f fd) (cC : Cal P w K mg base 1 "_law_pv_coin" p_l_coin spCoin) (cR : Cal P w K mg base 2 "_law_pv_ratio" p_l_ratio spRatio) : FnOk P w K mg base CX0 3 f fd p_l_part spPt := by
  refine F.ok sc_l_part (fun vs H Q E h => ?_) (fun cdv A outer s H vs Q E hr h => ?_)
  · obtain ⟨s, m, n, rfl, _⟩ := h
    rfl
  · obtain ⟨sk, m, n, rfl, m0, m1, hS, hn, k⟩ := h
    have nd := sc_l_part.nd
    have r1 : Room 1 _ := hr.mono (by decide)
    refine ⟨_, pss_cons (ps_set (i := 2) nd rfl (Or.inl rfl) (pe_op op_add pe_int (pe_c cC r1 (pa_cons (pv 0) (pa_cons (pv 1) pa_nil)))))
      (pss_one (ps_ret (pe_c cR hr (pa_cons (pe_c cC r1 (pa_cons (pv 0) (pa_cons (pe_op op_add (pv 2) pe_int) pa_nil))) (pa_cons (pv 2) pa_nil))))), ?_⟩
    have n200 : (2 : Nat) ^ 200 = 1606938044258990275541962092341162602522202993782792835301376 := by decide
    refine ⟨_, rfl, _, rfl, sk, m, n, rfl, hS, by omega, m0, by rw [n200]; omega, fun r H1 r0 r1' b1 s1 z1 => ⟨_, _, rfl, rfl, ?_⟩⟩
    refine ⟨_, rfl, _, rfl, _, _, rfl, rfl, sk, 1 + r + 1, n + 1, rfl, s1, by omega, by omega, by rw [n200]; omega, fun x H2 x0 x1 b2 s2 z2 => ⟨_, rfl, x, 1 + r, rfl, ?_, ?_, by omega, fun t H3 ht e3 h3 => ?_⟩⟩
    · exact Nat.lt_of_le_of_lt (show x.natAbs ≤ 1001 by omega) (Nat.lt_of_lt_of_le (show 1001 < 2 ^ 10 by decide) (Nat.pow_le_pow_right (by decide) (by decide)))
    · exact Nat.lt_of_le_of_lt (show (1 + r).natAbs ≤ 1000 by omega) (Nat.lt_of_lt_of_le (show 1000 < 2 ^ 10 by decide) (Nat.pow_le_pow_right (by decide) (by decide)))
    · have tn : H t = none := by
        cases e : H t with
        | none => rfl
        | some o =>
          have h1 := b1 t o (sk_ne s2 ht) e
          have h2 := b2 t o (sk_ne s2 ht) h1
          rw [ht] at h2
          cases h2
      exact k t _ _ H3 ((b1.trans b2).trans (But.of_ex e3)) (s2.ex e3) tn h3 (fr_part (by omega) x0 (by omega) (by omega))
theorem ok_two {f : Addr} {fd : FuncData} (F : Fun K "_law_pv_two" "_law_pv_two" s_l_two f fd) (T : T0 mg) (cC : Cal P w K mg base 1 "_law_pv_coin" p_l_coin spCoin) : FnOk P w K mg base CX0 2 f fd p_l_two spTwo2 := by
  refine F.ok sc_l_two (fun vs H Q E h => ?_) (fun cdv A outer s H vs Q E hr h => ?_)
  · obtain ⟨s, m, n, rfl, _⟩ := h
    rfl
  · obtain ⟨sk, m, n, rfl, m0, m1, hS, hn, k⟩ := h
    have nd := sc_l_two.nd
    have two : 2 ≤ sizeLine := by show 2 ≤ sizeLine; decide
    refine ⟨_, pss_cons (ps_set (i := 2) nd rfl (Or.inl rfl) (pe_c cC hr (pa_cons (pv 0) (pa_cons (pv 1) pa_nil))))
      (pss_one (ps_ret (pe_tup (pa_cons (pv 2) (pa_cons (pe_op op_mod (pe_callTy call_int1 (by rfl) T.int (by decide +kernel) (pa_cons (pe_op op_add (pe_op op_add (pv 2) pe_int) (pe_c cC hr (pa_cons (pv 0) (pa_cons (pe_op op_sub (pv 1) pe_int) pa_nil)))) pa_nil)) (pv 1)) pa_nil))))), ?_⟩
    have n200 := n200e
    refine ⟨_, rfl, _, rfl, sk, m, n, rfl, hS, by omega, by omega, by rw [n200]; omega, fun x H1 x0 x1 b1 s1 z1 => ?_⟩
    refine ⟨_, rfl, _, rfl, _, _, rfl, rfl, _, rfl, _, rfl, _, _, rfl, rfl, ?_⟩
    refine ⟨sk, m - 1, n + 1, rfl, s1, by omega, by omega, by rw [n200]; omega, fun c H2 c0 c1 b2 s2 z2 => ⟨_, _, rfl, rfl, .inl ⟨_, rfl, _, rfl, _, _, rfl, rfl, by omega, two, fun t ht => ?_⟩⟩⟩
    have tn : H t = none := by
      cases e : H t with
      | none => rfl
      | some o =>
        have h1 := b1 t o (sk_ne s2 ht) e
        have h2 := b2 t o (sk_ne s2 ht) h1
        rw [ht] at h2
        cases h2
    refine k t x ((x + 1 + c) % m) _ ((b1.trans b2).trans (But.of_ex (Evl.Ex.new ht))) (s2.ex (Evl.Ex.new ht)) tn upd_same x0 x1 (Int.emod_nonneg _ (by omega)) (Int.emod_lt_of_pos _ (by omega)) ?_
    intro z
    by_cases hh : x + 1 + c < m
    · rw [Int.emod_eq_of_lt (by omega) hh] at z
      omega
    · have e : (x + 1 + c) % m = x + 1 + c - m := by
        rw [← Int.sub_emod_right, Int.emod_eq_of_lt (by omega) (by omega)]
      rw [e] at z
      omega
theorem ok_vessels {f : Addr} {fd : FuncData} (F : Fun K "_law_pv_vessels" "_law_pv_vessels" s_l_vessels f fd) (mR : mg "range" = none) (mM : mg "min" = none) (cC : Cal P w K mg base 1 "_law_pv_coin" p_l_coin spCoin) : FnOk P w K mg base CX0 2 f fd p_l_vessels spVats := by
  refine F.ok sc_l_vessels (fun vs H Q E h => ?_) (fun cdv A outer s H vs Q E hr h => ?_)
  · obtain ⟨s, m, o, n, rfl, _⟩ := h
    rfl
  · obtain ⟨sk, m, o, n, rfl, m0, m1, o0, o1, hS, hn, k⟩ := h
    have nd := sc_l_vessels.nd
    have two : 2 ≤ sizeLine := by show 2 ≤ sizeLine; decide
    have n200 := n200e
    refine ⟨_, pss_cons (ps_par (i := 3) (j := 4) rfl nd rfl rfl (by decide) rfl rfl (pa_cons (pe_c cC hr (pa_cons (pv 0) (pa_cons (pv 1) pa_nil))) (pa_cons (pe_lst pa_nil) pa_nil)) (by rfl))
      (pss_cons (ps_for PassesOwn.never rfl (pi_range1 (by rfl) mR (pa_cons (pv 1) pa_nil)) (pg_name (i := 5) nd rfl (Or.inl rfl)) (pss_cons (ps_set (i := 6) nd rfl (Or.inl rfl) (pe_op op_mulW (pe_c cC hr (pa_cons (pv 0) (pa_cons (pe_op op_add (pv 2) pe_int) pa_nil))) (pe_callB (call_min2 rfl) (by rfl) mM (by decide +kernel) (pa_cons pe_int (pa_cons (pe_c cC hr (pa_cons (pv 0) (pa_cons pe_int pa_nil))) pa_nil)))))
      (pss_cons (ps_set (i := 7) nd rfl (Or.inl rfl) (pe_op op_add pe_int (pe_c cC hr (pa_cons (pv 0) (pa_cons (pv 2) pa_nil)))))
      (pss_one (ps_expr (pe_bm PySem.F.plainAttrs_list PySem.F.slot_list_append PySem.F.type_list_append mt_append (pv 4) (pa_cons (pe_tup (pa_cons (pe_ifExp (pt_cmpR op_eq (pv 5) (pv 3) (nomark _)) pe_non (pv 7)) (pa_cons (pv 6) pa_nil))) pa_nil)))))))
      (pss_one (ps_ret (pv 4)))), ?_⟩
    refine ⟨_, rfl, _, rfl, sk, m, n, rfl, hS, by omega, m0, by rw [n200]; omega, fun rk H1 rk0 rk1 b1 s1 z1 => ⟨Nat.zero_le _, fun l hl => ⟨_, _, rfl, ?_⟩⟩⟩
    have lsk : l ≠ sk := sk_ne s1 hl
    have lH : H l = none := but_none b1 s1 hl
    have e1 := Evl.Ex.new (o := .lst []) hl
    refine ⟨_, rfl, m, rfl, by omega, by omega, for_range (n := m.toNat) (fun i σ H' => ∃ (ts : List Tk) (v5 v6 v7 : Option V), σ = [some (.ref sk), some (.int m), some (.int o), some (.int rk), some (.ref l), v5, v6, v7] ∧ But sk H H' ∧ Sk H' sk (n + 1 + 3 * i) ∧ TksAt (wo sk H') l ts ∧ ts.length = i ∧ (∀ t ∈ ts, ((∀ z, t.1 = some z → 1 ≤ z) ∧ 0 ≤ t.2) ∧ (∀ z, t.1 = some z → z ≤ 1000) ∧ t.2 ≤ 1000) ∧ ts.countP (fun t => t.1.isNone) = if rk < (i : Int) then 1 else 0)
      ⟨[], none, none, none, rfl, b1.trans (But.of_ex e1), s1.ex e1, ⟨[], wo_at lsk upd_same, rfl, fun i a t h => (by cases h)⟩, rfl, (fun t h => by cases h), by rw [if_neg (by omega)]; rfl⟩ ?_ ?_⟩
    · rintro i σ H2 hi ⟨ts, v5, v6, v7, rfl, b2, s2, hT, hl2, hb, hc⟩
      rw [Int.zero_add]
      have hi20 : i < 20 := by omega
      have fin : ∀ (H5 : Hp) (x : Tk) (t : Addr), But sk H2 H5 → Sk H5 sk (n + 1 + 3 * (i + 1)) → H5 t = none → ((∀ z, x.1 = some z → 1 ≤ z) ∧ 0 ≤ x.2) ∧ (∀ z, x.1 = some z → z ≤ 1000) ∧ x.2 ≤ 1000 → (x.1 = none ↔ rk = (i : Int)) →
          ∃ acc, upd H5 t (.tup [wV x.1, .int x.2]) l = some (.lst acc) ∧ acc.length < sizeLine ∧ ∃ (ts : List Tk), But sk H (upd (upd H5 t (.tup [wV x.1, .int x.2])) l (.lst (acc ++ [.ref t]))) ∧ Sk (upd (upd H5 t (.tup [wV x.1, .int x.2])) l (.lst (acc ++ [.ref t]))) sk (n + 1 + 3 * (i + 1)) ∧ TksAt (wo sk (upd (upd H5 t (.tup [wV x.1, .int x.2])) l (.lst (acc ++ [.ref t])))) l ts ∧ ts.length = i + 1 ∧ (∀ t ∈ ts, ((∀ z, t.1 = some z → 1 ≤ z) ∧ 0 ≤ t.2) ∧ (∀ z, t.1 = some z → z ≤ 1000) ∧ t.2 ≤ 1000) ∧ ts.countP (fun t => t.1.isNone) = if rk < ((i + 1 : Nat) : Int) then 1 else 0 := by
        intro H5 x t b5 s5 ht hx hn
        have ex := Evl.Ex.new (o := .tup [wV x.1, .int x.2]) ht
        have b26 := b5.trans (But.of_ex (p := sk) ex)
        have s6 := s5.ex ex
        have h6 : upd H5 t (.tup [wV x.1, .int x.2]) t = some (.tup [wV x.1, .int x.2]) := upd_same
        generalize upd H5 t (.tup [wV x.1, .int x.2]) = H6 at ex b26 s6 h6
        obtain ⟨acc, q1, q2, q3⟩ := tks_more (x := x) (hT.ex b26.wo) (sk_ne s5 ht) h6
        refine ⟨acc, q1, ?_, ts ++ [x], ?_, ?_, q3, by rw [List.length_append, hl2]; rfl, ?_, cnt_more hc hn⟩
        · rw [q2, hl2]
          exact Nat.lt_of_lt_of_le hi20 (by decide)
        · exact fun c o nc e => Eq.trans (upd_ne (ne_of_none' e lH)) ((b2.trans b26) c o nc e)
        · exact s6.upd lsk
        · intro t' ht'
          rcases List.mem_append.mp ht' with h | h
          · exact hb _ h
          · rw [List.mem_singleton.mp h]
            exact hx
      refine ⟨_, rfl, _, rfl, _, _, rfl, rfl, sk, o + 1, _, rfl, s2, by omega, by omega, by rw [n200]; omega, fun a H3 a0 a1 b3 s3 z3 => ?_⟩
      refine ⟨_, rfl, sk, 4, _, rfl, s3, by omega, by decide, by decide, fun y H4 y0 y1 b4 s4 z4 => ⟨_, _, rfl, ?_⟩⟩
      have he : ∃ e : Int, (if y < 1 then y else 1) = e ∧ 0 ≤ a * e ∧ a * e ≤ 1000 ∧ e.natAbs < 2 ^ 10 := by
        by_cases hy : y = 0
        · exact ⟨0, by rw [hy]; rfl, by omega, by omega, by decide⟩
        · exact ⟨1, by rw [if_neg (by omega)], by omega, by omega, by decide⟩
      obtain ⟨e, he, e0, e1', eb⟩ := he
      rw [he]
      refine ⟨a, e, rfl, rfl, wide_mul (a := 10) (b := 10) (Nat.lt_of_le_of_lt (show a.natAbs ≤ 1000 by omega) (by decide)) eb (by decide) (by decide) (by decide), ?_⟩
      refine ⟨_, rfl, _, rfl, sk, o, _, rfl, s4, by omega, by omega, by rw [n200]; omega, fun z H5 z0 z1 b5 s5 z5 => ⟨_, _, rfl, rfl, ?_⟩⟩
      have b25 := (b3.trans b4).trans b5
      have hT5 := hT.ex b25.wo
      refine ⟨_, rfl, .inl ⟨rfl, _, SqL.of (wo_ex _ _ hT5.choose_spec.1)⟩, ?_⟩
      refine ⟨_, rfl, _, rfl, rfl, _, rfl, ?_⟩
      by_cases hr : rk = (i : Int)
      · refine if_t (decide_eq_true (by rw [hr])) ⟨_, rfl, two, fun t ht => ?_⟩
        obtain ⟨acc, q1, q2, ts', q3, q4⟩ := fin H5 (none, a * e) t b25 (by rw [show n + 1 + 3 * (i + 1) = n + 1 + 3 * i + 1 + 1 + 1 by omega]; exact s5) ht ⟨⟨fun z h => (by cases h), e0⟩, fun z h => (by cases h), e1'⟩ ⟨fun _ => hr, fun _ => rfl⟩
        exact ⟨l, acc, _, rfl, rfl, q1, q2, ts', _, _, _, rfl, q3, q4⟩
      · refine if_f (decide_eq_false fun q => hr (by injection q with q; exact q.symm)) ⟨_, rfl, _, rfl, two, fun t ht => ?_⟩
        obtain ⟨acc, q1, q2, ts', q3, q4⟩ := fin H5 (some (1 + z), a * e) t b25 (by rw [show n + 1 + 3 * (i + 1) = n + 1 + 3 * i + 1 + 1 + 1 by omega]; exact s5) ht ⟨⟨fun z' h => (by cases h; omega), e0⟩, fun z' h => (by cases h; omega), e1'⟩ ⟨fun h => (by cases h), fun h => absurd h hr⟩
        exact ⟨l, acc, _, rfl, rfl, q1, q2, ts', _, _, _, rfl, q3, q4⟩
    · rintro σ H2 ⟨ts, v5, v6, v7, rfl, b2, s2, hT, hl2, hb, hc⟩
      refine ⟨_, rfl, k l ts H2 b2 s2 lH hT ⟨by omega, fun t ht => (hb t ht).1, ?_⟩ (by omega) fun t ht => (hb t ht).2⟩
      rw [hc, if_pos (by omega)]
end
end V2


namespace V2
open PySem L2
open PySem.Spec PyProof.Rows
theorem inV2 (i x y : Int) : inV (.int i) [.int x, .int y] = true ↔ x = i ∨ y = i := by
  simp [inV, eqV]
/-- numbers below i that are drawn: f and s are among them -/
structure AscI (f s : Int) (ks : List Int) (i : Nat) : Prop where
  asc : ∀ (j : Nat) (x y : Int), ks[j]? = some x → ks[j + 1]? = some y → x < y
  bd : ∀ x ∈ ks, 0 ≤ x ∧ x < (i : Int)
  hf : 0 ≤ f → f < (i : Int) → f ∈ ks
  hs : 0 ≤ s → s < (i : Int) → s ∈ ks
  len : ks.length ≤ i
theorem AscI.start (f s : Int) : AscI f s [] 0 := ⟨fun _ _ _ h => (by cases h), fun _ h => (by cases h), fun h h' => by omega, fun h h' => by omega, Nat.le_refl _⟩
theorem AscI.more {f s : Int} {ks : List Int} {i : Nat} (h : AscI f s ks i) : AscI f s (ks ++ [(i : Int)]) (i + 1) := by
  refine ⟨fun j x y hx hy => ?_, fun x hx => ?_, fun h0 h1 => ?_, fun h0 h1 => ?_, by rw [List.length_append]; exact Nat.succ_le_succ h.len⟩
  · rcases get_app hy with ⟨h1, h2⟩ | ⟨h1, rfl⟩
    · rcases get_app hx with ⟨h3, _⟩ | ⟨h3, _⟩
      · exact h.asc j x y h3 h1
      · omega
    · rcases get_app hx with ⟨h3, _⟩ | ⟨h3, _⟩
      · exact (h.bd x (List.mem_of_getElem? h3)).2
      · omega
  · rcases List.mem_append.mp hx with h1 | h1
    · have := h.bd x h1
      omega
    · have := List.mem_singleton.mp h1
      omega
  · by_cases c : f < (i : Int)
    · exact List.mem_append_left _ (h.hf h0 c)
    · exact List.mem_append_right _ (List.mem_singleton.mpr (by omega))
  · by_cases c : s < (i : Int)
    · exact List.mem_append_left _ (h.hs h0 c)
    · exact List.mem_append_right _ (List.mem_singleton.mpr (by omega))
theorem AscI.skip {f s : Int} {ks : List Int} {i : Nat} (h : AscI f s ks i) (n : ¬ (f = (i : Int) ∨ s = (i : Int))) : AscI f s ks (i + 1) := by
  have n1 : f ≠ (i : Int) := fun z => n (.inl z)
  have n2 : s ≠ (i : Int) := fun z => n (.inr z)
  exact ⟨h.asc, fun x hx => (by have := h.bd x hx; omega), fun h0 h1 => h.hf h0 (by omega), fun h0 h1 => h.hs h0 (by omega), by have := h.len; omega⟩
theorem mem2_len {ks : List Int} {f s : Int} (hf : f ∈ ks) (hs : s ∈ ks) (n : f ≠ s) : 2 ≤ ks.length := by
  match ks, hf, hs with
  | [], hf, _ => cases hf
  | [x], hf, hs =>
    rw [List.mem_singleton] at hf hs
    exact absurd (hf.trans hs.symm) n
  | x :: y :: r, _, _ => simp
def Word (x : Str) : Prop := x = "pour" ∨ x = "scoop" ∨ x = "move" ∨ x = "open" ∨ x = "unless"
theorem strs_ne {H : Hp} {p s : Addr} {n : Nat} {xs : List Str} (h : H p = some (.lst (xs.map V.str))) (k : Sk H s n) : p ≠ s := fun z => by
  obtain ⟨a, b, c, hs, _⟩ := k
  rw [z, hs] at h
  cases xs with
  | nil => cases h
  | cons x r => cases h
/-- a drawn step -/
def spDeed : Sp := fun vs H Q _ => ∃ (s lk : Addr) (m o : Int) (xs : List Str) (n : Nat), vs = [.ref s, .int m, .int o, .ref lk] ∧ 0 < m ∧ m ≤ 20 ∧ 0 < o ∧ o ≤ 1000 ∧ H lk = some (.lst (xs.map V.str)) ∧ xs ≠ [] ∧ xs.length ≤ 10 ∧ (∀ x ∈ xs, Word x) ∧ Sk H s n ∧ n ≤ 80000 ∧
  ∀ (t : Addr) (d : Deed) (H' : Hp), But s H H' → Sk H' s (n + 24) → DAt (Nw H H') t d → okD m d → (∀ k a, d = .po k a → a ≤ 1000) → Q (.ref t) H'
section
variable {base : Heap} {mg : Str → Option Value} {K : PySem.W.Frag} {w : World} {P : Program}
theorem ok_lcopied0 {f : Addr} {fd : FuncData} (F : Fun K "_law_pv_copied" "_law_pv_copied" s_l_copied f fd) (T : T5 mg) : FnOk P w K mg base CX0 1 f fd p_l_copied (spCp 0) := by
  refine F.ok sc_l_copied (fun vs H Q E h => ?_) (fun cdv A outer s H vs Q E hr h => ?_)
  · obtain ⟨v, d, rfl, _⟩ := h
    rfl
  · obtain ⟨v, d, rfl, hd, hc, k⟩ := h
    refine ⟨_, pss_cons (ps_if (pt_val (pe_callB call_isi (by rfl) T.isi (by decide +kernel) (pa_cons (pv 0) (pa_cons (pe_bltn (v := .ty "list") (by rfl) T.lst (by decide +kernel) rfl) pa_nil)))) (pss_one ps_never) pss_nil)
      (pss_cons (ps_if (pt_val (pe_callB call_isi (by rfl) T.isi (by decide +kernel) (pa_cons (pv 0) (pa_cons (pe_bltn (v := .ty "tuple") (by rfl) T.tup (by decide +kernel) rfl) pa_nil)))) (pss_one ps_never) pss_nil)
      (pss_one (ps_ret (pv 0)))), ?_⟩
    cases hc with
    | non =>
      cases hd
      exact ⟨_, rfl, _, _, _, _, false, rfl, .ty "list", .base .non, kit_ty (by decide +kernel), false, rfl, if_f rfl ⟨_, rfl, _, _, _, _, false, rfl, .ty "tuple", .base .non, kit_ty (by decide +kernel), false, rfl, if_f rfl ⟨_, rfl, k _ _ (Evl.Ex.refl _) .non⟩⟩⟩
    | bl b =>
      cases hd
      exact ⟨_, rfl, _, _, _, _, false, rfl, .ty "list", .base (.bl b), kit_ty (by decide +kernel), false, rfl, if_f rfl ⟨_, rfl, _, _, _, _, false, rfl, .ty "tuple", .base (.bl b), kit_ty (by decide +kernel), false, rfl, if_f rfl ⟨_, rfl, k _ _ (Evl.Ex.refl _) (.bl b)⟩⟩⟩
    | int i =>
      cases hd
      exact ⟨_, rfl, _, _, _, _, false, rfl, .ty "list", .base (.int i), kit_ty (by decide +kernel), false, rfl, if_f rfl ⟨_, rfl, _, _, _, _, false, rfl, .ty "tuple", .base (.int i), kit_ty (by decide +kernel), false, rfl, if_f rfl ⟨_, rfl, k _ _ (Evl.Ex.refl _) (.int i)⟩⟩⟩
    | str x =>
      cases hd
      exact ⟨_, rfl, _, _, _, _, false, rfl, .ty "list", .base (.str x), kit_ty (by decide +kernel), false, rfl, if_f rfl ⟨_, rfl, _, _, _, _, false, rfl, .ty "tuple", .base (.str x), kit_ty (by decide +kernel), false, rfl, if_f rfl ⟨_, rfl, k _ _ (Evl.Ex.refl _) (.str x)⟩⟩⟩
/-- the turns of the comprehension -/
theorem ok_lcopiedS {n k : Nat} {f : Addr} {fd : FuncData} (F : Fun K "_law_pv_copied" "_law_pv_copied" s_l_copied f fd) (T : T5 mg) (c0 : Cal P w K mg base k "_law_pv_copied" p_l_copied (spCp n)) : FnOk P w K mg base CX0 (k + 1) f fd p_l_copied (spCp (n + 1)) := by
  refine F.ok sc_l_copied (fun vs H Q E h => ?_) (fun cdv A outer s H vs Q E hr h => ?_)
  · obtain ⟨v, d, rfl, _⟩ := h
    rfl
  · obtain ⟨v, d, rfl, hd, hc, kk⟩ := h
    have nd := sc_l_copied.nd
    cases hc with
    | non =>
      cases hd
      refine ⟨_, pss_cons (ps_if (pt_val (pe_callB call_isi (by rfl) T.isi (by decide +kernel) (pa_cons (pv 0) (pa_cons (pe_bltn (v := .ty "list") (by rfl) T.lst (by decide +kernel) rfl) pa_nil)))) (pss_one ps_never) pss_nil)
        (pss_cons (ps_if (pt_val (pe_callB call_isi (by rfl) T.isi (by decide +kernel) (pa_cons (pv 0) (pa_cons (pe_bltn (v := .ty "tuple") (by rfl) T.tup (by decide +kernel) rfl) pa_nil)))) (pss_one ps_never) pss_nil)
        (pss_one (ps_ret (pv 0)))), ?_⟩
      exact ⟨_, rfl, _, _, _, _, false, rfl, .ty "list", .base .non, kit_ty (by decide +kernel), false, rfl, if_f rfl ⟨_, rfl, _, _, _, _, false, rfl, .ty "tuple", .base .non, kit_ty (by decide +kernel), false, rfl, if_f rfl ⟨_, rfl, kk _ _ (Evl.Ex.refl _) .non⟩⟩⟩
    | bl b =>
      cases hd
      refine ⟨_, pss_cons (ps_if (pt_val (pe_callB call_isi (by rfl) T.isi (by decide +kernel) (pa_cons (pv 0) (pa_cons (pe_bltn (v := .ty "list") (by rfl) T.lst (by decide +kernel) rfl) pa_nil)))) (pss_one ps_never) pss_nil)
        (pss_cons (ps_if (pt_val (pe_callB call_isi (by rfl) T.isi (by decide +kernel) (pa_cons (pv 0) (pa_cons (pe_bltn (v := .ty "tuple") (by rfl) T.tup (by decide +kernel) rfl) pa_nil)))) (pss_one ps_never) pss_nil)
        (pss_one (ps_ret (pv 0)))), ?_⟩
      exact ⟨_, rfl, _, _, _, _, false, rfl, .ty "list", .base (.bl b), kit_ty (by decide +kernel), false, rfl, if_f rfl ⟨_, rfl, _, _, _, _, false, rfl, .ty "tuple", .base (.bl b), kit_ty (by decide +kernel), false, rfl, if_f rfl ⟨_, rfl, kk _ _ (Evl.Ex.refl _) (.bl b)⟩⟩⟩
    | int i =>
      cases hd
      refine ⟨_, pss_cons (ps_if (pt_val (pe_callB call_isi (by rfl) T.isi (by decide +kernel) (pa_cons (pv 0) (pa_cons (pe_bltn (v := .ty "list") (by rfl) T.lst (by decide +kernel) rfl) pa_nil)))) (pss_one ps_never) pss_nil)
        (pss_cons (ps_if (pt_val (pe_callB call_isi (by rfl) T.isi (by decide +kernel) (pa_cons (pv 0) (pa_cons (pe_bltn (v := .ty "tuple") (by rfl) T.tup (by decide +kernel) rfl) pa_nil)))) (pss_one ps_never) pss_nil)
        (pss_one (ps_ret (pv 0)))), ?_⟩
      exact ⟨_, rfl, _, _, _, _, false, rfl, .ty "list", .base (.int i), kit_ty (by decide +kernel), false, rfl, if_f rfl ⟨_, rfl, _, _, _, _, false, rfl, .ty "tuple", .base (.int i), kit_ty (by decide +kernel), false, rfl, if_f rfl ⟨_, rfl, kk _ _ (Evl.Ex.refl _) (.int i)⟩⟩⟩
    | str x =>
      cases hd
      refine ⟨_, pss_cons (ps_if (pt_val (pe_callB call_isi (by rfl) T.isi (by decide +kernel) (pa_cons (pv 0) (pa_cons (pe_bltn (v := .ty "list") (by rfl) T.lst (by decide +kernel) rfl) pa_nil)))) (pss_one ps_never) pss_nil)
        (pss_cons (ps_if (pt_val (pe_callB call_isi (by rfl) T.isi (by decide +kernel) (pa_cons (pv 0) (pa_cons (pe_bltn (v := .ty "tuple") (by rfl) T.tup (by decide +kernel) rfl) pa_nil)))) (pss_one ps_never) pss_nil)
        (pss_one (ps_ret (pv 0)))), ?_⟩
      exact ⟨_, rfl, _, _, _, _, false, rfl, .ty "list", .base (.str x), kit_ty (by decide +kernel), false, rfl, if_f rfl ⟨_, rfl, _, _, _, _, false, rfl, .ty "tuple", .base (.str x), kit_ty (by decide +kernel), false, rfl, if_f rfl ⟨_, rfl, kk _ _ (Evl.Ex.refl _) (.str x)⟩⟩⟩
    | @lst _ ds hl hcs =>
      cases hd with
      | @lst a xs _ ha hds =>
      refine ⟨_, pss_cons (ps_if (pt_val (pe_callB call_isi (by rfl) T.isi (by decide +kernel) (pa_cons (pv 0) (pa_cons (pe_bltn (v := .ty "list") (by rfl) T.lst (by decide +kernel) rfl) pa_nil))))
          (pss_one (ps_ret (pe_lc (own := [("part", 1)]) (g := gName 1) (tt := tYes) (te := tCall (spCp n) [] E0 (tCons (tVar 1) tNil)) rfl nd (pi_list (pv 0)) (blkOk_by (N := n_l_copied) (sc := defScope s_l_copied) (by decide +kernel)) (fun _ _ _ _ _ => pg_name (i := 1) nd rfl (Or.inl rfl)) (fun _ _ _ _ _ => pts_nil)
            (fun _ _ _ _ _ => pe_c c0 hr (pa_cons (pv 1) pa_nil))))) pss_nil)
        (pss_cons ps_never (pss_one ps_never)), ?_⟩
      refine ⟨_, rfl, _, _, _, _, true, rfl, .ty "list", .base (.lst ha), kit_ty (by decide +kernel), true, rfl, if_t rfl ?_⟩
      have hlen := hds.len
      refine ⟨_, rfl, a, rfl, ⟨_, SqL.of ha⟩, fun D hD => lc_list (xs := xs) (fun i H' => Evl.Ex H H' ∧ ∃ acc, H' D = some (.lst acc) ∧ DqAll (Nw H (fun b => if b = D then none else H' b)) acc (ds.take i)) ⟨Evl.Ex.new hD, [], upd_same, .nil⟩ (fun i H' _ q => SqL.of (q.1 _ _ ha)) ?_ ?_⟩
      · rintro i x H2 hi ⟨e2, acc, hD2, hacc⟩
        obtain ⟨d, hdi, hdx⟩ := hds.get hi
        refine ⟨rfl, ?_⟩
        show tCall (spCp n) [] E0 (tCons (tVar 1) tNil) _ _ _
        refine ⟨_, rfl, x, d, rfl, hdx.go e2, hcs d (List.mem_of_getElem? hdi), fun v' H3 e3 hv' => ⟨acc, e3 _ _ hD2, ?_, Evl.Ex.mut (e2.trans e3) hD, _, upd_same, ?_⟩⟩
        · have h1 := hacc.len
          rw [List.length_take] at h1
          exact Nat.lt_of_le_of_lt (show acc.length ≤ 100 by omega) (by decide)
        · rw [ds_take hdi]
          exact cp_turns hD (Evl.Ex.refl _) e2 hD2 hacc e3 hv'
      · rintro H2 ⟨e2, acc, hD2, hacc⟩
        rw [hlen, List.take_length] at hacc
        refine kk _ _ e2 (.lst (nw_at hD hD2) (hacc.go fun b o h => nw_at (nw_none h) ?_))
        have z := Nw.ex _ _ h
        by_cases hb : b = D
        · rw [if_pos hb] at z
          cases z
        · rw [if_neg hb] at z
          exact z
    | @tup _ ds hl hcs =>
      cases hd with
      | @tup a xs _ ha hds =>
      refine ⟨_, pss_cons (ps_if (pt_val (pe_callB call_isi (by rfl) T.isi (by decide +kernel) (pa_cons (pv 0) (pa_cons (pe_bltn (v := .ty "list") (by rfl) T.lst (by decide +kernel) rfl) pa_nil)))) (pss_one ps_never) pss_nil)
        (pss_cons (ps_if (pt_val (pe_callB call_isi (by rfl) T.isi (by decide +kernel) (pa_cons (pv 0) (pa_cons (pe_bltn (v := .ty "tuple") (by rfl) T.tup (by decide +kernel) rfl) pa_nil))))
          (pss_one (ps_ret (pe_callTy call_tuple_of (by rfl) T.tup (by decide +kernel) (pa_cons (pe_lc (own := [("part", 1)]) (g := gName 1) (tt := tYes) (te := tCall (spCp n) [] E0 (tCons (tVar 1) tNil)) rfl nd (pi_tup (pv 0)) (blkOk_by (N := n_l_copied) (sc := defScope s_l_copied) (by decide +kernel)) (fun _ _ _ _ _ => pg_name (i := 1) nd rfl (Or.inl rfl)) (fun _ _ _ _ _ => pts_nil)
            (fun _ _ _ _ _ => pe_c c0 hr (pa_cons (pv 1) pa_nil))) pa_nil)))) pss_nil)
        (pss_one ps_never)), ?_⟩
      refine ⟨_, rfl, _, _, _, _, false, rfl, .ty "list", .base (.tup ha), kit_ty (by decide +kernel), false, rfl, if_f rfl ?_⟩
      refine ⟨_, rfl, _, _, _, _, true, rfl, .ty "tuple", .base (.tup ha), kit_ty (by decide +kernel), true, rfl, if_t rfl ?_⟩
      have hlen := hds.len
      refine ⟨_, rfl, a, rfl, ⟨_, SqT.of ha⟩, fun D hD => lc_tup (xs := xs) (fun i H' => Evl.Ex H H' ∧ ∃ acc, H' D = some (.lst acc) ∧ DqAll (Nw H (fun b => if b = D then none else H' b)) acc (ds.take i)) ⟨Evl.Ex.new hD, [], upd_same, .nil⟩ (fun i H' _ q => SqT.of (q.1 _ _ ha)) ?_ ?_⟩
      · rintro i x H2 hi ⟨e2, acc, hD2, hacc⟩
        obtain ⟨d, hdi, hdx⟩ := hds.get hi
        refine ⟨rfl, ?_⟩
        show tCall (spCp n) [] E0 (tCons (tVar 1) tNil) _ _ _
        refine ⟨_, rfl, x, d, rfl, hdx.go e2, hcs d (List.mem_of_getElem? hdi), fun v' H3 e3 hv' => ⟨acc, e3 _ _ hD2, ?_, Evl.Ex.mut (e2.trans e3) hD, _, upd_same, ?_⟩⟩
        · have h1 := hacc.len
          rw [List.length_take] at h1
          exact Nat.lt_of_le_of_lt (show acc.length ≤ 100 by omega) (by decide)
        · rw [ds_take hdi]
          exact cp_turns hD (Evl.Ex.refl _) e2 hD2 hacc e3 hv'
      · rintro H2 ⟨e2, acc, hD2, hacc⟩
        rw [hlen, List.take_length] at hacc
        refine ⟨D, _, rfl, .inl ⟨SqL.of hD2, fun l hl2 => ?_⟩⟩
        have e3 := Evl.Ex.new (o := .tup acc) hl2
        refine kk _ _ (e2.trans e3) (.tup (nw_at (Evl.fresh_back e2 hl2) upd_same) (hacc.go fun b o h => nw_at (nw_none h) (e3 _ _ ?_)))
        have z := Nw.ex _ _ h
        by_cases hb : b = D
        · rw [if_pos hb] at z
          cases z
        · rw [if_neg hb] at z
          exact z
theorem ok_deed {f : Addr} {fd : FuncData} (F : Fun K "_law_pv_deed" "_law_pv_deed" s_l_deed f fd) (mR : mg "range" = none) (mL : mg "len" = none) (cC : Cal P w K mg base 1 "_law_pv_coin" p_l_coin spCoin) (cP : Cal P w K mg base 3 "_law_pv_part" p_l_part spPt) (cT : Cal P w K mg base 2 "_law_pv_two" p_l_two spTwo2) : FnOk P w K mg base CX0 4 f fd p_l_deed spDeed := by
  refine F.ok sc_l_deed (fun vs H Q E h => ?_) (fun cdv A outer s H vs Q E hr h => ?_)
  · obtain ⟨s, lk, m, o, xs, n, rfl, _⟩ := h
    rfl
  · obtain ⟨sk, lk, m, o, xs, n, rfl, m0, m1, o0, o1, hlk, hx0, hx10, hxw, hS, hn, k⟩ := h
    have nd := sc_l_deed.nd
    have r1 : Room 1 _ := hr.mono (by decide)
    have r2 : Room 2 _ := hr.mono (by decide)
    have two : 2 ≤ sizeLine := by show 2 ≤ sizeLine; decide
    have three : 3 ≤ sizeLine := by show 3 ≤ sizeLine; decide
    have four : 4 ≤ sizeLine := by show 4 ≤ sizeLine; decide
    have n200 := n200e
    refine ⟨_, pss_cons (ps_set (i := 4) nd rfl (Or.inl rfl) (pe_ix ix_list (pv 3) (pe_c cC r1 (pa_cons (pv 0) (pa_cons (pe_callB call_len_seq (by rfl) mL PySem.boot_len (pa_cons (pv 3) pa_nil)) pa_nil))) (fun _ _ => rfl)))
      (Evl.pss_cut (ps_if (PW.pt (pw_and (pt_cmpR op_lt (pv 1) pe_int (nomark _)) (pw_and1 (pt_cmpR op_notIn_seq (pv 4) (pe_tup (pa_cons pe_str (pa_cons pe_str pa_nil))) (by rfl))))) (pss_one (ps_set (i := 4) nd rfl (Or.inl rfl) pe_str)) pss_nil)
      (pss_cons (ps_if (pt_cmpR op_eq (pv 4) pe_str (nomark _)) (pss_one (ps_ret (pe_tup (pa_cons pe_str (pa_cons (pe_c cC r1 (pa_cons (pv 0) (pa_cons (pv 1) pa_nil))) (pa_cons (pe_c cC r1 (pa_cons (pv 0) (pa_cons (pe_op op_add (pv 2) pe_int) pa_nil))) pa_nil)))))) pss_nil)
      (pss_cons (ps_if (pt_cmpR op_eq (pv 4) pe_str (nomark _)) (pss_one (ps_ret (pe_tup (pa_cons pe_str (pa_cons (pe_c cC r1 (pa_cons (pv 0) (pa_cons (pv 1) pa_nil))) (pa_cons (pe_c cP hr (pa_cons (pv 0) (pa_cons (pe_ifExp (pt_cmpR op_gt (pv 2) pe_int (nomark _)) pe_int pe_int) pa_nil))) pa_nil)))))) pss_nil)
      (pss_cons (ps_asg (pe_c cT r2 (pa_cons (pv 0) (pa_cons (pv 1) pa_nil))) (pg_tup rfl (pgs_cons (pg_name (i := 5) nd rfl (Or.inr rfl)) (pgs_cons (pg_name (i := 6) nd rfl (Or.inr rfl)) pgs_nil))))
      (pss_cons (ps_if (pt_cmpR op_eq (pv 4) pe_str (nomark _)) (pss_one (ps_ret (pe_tup (pa_cons pe_str (pa_cons (pv 5) (pa_cons (pv 6) (pa_cons (pe_c cP hr (pa_cons (pv 0) (pa_cons (pe_ifExp (pt_cmpR op_gt (pv 2) pe_int (nomark _)) pe_int pe_int) pa_nil))) pa_nil))))))) pss_nil)
      (pss_cons (ps_if (pt_cmpR op_eq (pv 4) pe_str (nomark _)) (pss_one (ps_ret (pe_tup (pa_cons pe_str (pa_cons (pv 5) (pa_cons (pv 6) pa_nil)))))) pss_nil)
      (pss_one (ps_ret (pe_tup (pa_cons pe_str (pa_cons (pe_lc (own := [("k", 7)]) (g := (gName 7)) (tt := (tOr (tTest (tOp (rIn K false) (tVar 7) (tTup (tCons (tVar 5) (tCons (tVar 6) tNil))))) (tTest (tOp rEq (tCall spCoin [] E0 (tCons (tVar 0) (tCons (tC (.int 3)) tNil))) (tC (.int 0)))))) (te := (tVar 7)) rfl nd (pi_range1 (by rfl) mR (pa_cons (pv 1) pa_nil)) (blkOk_by (N := n_l_deed) (sc := defScope s_l_deed) (by decide +kernel)) (fun _ _ _ _ _ => (pg_name (i := 7) nd rfl (Or.inl rfl))) (fun _ _ _ _ _ => pts_one (PW.pt (pw_or (pt_cmpR op_in_seq (pv 7) (pe_tup (pa_cons (pv 5) (pa_cons (pv 6) pa_nil))) (by rfl)) (pw_or1 (pt_cmpR op_eq (pe_c cC r1 (pa_cons (pv 0) (pa_cons pe_int pa_nil))) pe_int (nomark _)))))) (fun _ _ _ _ _ => (pv 7))) pa_nil))))))))))), ?_⟩
    have lks := strs_ne hlk hS
    have xl : 0 < xs.length := List.length_pos_iff.mpr hx0
    refine ⟨_, rfl, _, rfl, _, rfl, lk, _, rfl, .inl (SqL.of hlk), sk, ((xs.map V.str).length : Int), n, rfl, hS, by omega, by rw [List.length_map]; omega, by rw [n200, List.length_map]; omega, fun r H0 r0 r1' b0 s0 z0 => ?_⟩
    rw [List.length_map] at r1'
    obtain ⟨j, rfl⟩ : ∃ j : Nat, r = (j : Int) := ⟨r.toNat, by omega⟩
    have hj : j < xs.length := by omega
    have hxj : (xs.map V.str)[j]? = some (.str xs[j]) := by rw [List.getElem?_map, List.getElem?_eq_getElem hj]; rfl
    have hW := hxw _ (List.getElem_mem hj)
    generalize xs[j] = x0 at hxj hW
    refine ⟨lk, _, _, _, rfl, rfl, SqL.of (b0 _ _ lks hlk), atI_nat hxj, ?_⟩
    refine ⟨fun σ H' => Evl.Ex H0 H' ∧ ∃ x : Str, σ = [some (.ref sk), some (.int m), some (.int o), some (.ref lk), some (.str x), none, none, none] ∧ Word x ∧ (m < 2 → x = "pour" ∨ x = "scoop"), ?_, ?_⟩
    · refine ⟨_, rfl, _, _, rfl, rfl, _, rfl, ?_⟩
      by_cases hm : m < 2
      · refine if_t (decide_eq_true hm) ⟨_, rfl, two, fun tq htq => ⟨tq, _, rfl, .inr (SqT.of upd_same), rfl, rfl, _, rfl, ?_⟩⟩
        rcases hW with rfl | rfl | rfl | rfl | rfl
        · exact if_f (by decide) ⟨Evl.Ex.new htq, _, rfl, .inl rfl, fun _ => .inl rfl⟩
        · exact if_f (by decide) ⟨Evl.Ex.new htq, _, rfl, .inr (.inl rfl), fun _ => .inr rfl⟩
        · exact if_t (by decide) ⟨Evl.Ex.new htq, _, rfl, .inl rfl, fun _ => .inl rfl⟩
        · exact if_t (by decide) ⟨Evl.Ex.new htq, _, rfl, .inl rfl, fun _ => .inl rfl⟩
        · exact if_t (by decide) ⟨Evl.Ex.new htq, _, rfl, .inl rfl, fun _ => .inl rfl⟩
      · exact if_f (decide_eq_false hm) (if_f rfl ⟨Evl.Ex.refl _, _, rfl, hW, fun z => absurd z hm⟩)
    · rintro σ H0' ⟨e0, x, rfl, hWx, hm2⟩
      have b0' := b0.trans (But.of_ex e0)
      have s0' := s0.ex e0
      rcases hWx with rfl | rfl | rfl | rfl | rfl
      · skip
        refine ⟨_, rfl, rfl, _, rfl, if_t (by decide) ?_⟩
        refine ⟨_, rfl, _, rfl, sk, m, n + 1, rfl, s0', by omega, m0, by rw [n200]; omega, fun k1 H1 k0 k1' b1 s1 z1 => ?_⟩
        refine ⟨_, rfl, _, rfl, _, _, rfl, rfl, sk, o + 1, n + 2, rfl, s1, by omega, by omega, by rw [n200]; omega, fun a H2 a0 a1 b2 s2 z2 => ⟨three, fun t ht => ?_⟩⟩
        exact k t (.po k1 a) _ ((b0'.trans (b1.trans b2)).trans (But.of_ex (Evl.Ex.new ht))) ((s2.ex (Evl.Ex.new ht)).le (by omega)) (nw_at (but_none (b0'.trans (b1.trans b2)) s2 ht) upd_same) ⟨⟨k0, k1'⟩, a0⟩ (fun _ _ e => by cases e; omega)
      · skip
        refine ⟨_, rfl, rfl, _, rfl, if_f (by decide) ?_⟩
        refine ⟨_, rfl, rfl, _, rfl, if_t (by decide) ?_⟩
        refine ⟨_, rfl, _, rfl, sk, m, n + 1, rfl, s0', by omega, m0, by rw [n200]; omega, fun k1 H1 k0 k1' b1 s1 z1 => ?_⟩
        refine ⟨_, rfl, _, rfl, _, _, rfl, rfl, _, rfl, ?_⟩
        by_cases h12 : 12 < o
        · refine if_t (decide_eq_true h12) ⟨sk, 1000, n + 2, rfl, by decide, by decide, s1, by omega, fun g p q H2 b2 s2 hg hgt hP => ⟨three, fun t ht => ?_⟩⟩
          exact k t (.sc k1 p q) _ ((b0'.trans (b1.trans b2)).trans (But.of_ex (Evl.Ex.new ht))) ((s2.ex (Evl.Ex.new ht)).le (by omega)) ⟨g, nw_at (but_none (b0'.trans (b1.trans b2)) s2 ht) upd_same, nw_at (but_none (b0'.trans b1) s1 hg) (Eq.trans (upd_ne (ne_of_none hgt ht)) hgt)⟩ ⟨⟨k0, k1'⟩, hP⟩ (fun _ _ e => by cases e)
        · refine if_f (decide_eq_false h12) ⟨sk, 6, n + 2, rfl, by decide, by decide, s1, by omega, fun g p q H2 b2 s2 hg hgt hP => ⟨three, fun t ht => ?_⟩⟩
          exact k t (.sc k1 p q) _ ((b0'.trans (b1.trans b2)).trans (But.of_ex (Evl.Ex.new ht))) ((s2.ex (Evl.Ex.new ht)).le (by omega)) ⟨g, nw_at (but_none (b0'.trans (b1.trans b2)) s2 ht) upd_same, nw_at (but_none (b0'.trans b1) s1 hg) (Eq.trans (upd_ne (ne_of_none hgt ht)) hgt)⟩ ⟨⟨k0, k1'⟩, hP⟩ (fun _ _ e => by cases e)
      · skip
        have hm2' : 2 ≤ m := by
          refine Int.not_lt.mp fun z => ?_
          rcases hm2 z with h | h <;> exact absurd h (by decide)
        refine ⟨_, rfl, rfl, _, rfl, if_f (by decide) ?_⟩
        refine ⟨_, rfl, rfl, _, rfl, if_f (by decide) ?_⟩
        refine ⟨_, rfl, _, rfl, sk, m, n + 1, rfl, hm2', m1, s0', by omega, fun t1 x y H1 b1 s1 ht1 h1 x0 x1 y0 y1 xyn => ⟨t1, _, rfl, SqT.of h1, rfl, _, _, rfl, _, _, rfl, rfl, ?_⟩⟩
        have xy := xyn
        refine ⟨_, rfl, rfl, _, rfl, if_t (by decide) ?_⟩
        refine ⟨_, rfl, _, rfl, _, rfl, _, rfl, _, _, rfl, rfl, _, rfl, ?_⟩
        by_cases h12 : 12 < o
        · refine if_t (decide_eq_true h12) ⟨sk, 1000, n + 3, rfl, by decide, by decide, s1, by omega, fun g p q H2 b2 s2 hg hgt hP => ⟨four, fun t ht => ?_⟩⟩
          exact k t (.mv x y p q) _ ((b0'.trans (b1.trans b2)).trans (But.of_ex (Evl.Ex.new ht))) ((s2.ex (Evl.Ex.new ht)).le (by omega)) ⟨g, nw_at (but_none (b0'.trans (b1.trans b2)) s2 ht) upd_same, nw_at (but_none (b0'.trans b1) s1 hg) (Eq.trans (upd_ne (ne_of_none hgt ht)) hgt)⟩ ⟨⟨x0, x1⟩, ⟨y0, y1⟩, xy, hP⟩ (fun _ _ e => by cases e)
        · refine if_f (decide_eq_false h12) ⟨sk, 6, n + 3, rfl, by decide, by decide, s1, by omega, fun g p q H2 b2 s2 hg hgt hP => ⟨four, fun t ht => ?_⟩⟩
          exact k t (.mv x y p q) _ ((b0'.trans (b1.trans b2)).trans (But.of_ex (Evl.Ex.new ht))) ((s2.ex (Evl.Ex.new ht)).le (by omega)) ⟨g, nw_at (but_none (b0'.trans (b1.trans b2)) s2 ht) upd_same, nw_at (but_none (b0'.trans b1) s1 hg) (Eq.trans (upd_ne (ne_of_none hgt ht)) hgt)⟩ ⟨⟨x0, x1⟩, ⟨y0, y1⟩, xy, hP⟩ (fun _ _ e => by cases e)
      · skip
        have hm2' : 2 ≤ m := by
          refine Int.not_lt.mp fun z => ?_
          rcases hm2 z with h | h <;> exact absurd h (by decide)
        refine ⟨_, rfl, rfl, _, rfl, if_f (by decide) ?_⟩
        refine ⟨_, rfl, rfl, _, rfl, if_f (by decide) ?_⟩
        refine ⟨_, rfl, _, rfl, sk, m, n + 1, rfl, hm2', m1, s0', by omega, fun t1 x y H1 b1 s1 ht1 h1 x0 x1 y0 y1 xyn => ⟨t1, _, rfl, SqT.of h1, rfl, _, _, rfl, _, _, rfl, rfl, ?_⟩⟩
        have xy := xyn
        refine ⟨_, rfl, rfl, _, rfl, if_f (by decide) ?_⟩
        refine ⟨_, rfl, rfl, _, rfl, if_f (by decide) ?_⟩
        refine ⟨_, rfl, m, rfl, by omega, by omega, fun D hD => lc_range (n := m.toNat) (fun i H' => ∃ ks : List Int, But sk H1 H' ∧ Sk H' sk (n + 3 + i) ∧ Li H' D ks ∧ AscI x y ks i) ⟨[], But.of_ex (Evl.Ex.new hD), s1.ex (Evl.Ex.new hD), upd_same, AscI.start x y⟩ ?_ ?_⟩
        · rintro i H2 hi ⟨ks, b2, s2, hL, hA⟩
          rw [Int.zero_add]
          have hi20 : i < 20 := by omega
          have D1 := sk_ne s1 hD
          have app : ∀ H3, But sk H2 H3 → Sk H3 sk (n + 3 + (i + 1)) → ∃ acc, H3 D = some (.lst acc) ∧ acc.length < sizeLine ∧ ∃ ks : List Int, But sk H1 (upd H3 D (.lst (acc ++ [.int (i : Int)]))) ∧ Sk (upd H3 D (.lst (acc ++ [.int (i : Int)]))) sk (n + 3 + (i + 1)) ∧ Li (upd H3 D (.lst (acc ++ [.int (i : Int)]))) D ks ∧ AscI x y ks (i + 1) := by
            intro H3 b3 s3
            refine ⟨_, b3 _ _ D1 hL, ?_, ks ++ [(i : Int)], ?_, s3.upd D1, ?_, hA.more⟩
            · rw [iV_len]
              exact Nat.lt_of_le_of_lt hA.len (Nat.lt_of_lt_of_le hi20 (by decide))
            · exact fun c o nc e => Eq.trans (upd_ne (ne_of_none' e hD)) ((b2.trans b3) c o nc e)
            · exact Eq.trans upd_same (by unfold iV; rw [List.map_append]; rfl)
          refine ⟨rfl, _, rfl, _, rfl, _, rfl, two, fun t2 ht2 => ⟨t2, _, rfl, .inr (SqT.of upd_same), rfl, rfl, _, rfl, ?_⟩⟩
          have e2 := Evl.Ex.new (o := .tup [.int x, .int y]) ht2
          by_cases hin : inV (.int (i : Int)) [.int x, .int y] = true
          · refine if_t hin (if_t rfl ⟨_, rfl, app _ (But.of_ex e2) ((s2.ex e2).le (by omega))⟩)
          · have nin : ¬ (x = (i : Int) ∨ y = (i : Int)) := fun z => hin ((inV2 _ _ _).mpr z)
            refine if_f (by simpa using hin) ⟨_, rfl, sk, 3, n + 3 + i, rfl, s2.ex e2, by omega, by decide, by decide, fun c H3 c0 c1 b3 s3 z3 => ⟨rfl, _, rfl, ?_⟩⟩
            have b23 := (But.of_ex (p := sk) e2).trans b3
            by_cases hc : c = 0
            · refine if_t (by rw [hc]; rfl) ⟨_, rfl, app _ b23 s3⟩
            · refine if_f (decide_eq_false fun q => hc (by injection q)) ⟨ks, b2.trans b23, s3, b23 _ _ D1 hL, hA.skip nin⟩
        · rintro H2 ⟨ks, b2, s2, hL, hA⟩
          have lm := hA.len
          have em : ((m.toNat : Nat) : Int) = m := by omega
          refine ⟨two, fun t ht => ?_⟩
          refine k t (.op ks) _ ((b0'.trans (b1.trans b2)).trans (But.of_ex (Evl.Ex.new ht))) ((s2.ex (Evl.Ex.new ht)).le (by omega)) ⟨D, nw_at (but_none (b0'.trans (b1.trans b2)) s2 ht) upd_same, nw_at (but_none (b0'.trans b1) s1 hD) (Eq.trans (upd_ne (ne_of_none hL ht)) hL)⟩ ⟨mem2_len (hA.hf x0 (by omega)) (hA.hs y0 (by omega)) xy, by omega, hA.asc, fun z hz => by have := hA.bd z hz; omega⟩ (fun _ _ e => by cases e)
      · skip
        have hm2' : 2 ≤ m := by
          refine Int.not_lt.mp fun z => ?_
          rcases hm2 z with h | h <;> exact absurd h (by decide)
        refine ⟨_, rfl, rfl, _, rfl, if_f (by decide) ?_⟩
        refine ⟨_, rfl, rfl, _, rfl, if_f (by decide) ?_⟩
        refine ⟨_, rfl, _, rfl, sk, m, n + 1, rfl, hm2', m1, s0', by omega, fun t1 x y H1 b1 s1 ht1 h1 x0 x1 y0 y1 xyn => ⟨t1, _, rfl, SqT.of h1, rfl, _, _, rfl, _, _, rfl, rfl, ?_⟩⟩
        have xy := xyn
        refine ⟨_, rfl, rfl, _, rfl, if_f (by decide) ?_⟩
        refine ⟨_, rfl, rfl, _, rfl, if_t (by decide) ?_⟩
        refine ⟨_, rfl, _, rfl, three, fun t ht => ?_⟩
        exact k t (.un x y) _ ((b0'.trans b1).trans (But.of_ex (Evl.Ex.new ht))) ((s1.ex (Evl.Ex.new ht)).le (by omega)) (nw_at (but_none (b0'.trans b1) s1 ht) upd_same) ⟨⟨x0, x1⟩, ⟨y0, y1⟩, xy⟩ (fun _ _ e => by cases e)
end
end V2


namespace V2
open PySem L2
open PySem.Spec PyProof.Rows
theorem atI_mem {xs : List V} {r : Int} (h0 : 0 ≤ r) (h1 : r < xs.length) : ∃ v, v ∈ xs ∧ atI xs r = some v := by
  obtain ⟨j, rfl⟩ : ∃ j : Nat, r = (j : Int) := ⟨r.toNat, by omega⟩
  have hj : j < xs.length := by omega
  exact ⟨xs[j], List.getElem_mem hj, atI_nat (List.getElem?_eq_getElem hj)⟩
/-- [a, b, ..][coin(sack, many)] -/
theorem pick_read {K : PySem.W.Frag} {σ : L2.St} {H : Hp} {Q : VK} {t : TA} {xs : List V} {s : Addr} {n : Nat} {m : Int} (hm : m = (xs.length : Int)) (h0 : 0 < xs.length) (hl : xs.length ≤ 100) (i0 : σ[0]? = some (some (.ref s))) (hS : Sk H s n) (hn : n ≤ 99990)
    (ht : ∀ (H' : Hp) (Q' : List V → Hp → Prop), Q' xs H' → t σ H' Q') (k : ∀ (v : V) (H' : Hp), v ∈ xs → But s H H' → Sk H' s (n + 1) → Q v H') :
    tOp (rIxL K) (tLst t) (tCall spCoin [] E0 (tCons (tVar 0) (tCons (tC (.int m)) tNil))) σ H Q := by
  refine ht _ _ ⟨Nat.le_trans hl (by decide), fun p hp => ⟨_, i0, s, m, n, rfl, hS.ex (Evl.Ex.new hp), by omega, by omega, ?_, fun r H' r0 r1 b s' z => ?_⟩⟩
  · rw [n200e]
    omega
  · obtain ⟨v, hv, e⟩ := atI_mem (xs := xs) r0 (by omega)
    exact ⟨p, xs, r, v, rfl, rfl, SqL.of (b _ _ (sk_ne hS hp) upd_same), e, k v H' hv ((But.of_ex (Evl.Ex.new hp)).trans b) s'⟩
theorem dat_keep {H H' : Hp} {a l : Addr} {d : Deed} {n : Int} {as : List Addr} (h : DAt H a d) (hd : okD n d) (hl : H l = some (.lst (as.map V.ref))) (e : ∀ b o, b ≠ l → H b = some o → H' b = some o) : DAt H' a d := by
  have ne : ∀ {a : Addr} {xs : List V}, H a = some (.tup xs) → a ≠ l := fun h z => by
    rw [z, hl] at h
    cases h
  cases d with
  | op ks =>
    obtain ⟨q, h1, h2⟩ := h
    refine ⟨q, e _ _ (ne h1) h1, e _ _ (fun z => ?_) h2⟩
    have h2 : H q = some (.lst (iV ks)) := h2
    rw [z, hl] at h2
    have h3 : as.map V.ref = iV ks := by
      injection h2 with h2
      injection h2
    have h4 : 2 ≤ ks.length := hd.1
    match ks, as, h3, h4 with
    | k :: ks, a :: as, h3, _ =>
      unfold iV at h3
      rw [List.map_cons, List.map_cons] at h3
      injection h3 with h3 _
      cases h3
    | k :: ks, [], h3, _ => cases h3
    | [], _, _, h4 => exact absurd h4 (by decide)
  | po k x => exact e _ _ (ne h) h
  | sc k p q =>
    obtain ⟨f, h1, h2⟩ := h
    exact ⟨f, e _ _ (ne h1) h1, e _ _ (ne h2) h2⟩
  | mv k m p q =>
    obtain ⟨f, h1, h2⟩ := h
    exact ⟨f, e _ _ (ne h1) h1, e _ _ (ne h2) h2⟩
  | un k m => exact e _ _ (ne h) h
theorem ds_more {G G' : Hp} {l t : Addr} {ds : List Deed} {d : Deed} {n : Int} (h : DsAt G l ds) (hds : ∀ d ∈ ds, okD n d) (ht : DAt G t d) (hd : okD n d) (e : ∀ b o, b ≠ l → G b = some o → G' b = some o) (e' : ∀ acc, G l = some (.lst acc) → G' l = some (.lst (acc ++ [.ref t]))) : DsAt G' l (ds ++ [d]) := by
  obtain ⟨as, h1, h2, h3⟩ := h
  refine ⟨as ++ [t], ?_, by rw [List.length_append, List.length_append, h2]; rfl, fun i a y ha hy => ?_⟩
  · rw [List.map_append]
    exact e' _ h1
  · rcases get_app ha with ⟨h4, h5⟩ | ⟨h4, rfl⟩
    · rcases get_app hy with ⟨h6, _⟩ | ⟨h6, _⟩
      · exact dat_keep (h3 i a y h4 h6) (hds y (List.mem_of_getElem? h6)) h1 e
      · omega
    · rcases get_app hy with ⟨h6, h7⟩ | ⟨_, rfl⟩
      · omega
      · exact dat_keep ht hd h1 e
theorem ds_list {G : Hp} {l : Addr} {ds : List Deed} (h : DsAt G l ds) : ∃ acc, G l = some (.lst acc) ∧ acc.length = ds.length := by
  obtain ⟨as, h1, h2, h3⟩ := h
  exact ⟨_, h1, by rw [List.length_map]; exact h2⟩
theorem wo_upd {p l : Addr} {H : Hp} {x : HO} : ∀ b o, b ≠ l → wo p H b = some o → wo p (upd H l x) b = some o := fun b o nb h => wo_at (wo_ne h) (Eq.trans (upd_ne nb) (wo_ex _ _ h))
theorem wo_app {p l t : Addr} {H : Hp} {acc0 : List V} (h : H l = some (.lst acc0)) : ∀ acc, wo p H l = some (.lst acc) → wo p (upd H l (.lst (acc0 ++ [.ref t]))) l = some (.lst (acc ++ [.ref t])) := fun acc h' => by
  have e := wo_ex _ _ h'
  rw [h] at e
  injection e with e
  injection e with e
  rw [← e]
  exact wo_at (wo_ne h') upd_same
theorem nw_wo {p : Addr} {H H' : Hp} {n : Nat} (s : Sk H p n) : Evl.Ex (Nw H H') (wo p H') := fun b o h => wo_at (fun z => by
  rw [z] at h
  obtain ⟨o', h'⟩ := sk_some s
  rw [nw_none h] at h'
  cases h') (Nw.ex _ _ h)
theorem tks_keep {H H' : Hp} {l v : Addr} {ts : List Tk} {xs : List V} (h : TksAt H v ts) (hl : H l = some (.lst xs)) (n : v ≠ l) (e : ∀ b o, b ≠ l → H b = some o → H' b = some o) : TksAt H' v ts := by
  obtain ⟨as, h1, h2, h3⟩ := h
  exact ⟨as, e _ _ n h1, h2, fun i a t x y => e _ _ (fun z => by rw [← z, h3 i a t x y] at hl; cases hl) (h3 i a t x y)⟩
theorem ex_wo {p : Addr} {G G' : Hp} (e : Evl.Ex G G') : Evl.Ex (wo p G) (wo p G') := fun b o h => wo_at (wo_ne h) (e _ _ (wo_ex _ _ h))
theorem wo_upd2 {q p l : Addr} {H : Hp} {x : HO} : ∀ b o, b ≠ l → wo q (wo p H) b = some o → wo q (wo p (upd H l x)) b = some o := fun b o nb h => wo_at (wo_ne h) (wo_upd b o nb (wo_ex _ _ h))
theorem wo_app2 {q p l t : Addr} {H : Hp} {acc0 : List V} (h : H l = some (.lst acc0)) : ∀ acc, wo q (wo p H) l = some (.lst acc) → wo q (wo p (upd H l (.lst (acc0 ++ [.ref t])))) l = some (.lst (acc ++ [.ref t])) := fun acc h' => wo_at (wo_ne h') (wo_app h acc (wo_ex _ _ h'))
theorem dat_keep' {G G' : Hp} {t l : Addr} {d : Deed} {ds : List Deed} {n : Int} (h : DAt G t d) (hd : okD n d) (hl : DsAt G l ds) (e : ∀ b o, b ≠ l → G b = some o → G' b = some o) : DAt G' t d := by
  obtain ⟨as, h1, _⟩ := hl
  exact dat_keep h hd h1 e
/-- a drawn shape: tanks and steps, none of whose numbers is great -/
structure ShW (ts : List Tk) (ds : List Deed) : Prop where
  ok : okS ts ds
  w1000 : ∀ t ∈ ts, (∀ z, t.1 = some z → z ≤ 1000) ∧ t.2 ≤ 1000
  p1000 : ∀ k a, Deed.po k a ∈ ds → a ≤ 1000
def ShAt (H : Hp) (t : Addr) (ts : List Tk) (ds : List Deed) : Prop := ∃ lv ld, H t = some (.tup [.ref lv, .ref ld]) ∧ TksAt H lv ts ∧ DsAt H ld ds
theorem sIx_pos {n d k : Nat} : HT.sIx n d (some (k : Int)) = min k n := by
  unfold HT.sIx
  simp
  first
    | done
    | omega
    | (split <;> omega)
theorem cut_min (xs : List V) (k : Nat) : cutV xs none (some (k : Int)) = xs.take k := by
  by_cases h : k ≤ xs.length
  · exact cut_to xs h
  · rw [List.take_of_length_le (by omega)]
    unfold cutV
    rw [sIx_pos]
    have e : HT.sIx xs.length 0 none = 0 := rfl
    rw [e, List.drop_zero, Nat.min_eq_right (by omega)]
    exact List.take_of_length_le (by omega)
theorem DsAt.take {H H' : Hp} {l l2 : Addr} {ds : List Deed} {xs : List V} (h : DsAt H l ds) (hl : H l = some (.lst xs)) (k : Nat) (e : Evl.Ex H H') (h2 : H' l2 = some (.lst (xs.take k))) : DsAt H' l2 (ds.take k) := by
  obtain ⟨as, h1, h3, h4⟩ := h
  rw [hl] at h1
  injection h1 with h1
  injection h1 with h1
  subst h1
  refine ⟨as.take k, by rw [h2, List.map_take], by rw [List.length_take, List.length_take, h3], fun i a d ha hd => ?_⟩
  rw [List.getElem?_take] at ha hd
  by_cases c : i < k
  · rw [if_pos c] at ha hd
    exact (h4 i a d ha hd).ex e
  · rw [if_neg c] at ha
    cases ha
theorem dat_word {H : Hp} {a : Addr} {d : Deed} (h : DAt H a d) : ∃ (x : Str) (r : List V), H a = some (.tup (.str x :: r)) := by
  rcases dat_unless h with ⟨k, m, rfl⟩ | ⟨x, r, h, _⟩
  · exact ⟨_, _, h⟩
  · exact ⟨_, _, h⟩
def spShape : Sp := fun vs H Q _ => ∃ (s : Addr) (n : Nat), vs = [.ref s] ∧ Sk H s n ∧ n ≤ 70000 ∧
  ∀ (t : Addr) (ts : List Tk) (ds : List Deed) (H' : Hp), But s H H' → Sk H' s (n + 3000) → ShAt (wo s H') t ts ds → ShW ts ds → Q (.ref t) H'
def spLong : Sp := spShape
section
variable {base : Heap} {mg : Str → Option Value} {K : PySem.W.Frag} {w : World} {P : Program}
theorem ok_long {f : Addr} {fd : FuncData} (F : Fun K "_law_pv_long" "_law_pv_long" s_l_long f fd) (mR : mg "range" = none) (cC : Cal P w K mg base 1 "_law_pv_coin" p_l_coin spCoin) (cV : Cal P w K mg base 2 "_law_pv_vessels" p_l_vessels spVats) (cD : Cal P w K mg base 4 "_law_pv_deed" p_l_deed spDeed) : FnOk P w K mg base CX0 5 f fd p_l_long spLong := by
  refine F.ok sc_l_long (fun vs H Q E h => ?_) (fun cdv A outer s H vs Q E hr h => ?_)
  · obtain ⟨s, n, rfl, _⟩ := h
    rfl
  · obtain ⟨sk, n, rfl, hS, hn, k⟩ := h
    have nd := sc_l_long.nd
    have n200 := n200e
    have two : 2 ≤ sizeLine := by show 2 ≤ sizeLine; decide
    have five : 5 ≤ sizeLine := by show 5 ≤ sizeLine; decide
    have r1 : Room 1 _ := hr.mono (by decide)
    have r2 : Room 2 _ := hr.mono (by decide)
    refine ⟨_, pss_cons (ps_asg (pe_tup (pa_cons (pe_op op_add pe_int (pe_c cC r1 (pa_cons (pv 0) (pa_cons pe_int pa_nil)))) (pa_cons (pe_lst (pa_cons pe_str (pa_cons pe_str (pa_cons pe_str (pa_cons pe_str (pa_cons pe_str pa_nil)))))) pa_nil))) (pg_tup rfl (pgs_cons (pg_name (i := 1) nd rfl (Or.inr rfl)) (pgs_cons (pg_name (i := 2) nd rfl (Or.inr rfl)) pgs_nil))))
      (pss_cons (ps_set (i := 3) nd rfl (Or.inl rfl) (pe_c cC r1 (pa_cons (pv 0) (pa_cons (pe_ix ix_list (pe_lst (pa_cons pe_int (pa_cons pe_int pa_nil))) (pe_c cC r1 (pa_cons (pv 0) (pa_cons pe_int pa_nil))) (fun _ _ => rfl)) pa_nil))))
      (pss_cons (ps_setLc (i := 4) (own := [("turn", 5)]) (g := (gName 5)) (tt := tYes) (te := (tCall spDeed [] E0 (tCons (tVar 0) (tCons (tVar 1) (tCons (tC (.int 1000)) (tCons (tVar 2) tNil)))))) rfl nd rfl rfl (sw_true rfl rfl rfl (by decide +kernel)) (pi_range1 (by rfl) mR (pa_cons (pv 3) pa_nil)) (blkOk_by (N := n_l_long) (sc := defScope s_l_long) (by decide +kernel)) (fun _ _ _ _ _ => (pg_name (i := 5) nd rfl (Or.inl rfl))) (fun _ _ _ _ _ => pts_nil) (fun _ _ _ _ _ => (pe_c cD hr (pa_cons (pv 0) (pa_cons (pv 1) (pa_cons pe_int (pa_cons (pv 2) pa_nil)))))))
      (pss_one (ps_ret (pe_tup (pa_cons (pe_c cV r2 (pa_cons (pv 0) (pa_cons (pv 1) (pa_cons pe_int pa_nil)))) (pa_cons (pv 4) pa_nil))))))), ?_⟩
    refine ⟨_, rfl, sk, 20, n, rfl, hS, by omega, by decide, by decide, fun c H1 c0 c1 b1 s1 z1 => ⟨_, _, rfl, rfl, five, fun lk hlk => ⟨two, fun tt htt => ?_⟩⟩⟩
    have e1 := (Evl.Ex.new (o := .lst [.str "pour", .str "scoop", .str "move", .str "open", .str "unless"]) hlk).trans (Evl.Ex.new (o := .tup [.int (1 + c), .ref lk]) htt)
    refine ⟨tt, _, rfl, SqT.of upd_same, rfl, ?_⟩
    have hk2 : upd (upd H1 lk (.lst [.str "pour", .str "scoop", .str "move", .str "open", .str "unless"])) tt (.tup [.int (1 + c), .ref lk]) lk = some (.lst [.str "pour", .str "scoop", .str "move", .str "open", .str "unless"]) := Evl.Ex.new (o := .tup [.int (1 + c), .ref lk]) htt _ _ upd_same
    generalize upd (upd H1 lk (.lst [.str "pour", .str "scoop", .str "move", .str "open", .str "unless"])) tt (.tup [.int (1 + c), .ref lk]) = H2 at e1 hk2
    have b2 := b1.trans (But.of_ex (p := sk) e1)
    have s2 := s1.ex e1
    refine ⟨_, _, rfl, _, _, rfl, rfl, _, rfl, ?_⟩
    show tOp (rIxL _) (tLst _) (tCall spCoin [] E0 _) _ _ _
    refine pick_read (xs := [.int 9, .int 61]) rfl (by decide) (by decide) rfl s2 (by omega) (fun _ _ q => q) fun v H3 hv b3 s3 => ?_
    obtain ⟨x, rfl, x0, x1⟩ : ∃ x, v = .int x ∧ 0 < x ∧ x ≤ 61 := by
      simp only [List.mem_cons, List.not_mem_nil, or_false] at hv
      rcases hv with rfl | rfl <;> exact ⟨_, rfl, by decide, by decide⟩
    refine ⟨sk, x, n + 2, rfl, s3, by omega, x0, by rw [n200]; omega, fun y H4 y0 y1 b4 s4 z4 => ⟨_, rfl, y, rfl, by omega, by omega, fun ld hld => ?_⟩⟩
    have b24 := (b2.trans b3).trans b4
    have lH : H ld = none := but_none b24 s4 hld
    have lsk := sk_ne s4 hld
    have lks := strs_ne (xs := ["pour", "scoop", "move", "open", "unless"]) hk2 s2
    have hk4 := (b3.trans b4) _ _ lks hk2
    have e5 := Evl.Ex.new (o := .lst []) hld
    refine lc_range (n := y.toNat) (fun i H' => ∃ ds : List Deed, But sk H H' ∧ Sk H' sk (n + 3 + 24 * i) ∧ wo sk H' lk = some (.lst [.str "pour", .str "scoop", .str "move", .str "open", .str "unless"]) ∧ DsAt (wo sk H') ld ds ∧ ds.length = i ∧ (∀ d ∈ ds, okD (1 + c) d) ∧ ∀ k a, Deed.po k a ∈ ds → a ≤ 1000)
      ⟨[], b24.trans (But.of_ex e5), s4.ex e5, wo_at lks (e5 _ _ hk4), ⟨[], wo_at lsk upd_same, rfl, fun i a t h => (by cases h)⟩, rfl, (fun d h => by cases h), fun k a h => by cases h⟩ ?_ ?_
    · rintro i H5 hi ⟨ds, b5, s5, hk5, hD6, hl, hok, hp⟩
      rw [Int.zero_add]
      refine ⟨rfl, ?_⟩
      unfold tYes
      refine if_t rfl ?_
      show tCall spDeed [] E0 _ _ _ _
      refine ⟨_, rfl, _, rfl, _, rfl, sk, lk, 1 + c, 1000, ["pour", "scoop", "move", "open", "unless"], n + 3 + 24 * i, rfl, by omega, by omega, by decide, by decide, wo_ex _ _ hk5, by decide, by decide, (fun z hz => by simp only [List.mem_cons, List.not_mem_nil, or_false] at hz; exact hz), s5, by omega, fun t d H7 b7 s7 hd hdo hdp => ?_⟩
      have hD7 := hD6.ex b7.wo
      obtain ⟨acc, q1, q2⟩ := ds_list hD7
      have q1 := wo_ex _ _ q1
      have q3 := ds_more hD7 hok (hd.ex (nw_wo s5)) hdo (wo_upd (x := .lst (acc ++ [.ref t]))) (wo_app q1)
      have ldlk : ld ≠ lk := fun z => by
        obtain ⟨as, w1, w2, _⟩ := hD6
        rw [z, hk5] at w1
        cases as with
        | nil => cases w1
        | cons a r => cases w1
      refine ⟨acc, q1, ?_, ds ++ [d], ?_, (s7.upd lsk).le (by omega), wo_upd _ _ ldlk.symm (b7.wo _ _ hk5), q3, by rw [List.length_append, hl]; rfl, ?_, ?_⟩
      · rw [q2, hl]
        exact Nat.lt_of_lt_of_le (show i < 100 by omega) (by decide)
      · exact fun c o nc e => Eq.trans (upd_ne (ne_of_none' e lH)) ((b5.trans b7) c o nc e)
      · intro d' h'
        rcases List.mem_append.mp h' with h | h
        · exact hok _ h
        · rw [List.mem_singleton.mp h]
          exact hdo
      · intro k' a' h'
        rcases List.mem_append.mp h' with h | h
        · exact hp _ _ h
        · exact hdp k' a' (List.mem_singleton.mp h).symm
    · rintro H5 ⟨ds, b5, s5, hk5, hD, hl, hok, hp⟩
      refine ⟨_, rfl, _, rfl, sk, 1 + c, 1000, n + 3 + 24 * y.toNat, rfl, by omega, by omega, by decide, by decide, s5, by omega, fun lv ts H6 b6 s6 lvn hT hok2 hlen hsz => ?_⟩
      refine ⟨_, rfl, two, fun t ht => ?_⟩
      have e7 := Evl.Ex.new (o := .tup [.ref lv, .ref ld]) ht
      have b7 := But.of_ex (p := sk) e7
      refine k t ts ds _ ((b5.trans b6).trans b7) ((s6.ex e7).le (by omega)) ⟨lv, ld, wo_at (sk_ne s6 ht) upd_same, hT.ex b7.wo, (hD.ex b6.wo).ex b7.wo⟩ ⟨⟨hok2, by omega, ?_⟩, hsz, hp⟩
      rw [hlen]
      exact hok
theorem ok_shape {f : Addr} {fd : FuncData} (F : Fun K "_law_pv_shape" "_law_pv_shape" s_l_shape f fd) (mR : mg "range" = none) (mI : mg "int" = none) (cC : Cal P w K mg base 1 "_law_pv_coin" p_l_coin spCoin) (cV : Cal P w K mg base 2 "_law_pv_vessels" p_l_vessels spVats) (cD : Cal P w K mg base 4 "_law_pv_deed" p_l_deed spDeed) : FnOk P w K mg base CX0 5 f fd p_l_shape spShape := by
  refine F.ok sc_l_shape (fun vs H Q E h => ?_) (fun cdv A outer s H vs Q E hr h => ?_)
  · obtain ⟨s, n, rfl, _⟩ := h
    rfl
  · obtain ⟨sk, n, rfl, hS, hn, k⟩ := h
    have nd := sc_l_shape.nd
    have n200 := n200e
    have two : 2 ≤ sizeLine := by show 2 ≤ sizeLine; decide
    have three : 3 ≤ sizeLine := by show 3 ≤ sizeLine; decide
    have r1 : Room 1 _ := hr.mono (by decide)
    have r2 : Room 2 _ := hr.mono (by decide)
    refine ⟨_, pss_cons (ps_par (i := 1) (j := 2) rfl nd rfl rfl (by decide) rfl rfl (pa_cons (pe_ix ix_list (pe_lst (pa_cons pe_int (pa_cons pe_int pa_nil))) (pe_c cC r1 (pa_cons (pv 0) (pa_cons pe_int pa_nil))) (fun _ _ => rfl)) (pa_cons (pe_op op_add pe_int (pe_c cC r1 (pa_cons (pv 0) (pa_cons pe_int pa_nil)))) pa_nil)) (by rfl))
      (pss_cons (ps_par3 (i := 3) (j := 4) (l := 5) rfl nd rfl rfl rfl (by decide) (by decide) (by decide) rfl rfl rfl (pa_cons (pe_lst pa_nil) (pa_cons pe_int (pa_cons pe_int pa_nil))) (by rfl))
      (pss_cons (ps_for PassesOwn.never rfl (pi_range1 (by rfl) mR (pa_cons (pe_c cC r1 (pa_cons (pv 0) (pa_cons pe_int pa_nil))) pa_nil)) (pg_name (i := 6) nd rfl (Or.inl rfl)) (pss_cons (ps_set (i := 7) nd rfl (Or.inl rfl) (pe_lst (pa_cons pe_str (pa_cons pe_str (pa_cons pe_str pa_nil)))))
      (Evl.pss_cut (ps_if (pt_cmpR op_lt (pv 4) pe_int (nomark _)) (pss_one (ps_set (i := 7) nd rfl (Or.inl rfl) (pe_op op_cat (pv 7) (pe_lst (pa_cons pe_str (pa_cons pe_str pa_nil)))))) pss_nil)
      (Evl.pss_cut (ps_if (pt_cmpR op_lt (pv 5) pe_int (nomark _)) (pss_one (ps_set (i := 7) nd rfl (Or.inl rfl) (pe_op op_cat (pv 7) (pe_lst (pa_cons pe_str pa_nil))))) pss_nil)
      (pss_cons (ps_set (i := 8) nd rfl (Or.inl rfl) (pe_c cD hr (pa_cons (pv 0) (pa_cons (pv 2) (pa_cons (pv 1) (pa_cons (pv 7) pa_nil))))))
      (pss_cons (ps_par (i := 4) (j := 5) rfl nd rfl rfl (by decide) rfl rfl (pa_cons (pe_op op_add (pv 4) (pe_callTy call_int1 (by rfl) mI (by decide +kernel) (pa_cons (pe_cmpR op_eq (pe_ix ix_tup (pv 8) pe_int (fun _ _ => rfl)) pe_str (nomark _)) pa_nil))) (pa_cons (pe_op op_add (pv 5) (pe_callTy call_int1 (by rfl) mI (by decide +kernel) (pa_cons (pe_cmpR op_eq (pe_ix ix_tup (pv 8) pe_int (fun _ _ => rfl)) pe_str (nomark _)) pa_nil))) pa_nil)) (by rfl))
      (pss_one (ps_expr (pe_bm PySem.F.plainAttrs_list PySem.F.slot_list_append PySem.F.type_list_append mt_append (pv 3) (pa_cons (pv 8) pa_nil))))))))))
      (pss_one (ps_ret (pe_tup (pa_cons (pe_c cV r2 (pa_cons (pv 0) (pa_cons (pv 2) (pa_cons (pv 1) pa_nil)))) (pa_cons (pv 3) pa_nil))))))), ?_⟩
    show tOp (rIxL _) (tLst _) (tCall spCoin [] E0 _) _ _ _
    refine pick_read (xs := [.int 3, .int 12]) rfl (by decide) (by decide) rfl hS (by omega) (fun _ _ q => q) fun v H1 hv b1 s1 => ?_
    obtain ⟨o, rfl, o0, o1⟩ : ∃ x, v = .int x ∧ 0 < x ∧ x ≤ 12 := by
      simp only [List.mem_cons, List.not_mem_nil, or_false] at hv
      rcases hv with rfl | rfl <;> exact ⟨_, rfl, by decide, by decide⟩
    refine ⟨_, rfl, sk, 4, n + 1, rfl, s1, by omega, by decide, by decide, fun c H2 c0 c1 b2 s2 z2 => ⟨_, _, rfl, rfl, _, _, rfl, ?_⟩⟩
    refine ⟨Nat.zero_le _, fun ld hld => ⟨_, _, _, rfl, ?_⟩⟩
    have e3 := Evl.Ex.new (o := .lst []) hld
    have b12 := b1.trans b2
    have lH : H ld = none := but_none b12 s2 hld
    have lsk := sk_ne s2 hld
    have hd3 : DsAt (wo sk (upd H2 ld (.lst []))) ld [] := ⟨[], wo_at lsk upd_same, rfl, fun i a t h => (by cases h)⟩
    have b3 := b12.trans (But.of_ex (p := sk) e3)
    have s3 := s2.ex e3
    generalize upd H2 ld (.lst []) = H3 at e3 hd3 b3 s3
    refine ⟨_, rfl, sk, 7, n + 2, rfl, s3, by omega, by decide, by decide, fun y H4 y0 y1 b4 s4 z4 => ⟨y, rfl, by omega, by omega, ?_⟩⟩
    refine for_range (n := y.toNat) (fun i σ H' => ∃ (ds : List Deed) (va ha : Int) (v6 v7 v8 : Option V), σ = [some (.ref sk), some (.int o), some (.int (1 + c)), some (.ref ld), some (.int va), some (.int ha), v6, v7, v8] ∧ But sk H H' ∧ Sk H' sk (n + 3 + 30 * i) ∧ DsAt (wo sk H') ld ds ∧ ds.length = i ∧ (∀ d ∈ ds, okD (1 + c) d) ∧ ∀ k a, Deed.po k a ∈ ds → a ≤ 1000)
      ⟨[], 0, 0, none, none, none, rfl, b3.trans b4, s4, hd3.ex b4.wo, rfl, (fun d h => by cases h), fun k a h => by cases h⟩ ?_ ?_
    · rintro i σ H5 hi ⟨ds, va, ha, v6, v7, v8, rfl, b5, s5, hD, hl, hok, hp⟩
      rw [Int.zero_add]
      refine ⟨three, fun lk hlk => ?_⟩
      have ldH : (H5 ld).isSome := by
        obtain ⟨as, w1, _⟩ := hD
        rw [wo_ex _ _ w1]
        rfl
      have e6 := Evl.Ex.new (o := .lst [.str "pour", .str "scoop", .str "move"]) hlk
      have hk6 : upd H5 lk (.lst [.str "pour", .str "scoop", .str "move"]) lk = some (.lst ((["pour", "scoop", "move"] : List Str).map V.str)) := upd_same
      have wd6 : ∀ x ∈ (["pour", "scoop", "move"] : List Str), Word x := fun z hz => by
        simp only [List.mem_cons, List.not_mem_nil, or_false] at hz
        rcases hz with rfl | rfl | rfl <;> (unfold Word; decide)
      generalize upd H5 lk (.lst [.str "pour", .str "scoop", .str "move"]) = H6 at e6 hk6
      refine ⟨fun σ H' => ∃ (lk : Addr) (xs : List Str), σ = [some (.ref sk), some (.int o), some (.int (1 + c)), some (.ref ld), some (.int va), some (.int ha), some (.int (i : Int)), some (.ref lk), v8] ∧ Evl.Ex H5 H' ∧ H' lk = some (.lst (xs.map V.str)) ∧ xs ≠ [] ∧ xs.length ≤ 5 ∧ ∀ x ∈ xs, Word x, ?_, ?_⟩
      · refine ⟨_, rfl, _, _, rfl, rfl, _, rfl, ite2 (fun _ => ?_) (fun _ => ⟨_, _, rfl, e6, hk6, by decide, by decide, wd6⟩)⟩
        refine ⟨_, rfl, two, fun p2 hp2 => ⟨lk, p2, _, _, rfl, rfl, Evl.Ex.new hp2 _ _ hk6, upd_same, by show 5 ≤ sizeLine; decide, fun p3 hp3 => ⟨p3, (["pour", "scoop", "move", "open", "open"] : List Str), rfl, e6.trans ((Evl.Ex.new hp2).trans (Evl.Ex.new hp3)), Eq.trans upd_same rfl, by decide, by decide, fun z hz => ?_⟩⟩⟩
        simp only [List.mem_cons, List.not_mem_nil, or_false] at hz
        rcases hz with rfl | rfl | rfl | rfl | rfl <;> (unfold Word; decide)
      · rintro σ H7 ⟨lk, xs, rfl, e7, hk7, x0, x5, wd7⟩
        refine ⟨fun σ H' => ∃ (lk : Addr) (xs : List Str), σ = [some (.ref sk), some (.int o), some (.int (1 + c)), some (.ref ld), some (.int va), some (.int ha), some (.int (i : Int)), some (.ref lk), v8] ∧ Evl.Ex H5 H' ∧ H' lk = some (.lst (xs.map V.str)) ∧ xs ≠ [] ∧ xs.length ≤ 6 ∧ ∀ x ∈ xs, Word x, ?_, ?_⟩
        · refine ⟨_, rfl, _, _, rfl, rfl, _, rfl, ite2 (fun _ => ?_) (fun _ => ⟨_, _, rfl, e7, hk7, x0, by omega, wd7⟩)⟩
          refine ⟨_, rfl, Nat.le_trans (by decide) two, fun p2 hp2 => ⟨lk, p2, _, _, rfl, rfl, Evl.Ex.new hp2 _ _ hk7, upd_same, ?_, fun p3 hp3 => ⟨p3, xs ++ [("unless" : Str)], rfl, e7.trans ((Evl.Ex.new hp2).trans (Evl.Ex.new hp3)), Eq.trans upd_same (by rw [List.map_append]; rfl), by simp, by rw [List.length_append]; show xs.length + 1 ≤ 6; omega, fun z hz => ?_⟩⟩⟩
          · rw [List.length_map]
            exact Nat.le_trans (show xs.length + 1 ≤ 6 by omega) (by decide)
          rcases List.mem_append.mp hz with h | h
          · exact wd7 z h
          · rw [List.mem_singleton.mp h]
            unfold Word
            decide
        · rintro σ H8 ⟨lk, xs, rfl, e8, hk8, x0, x6, wd8⟩
          have s8 := s5.ex e8
          have b8 := b5.trans (But.of_ex (p := sk) e8)
          have hD8 := hD.ex (ex_wo e8)
          refine ⟨_, rfl, _, rfl, _, rfl, _, rfl, sk, lk, 1 + c, o, xs, n + 3 + 30 * i, rfl, by omega, by omega, o0, by omega, hk8, x0, by omega, wd8, s8, by omega, fun t d H9 b9 s9 hd hdo hdp => ?_⟩
          have hD9 := hD8.ex b9.wo
          obtain ⟨acc, q1, q2⟩ := ds_list hD9
          have q1 := wo_ex _ _ q1
          obtain ⟨wx, rs, hwx⟩ := dat_word (hd.ex Nw.ex)
          refine ⟨_, rfl, _, rfl, t, _, _, _, rfl, rfl, SqT.of hwx, (by exact atI_nat (j := 0) rfl), rfl, .inr ⟨_, rfl, _, _, rfl, rfl, ?_⟩⟩
          refine ⟨_, rfl, _, rfl, t, _, _, _, rfl, rfl, SqT.of hwx, (by exact atI_nat (j := 0) rfl), rfl, .inr ⟨_, rfl, _, _, rfl, rfl, ?_⟩⟩
          refine ⟨_, _, rfl, ?_⟩
          refine ⟨_, rfl, .inl ⟨rfl, _, SqL.of q1⟩, _, rfl, ?_⟩
          have q3 := ds_more hD9 hok (hd.ex (nw_wo s8)) hdo (wo_upd (x := .lst (acc ++ [.ref t]))) (wo_app q1)
          refine ⟨ld, acc, _, rfl, rfl, q1, ?_, ds ++ [d], _, _, _, _, _, rfl, ?_, (s9.upd lsk).le (by omega), q3, by rw [List.length_append, hl]; rfl, ?_, ?_⟩
          · rw [q2, hl]
            exact Nat.lt_of_lt_of_le (show i < 100 by omega) (by decide)
          · exact fun c o nc e => Eq.trans (upd_ne (ne_of_none' e lH)) ((b8.trans b9) c o nc e)
          · intro d' h'
            rcases List.mem_append.mp h' with h | h
            · exact hok _ h
            · rw [List.mem_singleton.mp h]
              exact hdo
          · intro k' a' h'
            rcases List.mem_append.mp h' with h | h
            · exact hp _ _ h
            · exact hdp k' a' (List.mem_singleton.mp h).symm
    · rintro σ H5 ⟨ds, va, ha, v6, v7, v8, rfl, b5, s5, hD, hl, hok, hp⟩
      refine ⟨_, rfl, _, rfl, _, rfl, sk, 1 + c, o, n + 3 + 30 * y.toNat, rfl, by omega, by omega, o0, by omega, s5, by omega, fun lv ts H6 b6 s6 lvn hT hok2 hlen hsz => ?_⟩
      refine ⟨_, rfl, two, fun t ht => ?_⟩
      have e7 := Evl.Ex.new (o := .tup [.ref lv, .ref ld]) ht
      have b7 := But.of_ex (p := sk) e7
      refine k t ts ds _ ((b5.trans b6).trans b7) ((s6.ex e7).le (by omega)) ⟨lv, ld, wo_at (sk_ne s6 ht) upd_same, hT.ex b7.wo, (hD.ex b6.wo).ex b7.wo⟩ ⟨⟨hok2, by omega, ?_⟩, hsz, hp⟩
      rw [hlen]
      exact hok
end
end V2


namespace V2
open PySem L2
open PySem.Spec PyProof.Rows
def frD (f : Int × Int) : PyData := .tuple [.int f.1, .int f.2]
theorem DpAll.of_get {K : PySem.W.Frag} {H : Hp} : ∀ {vs : List V} {ds : List PyData}, vs.length = ds.length → (∀ (i : Nat) (v : V) (d : PyData), vs[i]? = some v → ds[i]? = some d → Dp K H v d) → DpAll K H vs ds
  | [], [], _, _ => .nil
  | v :: vs, d :: ds, hl, h => .cons (h 0 v d rfl rfl) (DpAll.of_get (by simpa using hl) fun i v d x y => h (i + 1) v d x y)
  | [], _ :: _, hl, _ => by cases hl
  | _ :: _, [], hl, _ => by cases hl
theorem DqAll.of_get {H : Hp} : ∀ {vs : List V} {ds : List PyData}, vs.length = ds.length → (∀ (i : Nat) (v : V) (d : PyData), vs[i]? = some v → ds[i]? = some d → Dq H v d) → DqAll H vs ds
  | [], [], _, _ => .nil
  | v :: vs, d :: ds, hl, h => .cons (h 0 v d rfl rfl) (DqAll.of_get (by simpa using hl) fun i v d x y => h (i + 1) v d x y)
  | [], _ :: _, hl, _ => by cases hl
  | _ :: _, [], hl, _ => by cases hl
theorem dp_nil {K : PySem.W.Frag} {H : Hp} {l : Addr} (h : H l = some (.lst [])) : Dp K H (.ref l) (.list []) := .lst (SqL.of h) .nil
theorem shp_nil : SeqAt.shaped (.list []) = true := by decide
/-- while a list of steps is being made at D -/
def DsN (H : Hp) (D : Addr) (ds : List Deed) : Prop := ∃ as : List Addr, H D = some (.lst (as.map V.ref)) ∧ as.length = ds.length ∧ ∀ (i : Nat) (a : Addr) (d : Deed), as[i]? = some a → ds[i]? = some d → DAt (wo D H) a d
theorem DsN.start {H : Hp} {D : Addr} (h : H D = some (.lst [])) : DsN H D [] := ⟨[], h, rfl, fun i a f h => by cases h⟩
theorem DsN.done {H : Hp} {D : Addr} {ds : List Deed} (h : DsN H D ds) : DsAt H D ds := by
  obtain ⟨as, h1, h2, h3⟩ := h
  exact ⟨as, h1, h2, fun i a f x y => (h3 i a f x y).ex wo_ex⟩
theorem DsN.more {H H' : Hp} {D t : Addr} {ds : List Deed} {d : Deed} {n : Int} (h : DsN H D ds) (e : Evl.Ex H H') (ht : DAt H' t d) (hd : okD n d) (hl : ds.length ≤ 1000) : ∃ acc, H' D = some (.lst acc) ∧ acc.length < sizeLine ∧ DsN (upd H' D (.lst (acc ++ [.ref t]))) D (ds ++ [d]) := by
  obtain ⟨as, h1, h2, h3⟩ := h
  have h1' := e _ _ h1
  have up : ∀ o, Evl.Ex (wo D H') (wo D (upd H' D o)) := fun o b u z => wo_at (wo_ne z) (Eq.trans (upd_ne (wo_ne z)) (wo_ex _ _ z))
  refine ⟨_, h1', ?_, as ++ [t], ?_, by rw [List.length_append, List.length_append, h2]; rfl, fun i a g ha hg => ?_⟩
  · rw [List.length_map, h2]
    exact Nat.lt_of_le_of_lt hl (by decide)
  · rw [upd_same, List.map_append]
    rfl
  · rcases get_app ha with ⟨h4, h5⟩ | ⟨h4, rfl⟩
    · rcases get_app hg with ⟨h6, _⟩ | ⟨h6, _⟩
      · exact ((h3 i a g h4 h6).ex (ex_wo e)).ex (up _)
      · omega
    · rcases get_app hg with ⟨h6, h7⟩ | ⟨_, rfl⟩
      · omega
      · exact (dat_keep ht hd h1' fun b o n z => wo_at n z).ex (up _)
/-- while a list of fractions is being made at D -/
def PrN (H : Hp) (D : Addr) (fs : List (Int × Int)) : Prop := ∃ as : List Addr, H D = some (.lst (as.map V.ref)) ∧ as.length = fs.length ∧ ∀ (i : Nat) (a : Addr) (f : Int × Int), as[i]? = some a → fs[i]? = some f → a ≠ D ∧ Fr H a f.1 f.2
theorem PrN.start {H : Hp} {D : Addr} (h : H D = some (.lst [])) : PrN H D [] := ⟨[], h, rfl, fun i a f h => by cases h⟩
theorem PrN.done {H : Hp} {D : Addr} {fs : List (Int × Int)} (h : PrN H D fs) : PrAt H D fs := by
  obtain ⟨as, h1, h2, h3⟩ := h
  exact ⟨as, h1, h2, fun i a f x y => (h3 i a f x y).2⟩
theorem PrN.more {H H' : Hp} {D t : Addr} {fs : List (Int × Int)} {f : Int × Int} (h : PrN H D fs) (e : Evl.Ex H H') (ht : Fr H' t f.1 f.2) (hl : fs.length ≤ 1000) : ∃ acc, H' D = some (.lst acc) ∧ acc.length < sizeLine ∧ acc.length = fs.length ∧ PrN (upd H' D (.lst (acc ++ [.ref t]))) D (fs ++ [f]) := by
  obtain ⟨as, h1, h2, h3⟩ := h
  have h1' := e _ _ h1
  have tD : t ≠ D := fun z => by
    have ht : H' t = some (.tup [.int f.1, .int f.2]) := ht
    rw [z, h1'] at ht
    cases ht
  refine ⟨_, h1', ?_, by rw [List.length_map]; exact h2, as ++ [t], ?_, by rw [List.length_append, List.length_append, h2]; rfl, fun i a g ha hg => ?_⟩
  · rw [List.length_map, h2]
    exact Nat.lt_of_le_of_lt hl (by decide)
  · rw [upd_same, List.map_append]
    rfl
  · rcases get_app ha with ⟨h4, h5⟩ | ⟨h4, rfl⟩
    · rcases get_app hg with ⟨h6, _⟩ | ⟨h6, _⟩
      · obtain ⟨n, z⟩ := h3 i a g h4 h6
        exact ⟨n, Eq.trans (upd_ne n) (e _ _ z)⟩
      · omega
    · rcases get_app hg with ⟨h6, h7⟩ | ⟨_, rfl⟩
      · omega
      · exact ⟨tD, Eq.trans (upd_ne tD) ht⟩
end V2


namespace V2
open PySem L2
open PySem.Spec PyProof.Rows
def Bh (A : List Int) (W : Int) : List (Int × Int) := A.map fun x => fr x W
theorem PrN.keep {H H' : Hp} {D l : Addr} {fs : List (Int × Int)} {xs : List V} (h : PrN H D fs) (hl : H l = some (.lst xs)) (n : D ≠ l) (e : ∀ b o, b ≠ l → H b = some o → H' b = some o) : PrN H' D fs := by
  obtain ⟨as, h1, h2, h3⟩ := h
  refine ⟨as, e _ _ n h1, h2, fun i a f x y => ?_⟩
  obtain ⟨n1, z⟩ := h3 i a f x y
  exact ⟨n1, e _ _ (fun q => by
    have z : H a = some (.tup _) := z
    rw [q, hl] at z
    cases z) z⟩
theorem PrN.ex {H H' : Hp} {D : Addr} {fs : List (Int × Int)} (h : PrN H D fs) (e : Evl.Ex H H') : PrN H' D fs := by
  obtain ⟨as, h1, h2, h3⟩ := h
  exact ⟨as, e _ _ h1, h2, fun i a f x y => ⟨(h3 i a f x y).1, e _ _ (h3 i a f x y).2⟩⟩
end V2


namespace V2
open PySem L2
open PySem.Spec PyProof.Rows
def gS {α : Type} : List α → List α → List α
  | [x], [d] => [x, d]
  | _, _ => []
section
variable {base : Heap} {mg : Str → Option Value} {K : PySem.W.Frag} {w : World} {P : Program} {C fI fC fL fW fE pE : Addr}
end
end V2


namespace V2
open PySem L2
open PySem.Spec PyProof.Rows
mutual
/-- v is data; as: its lists, outer ones first -/
inductive TrD (H : Hp) : V → PyData → List Addr → Prop
  | non : TrD H .non .none []
  | bl (b : Bool) : TrD H (.bl b) (.bool b) []
  | int (i : Int) : TrD H (.int i) (.int i) []
  | str (x : Str) : TrD H (.str x) (.str x) []
  | lst {a : Addr} {xs : List V} {ds : List PyData} {as : List Addr} : H a = some (.lst xs) → TrA H xs ds as → TrD H (.ref a) (.list ds) (a :: as)
  | tup {a : Addr} {xs : List V} {ds : List PyData} {as : List Addr} : H a = some (.tup xs) → TrA H xs ds as → TrD H (.ref a) (.tuple ds) as
inductive TrA (H : Hp) : List V → List PyData → List Addr → Prop
  | nil : TrA H [] [] []
  | cons {v : V} {vs : List V} {d : PyData} {ds : List PyData} {as bs : List Addr} : TrD H v d as → TrA H vs ds bs → TrA H (v :: vs) (d :: ds) (as ++ bs)
end
mutual
theorem TrD.go {H H' : Hp} : ∀ {d : PyData} {v : V} {as : List Addr}, TrD H v d as → Evl.Ex H H' → TrD H' v d as
  | _, _, _, .non, _ => .non
  | _, _, _, .bl b, _ => .bl b
  | _, _, _, .int i, _ => .int i
  | _, _, _, .str x, _ => .str x
  | _, _, _, .lst h r, e => .lst (e _ _ h) (TrA.go r e)
  | _, _, _, .tup h r, e => .tup (e _ _ h) (TrA.go r e)
theorem TrA.go {H H' : Hp} : ∀ {ds : List PyData} {vs : List V} {as : List Addr}, TrA H vs ds as → Evl.Ex H H' → TrA H' vs ds as
  | _, _, _, .nil, _ => .nil
  | _, _, _, .cons a b, e => .cons (TrD.go a e) (TrA.go b e)
end
mutual
theorem TrD.dq {H : Hp} : ∀ {d : PyData} {v : V} {as : List Addr}, TrD H v d as → Dq H v d
  | _, _, _, .non => .non
  | _, _, _, .bl b => .bl b
  | _, _, _, .int i => .int i
  | _, _, _, .str x => .str x
  | _, _, _, .lst h r => .lst h (TrA.dq r)
  | _, _, _, .tup h r => .tup h (TrA.dq r)
theorem TrA.dq {H : Hp} : ∀ {ds : List PyData} {vs : List V} {as : List Addr}, TrA H vs ds as → DqAll H vs ds
  | _, _, _, .nil => .nil
  | _, _, _, .cons a b => .cons (TrD.dq a) (TrA.dq b)
end
mutual
/-- how many lists there are in data -/
def cntD : PyData → Nat
  | .list ds => 1 + cntA ds
  | .tuple ds => cntA ds
  | _ => 0
def cntA : List PyData → Nat
  | [] => 0
  | d :: ds => cntD d + cntA ds
end
mutual
/-- the data behind each of whose lists its rank was put, ranks from k on -/
def mkD : Nat → PyData → PyData
  | k, .list ds => .list (mkA (k + 1) ds ++ [.int (k : Int)])
  | k, .tuple ds => .tuple (mkA k ds)
  | _, d => d
def mkA : Nat → List PyData → List PyData
  | _, [] => []
  | k, d :: ds => mkD k d :: mkA (k + cntD d) ds
end
mutual
theorem TrD.cnt {H : Hp} : ∀ {d : PyData} {v : V} {as : List Addr}, TrD H v d as → as.length = cntD d
  | _, _, _, .non => rfl
  | _, _, _, .bl b => rfl
  | _, _, _, .int i => rfl
  | _, _, _, .str x => rfl
  | _, _, _, .lst h r => by
    have := TrA.cnt r
    simp only [cntD, List.length_cons]
    omega
  | _, _, _, .tup h r => by
    have := TrA.cnt r
    simpa only [cntD] using this
theorem TrA.cnt {H : Hp} : ∀ {ds : List PyData} {vs : List V} {as : List Addr}, TrA H vs ds as → as.length = cntA ds
  | _, _, _, .nil => rfl
  | _, _, _, .cons a b => by
    have h1 := TrD.cnt a
    have h2 := TrA.cnt b
    simp only [cntA, List.length_append]
    omega
end
mutual
theorem tr_mk {H H' : Hp} (ht : ∀ a xs, H a = some (.tup xs) → H' a = some (.tup xs)) : ∀ {d : PyData} {v : V} {as : List Addr} {k : Nat}, TrD H v d as → (∀ j a xs, as[j]? = some a → H a = some (.lst xs) → H' a = some (.lst (xs ++ [.int ((k + j : Nat) : Int)]))) → Dq H' v (mkD k d)
  | _, _, _, _, .non, _ => by simp only [mkD]; exact .non
  | _, _, _, _, .bl b, _ => by simp only [mkD]; exact .bl b
  | _, _, _, _, .int i, _ => by simp only [mkD]; exact .int i
  | _, _, _, _, .str x, _ => by simp only [mkD]; exact .str x
  | _, _, _, k, @TrD.lst _ a xs ds as h r, hl => by
    simp only [mkD]
    exact .lst (hl 0 a xs rfl h) (DqAll.snoc (tr_mkA ht r fun j b ys hj hb => by
      rw [hl (j + 1) b ys hj hb, show k + (j + 1) = k + 1 + j by omega]) (.int _))
  | _, _, _, k, @TrD.tup _ a xs ds as h r, hl => by
    simp only [mkD]
    exact .tup (ht _ _ h) (tr_mkA ht r hl)
theorem tr_mkA {H H' : Hp} (ht : ∀ a xs, H a = some (.tup xs) → H' a = some (.tup xs)) : ∀ {ds : List PyData} {vs : List V} {as : List Addr} {k : Nat}, TrA H vs ds as → (∀ j a xs, as[j]? = some a → H a = some (.lst xs) → H' a = some (.lst (xs ++ [.int ((k + j : Nat) : Int)]))) → DqAll H' vs (mkA k ds)
  | _, _, _, _, .nil, _ => by simp only [mkA]; exact .nil
  | _, _, _, k, @TrA.cons _ v vs d ds as bs a b, hl => by
    simp only [mkA]
    have hc := TrD.cnt a
    refine .cons (tr_mk ht a fun j q xs hj hq => hl j q xs (by rw [List.getElem?_append_left (List.getElem?_eq_some_iff.mp hj).1]; exact hj) hq) (tr_mkA ht b fun j q xs hj hq => ?_)
    have h1 := hl (as.length + j) q xs (by rw [List.getElem?_append_right (Nat.le_add_right _ _), Nat.add_sub_cancel_left]; exact hj) hq
    rw [h1, hc, show k + (cntD d + j) = k + cntD d + j by omega]
end
theorem TrA.get {H : Hp} : ∀ {ds : List PyData} {vs : List V} {as : List Addr}, TrA H vs ds as → ∃ bss : List (List Addr), bss.length = vs.length ∧ as = bss.flatten ∧ ∀ (i : Nat) (x : V), vs[i]? = some x → ∃ d bs, ds[i]? = some d ∧ bss[i]? = some bs ∧ TrD H x d bs
  | _, _, _, .nil => ⟨[], rfl, rfl, fun _ _ h => by cases h⟩
  | _, _, _, @TrA.cons _ v vs d ds as bs a b => by
    obtain ⟨bss, h1, h2, h3⟩ := TrA.get b
    refine ⟨as :: bss, by rw [List.length_cons, List.length_cons, h1], by rw [List.flatten_cons, h2], fun i x hx => ?_⟩
    cases i with
    | zero =>
      cases hx
      exact ⟨d, as, rfl, rfl, a⟩
    | succ i => exact h3 i x hx
theorem flat_take {bss : List (List Addr)} {i : Nat} {bs : List Addr} (h : bss[i]? = some bs) : (bss.take (i + 1)).flatten = (bss.take i).flatten ++ bs := by
  rw [List.take_add_one, h, List.flatten_append]
  simp
theorem flat_len (bss : List (List Addr)) (i : Nat) : (bss.take i).flatten.length ≤ bss.flatten.length := by
  conv => rhs; rw [← List.take_append_drop i bss, List.flatten_append, List.length_append]
  omega
theorem kA_of {K : PySem.W.Frag} {t : String} (h1 : kitB t "list" = some false) (h2 : kitB t "tuple" = some false) : PySem.W.kitAny K (.type t) [.type "list", .type "tuple"] = some false := kitAny_cons (b := false) (kit_ty h1) (fun _ => kitAny_cons (b := false) (kit_ty h2) (fun _ => kitAny_nil) (fun h => by cases h)) (fun h => by cases h)
theorem kA_lst {K : PySem.W.Frag} : PySem.W.kitAny K (.type "list") [.type "list", .type "tuple"] = some true := kitAny_cons (b := true) (kit_ty (by decide +kernel)) (fun h => by cases h) (fun _ => rfl)
theorem kA_tup {K : PySem.W.Frag} : PySem.W.kitAny K (.type "tuple") [.type "list", .type "tuple"] = some true := kitAny_cons (b := false) (kit_ty (by decide +kernel)) (fun _ => kitAny_cons (b := true) (kit_ty (by decide +kernel)) (fun h => by cases h) (fun _ => rfl)) (fun h => by cases h)
/-- the lists within data, n deep at most -/
def spLs (n : Nat) : Sp := fun vs H Q _ => ∃ (v : V) (d : PyData) (as : List Addr), vs = [v] ∧ TrD H v d as ∧ Cp n d ∧ as.length ≤ 1000 ∧ ∀ r H', H r = none → Evl.Ex H H' → H' r = some (.lst (as.map V.ref)) → Q (.ref r) H'
structure T8 (mg : Str → Option Value) : Prop where
  t5 : T5 mg
  rng : mg "range" = none
  len : mg "len" = none
  rep : mg "repr" = none
section
variable {base : Heap} {mg : Str → Option Value} {K : PySem.W.Frag} {w : World} {P : Program}
theorem ls_base {H : Hp} {v : V} {d : PyData} {as : List Addr} (h : TrD H v d as) (n : ∀ ds, d ≠ .list ds ∧ d ≠ .tuple ds) : as = [] ∧ ∃ t : String, kitB t "list" = some false ∧ kitB t "tuple" = some false ∧ ∀ H, TyX K H v (.type t) := by
  cases h with
  | non => exact ⟨rfl, _, by decide +kernel, by decide +kernel, fun H => .base .non⟩
  | bl b => exact ⟨rfl, _, by decide +kernel, by decide +kernel, fun H => .base (.bl b)⟩
  | int i => exact ⟨rfl, _, by decide +kernel, by decide +kernel, fun H => .base (.int i)⟩
  | str x => exact ⟨rfl, _, by decide +kernel, by decide +kernel, fun H => .base (.str x)⟩
  | lst h r => exact absurd rfl (n _).1
  | tup h r => exact absurd rfl (n _).2
theorem cp_cases {n : Nat} {d : PyData} (h : Cp (n + 1) d) : (∀ ds, d ≠ .list ds ∧ d ≠ .tuple ds) ∨ (∃ ds, d = .list ds ∧ ds.length ≤ 100 ∧ ∀ x ∈ ds, Cp n x) ∨ ∃ ds, d = .tuple ds ∧ ds.length ≤ 100 ∧ ∀ x ∈ ds, Cp n x := by
  cases h with
  | non => exact .inl fun ds => ⟨(fun z => nomatch z), (fun z => nomatch z)⟩
  | bl b => exact .inl fun ds => ⟨(fun z => nomatch z), (fun z => nomatch z)⟩
  | int i => exact .inl fun ds => ⟨(fun z => nomatch z), (fun z => nomatch z)⟩
  | str x => exact .inl fun ds => ⟨(fun z => nomatch z), (fun z => nomatch z)⟩
  | lst h1 h2 => exact .inr (.inl ⟨_, rfl, h1, h2⟩)
  | tup h1 h2 => exact .inr (.inr ⟨_, rfl, h1, h2⟩)
theorem ok_ls0 {f : Addr} {fd : FuncData} (F : Fun K "_law_pv_lists" "_law_pv_lists" s_l_lists f fd) (T : T8 mg) : FnOk P w K mg base CX0 1 f fd p_l_lists (spLs 0) := by
  refine F.ok sc_l_lists (fun vs H Q E h => ?_) (fun cdv A outer s H vs Q E hr h => ?_)
  · obtain ⟨v, d, as, rfl, _⟩ := h
    rfl
  · obtain ⟨v, d, as, rfl, ht, hc, hl, k⟩ := h
    have nd := sc_l_lists.nd
    obtain ⟨rfl, t, k1, k2, ty⟩ := ls_base (K := K) ht fun ds => ⟨fun z => (by subst z; cases hc), fun z => (by subst z; cases hc)⟩
    refine ⟨_, pss_cons (ps_set (i := 1) nd rfl (Or.inl rfl) (pe_lst pa_nil))
      (pss_cons (ps_if (pt_val (pe_callB call_isi (by rfl) T.t5.isi (by decide +kernel) (pa_cons (pv 0) (pa_cons (pe_bltn (v := .ty "list") (by rfl) T.t5.lst (by decide +kernel) rfl) pa_nil)))) (pss_one ps_never) pss_nil)
      (pss_cons (ps_if (pt_val (pe_callB call_isiT (by rfl) T.t5.isi (by decide +kernel) (pa_cons (pv 0) (pa_cons (pe_tup (pa_cons (pe_bltn (v := .ty "list") (by rfl) T.t5.lst (by decide +kernel) rfl) (pa_cons (pe_bltn (v := .ty "tuple") (by rfl) T.t5.tup (by decide +kernel) rfl) pa_nil))) pa_nil)))) (pss_one ps_never) pss_nil)
      (pss_one (ps_ret (pv 1))))), ?_⟩
    refine ⟨Nat.zero_le _, fun l hl => ⟨_, rfl, _, _, _, _, false, rfl, .ty "list", ty _, kit_ty k1, false, rfl, if_f rfl ?_⟩⟩
    refine ⟨_, rfl, (by show 2 ≤ sizeLine; decide), fun t ht => ⟨_, t, _, _, _, false, rfl, upd_same, .cons (.ty "list") (.cons (.ty "tuple") .nil), ty _, kA_of k1 k2, false, rfl, if_f rfl ?_⟩⟩
    exact ⟨_, rfl, k l _ hl ((Evl.Ex.new hl).trans (Evl.Ex.new ht)) (Evl.Ex.new ht _ _ upd_same)⟩
theorem ok_lsS {n k : Nat} {f : Addr} {fd : FuncData} (F : Fun K "_law_pv_lists" "_law_pv_lists" s_l_lists f fd) (T : T8 mg) (c0 : Cal P w K mg base k "_law_pv_lists" p_l_lists (spLs n)) : FnOk P w K mg base CX0 (k + 1) f fd p_l_lists (spLs (n + 1)) := by
  refine F.ok sc_l_lists (fun vs H Q E h => ?_) (fun cdv A outer s H vs Q E hr h => ?_)
  · obtain ⟨v, d, as, rfl, _⟩ := h
    rfl
  · obtain ⟨v, d, as, rfl, ht, hc, hl, kk⟩ := h
    have nd := sc_l_lists.nd
    have two : 2 ≤ sizeLine := by show 2 ≤ sizeLine; decide
    rcases cp_cases hc with nn | ⟨ds, rfl, hln, hcs⟩ | ⟨ds, rfl, hln, hcs⟩
    · obtain ⟨rfl, t, k1, k2, ty⟩ := ls_base (K := K) ht nn
      refine ⟨_, pss_cons (ps_set (i := 1) nd rfl (Or.inl rfl) (pe_lst pa_nil))
        (pss_cons (ps_if (pt_val (pe_callB call_isi (by rfl) T.t5.isi (by decide +kernel) (pa_cons (pv 0) (pa_cons (pe_bltn (v := .ty "list") (by rfl) T.t5.lst (by decide +kernel) rfl) pa_nil)))) (pss_one ps_never) pss_nil)
        (pss_cons (ps_if (pt_val (pe_callB call_isiT (by rfl) T.t5.isi (by decide +kernel) (pa_cons (pv 0) (pa_cons (pe_tup (pa_cons (pe_bltn (v := .ty "list") (by rfl) T.t5.lst (by decide +kernel) rfl) (pa_cons (pe_bltn (v := .ty "tuple") (by rfl) T.t5.tup (by decide +kernel) rfl) pa_nil))) pa_nil)))) (pss_one ps_never) pss_nil)
        (pss_one (ps_ret (pv 1))))), ?_⟩
      refine ⟨Nat.zero_le _, fun l hl => ⟨_, rfl, _, _, _, _, false, rfl, .ty "list", ty _, kit_ty k1, false, rfl, if_f rfl ?_⟩⟩
      refine ⟨_, rfl, two, fun t ht => ⟨_, t, _, _, _, false, rfl, upd_same, .cons (.ty "list") (.cons (.ty "tuple") .nil), ty _, kA_of k1 k2, false, rfl, if_f rfl ?_⟩⟩
      exact ⟨_, rfl, kk l _ hl ((Evl.Ex.new hl).trans (Evl.Ex.new ht)) (Evl.Ex.new ht _ _ upd_same)⟩
    · cases ht with
      | @lst a xs _ as hI hA =>
      obtain ⟨bss, b1, b2, b3⟩ := hA.get
      subst b2
      rw [List.length_cons] at hl
      refine ⟨_, pss_cons (ps_set (i := 1) nd rfl (Or.inl rfl) (pe_lst pa_nil))
        (pss_cons (ps_if (pt_val (pe_callB call_isi (by rfl) T.t5.isi (by decide +kernel) (pa_cons (pv 0) (pa_cons (pe_bltn (v := .ty "list") (by rfl) T.t5.lst (by decide +kernel) rfl) pa_nil))))
          (pss_one (ps_expr (pe_bm PySem.F.plainAttrs_list PySem.F.slot_list_append PySem.F.type_list_append mt_append (pv 1) (pa_cons (pv 0) pa_nil)))) pss_nil)
        (pss_cons (ps_if (pt_val (pe_callB call_isiT (by rfl) T.t5.isi (by decide +kernel) (pa_cons (pv 0) (pa_cons (pe_tup (pa_cons (pe_bltn (v := .ty "list") (by rfl) T.t5.lst (by decide +kernel) rfl) (pa_cons (pe_bltn (v := .ty "tuple") (by rfl) T.t5.tup (by decide +kernel) rfl) pa_nil))) pa_nil))))
          (pss_one (ps_for PassesOwn.never rfl (pi_list (pv 0)) (pg_name (i := 2) nd rfl (Or.inl rfl)) (pss_one (ps_set (i := 1) nd rfl (Or.inl rfl) (pe_op op_cat (pv 1) (pe_c c0 hr (pa_cons (pv 2) pa_nil))))))) pss_nil)
        (pss_one (ps_ret (pv 1))))), ?_⟩
      (refine ⟨Nat.zero_le _, fun l hl => ?_⟩)
      have e1 : Evl.Ex H (upd H l (.lst [])) := Evl.Ex.new hl
      refine ⟨_, rfl, _, _, _, _, true, rfl, .ty "list", .base (.lst (e1 _ _ hI)), kit_ty (by decide +kernel), true, rfl, if_t rfl ?_⟩
      refine ⟨_, rfl, .inl ⟨rfl, _, SqL.of upd_same⟩, _, rfl, l, _, _, rfl, rfl, upd_same, by show 0 < sizeLine; decide, ?_⟩
      rw [upd_upd]
      have e2 : Evl.Ex H (upd H l (.lst [.ref a])) := Evl.Ex.new hl
      refine ⟨_, rfl, two, fun t ht => ⟨_, t, _, _, _, true, rfl, upd_same, .cons (.ty "list") (.cons (.ty "tuple") .nil), .base (.lst (Evl.Ex.new ht _ _ (e2 _ _ hI))), kA_lst, true, rfl, if_t rfl ?_⟩⟩
      have e3 := e2.trans (Evl.Ex.new (o := .tup [.ty "list", .ty "tuple"]) ht)
      refine ⟨_, rfl, a, rfl, ⟨_, SqL.of (e3 _ _ hI)⟩, for_list (xs := xs) (fun i σ H' => Evl.Ex H H' ∧ ∃ q v, σ = [some (.ref a), some (.ref q), v] ∧ H q = none ∧ H' q = some (.lst ((a :: (bss.take i).flatten).map V.ref)))
        ⟨e3, l, none, rfl, hl, Evl.Ex.new ht _ _ upd_same⟩ (fun i σ H' _ q => SqL.of (q.1 _ _ hI)) ?_ ?_⟩
      · rintro i x σ H' hi ⟨e4, q, v, rfl, hq, hq2⟩
        obtain ⟨d, bs, g1, g2, g3⟩ := b3 i x hi
        have fl := flat_len bss (i + 1)
        rw [flat_take g2, List.length_append] at fl
        refine ⟨_, rfl, _, rfl, x, d, bs, rfl, g3.go e4, hcs d (List.mem_of_getElem? g1), by omega, fun z H2 hz2 e5 h5 => ⟨q, z, _, _, rfl, rfl, e5 _ _ hq2, h5, ?_, fun y hy => ?_⟩⟩
        · rw [List.length_map, List.length_map, List.length_cons]
          exact Nat.le_trans (show (bss.take i).flatten.length + 1 + bs.length ≤ 1001 by omega) (by decide)
        · refine ⟨(e4.trans e5).trans (Evl.Ex.new hy), y, _, rfl, Evl.fresh_back (e4.trans e5) hy, ?_⟩
          rw [upd_same, flat_take g2, ← List.map_append]; rfl
      · rintro σ H' ⟨e4, q, v, rfl, hq, hq2⟩
        rw [← b1, List.take_length] at hq2
        exact ⟨_, rfl, kk q H' hq e4 hq2⟩
    · cases ht with
      | @tup a xs _ as hI hA =>
      obtain ⟨bss, b1, b2, b3⟩ := hA.get
      subst b2
      refine ⟨_, pss_cons (ps_set (i := 1) nd rfl (Or.inl rfl) (pe_lst pa_nil))
        (pss_cons (ps_if (pt_val (pe_callB call_isi (by rfl) T.t5.isi (by decide +kernel) (pa_cons (pv 0) (pa_cons (pe_bltn (v := .ty "list") (by rfl) T.t5.lst (by decide +kernel) rfl) pa_nil)))) (pss_one ps_never) pss_nil)
        (pss_cons (ps_if (pt_val (pe_callB call_isiT (by rfl) T.t5.isi (by decide +kernel) (pa_cons (pv 0) (pa_cons (pe_tup (pa_cons (pe_bltn (v := .ty "list") (by rfl) T.t5.lst (by decide +kernel) rfl) (pa_cons (pe_bltn (v := .ty "tuple") (by rfl) T.t5.tup (by decide +kernel) rfl) pa_nil))) pa_nil))))
          (pss_one (ps_for PassesOwn.never rfl (pi_tup (pv 0)) (pg_name (i := 2) nd rfl (Or.inl rfl)) (pss_one (ps_set (i := 1) nd rfl (Or.inl rfl) (pe_op op_cat (pv 1) (pe_c c0 hr (pa_cons (pv 2) pa_nil))))))) pss_nil)
        (pss_one (ps_ret (pv 1))))), ?_⟩
      (refine ⟨Nat.zero_le _, fun l hl => ?_⟩)
      have e1 : Evl.Ex H (upd H l (.lst [])) := Evl.Ex.new hl
      refine ⟨_, rfl, _, _, _, _, false, rfl, .ty "list", .base (.tup (e1 _ _ hI)), kit_ty (by decide +kernel), false, rfl, if_f rfl ?_⟩
      refine ⟨_, rfl, two, fun t ht => ⟨_, t, _, _, _, true, rfl, upd_same, .cons (.ty "list") (.cons (.ty "tuple") .nil), .base (.tup (Evl.Ex.new ht _ _ (e1 _ _ hI))), kA_tup, true, rfl, if_t rfl ?_⟩⟩
      have e3 := e1.trans (Evl.Ex.new (o := .tup [.ty "list", .ty "tuple"]) ht)
      refine ⟨_, rfl, a, rfl, ⟨_, SqT.of (e3 _ _ hI)⟩, for_tup (xs := xs) (fun i σ H' => Evl.Ex H H' ∧ ∃ q v, σ = [some (.ref a), some (.ref q), v] ∧ H q = none ∧ H' q = some (.lst (((bss.take i).flatten).map V.ref)))
        ⟨e3, l, none, rfl, hl, Evl.Ex.new ht _ _ upd_same⟩ (fun i σ H' _ q => SqT.of (q.1 _ _ hI)) ?_ ?_⟩
      · rintro i x σ H' hi ⟨e4, q, v, rfl, hq, hq2⟩
        obtain ⟨d, bs, g1, g2, g3⟩ := b3 i x hi
        have fl := flat_len bss (i + 1)
        rw [flat_take g2, List.length_append] at fl
        refine ⟨_, rfl, _, rfl, x, d, bs, rfl, g3.go e4, hcs d (List.mem_of_getElem? g1), by omega, fun z H2 hz2 e5 h5 => ⟨q, z, _, _, rfl, rfl, e5 _ _ hq2, h5, ?_, fun y hy => ?_⟩⟩
        · rw [List.length_map, List.length_map]
          exact Nat.le_trans (show (bss.take i).flatten.length + bs.length ≤ 1001 by omega) (by decide)
        · refine ⟨(e4.trans e5).trans (Evl.Ex.new hy), y, _, rfl, Evl.fresh_back (e4.trans e5) hy, ?_⟩
          rw [upd_same, flat_take g2, ← List.map_append]
      · rintro σ H' ⟨e4, q, v, rfl, hq, hq2⟩
        rw [← b1, List.take_length] at hq2
        exact ⟨_, rfl, kk q H' hq e4 hq2⟩
end
end V2


namespace V2
open PySem L2
open PySem.Spec PyProof.Rows
mutual
theorem TrD.lists {H : Hp} : ∀ {d : PyData} {v : V} {as : List Addr}, TrD H v d as → ∀ {n : Nat}, Cp n d → ∀ a ∈ as, ∃ xs, H a = some (.lst xs) ∧ xs.length ≤ 100
  | _, _, _, .non, _, _, _, m => by cases m
  | _, _, _, .bl b, _, _, _, m => by cases m
  | _, _, _, .int i, _, _, _, m => by cases m
  | _, _, _, .str x, _, _, _, m => by cases m
  | _, _, _, @TrD.lst _ a xs ds as h r, _, c, b, m => by
    cases c with
    | lst hl hc =>
      rcases List.mem_cons.mp m with rfl | m
      · exact ⟨xs, h, by rw [r.dq.len]; exact hl⟩
      · exact TrA.lists r hc b m
  | _, _, _, @TrD.tup _ a xs ds as h r, _, c, b, m => by
    cases c with
    | tup hl hc => exact TrA.lists r hc b m
theorem TrA.lists {H : Hp} : ∀ {ds : List PyData} {vs : List V} {as : List Addr}, TrA H vs ds as → ∀ {n : Nat}, (∀ d ∈ ds, Cp n d) → ∀ a ∈ as, ∃ xs, H a = some (.lst xs) ∧ xs.length ≤ 100
  | _, _, _, .nil, _, _, _, m => by cases m
  | _, _, _, .cons a b, _, c, q, m => by
    rcases List.mem_append.mp m with m | m
    · exact TrD.lists a (c _ List.mem_cons_self) q m
    · exact TrA.lists b (fun d hd => c d (List.mem_cons_of_mem _ hd)) q m
end
mutual
theorem Dq.tr {H : Hp} : ∀ {d : PyData} {v : V}, Dq H v d → ∀ {n : Nat}, Cp n d → ∃ as, TrD H v d as
  | _, _, .non, _, _ => ⟨_, .non⟩
  | _, _, .bl b, _, _ => ⟨_, .bl b⟩
  | _, _, .int i, _, _ => ⟨_, .int i⟩
  | _, _, .str x, _, _ => ⟨_, .str x⟩
  | _, _, .lst h r, _, c => by
    cases c with
    | lst hl hc =>
      obtain ⟨as, t⟩ := DqAll.tr r hc
      exact ⟨_, .lst h t⟩
  | _, _, .tup h r, _, c => by
    cases c with
    | tup hl hc =>
      obtain ⟨as, t⟩ := DqAll.tr r hc
      exact ⟨_, .tup h t⟩
  | _, _, .dct h r, _, c => nomatch c
theorem DqAll.tr {H : Hp} : ∀ {ds : List PyData} {vs : List V}, DqAll H vs ds → ∀ {n : Nat}, (∀ d ∈ ds, Cp n d) → ∃ as, TrA H vs ds as
  | _, _, .nil, _, _ => ⟨_, .nil⟩
  | _, _, .cons a b, _, c => by
    obtain ⟨as, t⟩ := Dq.tr a (c _ List.mem_cons_self)
    obtain ⟨bs, u⟩ := DqAll.tr b fun d hd => c d (List.mem_cons_of_mem _ hd)
    exact ⟨_, .cons t u⟩
end
section
variable {base : Heap} {mg : Str → Option Value} {K : PySem.W.Frag} {w : World} {P : Program}
theorem nodup1 {as : List Addr} (h : as.length ≤ 1) : as.Nodup := by
  match as, h with
  | [], _ => exact List.nodup_nil
  | [a], _ => exact List.nodup_cons.mpr ⟨List.not_mem_nil, List.nodup_nil⟩
end
end V2


namespace V2
open PySem L2
open PySem.Spec PyProof.Rows
theorem TrA.snoc {H : Hp} : ∀ {ds : List PyData} {vs : List V} {as : List Addr} {v : V} {d : PyData} {bs : List Addr}, TrA H vs ds as → TrD H v d bs → TrA H (vs ++ [v]) (ds ++ [d]) (as ++ bs)
  | _, _, _, v, d, bs, .nil, h => by
    have := TrA.cons h (.nil (H := H))
    rw [List.append_nil] at this
    exact this
  | _, _, _, v, d, bs, .cons a b, h => by
    rw [List.append_assoc]
    exact .cons a (TrA.snoc b h)
def woD (D : Addr) (H : Hp) : Hp := fun b => if b = D then none else H b
theorem woD_some {D : Addr} {H : Hp} {b : Addr} {o : HO} (h : woD D H b = some o) : b ≠ D ∧ H b = some o := by
  unfold woD at h
  split at h
  · cases h
  · rename_i n
    exact ⟨n, h⟩
theorem woD_at {D : Addr} {H : Hp} {b : Addr} {o : HO} (n : b ≠ D) (h : H b = some o) : woD D H b = some o := by
  unfold woD
  rw [if_neg n]
  exact h
theorem nwd_go {H H2 H3 : Hp} {D : Addr} {o : HO} (e : Evl.Ex H2 H3) : Evl.Ex (Nw H (woD D H2)) (Nw H (woD D (upd H3 D o))) := fun b u z => by
  obtain ⟨n, z2⟩ := woD_some (Nw.ex _ _ z)
  exact nw_at (nw_none z) (woD_at n (by rw [upd_ne n]; exact e _ _ z2))
theorem nwd_new {H H2 H3 : Hp} {D : Addr} {o u : HO} (e0 : Evl.Ex H H2) (hD : H2 D = some u) : Evl.Ex (Nw H2 H3) (Nw H (woD D (upd H3 D o))) := fun b x z => by
  have n := nw_none z
  have nd : b ≠ D := fun q => by
    rw [q, hD] at n
    cases n
  exact nw_at (Evl.fresh_back e0 n) (woD_at nd (by rw [upd_ne nd]; exact Nw.ex _ _ z))
theorem nodup_app {as bs : List Addr} (h1 : as.Nodup) (h2 : bs.Nodup) (h : ∀ a ∈ as, a ∉ bs) : (as ++ bs).Nodup := List.nodup_append.mpr ⟨h1, h2, fun a ha b hb e => h a ha (e ▸ hb)⟩
def spCt (n : Nat) : Sp := fun vs H Q _ => ∃ (v : V) (d : PyData), vs = [v] ∧ Dq H v d ∧ Cp n d ∧ ∀ v' as H', Evl.Ex H H' → TrD (Nw H H') v' d as → as.Nodup → Q v' H'
theorem turn_nd {H H2 H3 : Hp} {D : Addr} {acc : List V} {ds : List PyData} {bs as : List Addr} {v : V} {d : PyData} {n i : Nat} (hcs : ∀ x ∈ ds, Cp n x) (hd : d ∈ ds) (hA : TrA (Nw H (woD D H2)) acc (ds.take i) bs) (hn : bs.Nodup) (hT : TrD (Nw H2 H3) v d as) (hm : as.Nodup) : (bs ++ as).Nodup :=
  nodup_app hn hm fun a ha hb => by
    obtain ⟨xs, h1, _⟩ := hA.lists (fun x hx => hcs x (List.mem_of_mem_take hx)) a ha
    obtain ⟨ys, h2, _⟩ := hT.lists (hcs d hd) a hb
    have := nw_none h2
    rw [(woD_some (Nw.ex _ _ h1)).2] at this
    cases this
section
variable {base : Heap} {mg : Str → Option Value} {K : PySem.W.Frag} {w : World} {P : Program}
theorem ok_ct0 {f : Addr} {fd : FuncData} (F : Fun K "copied" "copied" s_copied f fd) (T : T5 mg) : FnOk P w K mg base CX0 1 f fd p_copied (spCt 0) := by
  refine F.ok sc_copied (fun vs H Q E h => ?_) (fun cdv A outer s H vs Q E hr h => ?_)
  · obtain ⟨v, d, rfl, _⟩ := h
    rfl
  · obtain ⟨v, d, rfl, hd, hc, kk⟩ := h
    obtain ⟨as, tb⟩ := hd.tr hc
    obtain ⟨rfl, t, k1, k2, ty⟩ := ls_base (K := K) tb fun ds => ⟨(fun z => (by subst z; cases hc)), (fun z => (by subst z; cases hc))⟩
    have tb : TrD (Nw H H) v d [] := by
      cases tb with
      | non => exact .non
      | bl b => exact .bl b
      | int i => exact .int i
      | str x => exact .str x
      | tup h1 h2 => cases hc
    exact ⟨_, pss_cons (ps_if (pt_val (pe_callB call_isi (by rfl) T.isi (by decide +kernel) (pa_cons (pv 0) (pa_cons (pe_bltn (v := .ty "list") (by rfl) T.lst (by decide +kernel) rfl) pa_nil)))) (pss_one ps_never) pss_nil)
        (pss_cons (ps_if (pt_val (pe_callB call_isi (by rfl) T.isi (by decide +kernel) (pa_cons (pv 0) (pa_cons (pe_bltn (v := .ty "tuple") (by rfl) T.tup (by decide +kernel) rfl) pa_nil)))) (pss_one ps_never) pss_nil)
        (pss_one (ps_ret (pv 0)))), ⟨_, rfl, _, _, _, _, false, rfl, .ty "list", ty _, kit_ty k1, false, rfl, if_f rfl ⟨_, rfl, _, _, _, _, false, rfl, .ty "tuple", ty _, kit_ty k2, false, rfl, if_f rfl ⟨_, rfl, kk _ [] _ (Evl.Ex.refl _) tb List.nodup_nil⟩⟩⟩⟩
theorem ok_ctS {n k : Nat} {f : Addr} {fd : FuncData} (F : Fun K "copied" "copied" s_copied f fd) (T : T5 mg) (c0 : Cal P w K mg base k "copied" p_copied (spCt n)) : FnOk P w K mg base CX0 (k + 1) f fd p_copied (spCt (n + 1)) := by
  refine F.ok sc_copied (fun vs H Q E h => ?_) (fun cdv A outer s H vs Q E hr h => ?_)
  · obtain ⟨v, d, rfl, _⟩ := h
    rfl
  · obtain ⟨v, d, rfl, hd, hc, kk⟩ := h
    have nd := sc_copied.nd
    rcases cp_cases hc with nn | ⟨ds, rfl, hl, hcs⟩ | ⟨ds, rfl, hl, hcs⟩
    · obtain ⟨as, tb⟩ := hd.tr hc
      obtain ⟨rfl, t, k1, k2, ty⟩ := ls_base (K := K) tb nn
      have tb : TrD (Nw H H) v d [] := by
        cases tb with
        | non => exact .non
        | bl b => exact .bl b
        | int i => exact .int i
        | str x => exact .str x
        | tup h1 h2 => exact absurd rfl (nn _).2
      exact ⟨_, pss_cons (ps_if (pt_val (pe_callB call_isi (by rfl) T.isi (by decide +kernel) (pa_cons (pv 0) (pa_cons (pe_bltn (v := .ty "list") (by rfl) T.lst (by decide +kernel) rfl) pa_nil)))) (pss_one ps_never) pss_nil)
        (pss_cons (ps_if (pt_val (pe_callB call_isi (by rfl) T.isi (by decide +kernel) (pa_cons (pv 0) (pa_cons (pe_bltn (v := .ty "tuple") (by rfl) T.tup (by decide +kernel) rfl) pa_nil)))) (pss_one ps_never) pss_nil)
        (pss_one (ps_ret (pv 0)))), ⟨_, rfl, _, _, _, _, false, rfl, .ty "list", ty _, kit_ty k1, false, rfl, if_f rfl ⟨_, rfl, _, _, _, _, false, rfl, .ty "tuple", ty _, kit_ty k2, false, rfl, if_f rfl ⟨_, rfl, kk _ [] _ (Evl.Ex.refl _) tb List.nodup_nil⟩⟩⟩⟩
    · cases hd with
      | @lst a xs _ ha hds =>
      refine ⟨_, pss_cons (ps_if (pt_val (pe_callB call_isi (by rfl) T.isi (by decide +kernel) (pa_cons (pv 0) (pa_cons (pe_bltn (v := .ty "list") (by rfl) T.lst (by decide +kernel) rfl) pa_nil))))
          (pss_one (ps_ret (pe_lc (own := [("part", 1)]) (g := gName 1) (tt := tYes) (te := tCall (spCt n) [] E0 (tCons (tVar 1) tNil)) rfl nd (pi_list (pv 0)) (blkOk_by (N := n_copied) (sc := defScope s_copied) (by decide +kernel)) (fun _ _ _ _ _ => pg_name (i := 1) nd rfl (Or.inl rfl)) (fun _ _ _ _ _ => pts_nil)
            (fun _ _ _ _ _ => pe_c c0 hr (pa_cons (pv 1) pa_nil))))) pss_nil)
        (pss_cons ps_never (pss_one ps_never)), ?_⟩
      refine ⟨_, rfl, _, _, _, _, true, rfl, .ty "list", .base (.lst ha), kit_ty (by decide +kernel), true, rfl, if_t rfl ?_⟩
      have hlen := hds.len
      refine ⟨_, rfl, a, rfl, ⟨_, SqL.of ha⟩, fun D hD => lc_list (xs := xs) (fun i H' => Evl.Ex H H' ∧ ∃ acc bs, H' D = some (.lst acc) ∧ TrA (Nw H (woD D H')) acc (ds.take i) bs ∧ bs.Nodup) ⟨Evl.Ex.new hD, [], [], upd_same, .nil, List.nodup_nil⟩ (fun i H' _ q => SqL.of (q.1 _ _ ha)) ?_ ?_⟩
      · rintro i x H2 hi ⟨e2, acc, bs, hD2, hacc, hnd⟩
        obtain ⟨d, hdi, hdx⟩ := hds.get hi
        refine ⟨rfl, ?_⟩
        show tCall (spCt n) [] E0 (tCons (tVar 1) tNil) _ _ _
        refine ⟨_, rfl, x, d, rfl, hdx.go e2, hcs d (List.mem_of_getElem? hdi), fun v' as' H3 e3 hv' hn' => ⟨acc, e3 _ _ hD2, ?_, Evl.Ex.mut (e2.trans e3) hD, _, bs ++ as', upd_same, ?_, turn_nd hcs (List.mem_of_getElem? hdi) hacc hnd hv' hn'⟩⟩
        · have h1 := hacc.dq.len
          rw [List.length_take] at h1
          exact Nat.lt_of_le_of_lt (show acc.length ≤ 100 by omega) (by decide)
        · rw [ds_take hdi]
          exact (hacc.go (nwd_go e3)).snoc (hv'.go (nwd_new e2 hD2))
      · rintro H2 ⟨e2, acc, bs, hD2, hacc, hnd⟩
        rw [hlen, List.take_length] at hacc
        refine kk _ _ _ e2 (.lst (nw_at hD hD2) (hacc.go fun b o h => nw_at (nw_none h) (woD_some (Nw.ex _ _ h)).2)) (List.nodup_cons.mpr ⟨fun hm => ?_, hnd⟩)
        obtain ⟨ys, h1, _⟩ := hacc.lists hcs D hm
        exact (woD_some (Nw.ex _ _ h1)).1 rfl
    · cases hd with
      | @tup a xs _ ha hds =>
      refine ⟨_, pss_cons (ps_if (pt_val (pe_callB call_isi (by rfl) T.isi (by decide +kernel) (pa_cons (pv 0) (pa_cons (pe_bltn (v := .ty "list") (by rfl) T.lst (by decide +kernel) rfl) pa_nil)))) (pss_one ps_never) pss_nil)
        (pss_cons (ps_if (pt_val (pe_callB call_isi (by rfl) T.isi (by decide +kernel) (pa_cons (pv 0) (pa_cons (pe_bltn (v := .ty "tuple") (by rfl) T.tup (by decide +kernel) rfl) pa_nil))))
          (pss_one (ps_ret (pe_callTy call_tuple_of (by rfl) T.tup (by decide +kernel) (pa_cons (pe_lc (own := [("part", 1)]) (g := gName 1) (tt := tYes) (te := tCall (spCt n) [] E0 (tCons (tVar 1) tNil)) rfl nd (pi_tup (pv 0)) (blkOk_by (N := n_copied) (sc := defScope s_copied) (by decide +kernel)) (fun _ _ _ _ _ => pg_name (i := 1) nd rfl (Or.inl rfl)) (fun _ _ _ _ _ => pts_nil)
            (fun _ _ _ _ _ => pe_c c0 hr (pa_cons (pv 1) pa_nil))) pa_nil)))) pss_nil)
        (pss_one ps_never)), ?_⟩
      refine ⟨_, rfl, _, _, _, _, false, rfl, .ty "list", .base (.tup ha), kit_ty (by decide +kernel), false, rfl, if_f rfl ?_⟩
      refine ⟨_, rfl, _, _, _, _, true, rfl, .ty "tuple", .base (.tup ha), kit_ty (by decide +kernel), true, rfl, if_t rfl ?_⟩
      have hlen := hds.len
      refine ⟨_, rfl, a, rfl, ⟨_, SqT.of ha⟩, fun D hD => lc_tup (xs := xs) (fun i H' => Evl.Ex H H' ∧ ∃ acc bs, H' D = some (.lst acc) ∧ TrA (Nw H (woD D H')) acc (ds.take i) bs ∧ bs.Nodup) ⟨Evl.Ex.new hD, [], [], upd_same, .nil, List.nodup_nil⟩ (fun i H' _ q => SqT.of (q.1 _ _ ha)) ?_ ?_⟩
      · rintro i x H2 hi ⟨e2, acc, bs, hD2, hacc, hnd⟩
        obtain ⟨d, hdi, hdx⟩ := hds.get hi
        refine ⟨rfl, ?_⟩
        show tCall (spCt n) [] E0 (tCons (tVar 1) tNil) _ _ _
        refine ⟨_, rfl, x, d, rfl, hdx.go e2, hcs d (List.mem_of_getElem? hdi), fun v' as' H3 e3 hv' hn' => ⟨acc, e3 _ _ hD2, ?_, Evl.Ex.mut (e2.trans e3) hD, _, bs ++ as', upd_same, ?_, turn_nd hcs (List.mem_of_getElem? hdi) hacc hnd hv' hn'⟩⟩
        · have h1 := hacc.dq.len
          rw [List.length_take] at h1
          exact Nat.lt_of_le_of_lt (show acc.length ≤ 100 by omega) (by decide)
        · rw [ds_take hdi]
          exact (hacc.go (nwd_go e3)).snoc (hv'.go (nwd_new e2 hD2))
      · rintro H2 ⟨e2, acc, bs, hD2, hacc, hnd⟩
        rw [hlen, List.take_length] at hacc
        refine ⟨D, _, rfl, .inl ⟨SqL.of hD2, fun l hl2 => ?_⟩⟩
        have e3 := Evl.Ex.new (o := .tup acc) hl2
        exact kk _ _ _ (e2.trans e3) (.tup (nw_at (Evl.fresh_back e2 hl2) upd_same) (hacc.go fun b o h => nw_at (nw_none h) (e3 _ _ (woD_some (Nw.ex _ _ h)).2))) hnd
theorem ok_lct0 {f : Addr} {fd : FuncData} (F : Fun K "_law_pv_copied" "_law_pv_copied" s_l_copied f fd) (T : T5 mg) : FnOk P w K mg base CX0 1 f fd p_l_copied (spCt 0) := by
  refine F.ok sc_l_copied (fun vs H Q E h => ?_) (fun cdv A outer s H vs Q E hr h => ?_)
  · obtain ⟨v, d, rfl, _⟩ := h
    rfl
  · obtain ⟨v, d, rfl, hd, hc, kk⟩ := h
    obtain ⟨as, tb⟩ := hd.tr hc
    obtain ⟨rfl, t, k1, k2, ty⟩ := ls_base (K := K) tb fun ds => ⟨(fun z => (by subst z; cases hc)), (fun z => (by subst z; cases hc))⟩
    have tb : TrD (Nw H H) v d [] := by
      cases tb with
      | non => exact .non
      | bl b => exact .bl b
      | int i => exact .int i
      | str x => exact .str x
      | tup h1 h2 => cases hc
    exact ⟨_, pss_cons (ps_if (pt_val (pe_callB call_isi (by rfl) T.isi (by decide +kernel) (pa_cons (pv 0) (pa_cons (pe_bltn (v := .ty "list") (by rfl) T.lst (by decide +kernel) rfl) pa_nil)))) (pss_one ps_never) pss_nil)
        (pss_cons (ps_if (pt_val (pe_callB call_isi (by rfl) T.isi (by decide +kernel) (pa_cons (pv 0) (pa_cons (pe_bltn (v := .ty "tuple") (by rfl) T.tup (by decide +kernel) rfl) pa_nil)))) (pss_one ps_never) pss_nil)
        (pss_one (ps_ret (pv 0)))), ⟨_, rfl, _, _, _, _, false, rfl, .ty "list", ty _, kit_ty k1, false, rfl, if_f rfl ⟨_, rfl, _, _, _, _, false, rfl, .ty "tuple", ty _, kit_ty k2, false, rfl, if_f rfl ⟨_, rfl, kk _ [] _ (Evl.Ex.refl _) tb List.nodup_nil⟩⟩⟩⟩
theorem ok_lctS {n k : Nat} {f : Addr} {fd : FuncData} (F : Fun K "_law_pv_copied" "_law_pv_copied" s_l_copied f fd) (T : T5 mg) (c0 : Cal P w K mg base k "_law_pv_copied" p_l_copied (spCt n)) : FnOk P w K mg base CX0 (k + 1) f fd p_l_copied (spCt (n + 1)) := by
  refine F.ok sc_l_copied (fun vs H Q E h => ?_) (fun cdv A outer s H vs Q E hr h => ?_)
  · obtain ⟨v, d, rfl, _⟩ := h
    rfl
  · obtain ⟨v, d, rfl, hd, hc, kk⟩ := h
    have nd := sc_l_copied.nd
    rcases cp_cases hc with nn | ⟨ds, rfl, hl, hcs⟩ | ⟨ds, rfl, hl, hcs⟩
    · obtain ⟨as, tb⟩ := hd.tr hc
      obtain ⟨rfl, t, k1, k2, ty⟩ := ls_base (K := K) tb nn
      have tb : TrD (Nw H H) v d [] := by
        cases tb with
        | non => exact .non
        | bl b => exact .bl b
        | int i => exact .int i
        | str x => exact .str x
        | tup h1 h2 => exact absurd rfl (nn _).2
      exact ⟨_, pss_cons (ps_if (pt_val (pe_callB call_isi (by rfl) T.isi (by decide +kernel) (pa_cons (pv 0) (pa_cons (pe_bltn (v := .ty "list") (by rfl) T.lst (by decide +kernel) rfl) pa_nil)))) (pss_one ps_never) pss_nil)
        (pss_cons (ps_if (pt_val (pe_callB call_isi (by rfl) T.isi (by decide +kernel) (pa_cons (pv 0) (pa_cons (pe_bltn (v := .ty "tuple") (by rfl) T.tup (by decide +kernel) rfl) pa_nil)))) (pss_one ps_never) pss_nil)
        (pss_one (ps_ret (pv 0)))), ⟨_, rfl, _, _, _, _, false, rfl, .ty "list", ty _, kit_ty k1, false, rfl, if_f rfl ⟨_, rfl, _, _, _, _, false, rfl, .ty "tuple", ty _, kit_ty k2, false, rfl, if_f rfl ⟨_, rfl, kk _ [] _ (Evl.Ex.refl _) tb List.nodup_nil⟩⟩⟩⟩
    · cases hd with
      | @lst a xs _ ha hds =>
      refine ⟨_, pss_cons (ps_if (pt_val (pe_callB call_isi (by rfl) T.isi (by decide +kernel) (pa_cons (pv 0) (pa_cons (pe_bltn (v := .ty "list") (by rfl) T.lst (by decide +kernel) rfl) pa_nil))))
          (pss_one (ps_ret (pe_lc (own := [("part", 1)]) (g := gName 1) (tt := tYes) (te := tCall (spCt n) [] E0 (tCons (tVar 1) tNil)) rfl nd (pi_list (pv 0)) (blkOk_by (N := n_l_copied) (sc := defScope s_l_copied) (by decide +kernel)) (fun _ _ _ _ _ => pg_name (i := 1) nd rfl (Or.inl rfl)) (fun _ _ _ _ _ => pts_nil)
            (fun _ _ _ _ _ => pe_c c0 hr (pa_cons (pv 1) pa_nil))))) pss_nil)
        (pss_cons ps_never (pss_one ps_never)), ?_⟩
      refine ⟨_, rfl, _, _, _, _, true, rfl, .ty "list", .base (.lst ha), kit_ty (by decide +kernel), true, rfl, if_t rfl ?_⟩
      have hlen := hds.len
      refine ⟨_, rfl, a, rfl, ⟨_, SqL.of ha⟩, fun D hD => lc_list (xs := xs) (fun i H' => Evl.Ex H H' ∧ ∃ acc bs, H' D = some (.lst acc) ∧ TrA (Nw H (woD D H')) acc (ds.take i) bs ∧ bs.Nodup) ⟨Evl.Ex.new hD, [], [], upd_same, .nil, List.nodup_nil⟩ (fun i H' _ q => SqL.of (q.1 _ _ ha)) ?_ ?_⟩
      · rintro i x H2 hi ⟨e2, acc, bs, hD2, hacc, hnd⟩
        obtain ⟨d, hdi, hdx⟩ := hds.get hi
        refine ⟨rfl, ?_⟩
        show tCall (spCt n) [] E0 (tCons (tVar 1) tNil) _ _ _
        refine ⟨_, rfl, x, d, rfl, hdx.go e2, hcs d (List.mem_of_getElem? hdi), fun v' as' H3 e3 hv' hn' => ⟨acc, e3 _ _ hD2, ?_, Evl.Ex.mut (e2.trans e3) hD, _, bs ++ as', upd_same, ?_, turn_nd hcs (List.mem_of_getElem? hdi) hacc hnd hv' hn'⟩⟩
        · have h1 := hacc.dq.len
          rw [List.length_take] at h1
          exact Nat.lt_of_le_of_lt (show acc.length ≤ 100 by omega) (by decide)
        · rw [ds_take hdi]
          exact (hacc.go (nwd_go e3)).snoc (hv'.go (nwd_new e2 hD2))
      · rintro H2 ⟨e2, acc, bs, hD2, hacc, hnd⟩
        rw [hlen, List.take_length] at hacc
        refine kk _ _ _ e2 (.lst (nw_at hD hD2) (hacc.go fun b o h => nw_at (nw_none h) (woD_some (Nw.ex _ _ h)).2)) (List.nodup_cons.mpr ⟨fun hm => ?_, hnd⟩)
        obtain ⟨ys, h1, _⟩ := hacc.lists hcs D hm
        exact (woD_some (Nw.ex _ _ h1)).1 rfl
    · cases hd with
      | @tup a xs _ ha hds =>
      refine ⟨_, pss_cons (ps_if (pt_val (pe_callB call_isi (by rfl) T.isi (by decide +kernel) (pa_cons (pv 0) (pa_cons (pe_bltn (v := .ty "list") (by rfl) T.lst (by decide +kernel) rfl) pa_nil)))) (pss_one ps_never) pss_nil)
        (pss_cons (ps_if (pt_val (pe_callB call_isi (by rfl) T.isi (by decide +kernel) (pa_cons (pv 0) (pa_cons (pe_bltn (v := .ty "tuple") (by rfl) T.tup (by decide +kernel) rfl) pa_nil))))
          (pss_one (ps_ret (pe_callTy call_tuple_of (by rfl) T.tup (by decide +kernel) (pa_cons (pe_lc (own := [("part", 1)]) (g := gName 1) (tt := tYes) (te := tCall (spCt n) [] E0 (tCons (tVar 1) tNil)) rfl nd (pi_tup (pv 0)) (blkOk_by (N := n_l_copied) (sc := defScope s_l_copied) (by decide +kernel)) (fun _ _ _ _ _ => pg_name (i := 1) nd rfl (Or.inl rfl)) (fun _ _ _ _ _ => pts_nil)
            (fun _ _ _ _ _ => pe_c c0 hr (pa_cons (pv 1) pa_nil))) pa_nil)))) pss_nil)
        (pss_one ps_never)), ?_⟩
      refine ⟨_, rfl, _, _, _, _, false, rfl, .ty "list", .base (.tup ha), kit_ty (by decide +kernel), false, rfl, if_f rfl ?_⟩
      refine ⟨_, rfl, _, _, _, _, true, rfl, .ty "tuple", .base (.tup ha), kit_ty (by decide +kernel), true, rfl, if_t rfl ?_⟩
      have hlen := hds.len
      refine ⟨_, rfl, a, rfl, ⟨_, SqT.of ha⟩, fun D hD => lc_tup (xs := xs) (fun i H' => Evl.Ex H H' ∧ ∃ acc bs, H' D = some (.lst acc) ∧ TrA (Nw H (woD D H')) acc (ds.take i) bs ∧ bs.Nodup) ⟨Evl.Ex.new hD, [], [], upd_same, .nil, List.nodup_nil⟩ (fun i H' _ q => SqT.of (q.1 _ _ ha)) ?_ ?_⟩
      · rintro i x H2 hi ⟨e2, acc, bs, hD2, hacc, hnd⟩
        obtain ⟨d, hdi, hdx⟩ := hds.get hi
        refine ⟨rfl, ?_⟩
        show tCall (spCt n) [] E0 (tCons (tVar 1) tNil) _ _ _
        refine ⟨_, rfl, x, d, rfl, hdx.go e2, hcs d (List.mem_of_getElem? hdi), fun v' as' H3 e3 hv' hn' => ⟨acc, e3 _ _ hD2, ?_, Evl.Ex.mut (e2.trans e3) hD, _, bs ++ as', upd_same, ?_, turn_nd hcs (List.mem_of_getElem? hdi) hacc hnd hv' hn'⟩⟩
        · have h1 := hacc.dq.len
          rw [List.length_take] at h1
          exact Nat.lt_of_le_of_lt (show acc.length ≤ 100 by omega) (by decide)
        · rw [ds_take hdi]
          exact (hacc.go (nwd_go e3)).snoc (hv'.go (nwd_new e2 hD2))
      · rintro H2 ⟨e2, acc, bs, hD2, hacc, hnd⟩
        rw [hlen, List.take_length] at hacc
        refine ⟨D, _, rfl, .inl ⟨SqL.of hD2, fun l hl2 => ?_⟩⟩
        have e3 := Evl.Ex.new (o := .tup acc) hl2
        exact kk _ _ _ (e2.trans e3) (.tup (nw_at (Evl.fresh_back e2 hl2) upd_same) (hacc.go fun b o h => nw_at (nw_none h) (e3 _ _ (woD_some (Nw.ex _ _ h)).2))) hnd
end
end V2


namespace V2
open PySem L2
open PySem.Spec PyProof.Rows
def CalX (P : Program) (w : World) (K : PySem.W.Frag) (mg : Str → Option Value) (base : Heap) (k : Nat) (x : Str) (ps : List Str) (sp : Sp) : Prop :=
  ∃ (f : Addr) (fd : FuncData), FnOk P w K mg base (L2.CX P w) k f fd ps sp ∧ mg x = some (.ref f) ∧ PySem.W.keepIn K (.ref f) = true ∧ Binds K fd ps []
theorem pe_cx {X : Cx} {k : Nat} {x : Str} {ps : List Str} {sp : Sp} {E : XK} {W : WX} {e : Expr} {es : List Expr} {t : TA} {p pos : Pos} (c : CalX X.prog X.w X.K X.mg X.base k x ps sp) (hr : Room k X.A) (tk : Takes X W) (hW : ∀ cls d σ H, E cls d H → W cls d σ H) (ha : PA X (e :: es) t) (hg : Gl X x := by rfl)
    (he : starEach (e :: es) X.env = (false, eval e X.env) :: starEach es X.env := by rfl) (hpl : (backTo pos (starEach es X.env)).any (fun z => z.1) = false := by rfl) (hdb : (x == ("__debug__" : Str)) = false := by decide) : PE X (.Call (.Name x p) (e :: es) [] pos) (tCall sp [] E t) := by
  obtain ⟨f, fd, F, hm, hk, hb⟩ := c
  exact pe_call F hr hg hm hk hb .nil (passes_call tk hW) ha hdb he hpl
theorem nw_ofEx {H H1 H3 : Hp} (e : Evl.Ex H H1) {b : Addr} {o : HO} (z : Nw H1 H3 b = some o) : Nw H H3 b = some o := nw_at (Evl.fresh_back e (nw_none z)) (Nw.ex _ _ z)
section
variable {base : Heap} {mg : Str → Option Value} {K : PySem.W.Frag} {w : World} {P : Program} {CS CT CF fI : Addr}
end
end V2


namespace V2
open PySem L2
open PySem.Spec PyProof.Rows
def partD : Deed → Option (Int × Int)
  | .sc _ p q => some (p, q)
  | .mv _ _ p q => some (p, q)
  | _ => none
/-- how a step is refused, if it is -/
inductive Flt where
  | ok
  | step
  | tank (k : Int)
  | part (p q : Int)
theorem BAt.dq {H : Hp} {a : Addr} {d : Bent} (h : BAt H a d) : Dq H (.ref a) (dB d) := by
  cases d with
  | nil => exact .tup (show H a = some (.tup []) from h) .nil
  | de d => exact dat_dq h
  | bad x ds =>
    obtain ⟨vs, h1, h2⟩ := h
    exact .tup h1 (.cons (.str x) h2)
theorem BAt.ex {H H' : Hp} {a : Addr} {d : Bent} (h : BAt H a d) (e : Evl.Ex H H') : BAt H' a d := by
  cases d with
  | nil => exact e _ _ h
  | de d => exact DAt.ex h e
  | bad x ds =>
    obtain ⟨vs, h1, h2⟩ := h
    exact ⟨vs, e _ _ h1, DqAll.go h2 e⟩
def PBn (d : Bent) : Prop := match d with
  | .de d => ∀ p q, partD d = some (p, q) → Bn 50 p ∧ Bn 50 q
  | _ => True
/-- the error of class C with the value y -/
def Rz (C : Addr) (H : Hp) (y : V) (E : XK) : Prop := ∀ (e : Addr) (H' : Hp), H e = none → Evl.Ex H H' → H' e = some (.xd [("value", y)]) → E (.ref C) (some e) H'
section
variable {base : Heap} {mg : Str → Option Value} {K : PySem.W.Frag} {w : World} {P : Program} {CS CT CF fI : Addr}
end
end V2


namespace V2
open PySem L2
open PySem.Spec PyProof.Rows
theorem last_split {α : Type} {l : List α} (h : 0 < l.length) : ∃ a b, l = a ++ [b] := ⟨_, _, (List.dropLast_concat_getLast (List.length_pos_iff.mp h)).symm⟩
section
variable {base : Heap} {mg : Str → Option Value} {K : PySem.W.Frag} {w : World} {P : Program} {C fI fC fL fW fE pE : Addr}
end
end V2


namespace V2
open PySem L2
open PySem.Spec PyProof.Rows
/-- a script stands at x -/
def ScAt (H : Hp) (C x : Addr) (ts : List Tk) (ds : List Deed) : Prop := ∃ (dx : Addr) (fs : List (Str × V)) (v u : V), H x = some (.ins C dx fs) ∧ fs.lookup ("_tanks" : Str) = some v ∧ fs.lookup ("_steps" : Str) = some u ∧ Dq H v (.list (ts.map tkD)) ∧ Dq H u (.list (ds.map dD)) ∧ fs = scF v u
theorem ScAt.ex {H H' : Hp} {C x : Addr} {ts : List Tk} {ds : List Deed} (h : ScAt H C x ts ds) (e : Evl.Ex H H') : ScAt H' C x ts ds := by
  obtain ⟨dx, fs, v, u, h1, h2, h3, h4, h5, h6⟩ := h
  exact ⟨dx, fs, v, u, e _ _ h1, h2, h3, h4.go e, h5.go e, h6⟩
/-- where the water stands behind the first i steps -/
abbrev wAt (ts : List Tk) (ds : List Deed) (u b : Int) (i : Nat) : List Int × Int := runA (ts.map (wid u b)) (ts.map (·.2), 1) (ds.take i)
/-- the run ends behind the first n steps; e tells at which step -/
structure EndsAt (ts : List Tk) (ds : List Deed) (u b : Int) (n : Nat) (e : V) : Prop where
  le : n ≤ ds.length
  no : ∀ (j : Nat) (d : Deed), j < n → ds[j]? = some d → endB (ts.map (wid u b)) (wAt ts ds u b j).1 d = false
  at_ : (n = ds.length ∧ e = .non) ∨ ∃ d, ds[n]? = some d ∧ endB (ts.map (wid u b)) (wAt ts ds u b n).1 d = true ∧ e = .int (n : Int)
section
variable {base : Heap} {mg : Str → Option Value} {K : PySem.W.Frag} {w : World} {P : Program} {C fI fC fL fW fE pE : Addr}
end
end V2


namespace V2
open PySem L2
open PySem.Spec PyProof.Rows
theorem DsAt.dq {H : Hp} {l : Addr} {ds : List Deed} (h : DsAt H l ds) : Dq H (.ref l) (.list (ds.map dD)) := by
  obtain ⟨as, h1, h2, h3⟩ := h
  refine .lst h1 (DqAll.of_get (by rw [List.length_map, List.length_map]; exact h2) fun i v d hv hd => ?_)
  rw [List.getElem?_map] at hv hd
  cases e1 : as[i]? with
  | none =>
    rw [e1] at hv
    cases hv
  | some a =>
    cases e2 : ds[i]? with
    | none =>
      rw [e2] at hd
      cases hd
    | some t =>
      rw [e1] at hv
      rw [e2] at hd
      cases hv
      cases hd
      exact dat_dq (h3 i a t e1 e2)
def spCi : Sp := fun vs H Q _ => ∃ (i m : Int), vs = [.int i, .int m] ∧ 0 ≤ i ∧ i < m ∧ Evl.RetV .non H Q
def spCx : Sp := fun vs H Q _ => ∃ (i m : Int), vs = [.int i, .int m] ∧ 0 ≤ i ∧ i + 1 < m ∧ Evl.RetV .non H Q
section
variable {base : Heap} {mg : Str → Option Value} {K : PySem.W.Frag} {w : World} {P : Program} {C fI fT fS pT pS : Addr}
theorem ok_check_index {f : Addr} {fd : FuncData} (F : Fun K "check_index" "check_index" s_check_index f fd) (cA : Cal P w K mg base 2 "is_amount" p_is_amount spAmt) : FnOk P w K mg base CX0 3 f fd p_check_index spCi := by
  refine F.ok sc_check_index (fun vs H Q E h => ?_) (fun cdv A outer s H vs Q E hr h => ?_)
  · obtain ⟨i, m, rfl, _⟩ := h
    rfl
  · obtain ⟨i, m, rfl, i0, i1, k⟩ := h
    refine ⟨_, pss_one (ps_if (PW.pt (pw_or (pt_not (pt_val (pe_c cA hr (pa_cons (pv 0) pa_nil)))) (pw_or1 (pt_cmpR op_ge (pv 0) (pv 1) (nomark _))))) (pss_one ps_never) pss_nil), ?_⟩
    refine ⟨_, rfl, i, rfl, i0, fun H1 e1 => ⟨true, rfl, if_f rfl ?_⟩⟩
    exact ⟨_, rfl, _, rfl, _, _, rfl, rfl, _, rfl, if_f (decide_eq_false (by omega)) (k _ e1)⟩
theorem ok_check_exchange {f : Addr} {fd : FuncData} (F : Fun K "check_exchange" "check_exchange" s_check_exchange f fd) (cI : Cal P w K mg base 3 "check_index" p_check_index spCi) : FnOk P w K mg base CX0 4 f fd p_check_exchange spCx := by
  refine F.ok sc_check_exchange (fun vs H Q E h => ?_) (fun cdv A outer s H vs Q E hr h => ?_)
  · obtain ⟨i, m, rfl, _⟩ := h
    rfl
  · obtain ⟨i, m, rfl, i0, i1, k⟩ := h
    refine ⟨_, pss_cons (ps_expr (pe_c cI hr (pa_cons (pv 0) (pa_cons (pv 1) pa_nil))))
      (pss_one (ps_if (pt_cmpR op_ge (pe_op op_add (pv 0) pe_int) (pv 1) (nomark _)) (pss_one ps_never) pss_nil)), ?_⟩
    refine ⟨_, rfl, _, rfl, i, m, rfl, i0, by omega, fun H1 e1 => ?_⟩
    exact ⟨_, rfl, _, _, rfl, rfl, _, rfl, _, _, rfl, rfl, _, rfl, if_f (decide_eq_false (by omega)) (k _ e1)⟩
end
end V2


namespace V2
open PySem L2
open PySem.Spec PyProof.Rows
/-- the law's state: waters, index, steps done -/
def StAt (H : Hp) (q : Addr) (ds : List Deed) (A : List Int) (W : Int) (v : V) : Prop := ∃ D L, H q = some (.tup [.ref D, v, .ref L]) ∧ PrAt H D (Bh A W) ∧ DsAt H L ds
theorem StAt.ex {H H' : Hp} {q : Addr} {ds : List Deed} {A : List Int} {W : Int} {v : V} (h : StAt H q ds A W v) (e : Evl.Ex H H') : StAt H' q ds A W v := by
  obtain ⟨D, L, h1, h2, h3⟩ := h
  exact ⟨D, L, e _ _ h1, h2.ex e, h3.ex e⟩
/-- objects that are no tuples -/
def Nt (ps : List Addr) (H : Hp) : Prop := ∀ p ∈ ps, (∃ o, H p = some o) ∧ ∀ xs, H p ≠ some (.tup xs)
theorem Nt.ex {ps : List Addr} {H H' : Hp} (h : Nt ps H) (e : Evl.Ex H H') : Nt ps H' := fun p hp => by
  obtain ⟨⟨o, h1⟩, h2⟩ := h p hp
  refine ⟨⟨o, e _ _ h1⟩, fun xs z => h2 xs ?_⟩
  rw [e _ _ h1] at z
  rw [h1, z]
theorem Nt.new {ps : List Addr} {H H' : Hp} {p : Addr} (h : Nt ps H) (e : Evl.Ex H H') (n : H' p = none) : p ∉ ps := fun hp => by
  obtain ⟨⟨o, h1⟩, _⟩ := h p hp
  rw [e _ _ h1] at n
  cases n
theorem Nt.tup {ps : List Addr} {H : Hp} {p : Addr} {xs : List V} (h : Nt ps H) (z : H p = some (.tup xs)) : p ∉ ps := fun hp => (h p hp).2 xs z
theorem woL_go {ps : List Addr} {H H' : Hp} (e : Evl.Ex H H') : Evl.Ex (woL ps H) (woL ps H') := fun b o z => woL_at (woL_ne z) (e _ _ (woL_ex _ _ z))
section
variable {base : Heap} {mg : Str → Option Value} {K : PySem.W.Frag} {w : World} {P : Program}
end
end V2


namespace V2
open PySem L2
open PySem.Spec PyProof.Rows
abbrev wEnd (ts : List Tk) (es : List Deed) (u b : Int) : List Int × Int := wAt ts es u b es.length
def hist (ts : List Tk) (es : List Deed) (u b : Int) : List (List Int × Int) := (List.range es.length).map fun j => wAt ts es u b j
/-- a drawn step that fits -/
def GD (ts : List Tk) (d : Deed) : Prop := okD ts.length d ∧ ∀ k a, d = .po k a → a ≤ 1000
theorem BnAt.ins {C s : Addr} {H : Hp} {x ls lt : Addr} {ts : List Tk} {ds : List Deed} {S : List (List Int × Int)} {A ws : List Int} {W u b : Int} {v : V} (h : BnAt C s H x ls lt ts ds S A ws W u b v) : ∃ dx fs, H x = some (.ins C dx fs) := by
  obtain ⟨⟨dx, lq, g, lw, t, as, bs, h1, _⟩, _, _, _⟩ := h
  exact ⟨_, _, h1⟩
end V2


namespace V2
open PySem L2
open PySem.Spec PyProof.Rows
theorem lay_ints : ∀ ns : List Int, PyData.canLayAll0 (ns.map .int) = true
  | [] => by simp [PyData.canLayAll0]
  | n :: ns => by simp [PyData.canLayAll0, PyData.canLay0, lay_ints ns]
theorem dep_ints : ∀ ns : List Int, PyData.depthAll (ns.map .int) ≤ 1
  | [] => by simp [PyData.depthAll]
  | n :: ns => by
    have := dep_ints ns
    simp [PyData.depthAll, PyData.depth]
    omega
theorem lay_dD (d : Deed) : PyData.canLay0 (dD d) = true ∧ PyData.depth (dD d) ≤ 3 := by
  cases d with
  | op ks =>
    have h1 := lay_ints ks
    have h2 := dep_ints ks
    exact ⟨by simp [dD, PyData.canLay0, PyData.canLayAll0, h1]; decide +kernel, by simp [dD, PyData.depth, PyData.depthAll]; omega⟩
  | po k a => exact ⟨by simp [dD, PyData.canLay0, PyData.canLayAll0]; decide +kernel, by simp [dD, PyData.depth, PyData.depthAll]⟩
  | sc k p q => exact ⟨by simp [dD, PyData.canLay0, PyData.canLayAll0]; decide +kernel, by simp [dD, PyData.depth, PyData.depthAll]⟩
  | mv k m p q => exact ⟨by simp [dD, PyData.canLay0, PyData.canLayAll0]; decide +kernel, by simp [dD, PyData.depth, PyData.depthAll]⟩
  | un k m => exact ⟨by simp [dD, PyData.canLay0, PyData.canLayAll0]; decide +kernel, by simp [dD, PyData.depth, PyData.depthAll]⟩
theorem lay_ds : ∀ es : List Deed, PyData.canLayAll0 (es.map dD) = true ∧ PyData.depthAll (es.map dD) ≤ 3
  | [] => by simp [PyData.canLayAll0, PyData.depthAll]
  | d :: es => by
    obtain ⟨h1, h2⟩ := lay_ds es
    obtain ⟨h3, h4⟩ := lay_dD d
    exact ⟨by simp [PyData.canLayAll0, h1, h3], by simp [PyData.depthAll]; omega⟩
theorem shp_ds (es : List Deed) : SeqAt.shaped (.list (es.map dD)) = true := by
  obtain ⟨h1, h2⟩ := lay_ds es
  simp [SeqAt.shaped, PyData.canLay0, PyData.depth, h1]
  omega
theorem dp_deed {K : PySem.W.Frag} {H : Hp} {a : Addr} {d : Deed} (h : DAt H a d) : Dp K H (.ref a) (dD d) := by
  cases d with
  | op ks =>
    obtain ⟨l, h1, h2⟩ := h
    exact .tup (SqT.of h1) (.cons (.str _) (.cons (.lst (SqL.of h2) (dpI2 ks)) .nil))
  | po k x => exact .tup (SqT.of h) (.cons (.str _) (.cons (.int _) (.cons (.int _) .nil)))
  | sc k p q =>
    obtain ⟨l, h1, h2⟩ := h
    exact .tup (SqT.of h1) (.cons (.str _) (.cons (.int _) (.cons (.tup (SqT.of h2) (.cons (.int _) (.cons (.int _) .nil))) .nil)))
  | mv k m p q =>
    obtain ⟨l, h1, h2⟩ := h
    exact .tup (SqT.of h1) (.cons (.str _) (.cons (.int _) (.cons (.int _) (.cons (.tup (SqT.of h2) (.cons (.int _) (.cons (.int _) .nil))) .nil))))
  | un k m => exact .tup (SqT.of h) (.cons (.str _) (.cons (.int _) (.cons (.int _) .nil)))
where dpI2 {K : PySem.W.Frag} {H : Hp} : ∀ ns : List Int, DpAll K H (iV ns) (ns.map .int)
  | [] => .nil
  | n :: r => .cons (.int n) (dpI2 r)
theorem dp_ds {K : PySem.W.Frag} {H : Hp} {l : Addr} {es : List Deed} (h : DsAt H l es) : Dp K H (.ref l) (.list (es.map dD)) := by
  obtain ⟨as, h1, h2, h3⟩ := h
  refine .lst (SqL.of h1) ?_
  clear h1
  induction as generalizing es with
  | nil =>
    cases es with
    | nil => exact .nil
    | cons d r => cases h2
  | cons a r ih =>
    cases es with
    | nil => cases h2
    | cons d q => exact .cons (dp_deed (h3 0 a d rfl rfl)) (ih (Nat.succ.inj h2) fun i b e x y => h3 (i + 1) b e x y)
theorem eqv_nil (es : List Deed) : PyData.eqv (.list (es.map dD)) (.list []) = decide (es = []) := by
  cases es with
  | nil => simp [PyData.eqv, PyData.eqvAll]
  | cons d r => simp [PyData.eqv, PyData.eqvAll]
theorem lay_tks : ∀ ts : List Tk, PyData.canLayAll0 (ts.map tkD) = true ∧ PyData.depthAll (ts.map tkD) ≤ 2
  | [] => by simp [PyData.canLayAll0, PyData.depthAll]
  | (none, a) :: ts => by
    obtain ⟨h1, h2⟩ := lay_tks ts
    exact ⟨by simp [tkD, wD, PyData.canLayAll0, PyData.canLay0, h1], by simp [tkD, wD, PyData.depthAll, PyData.depth]; omega⟩
  | (some z, a) :: ts => by
    obtain ⟨h1, h2⟩ := lay_tks ts
    exact ⟨by simp [tkD, wD, PyData.canLayAll0, PyData.canLay0, h1], by simp [tkD, wD, PyData.depthAll, PyData.depth]; omega⟩
theorem shp_tks (ts : List Tk) : SeqAt.shaped (.list (ts.map tkD)) = true := by
  obtain ⟨h1, h2⟩ := lay_tks ts
  simp [SeqAt.shaped, PyData.canLay0, PyData.depth, h1]
  omega
theorem dp_tks {K : PySem.W.Frag} {H : Hp} {l : Addr} {ts : List Tk} (h : TksAt H l ts) : Dp K H (.ref l) (.list (ts.map tkD)) := by
  obtain ⟨as, h1, h2, h3⟩ := h
  refine .lst (SqL.of h1) ?_
  clear h1
  induction as generalizing ts with
  | nil =>
    cases ts with
    | nil => exact .nil
    | cons d r => cases h2
  | cons a r ih =>
    cases ts with
    | nil => cases h2
    | cons d q =>
      refine .cons ?_ (ih (Nat.succ.inj h2) fun i b e x y => h3 (i + 1) b e x y)
      have z := h3 0 a d rfl rfl
      obtain ⟨w, am⟩ := d
      cases w with
      | none => exact .tup (SqT.of z) (.cons .non (.cons (.int _) .nil))
      | some n => exact .tup (SqT.of z) (.cons (.int _) (.cons (.int _) .nil))
theorem eqv_same {d : PyData} (h : SeqAt.shaped d = true) : PyData.eqv d d = true := by
  refine PySem.SeqAt.eqv_refl _ ?_
  unfold SeqAt.shaped at h
  exact (Bool.and_eq_true_iff.mp h).1
section
variable {base : Heap} {mg : Str → Option Value} {K : PySem.W.Frag} {w : World} {P : Program} {B gI gC gL gW gE qE CE fI : Addr}
end
end V2


namespace V2
open PySem L2
open PySem.Spec PyProof.Rows
def tV1E (C : Addr) (a : Addr) (cls : Value) (d : Option Addr) (n : Nat) : TE := fun σ H Q => ∃ (dd : Addr) (fs : List (Str × V)) (v : V), σ[n]? = some (some (.ref a)) ∧ cls = .ref C ∧ d = some dd ∧ H dd = some (.xd fs) ∧ fs.lookup ("value" : Str) = some v ∧ Q v H
section
variable {X : Cx} {C fI a : Addr} {oe : Obj} {cls : Value} {d : Option Addr} {pn : List (Addr × Obj)} {n : Nat} {x : Str} {p1 p2 p3 pos : Pos}
theorem pe_v1E {K : PySem.W.Frag} (hK : X.K = K) (T : EC K C fI) (hz : Zc cls d oe) (hf : ∃ vs, oe.data = .fields vs) (he : PE (X.suite a ((a, oe) :: pn)) (.Name x p1) (tVar n))
    (hb : attributeBase (.Name x p1) "value" (X.suite a ((a, oe) :: pn)).env (eval (.Name x p1) (X.suite a ((a, oe) :: pn)).env) = eval (.Name x p1) (X.suite a ((a, oe) :: pn)).env := by rfl) :
    PE (X.suite a ((a, oe) :: pn)) (.Attribute (.Name x p1) "value" pos) (tV1E C a cls d n) := by
  subst hK
  refine ⟨fun pins s σ H Q I h => ?_⟩
  obtain ⟨dd, fs, v, h3, e1, e2, hx, hv, q⟩ := h
  exact (pe_xf (X := X) (a := a) (C := C) (oe := oe) (cls := cls) (d := d) (pn := pn) (pos := pos) (n := "value") T.xf T.noV hz hf he hb).run pins s σ H Q I ⟨_, h3, rfl, e1, dd, fs, v, e2, hx, hv, q⟩
end
section
variable {base : Heap} {mg : Str → Option Value} {K : PySem.W.Frag} {w : World} {P : Program} {B gI gC gL gW gE qE gU CE CN CT fI : Addr}
end
end V2


namespace V2
open PySem L2
open PySem.Spec PyProof.Rows
def rLenO (C : Addr) (sp : Sp) : List V → Hp → VK → Prop := fun xs H Q => ∃ (a dx : Addr) (fs : List (Str × V)), xs = [.ref a] ∧ H a = some (.ins C dx fs) ∧ sp [.ref a] H (fun v H' => ∃ n : Nat, v = .int (n : Int) ∧ n ≤ 1000000 ∧ Q (.int (n : Int)) H') E0
theorem call_lenO {X : Cx} {k : Nat} {C g : Addr} {fd : FuncData} {ps : List Str} {sp : Sp} (F : FnOk X.prog X.w X.K X.mg X.base CX0 k g fd ps sp) (hs : PySem.W.findIn X.K (.ref C) "__len__" = some (some (.ref g))) (hf : PySem.W.isFn X.K (.ref g) = true) (hb : Binds X.K fd ps []) (hr : Room (k + 1) X.A) : CallR X (.builtin "len") (rLenO C sp) := by
  intro pins s σ H xs us Q I r h
  obtain ⟨a, dx, fs, rfl, ha, hsp⟩ := h
  obtain ⟨u, rfl, ru⟩ : ∃ u, us = [u] ∧ RelV (.ref a) u := by
    cases r with
    | cons ra rb =>
      cases rb
      exact ⟨_, rfl, ra⟩
  obtain rfl : u = Value.ref a := ru
  obtain ⟨mA, J, _⟩ := ins_get I.hok ha
  obtain ⟨od, J, _⟩ := J.look
  refine PySem.Calls.call_function_entry PySem.kind_len PySem.plain_len PySem.entry_len (PySem.args_len1 _) ?_
  unfold Builtin.«len»
  refine wpAny_bind (m := oneArg "len" _) (wpAny_pure ?_)
  refine wpAny_bind (m := callSpecial? (.ref a) (PySem.Str.ofString "__len__")) (PySem.W.special_fn I.kIn J hs (beq_iff_eq.mp hf) ?_)
  have e0 : Env0 X.prog X.w X.K X.mg X.base X.A.in1 X.stack s H := by
    have e := I.env0
    exact ⟨e.frames, e.mod, e.bs, e.bsz, e.funs, e.frf, e.hok, e.bare⟩
  have hl := F.len _ _ _ _ hsp
  have r2 : Vals [V.ref a] [Value.ref a] := .cons rfl .nil
  refine wpAny_call (codeAny_mono (F.run X.A.in1 X.stack s H ⟨[.ref a], []⟩ [.ref a] [.ref a] _ E0 hr.in1 e0 (by
    have := hb s [.ref a] I.kIn (by simpa using hl)
    simpa using this) r2 hsp) fun r s' hq => ?_)
  cases r with
  | error e => exact hq.elim
  | ok fl =>
    cases fl with
    | ret w =>
      obtain ⟨z, H', I', rz, n, ez, hn, q⟩ := I.after hq
      subst ez
      obtain ⟨t, rfl⟩ := rz
      refine wpAny_bind (wpAny_holding (wpAny_pure ?_))
      refine wpAny_bind (wpAny_letGo ?_)
      show wpAny _ _ (if ((n : Nat) : Int) < 0 then _ else _) _ _ _
      rw [if_neg (by omega)]
      show wpAny _ _ (if ((n : Nat) : Int) ≥ 2 ^ 63 then _ else _) _ _ _
      rw [if_neg (by omega)]
      exact wpAny_bind (wpAny_mkInt (wpAny_pure ⟨_, rfl, .int (n : Int), H', I'.tok _, ⟨_, rfl⟩, q⟩))
    | next => exact hq.elim
    | brk => exact hq.elim
    | cont => exact hq.elim
end V2


namespace PySem
section
variable {prog : Program} {w : World} {A : Around} {E : Value → Shared → Prop} {s : Shared}
/-- nobody has set the digits' limit -/
def NoDig (K : PySem.W.Frag) : Prop := PySem.W.nsIn K cStatics "sys.int_max_str_digits" = some none
theorem over_small {K : PySem.W.Frag} (hK : K.In s.heap) (e : NoDig K) {a : Int} (ha : a.natAbs < 10 ^ 4300) {Q : Option Nat → Shared → Prop} (h : Q none s) : wpAny (model prog w) A (Builtin.overDigitLimit? a) Q E s := by
  generalize hP : 10 ^ 4300 = P at ha
  have lo : 2 ^ 12900 ≤ P := hP ▸ PyProof.Rows.pow_lo
  have hi : P ≤ 2 ^ 30000 := hP ▸ PyProof.Rows.pow_hi
  unfold Builtin.overDigitLimit?
  by_cases hs : a.natAbs.log2 < 1920
  · rw [if_pos hs]
    exact wpAny_pure h
  · rw [if_neg hs]
    unfold Builtin.intMaxStrDigits
    refine wpAny_bind (wpAny_bind (PySem.W.looks_nsIn hK e A _ _ s (fun _ _ z => z) ?_))
    refine wpAny_pure ?_
    rw [hP]
    dsimp only
    by_cases hz : a.natAbs.log2 / 30 + 1 > 1000
    · exact absurd (Nat.le_trans hi (PyProof.Rows.le_of_log2 (by decide) (show 30000 ≤ a.natAbs.log2 by omega))) (Nat.not_le_of_lt ha)
    · rw [if_neg hz]
      by_cases h3 : a.natAbs.log2 < 3 * 4300
      · rw [if_pos (by simp [h3])]
        exact wpAny_pure h
      · rw [if_neg (by simp [h3])]
        rw [if_neg (Nat.not_le_of_lt ha)]
        exact wpAny_pure h
theorem gives_int_reprW {K : PySem.W.Frag} (e : NoDig K) {a : Int} {t : Tok} (ha : a.natAbs < 10 ^ 4300) : GivesAt (fun s => K.In s.heap) (Builtin.«int.__repr__» ⟨[.int a t], []⟩) (.str (toString a)) := by
  intro prog w A R s hK h
  unfold Builtin.«int.__repr__»
  show wpAny _ _ (do let r ← Builtin.overDigitLimit? a; _) _ _ s
  refine wpAny_bind (over_small hK e ha ?_)
  exact wpAny_bind (wpAny_mkStr (wpAny_pure h.2) (int_text_fits10 ha))
theorem pyReprObj_intW {K : PySem.W.Frag} (hK : K.In s.heap) (e : NoDig K) {a : Int} {t : Tok} (ha : a.natAbs < 10 ^ 4300) {Q : Value → Shared → Prop} (h : Q (.str (toString a) s.toks) { s with toks := s.toks + 1 }) : wpAny (model prog w) A (pyReprObj (.int a t)) Q E s := by
  have hv : [Value.int a t].any Value.onHeap = false := rfl
  have hT := typeIs_int s a t
  unfold pyReprObj
  simp only [cRoomFor, hv, Bool.false_eq_true, if_false, pure_bind]
  refine wpAny_bind (wpAny_specialOf (name := Str.ofString "__repr__") hT F.slot_int_repr.lookup ?_)
  refine wpAny_bind (m := callSpecialIfBound? (.int a t) (Str.ofString "__repr__")) (wpAny_callSpecialIfBound?_slot (name := Str.ofString "__repr__") hT F.slot_int_repr (call_givesAt F.slot_int_repr hT F.entry_int_repr (F.args_int_repr_1 _) (gives_int_reprW e ha) hK ⟨int_text_fits10 ha, ?_⟩))
  exact wpAny_bind (wpAny_isInstance (T := "str") (b := true) rfl isSubtype_str_str (wpAny_pure h))
theorem ReprK.intW {K : PySem.W.Frag} {h₀ : Heap} (hK : K.In h₀) (e : NoDig K) {a : Int} {t : Tok} (ha : a.natAbs < 10 ^ 4300) (bs : List Addr) (d : Nat) : ReprK prog w bs h₀ d (.int a t) (toString a) := by
  intro n hn A g E s Q _ _ _ hk hQ
  have hn' : n ≤ sizeLine := by omega
  rw [pyReprUnder_leaf (v := .int a t) hn' (fun _ e => nomatch e)]
  unfold pyRepr
  exact wpAny_bind (pyReprObj_intW (PySem.W.Frag.In.keeps hK hk) e ha (wpAny_pure (hQ s.heap _ fun _ _ z => z)))
end
mutual
/-- what may be shown so -/
def WideD : PyData → Prop
  | .none => True
  | .bool _ => True
  | .int n => n.natAbs < 10 ^ 4300
  | .str _ => True
  | .list ds => WideA ds
  | .tuple ds => WideA ds
  | _ => False
def WideA : List PyData → Prop
  | [] => True
  | d :: ds => WideD d ∧ WideA ds
end
section
variable {prog : Program} {w : World} {h₀ : Heap} {K : PySem.W.Frag}
mutual
theorem ReprK.of_readsW (hK : K.In h₀) (e : NoDig K) : ∀ {v : Value} {d : PyData}, ReadsS h₀ v d → WideD d → d.shown.length ≤ sizeLine → ∃ bs, ReadAtMost h₀ d.depth bs ∧ ReprK prog w bs h₀ d.depth v d.shown
  | _, _, .none, _, _ => ⟨[], (fun _ h => nomatch h), by simp only [PyData.shown]; exact .of_is ReprIs.none _ _ _⟩
  | _, _, .bool b, _, _ => ⟨[], (fun _ h => nomatch h), by simp only [PyData.shown]; exact .of_is (ReprIs.bool b) _ _ _⟩
  | _, _, .int i t, hs, _ => ⟨[], (fun _ h => nomatch h), by simp only [PyData.shown]; exact ReprK.intW hK e hs _ _⟩
  | _, _, .str x t, _, hz => ⟨[], (fun _ h => nomatch h), by simp only [PyData.shown]; exact .of_is (ReprIs.str x t (by simpa only [PyData.shown] using hz)) _ _ _⟩
  | _, _, .list (a := a) (vs := vs) (xs := xs) h1 h2 h3 h4, hs, hz => by
    have hz' : (listText (PyData.shownAll xs)).length ≤ sizeLine := by simpa only [PyData.shown] using hz
    obtain ⟨bs, hb, hk⟩ := ReprAllK.of_readsAllW hK e h4 (by simpa only [WideD] using hs) (fun t ht => Nat.le_trans (listText_mem_le ht) hz')
    obtain ⟨_, r4⟩ := h4.reads
    have r : Reads h₀ (.ref a) (.list xs) _ := .list h1 h2 h3 r4
    have hna : a ∉ bs := not_mem_of_deeper r (by simp only [PyData.depth]; omega) hb
    refine ⟨a :: bs, ReadAtMost.cons r (by simp only [PyData.depth]; omega) hb, ?_⟩
    simp only [PyData.depth, PyData.shown]
    obtain ⟨l⟩ := vs
    cases l with
    | nil =>
      have h4' : ReadsAllS h₀ [] xs := h4
      cases h4'
      simp only [PyData.shownAll, listText_nil]
      exact ReprK.listEmpty h1 h2 h3
    | cons x l => exact ReprK.list h1 h2 h3 hna (by simpa using hk.length_eq) (fun i y e => hk.item i y (by simpa using e))
  | _, _, .tuple (a := a) (xs := xs) h1 h2 h3 h4, hs, hz => by
    have hz' : (tupleText (PyData.shownAll xs)).length ≤ sizeLine := by simpa only [PyData.shown] using hz
    obtain ⟨bs, hb, hk⟩ := ReprAllK.of_readsAllW hK e h4 (by simpa only [WideD] using hs) (fun t ht => Nat.le_trans (tupleText_mem_le ht) hz')
    obtain ⟨_, r4⟩ := h4.reads
    have r : Reads h₀ (.ref a) (.tuple xs) _ := .tuple h1 h2 h3 r4
    have hna : a ∉ bs := not_mem_of_deeper r (by simp only [PyData.depth]; omega) hb
    refine ⟨a :: bs, ReadAtMost.cons r (by simp only [PyData.depth]; omega) hb, ?_⟩
    simp only [PyData.depth, PyData.shown]
    exact ReprK.tuple h1 h2 h3 hna hk
  | _, _, .dict h1 h2 h3 hsys h4 h5, hs, hz => by
    simp only [WideD] at hs
theorem ReprAllK.of_readsAllW (hK : K.In h₀) (e : NoDig K) : ∀ {vs : List Value} {ds : List PyData}, ReadsAllS h₀ vs ds → WideA ds → (∀ t ∈ PyData.shownAll ds, t.length ≤ sizeLine) →
    ∃ bs, ReadAtMost h₀ (PyData.depthAll ds) bs ∧ ReprAllK prog w bs h₀ (PyData.depthAll ds) vs (PyData.shownAll ds)
  | _, _, .nil, _, _ => ⟨[], (fun _ h => nomatch h), by simp only [PyData.shownAll]; exact .nil⟩
  | _, _, .cons (d := d) (ds := ds) r rs, hs, hz => by
    have hs' : WideD d ∧ WideA ds := by simpa only [WideA] using hs
    obtain ⟨b1, hb1, k1⟩ := ReprK.of_readsW hK e r hs'.1 (hz _ (by simp only [PyData.shownAll]; exact List.mem_cons_self ..))
    obtain ⟨b2, hb2, k2⟩ := ReprAllK.of_readsAllW hK e rs hs'.2 (fun t ht => hz t (by simp only [PyData.shownAll]; exact List.mem_cons_of_mem _ ht))
    refine ⟨b1 ++ b2, ?_, ?_⟩
    · intro b hm
      simp only [PyData.depthAll]
      rcases List.mem_append.mp hm with hm | hm
      · obtain ⟨d', as', r', hd'⟩ := hb1 b hm
        exact ⟨d', as', r', Nat.le_trans hd' (Nat.le_max_left _ _)⟩
      · obtain ⟨d', as', r', hd'⟩ := hb2 b hm
        exact ⟨d', as', r', Nat.le_trans hd' (Nat.le_max_right _ _)⟩
    · simp only [PyData.depthAll, PyData.shownAll]
      exact .cons ((k1.more fun b hb => List.mem_append_left _ hb).level_le (Nat.le_max_left _ _)) (k2.more_le (fun b hb => List.mem_append_right _ hb) (Nat.le_max_right _ _))
end
theorem showsBy_of_readsW (hK : K.In h₀) (e : NoDig K) {a : Addr} {d : PyData} (r : ReadsS h₀ (.ref a) d) (hs : WideD d) (hsz : d.shown.length ≤ sizeLine) : ∃ T idr, ShowsBy prog w h₀ a d T idr := by
  cases r with
  | list h1 h2 h3 h4 =>
    rename_i o vs n xs
    have hz' : (listText (PyData.shownAll xs)).length ≤ sizeLine := by simpa only [PyData.shown] using hsz
    obtain ⟨bs, hb, hk⟩ := ReprAllK.of_readsAllW (prog := prog) (w := w) hK e h4 (by simpa only [WideD] using hs) (fun t ht => Nat.le_trans (listText_mem_le ht) hz')
    obtain ⟨_, r4⟩ := h4.reads
    have hna : a ∉ bs := not_mem_of_deeper (.list h1 h2 h3 r4) (by simp only [PyData.depth]; omega) hb
    refine ⟨"list", "list.__repr__", F.slot_list_repr.toG, F.slot_list_str, F.slot_list_format, fun s hk0 => ⟨o, hk0 _ _ h1, h2⟩, fun A E s Q hg hu hk0 hQ => ?_⟩
    simp only [PyData.depth] at hu
    simp only [PyData.shown] at hQ
    obtain ⟨l⟩ := vs
    cases l with
    | nil =>
      have h4' : ReadsAllS h₀ [] xs := h4
      cases h4'
      simp only [PyData.shownAll, listText_nil] at hQ
      exact call_list_repr_empty ⟨o, hk0 _ _ h1, h2⟩ (hk0 _ _ h1) h3 (hQ s.heap _ _ fun _ _ e => e)
    | cons x l =>
      exact call_list_reprK h1 h2 h3 hna (by simpa using hk.length_eq) (fun i y e => hk.item i y (by simpa using e)) hg (fun b _ => Clear.nil b) hu hk0 hQ hz'
  | tuple h1 h2 h3 h4 =>
    rename_i o vs n xs
    have hz' : (tupleText (PyData.shownAll xs)).length ≤ sizeLine := by simpa only [PyData.shown] using hsz
    obtain ⟨bs, hb, hk⟩ := ReprAllK.of_readsAllW (prog := prog) (w := w) hK e h4 (by simpa only [WideD] using hs) (fun t ht => Nat.le_trans (tupleText_mem_le ht) hz')
    obtain ⟨_, r4⟩ := h4.reads
    have hna : a ∉ bs := not_mem_of_deeper (.tuple h1 h2 h3 r4) (by simp only [PyData.depth]; omega) hb
    refine ⟨"tuple", "tuple.__repr__", F.slot_tuple_repr, F.slot_tuple_str, F.slot_tuple_format, fun s hk0 => ⟨o, hk0 _ _ h1, h2⟩, fun A E s Q hg hu hk0 hQ => ?_⟩
    simp only [PyData.depth] at hu
    simp only [PyData.shown] at hQ
    exact call_tuple_reprK h1 h2 h3 hna hk hg (fun b _ => Clear.nil b) hu hk0 hQ hz'
  | dict h1 h2 h3 hsys h4 h5 => simp only [WideD] at hs
theorem repr_of_readsW (hK : K.In h₀) (e : NoDig K) {a : Addr} {d : PyData} {A : Around} {E : Value → Shared → Prop} {s : Shared} {Q : Value → Shared → Prop} (r : ReadsS h₀ (.ref a) d) (hs : WideD d) (hg : A.guards = some []) (hu : A.units + (d.depth + 1) < cLine) (hk0 : ∀ b o, h₀.get? b = some o → s.heap.get? b = some o)
    (hQ : ∀ h' u tk, (∀ b o, s.heap.get? b = some o → h'.get? b = some o) → Q (.str d.shown u) { s with heap := h', toks := tk })
    (hsz : d.shown.length ≤ sizeLine) : wpAny (model prog w) A (call (.builtin "repr") [.ref a]) Q E s := by
  obtain ⟨T, idr, S⟩ := showsBy_of_readsW (prog := prog) (w := w) hK e r hs hsz
  exact call_repr_slot (by omega) (S.typeIs s hk0) S.slotRepr (S.call A.in1 E s _ hg (by show A.units + 1 + d.depth < cLine; omega) hk0 fun h' u tk hk => ⟨_, _, rfl, hQ h' u tk hk⟩)
end
end PySem
namespace V2
open PySem L2
open PySem.Spec PyProof.Rows
/-- repr of lists and tuples that are data, with ints of up to 4300 digits -/
def rShowW : List V → Hp → VK → Prop := fun xs H Q => ∃ (a : Addr) (d : PyData), xs = [.ref a] ∧ Dq H (.ref a) d ∧ WideD d ∧ d.depth ≤ 60 ∧ d.shown.length ≤ sizeLine ∧ Q (.str d.shown) H
theorem call_showW {X : Cx} (hN : NoDig X.K) (hgd : X.A.guards = some []) (hu : X.A.units + 64 < cLine) : CallR X (.builtin "repr") rShowW := by
  intro pins s σ H xs us Q I r h
  obtain ⟨a, d, rfl, hd, hs, hp, hz, q⟩ := h
  obtain ⟨u, rfl, ru⟩ : ∃ u, us = [u] ∧ RelV (.ref a) u := by
    cases r with
    | cons ra rb =>
      cases rb
      exact ⟨_, rfl, ra⟩
  have rd := Dq.reads I hd ru
  cases ru
  exact repr_of_readsW I.kIn hN rd hs hgd (by omega) (fun _ _ e => e) (fun h' u tk k => ⟨.str _, H, I.kept (t' := tk) k, ⟨u, rfl⟩, q⟩) hz
end V2


namespace V2
open PySem L2
open PySem.Spec PyProof.Rows
def ShX (d : PyData) : Prop := WideD d ∧ d.depth ≤ 60 ∧ d.shown.length ≤ sizeLine
def spMkW (n : Nat) : Sp := fun vs H Q _ => ∃ (a : Addr) (d : PyData) (as : List Addr), vs = [.ref a] ∧ TrD H (.ref a) d as ∧ Cp n d ∧ as.Nodup ∧ as.length ≤ 1000 ∧ ShX (mkD 0 d) ∧ ∀ H', ButL as H H' → Q (.str (mkD 0 d).shown) H'
def spRtW (n : Nat) : Sp := fun vs H Q _ => ∃ (a b : Addr) (d : PyData) (as : List Addr), vs = [.ref a, .ref b] ∧ TrD H (.ref a) d as ∧ Cp n d ∧ as.Nodup ∧ as.length ≤ 1000 ∧ Dq (woL as H) (.ref b) d ∧ ShX d ∧ ShX (mkD 0 d) ∧ ∀ H', ButL as H H' → Q (.bl true) H'
section
variable {base : Heap} {mg : Str → Option Value} {K : PySem.W.Frag} {w : World} {P : Program}
theorem ok_markedW {n k : Nat} {f : Addr} {fd : FuncData} (F : Fun K "_law_pv_marked" "_law_pv_marked" s_l_marked f fd) (hN : NoDig K) (T : T8 mg) (cL : Cal P w K mg base k "_law_pv_lists" p_l_lists (spLs n)) : FnG P w K mg base (k + 1) f fd p_l_marked (spMkW n) := by
  refine Fun.okG F sc_l_marked (fun vs H Q E h => ?_) (fun cdv A outer s H vs Q E hg hr h => ?_)
  · obtain ⟨v, d, as, rfl, _⟩ := h
    rfl
  · obtain ⟨v, d, as, rfl, hT, hC, hD, hl, ⟨w1, w2, w3⟩, kk⟩ := h
    have nd := sc_l_marked.nd
    refine ⟨_, pss_cons (ps_set (i := 1) nd rfl (Or.inl rfl) (pe_c cL hr (pa_cons (pv 0) pa_nil)))
      (pss_cons (ps_for PassesOwn.never rfl (pi_range1 (by rfl) T.rng (pa_cons (pe_callB call_len_seq (by rfl) T.len PySem.boot_len (pa_cons (pv 1) pa_nil)) pa_nil)) (pg_name (i := 2) nd rfl (Or.inl rfl))
        (pss_one (ps_expr (pe_bm PySem.F.plainAttrs_list PySem.F.slot_list_append PySem.F.type_list_append mt_append (pe_ix ix_list (pv 1) (pv 2) (fun _ _ => rfl)) (pa_cons (pv 2) pa_nil)))))
      (pss_one (ps_ret (pe_callB (call_showW hN hg hr.units) (by rfl) T.rep (by decide +kernel) (pa_cons (pv 0) pa_nil))))), ?_⟩
    refine ⟨_, rfl, .ref v, d, as, rfl, hT, hC, hl, fun q H1 hq e1 h1 => ?_⟩
    have hls := hT.lists hC
    have qn : ∀ x ∈ as, x ≠ q := fun x hx e => by
      obtain ⟨xs, hxs, _⟩ := hls x hx
      rw [e, hq] at hxs
      cases hxs
    refine ⟨_, rfl, q, _, rfl, .inl (SqL.of h1), _, rfl, by omega, ?_, ?_⟩
    · rw [List.length_map]; omega
    rw [Int.toNat_natCast, List.length_map]
    refine for_range (n := as.length) (fun k σ H' => (∃ u, σ = [some (.ref v), some (.ref q), u]) ∧ ButL as H1 H' ∧ H' q = some (.lst (as.map V.ref)) ∧
      ∀ j x xs, as[j]? = some x → H x = some (.lst xs) → H' x = some (.lst (xs ++ if j < k then [.int (j : Int)] else []))) ⟨⟨_, rfl⟩, fun _ _ _ h => h, h1, fun j x xs hj hx => ?_⟩ ?_ ?_
    · rw [if_neg (Nat.not_lt_zero _), List.append_nil]
      exact e1 _ _ hx
    · rintro i σ H' hi ⟨⟨u, rfl⟩, g1, g2, g3⟩
      have hx := List.getElem?_eq_getElem hi
      obtain ⟨xs, hxs, hxl⟩ := hls _ (List.getElem_mem hi)
      have hx3 := g3 i _ xs hx hxs
      rw [if_neg (Nat.lt_irrefl _), List.append_nil] at hx3
      have nq := qn _ (List.getElem_mem hi)
      have e0 : (0 : Int) + (i : Int) = (i : Int) := (Int.zero_add _)
      refine ⟨_, rfl, _, rfl, q, _, _, .ref as[i], rfl, rfl, SqL.of g2, ?_, .inl ⟨rfl, _, SqL.of hx3⟩, _, rfl, _, _, _, rfl, rfl, hx3, ?_, ?_⟩
      · show atI _ ((0 : Int) + (i : Int)) = _
        rw [e0]
        refine atI_nat ?_
        rw [List.getElem?_map, hx]; rfl
      · exact Nat.lt_of_le_of_lt hxl (by decide)
      · refine ⟨⟨_, rfl⟩, fun b o hb h => ?_, ?_, fun j x ys hj hy => ?_⟩
        · rw [upd_ne (fun e => hb (by rw [e]; exact List.getElem_mem hi))]
          exact g1 b o hb h
        · rw [upd_ne nq.symm]; exact g2
        · by_cases e : j = i
          · subst e
            rw [hx] at hj
            cases hj
            rw [hxs] at hy
            cases hy
            rw [upd_same, if_pos (Nat.lt_succ_self _)]
            show some (HO.lst (xs ++ [.int ((0 : Int) + (j : Int))])) = _
            rw [e0]
          · have nx : x ≠ as[i] := by
              intro e2
              have hj2 : j < as.length := (List.getElem?_eq_some_iff.mp hj).1
              have ej : as[j] = x := (List.getElem?_eq_some_iff.mp hj).2
              have := (List.pairwise_iff_getElem.mp hD)
              rcases Nat.lt_or_gt_of_ne e with c | c
              · exact this j i hj2 hi c (by rw [ej, e2])
              · exact this i j hi hj2 c (by rw [ej, e2])
            rw [upd_ne nx, g3 j x ys hj hy]
            by_cases c : j < i
            · rw [if_pos c, if_pos (by omega)]
            · rw [if_neg c, if_neg (by omega)]
    · rintro σ H' ⟨⟨u, rfl⟩, g1, g2, g3⟩
      refine ⟨_, rfl, v, mkD 0 d, rfl, tr_mk (H := H) (H' := H') (fun a xs ha => g1 _ _ (fun m => ?_) (e1 _ _ ha)) hT (fun j a xs hj ha => ?_), w1, w2, w3, kk H' fun b o hb h => g1 b o hb (e1 b o h)⟩
      · obtain ⟨ys, hy, _⟩ := hls _ m
        rw [ha] at hy
        cases hy
      · rw [g3 j a xs hj ha, if_pos (List.getElem?_eq_some_iff.mp hj).1, Nat.zero_add]
theorem dq_ref {H : Hp} {v : V} {d : PyData} {a : Addr} {H0 : Hp} (h : Dq H v d) (k : Dq H0 (.ref a) d) : ∃ b, v = .ref b := by
  cases k with
  | lst _ _ => cases h; exact ⟨_, rfl⟩
  | tup _ _ => cases h; exact ⟨_, rfl⟩
  | dct _ _ => cases h; exact ⟨_, rfl⟩
theorem ok_rightW {n k m : Nat} {f : Addr} {fd : FuncData} (F : Fun K "_law_pv_right" "_law_pv_right" s_l_right f fd) (hN : NoDig K) (T : T8 mg) (cC : Cal P w K mg base k "_law_pv_copied" p_l_copied (spCt n)) (hkm : k ≤ m) (cM : CalG P w K mg base m "_law_pv_marked" p_l_marked (spMkW n)) : FnG P w K mg base (m + 1) f fd p_l_right (spRtW n) := by
  refine Fun.okG F sc_l_right (fun vs H Q E h => ?_) (fun cdv A outer s H vs Q E hg hr h => ?_)
  · obtain ⟨v, u, d, as, rfl, _⟩ := h
    rfl
  · obtain ⟨v, u, d, as, rfl, hT, hC, hD, hl, hU, ⟨t1, t2, t3⟩, hM, kk⟩ := h
    have hmk : Room k _ := hr.mono hkm
    refine ⟨_, pss_cons (ps_if (pt_cmpR op_ne (pe_callB (call_showW hN hg hr.units) (by rfl) T.rep (by decide +kernel) (pa_cons (pv 0) pa_nil)) (pe_callB (call_showW hN hg hr.units) (by rfl) T.rep (by decide +kernel) (pa_cons (pv 1) pa_nil)) (nomark _)) (pss_one (ps_ret pe_bl)) pss_nil)
      (pss_one (ps_ret (pe_cmpR op_eq (pe_cg cM hg hr (pa_cons (pv 0) pa_nil)) (pe_cg cM hg hr (pa_cons (pe_c cC hmk (pa_cons (pv 1) pa_nil)) pa_nil)) (nomark _)))), ?_⟩
    refine ⟨_, rfl, v, d, rfl, hT.dq, t1, t2, t3, _, rfl, u, d, rfl, hU.go woL_ex, t1, t2, t3, rfl, _, rfl, ?_⟩
    refine if_f (by simp) ?_
    refine ⟨_, rfl, v, d, as, rfl, hT, hC, hD, hl, hM, fun H1 o1 => ?_⟩
    have hU1 : Dq H1 (.ref u) d := hU.go fun b o z => o1 b o (woL_ne z) (woL_ex _ _ z)
    refine ⟨_, rfl, .ref u, d, rfl, hU1, hC, fun v' bs H2 e2 hB hnd => ?_⟩
    obtain ⟨b, rfl⟩ := dq_ref hB.dq hU1
    have hbl : bs.length = as.length := by rw [hB.cnt, hT.cnt]
    refine ⟨b, d, bs, rfl, hB.go Nw.ex, hC, hnd, by omega, hM, fun H3 o3 => ⟨rfl, ?_⟩⟩
    show Q (.bl (decide (V.str (mkD 0 d).shown = V.str (mkD 0 d).shown))) H3
    rw [decide_eq_true rfl]
    refine kk H3 fun b o hb h => o3 b o (fun hm => ?_) (e2 b o (o1 b o hb h))
    obtain ⟨xs, hx, _⟩ := hB.lists hC b hm
    have h5 := o1 b o hb h
    rw [nw_none hx] at h5
    cases h5
end
end V2


namespace V2
open PySem L2
open PySem.Spec PyProof.Rows
structure Sx (n B : Nat) (d : PyData) : Prop where
  s : WideD d
  dp : d.depth ≤ n
  l : d.shown.length ≤ B
theorem Sx.le {n m B C : Nat} {d : PyData} (h : Sx n B d) (a : n ≤ m) (b : B ≤ C) : Sx m C d := ⟨h.s, Nat.le_trans h.dp a, Nat.le_trans h.l b⟩
theorem Sx.sh {n B : Nat} {d : PyData} (h : Sx n B d) (a : n ≤ 60) (b : B ≤ 10000000) : ShX d := ⟨h.s, Nat.le_trans h.dp a, Nat.le_trans h.l (Nat.le_trans b (by decide))⟩
theorem sx_int {B : Nat} {n : Int} (h : n.natAbs < 2 ^ B) (b0 : 0 < B) (b1 : B ≤ 12900) : Sx 1 (B + 1) (.int n) := by
  have h4 := PySem.Flt.log2_lt_of b0 h
  refine ⟨?_, by simp [PyData.depth], ?_⟩
  · have h5 : (2 : Nat) ^ B ≤ 2 ^ 12900 := Nat.pow_le_pow_right (by decide) b1
    show n.natAbs < 10 ^ 4300
    exact Nat.lt_of_lt_of_le (Nat.lt_of_lt_of_le h h5) PyProof.Rows.pow_lo
  · show (Str.ofString (toString n)).length ≤ _
    rw [PySem.ofString_length]
    exact int_text_length_le b0 h4
theorem sx_non : Sx 1 10 .none := ⟨trivial, by simp [PyData.depth], by decide⟩
theorem sx_bool (b : Bool) : Sx 1 10 (.bool b) := ⟨trivial, by simp [PyData.depth], by cases b <;> decide⟩
theorem sx_str {x : Str} (h : (PyData.shown (.str x)).length ≤ 10) : Sx 1 10 (.str x) := ⟨trivial, by simp [PyData.depth], h⟩
theorem sx_all {n B : Nat} : ∀ xs : List PyData, (∀ d ∈ xs, Sx n B d) → WideA xs ∧ PyData.depthAll xs ≤ n ∧ ((PyData.shownAll xs).map (·.length)).sum ≤ xs.length * B
  | [], _ => ⟨trivial, by simp [PyData.depthAll], by simp [PyData.shownAll]⟩
  | d :: r, h => by
    obtain ⟨a1, a2, a3⟩ := sx_all r fun x hx => h x (List.mem_cons_of_mem _ hx)
    obtain ⟨b1, b2, b3⟩ := h d List.mem_cons_self
    refine ⟨⟨b1, a1⟩, by simp [PyData.depthAll]; omega, ?_⟩
    simp only [PyData.shownAll, List.map_cons, List.sum_cons, List.length_cons, Nat.succ_mul]
    omega
theorem sx_list {n B : Nat} {xs : List PyData} (h : ∀ d ∈ xs, Sx n B d) : Sx (n + 1) (xs.length * B + 2 * xs.length + 3) (.list xs) := by
  obtain ⟨h1, h2, h3⟩ := sx_all xs h
  have h4 := listText_len_le (PyData.shownAll xs)
  have h5 := PyData.shownAll_length xs
  refine ⟨h1, by simp [PyData.depth]; omega, ?_⟩
  simp only [PyData.shown]
  omega
theorem sx_tup {n B : Nat} {xs : List PyData} (h : ∀ d ∈ xs, Sx n B d) : Sx (n + 1) (xs.length * B + 2 * xs.length + 3) (.tuple xs) := by
  obtain ⟨h1, h2, h3⟩ := sx_all xs h
  have h4 := tupleText_len_le (PyData.shownAll xs)
  have h5 := PyData.shownAll_length xs
  refine ⟨h1, by simp [PyData.depth]; omega, ?_⟩
  simp only [PyData.shown]
  omega
theorem sx_i50 {n : Int} (h : n.natAbs < 2 ^ 50) : Sx 1 60 (.int n) := (sx_int h (by decide) (by decide)).le (Nat.le_refl _) (by decide)
def eD : V → PyData
  | .int i => .int i
  | _ => .none
end V2


namespace V2
open PySem L2
open PySem.Spec PyProof.Rows
theorem Cp.up {n : Nat} {d : PyData} (h : Cp n d) : Cp (n + 1) d := by
  induction h with
  | non => exact .non
  | bl b => exact .bl b
  | int i => exact .int i
  | str x => exact .str x
  | lst h1 h2 ih => exact .lst h1 ih
  | tup h1 h2 ih => exact .tup h1 ih
/-- a property's lists, each in one place alone -/
def spGetT (C : Addr) (n : Nat) (f : Str) : Sp := fun vs H Q _ => ∃ (x dx : Addr) (fs : List (Str × V)) (v : V) (d : PyData), vs = [.ref x] ∧ H x = some (.ins C dx fs) ∧ fs.lookup f = some v ∧ Dq H v d ∧ Cp n d ∧ ∀ v' as H', Evl.Ex H H' → TrD (Nw H H') v' d as → as.Nodup → Q v' H'
section
variable {base : Heap} {mg : Str → Option Value} {K : PySem.W.Frag} {w : World} {P : Program} {B gI gC gL gW gE qE gS gN C fI fT fS pT pS : Addr}
theorem ok_Sc_tanksT {f : Addr} {fd : FuncData} (F : Fun K "tanks" "Script.tanks" s_Sc_tanks f fd) (c : ScC K C fI fT fS pT pS) (c2 : Cal P w K mg base 3 "copied" p_copied (spCt 2)) : FnOk P w K mg base CX0 4 f fd p_Sc_tanks (spGetT C 2 "_tanks") := by
  refine F.ok sc_Sc_tanks (fun vs H Q E h => ?_) (fun cdv A outer s H vs Q E hr h => ?_)
  · obtain ⟨x, dx, fs, v, d, rfl, _⟩ := h
    rfl
  · obtain ⟨x, dx, fs, v, d, rfl, hx, hf, hd, hc, k⟩ := h
    refine ⟨_, pss_one (ps_ret (pe_c c2 hr (pa_cons (pe_fld (pv 0) rfl) pa_nil))), ?_⟩
    exact ⟨_, rfl, x, C, dx, fs, v, rfl, hx, c.cls, c.na1, hf, v, d, rfl, hd, hc, k⟩
theorem ok_Sc_stepsT {f : Addr} {fd : FuncData} (F : Fun K "steps" "Script.steps" s_Sc_steps f fd) (c : ScC K C fI fT fS pT pS) (c3 : Cal P w K mg base 4 "copied" p_copied (spCt 3)) : FnOk P w K mg base CX0 5 f fd p_Sc_steps (spGetT C 3 "_steps") := by
  refine F.ok sc_Sc_steps (fun vs H Q E h => ?_) (fun cdv A outer s H vs Q E hr h => ?_)
  · obtain ⟨x, dx, fs, v, d, rfl, _⟩ := h
    rfl
  · obtain ⟨x, dx, fs, v, d, rfl, hx, hf, hd, hc, k⟩ := h
    refine ⟨_, pss_one (ps_ret (pe_c c3 hr (pa_cons (pe_fld (pv 0) rfl) pa_nil))), ?_⟩
    exact ⟨_, rfl, x, C, dx, fs, v, rfl, hx, c.cls, c.na2, hf, v, d, rfl, hd, hc, k⟩
end
end V2


namespace V2
open PySem L2
open PySem.Spec PyProof.Rows
section
variable {base : Heap} {mg : Str → Option Value} {K : PySem.W.Frag} {w : World} {P : Program}
end
theorem DqAll.take {H : Hp} : ∀ {vs : List V} {ds : List PyData} (n : Nat), DqAll H vs ds → DqAll H (vs.take n) (ds.take n)
  | _, _, 0, _ => .nil
  | _, _, _ + 1, .nil => .nil
  | _, _, n + 1, .cons a b => .cons a (DqAll.take n b)
section
variable {base : Heap} {mg : Str → Option Value} {K : PySem.W.Frag} {w : World} {P : Program}
end
end V2


namespace V2
open PySem L2
open PySem.Spec PyProof.Rows
mutual
theorem Dq.dp {K : PySem.W.Frag} {H : Hp} : ∀ {n : Nat} {d : PyData} {v : V}, Dq H v d → Cp n d → Dp K H v d
  | _, _, _, .non, _ => .non
  | _, _, _, .bl b, _ => .bl b
  | _, _, _, .int i, _ => .int i
  | _, _, _, .str x, _ => .str x
  | _, _, _, .lst h r, .lst _ c => .lst (SqL.of h) (DqAll.dp r c)
  | _, _, _, .tup h r, .tup _ c => .tup (SqT.of h) (DqAll.dp r c)
theorem DqAll.dp {K : PySem.W.Frag} {H : Hp} : ∀ {n : Nat} {ds : List PyData} {vs : List V}, DqAll H vs ds → (∀ d ∈ ds, Cp n d) → DpAll K H vs ds
  | _, _, _, .nil, _ => .nil
  | _, _, _, .cons a b, c => .cons (Dq.dp a (c _ List.mem_cons_self)) (DqAll.dp b fun d h => c d (List.mem_cons_of_mem _ h))
end
def g5 : Deed → Bool
  | .po _ a => decide (0 ≤ a)
  | .mv k m _ _ => decide (k ≠ m)
  | .un k m => decide (k ≠ m)
  | _ => true
section
variable {base : Heap} {mg : Str → Option Value} {K : PySem.W.Frag} {w : World} {P : Program}
end
end V2


namespace V2
open PySem L2
open PySem.Spec PyProof.Rows
inductive Lw : List Nat → PyData → Prop
  | non {l : List Nat} : Lw l .none
  | int {l : List Nat} {i : Int} : i.natAbs < 2 ^ 50 → Lw l (.int i)
  | str {l : List Nat} {x : Str} : (PyData.shown (.str x)).length ≤ 10 → Lw l (.str x)
  | lst {L : Nat} {l : List Nat} {ds : List PyData} : ds.length ≤ L → (∀ d ∈ ds, Lw l d) → Lw (L :: l) (.list ds)
  | tup {L : Nat} {l : List Nat} {ds : List PyData} : ds.length ≤ L → (∀ d ∈ ds, Lw l d) → Lw (L :: l) (.tuple ds)
def LwB : List Nat → Nat
  | [] => 60
  | L :: l => L * LwB l + 2 * L + 60
def LwC : List Nat → Nat
  | [] => 0
  | L :: l => 1 + L * LwC l
theorem lwB_60 : ∀ l, 60 ≤ LwB l
  | [] => Nat.le_refl _
  | L :: l => Nat.le_add_left _ _
theorem Lw.sx {l : List Nat} {d : PyData} (h : Lw l d) : Sx (l.length + 1) (LwB l) d := by
  induction h with
  | @non l => exact sx_non.le (by omega) (Nat.le_trans (by decide) (lwB_60 l))
  | @int l i h => exact (sx_i50 h).le (by omega) (lwB_60 l)
  | @str l x h => exact (sx_str h).le (by omega) (Nat.le_trans (by decide) (lwB_60 l))
  | @lst L l ds h1 h2 ih => exact (sx_list ih).le (Nat.le_refl _) (by
      have := Nat.mul_le_mul_right (LwB l) h1
      show _ ≤ L * LwB l + 2 * L + 60
      omega)
  | @tup L l ds h1 h2 ih => exact (sx_tup ih).le (Nat.le_refl _) (by
      have := Nat.mul_le_mul_right (LwB l) h1
      show _ ≤ L * LwB l + 2 * L + 60
      omega)
theorem Lw.cp {l : List Nat} {d : PyData} (h : Lw l d) (hl : ∀ L ∈ l, L ≤ 100) : Cp l.length d := by
  induction h with
  | non => exact .non
  | int h => exact .int _
  | str h => exact .str _
  | lst h1 h2 ih => exact .lst (Nat.le_trans h1 (hl _ List.mem_cons_self)) fun d hd => ih d hd fun L hL => hl L (List.mem_cons_of_mem _ hL)
  | tup h1 h2 ih => exact .tup (Nat.le_trans h1 (hl _ List.mem_cons_self)) fun d hd => ih d hd fun L hL => hl L (List.mem_cons_of_mem _ hL)
theorem cntA_le {n : Nat} : ∀ {ds : List PyData}, (∀ d ∈ ds, cntD d ≤ n) → cntA ds ≤ ds.length * n
  | [], _ => by simp [cntA]
  | d :: r, h => by
    have h1 := h d List.mem_cons_self
    have h2 := cntA_le (ds := r) fun x hx => h x (List.mem_cons_of_mem _ hx)
    simp only [cntA, List.length_cons, Nat.succ_mul]
    omega
theorem Lw.cnt {l : List Nat} {d : PyData} (h : Lw l d) : cntD d ≤ LwC l := by
  induction h with
  | non => simp [cntD]
  | int h => simp [cntD]
  | str h => simp [cntD]
  | @lst L l ds h1 h2 ih =>
    have h3 := cntA_le ih
    have := Nat.mul_le_mul_right (LwC l) h1
    show cntD (.list ds) ≤ 1 + L * LwC l
    simp only [cntD]
    omega
  | @tup L l ds h1 h2 ih =>
    have h3 := cntA_le ih
    have := Nat.mul_le_mul_right (LwC l) h1
    show cntD (.tuple ds) ≤ 1 + L * LwC l
    simp only [cntD]
    omega
theorem mkA_len2 : ∀ (ds : List PyData) (k : Nat), (mkA k ds).length = ds.length
  | [], _ => by simp [mkA]
  | d :: r, k => by simp [mkA, mkA_len2 r]
theorem mkA_all {C : PyData → Prop} {N : Nat} : ∀ {ds : List PyData} {k : Nat}, (∀ d ∈ ds, ∀ k, k + cntD d ≤ N → C (mkD k d)) → k + cntA ds ≤ N → ∀ x ∈ mkA k ds, C x
  | [], k, _, _, x, hx => by simp [mkA] at hx
  | d :: r, k, h, hk, x, hx => by
    simp only [cntA] at hk
    simp only [mkA, List.mem_cons] at hx
    rcases hx with rfl | hx
    · exact h d List.mem_cons_self k (by omega)
    · exact mkA_all (fun d hd => h d (List.mem_cons_of_mem _ hd)) (by omega) x hx
theorem Lw.mk {l : List Nat} {d : PyData} (h : Lw l d) : ∀ k, k + cntD d ≤ 100000 → Lw (l.map (· + 1)) (mkD k d) := by
  induction h with
  | non => exact fun k _ => by simp only [mkD]; exact .non
  | int h => exact fun k _ => by simp only [mkD]; exact .int h
  | str h => exact fun k _ => by simp only [mkD]; exact .str h
  | @lst L l ds h1 h2 ih =>
    intro k hk
    simp only [cntD] at hk
    simp only [mkD]
    refine .lst ?_ fun x hx => ?_
    · rw [List.length_append, mkA_len2]
      show ds.length + 1 ≤ L + 1
      omega
    · rcases List.mem_append.mp hx with hx | hx
      · exact mkA_all ih (by omega) x hx
      · rw [List.mem_singleton.mp hx]
        exact .int (Nat.lt_of_le_of_lt (show ((k : Int)).natAbs ≤ 100000 by omega) (by decide))
  | @tup L l ds h1 h2 ih =>
    intro k hk
    simp only [cntD] at hk
    simp only [mkD]
    refine .tup ?_ fun x hx => mkA_all ih (by omega) x hx
    rw [mkA_len2]
    show ds.length ≤ L + 1
    omega
theorem lw_cons {l : List Nat} {d : PyData} {ds : List PyData} (h : Lw l d) (t : ∀ e ∈ ds, Lw l e) : ∀ e ∈ d :: ds, Lw l e := fun e he => by
  rcases List.mem_cons.mp he with rfl | he
  · exact h
  · exact t e he
theorem lw_end {l : List Nat} : ∀ e ∈ ([] : List PyData), Lw l e := fun e he => by cases he
theorem lw_ints {L : Nat} {l : List Nat} {ks : List Int} (h : ks.length ≤ L) (hb : ∀ z ∈ ks, z.natAbs < 2 ^ 50) : Lw (L :: l) (.list (ks.map .int)) := .lst (by rw [List.length_map]; exact h) fun d hd => by
  obtain ⟨z, hz, rfl⟩ := List.mem_map.mp hd
  exact .int (hb z hz)
theorem lw_fr {L : Nat} {l : List Nat} {f : Int × Int} (h2 : 2 ≤ L) (h : f.1.natAbs < 2 ^ 50 ∧ f.2.natAbs < 2 ^ 50) : Lw (L :: l) (frD f) := .tup h2 (lw_cons (.int h.1) (lw_cons (.int h.2) lw_end))
/-- what is compared by the law's right -/
abbrev lwR : List Nat := [2, 2, 5, 31]
theorem Lw.rt {d : PyData} (h : Lw lwR d) : Cp 4 d ∧ ShX d ∧ ShX (mkD 0 d) ∧ cntD d ≤ 1000 := by
  have hc : cntD d ≤ LwC lwR := h.cnt
  have hn : LwC lwR ≤ 1000 := by decide
  refine ⟨h.cp (by decide), h.sx.sh (by decide) (by decide), (h.mk 0 (by omega)).sx.sh (by decide) (by decide), by omega⟩
section
variable {p : Addr} {σ : L2.St} {H : Hp} {K : PySem.W.Frag}
theorem DqAll.app {H : Hp} : ∀ {vs us : List V} {ds es : List PyData}, DqAll H vs ds → DqAll H us es → DqAll H (vs ++ us) (ds ++ es)
  | _, _, _, _, .nil, h => h
  | _, _, _, _, .cons a b, h => .cons a (DqAll.app b h)
end
/-- what is known of a step as it may be wrong -/
structure GB (bd : Bent) : Prop where
  ok : BOk bd
  lw : Lw [5, 31] (dB bd)
  pb : PBn bd
  sh : SeqAt.shaped (dB bd) = true
theorem GB.cp {bd : Bent} (g : GB bd) : Cp 2 (dB bd) := g.lw.cp (by decide)
theorem shp_de (d : Deed) : SeqAt.shaped (dD d) = true := by
  obtain ⟨h1, h2⟩ := lay_dD d
  unfold SeqAt.shaped
  rw [h1, decide_eq_true (by omega)]
  rfl
end V2


namespace V2
open PySem L2
open PySem.Spec PyProof.Rows
def tMkKS (C : Addr) (m : Nat) (sp : Sp) (gV : List V → List V → List V) (E : L2.St → XK) (tk : TA) : TE := fun τ G Q => tk τ G fun zs G2 => zs.length = m ∧ ∀ q dq, G2 q = none → G2 dq = none → dq ≠ q → sp (gV [.ref q] zs) (upd (upd G2 dq (.own q)) q (.ins C dq [])) (fun v G3 => v = .non ∧ Q (.ref q) G3) (E τ)
section
variable {X : Cx} {CX : CXT} {k : Nat} {f C : Addr} {fd : FuncData} {ps ks : List Str} {sp : Sp} {E : L2.St → XK} {y : Str} {p pp : Pos} {kws : List Keyword} {tk : TA} {g : List Value → List Value → List Value} {gV : List V → List V → List V}
theorem pe_mkKS (M : Mk X.K C f) (F : FnOk X.prog X.w X.K X.mg X.base CX k f fd ps sp) (hr : Room (k + 1) X.A) (hg : Gl X y) (hm : X.mg y = some (.ref C)) (hb : KBn X.K fd ps 1 ks g gV) (hx : ∀ τ, PassesAt CX X τ (E τ)) (hkw : PK X kws tk)
    (hall : (backToKw p (keywordEach kws X.env)).all (·.1.isSome) = true := by rfl) (hks : (backToKw p (keywordEach kws X.env)).filterMap (·.1) = ks := by rfl) (hdb : (y == ("__debug__" : Str)) = false := by decide)
    (hpl : ((backTo p (starEach [] X.env)).any (·.1) || (backToKw p (keywordEach kws X.env)).any (·.1.isNone)) = false := by rfl) :
    PE X (.Call (.Name y pp) [] kws p) (tMkKS C ks.length sp gV E tk) := by
  constructor
  intro pins s τ G Q I h
  refine wpAny_Call_Name_kw (ld_glob I hg hm ?_ hdb)
  refine PySem.W.callWith_KW0 (h₀ := X.base) I.ok.mod.kin M.kp hall ?_ hpl
  refine thn (hkw.run p pins s τ G _ I h) fun ws s1 got => ?_
  obtain ⟨zs, G1, I1, rz, l2, z⟩ := got
  refine ⟨I1.kIn, ?_⟩
  rw [hks]
  have hq := z (s1.heap.objs.size + 1) s1.heap.objs.size (I1.hok.fresh (Nat.le_succ _)) (I1.hok.fresh (Nat.le_refl _)) (Nat.ne_of_lt (Nat.lt_succ_self _))
  have I2 := Inv.made (C := C) I1
  have r1 : Vals [V.ref (s1.heap.objs.size + 1)] [Value.ref (s1.heap.objs.size + 1)] := .cons rfl .nil
  have r2 := hb.rel r1 rz
  refine wpAny_call (make_map (f := f) I1.kIn M.makes M.init (beq_iff_eq.mp M.fn) (codeAny_mono (F.run _ X.stack _ _ ⟨[Value.ref (s1.heap.objs.size + 1)], ks.zip ws⟩ (g [Value.ref (s1.heap.objs.size + 1)] ws) _ _ (E τ) (hr.make C [] (ks.zip ws))
    (I2.env0.make C [] (ks.zip ws)) (hb.to _ [Value.ref (s1.heap.objs.size + 1)] ws I2.kIn rfl (rz.length.symm.trans l2)) r2 hq) fun w s' hw => ?_))
  match w, hw with
  | .error e, hw => exact hx τ pins _ _ e s' I2 hw
  | .ok (.ret u), hw =>
    obtain ⟨v, G', I3, rv, ev, q3⟩ := I2.after hw
    subst ev
    exact ⟨rv, ⟨V.ref (s1.heap.objs.size + 1), G', I3, rfl, q3⟩⟩
  | .ok .next, hw => exact hw.elim
  | .ok .brk, hw => exact hw.elim
  | .ok .cont, hw => exact hw.elim
end
def gW2 {α : Type} : List α → List α → List α
  | [x], [g, l] => [x, l, g]
  | _, _ => []
section
variable {base : Heap} {mg : Str → Option Value} {K : PySem.W.Frag} {w : World} {P : Program} {C fI fT fS pT pS CI CS CT CF CA eI0 : Addr}
end
end V2


namespace V2
open PySem L2
open PySem.Spec PyProof.Rows
theorem CsAt.set {H H' : Hp} {l q : Addr} {ns : List Int} {z : Int} {j : Nat} (h : CsAt H l ns) (ql : q ≠ l) (hq : Li H q (cp z)) (he : ∀ c o, c ≠ l → H c = some o → H' c = some o) (hl : ∀ xs : List V, H l = some (.lst xs) → H' l = some (.lst (xs.set j (.ref q)))) : CsAt H' l (ns.set j z) := by
  obtain ⟨as, h1, h2, h3⟩ := h
  refine ⟨as.set j q, by rw [hl _ h1, List.map_set], by rw [List.length_set, List.length_set, h2], fun i a n ha hn => ?_⟩
  rw [List.getElem?_set] at ha hn
  split at ha
  · rename_i c
    rw [if_pos c] at hn
    split at ha
    · split at hn
      · cases ha
        cases hn
        exact he _ _ ql hq
      · cases hn
    · cases ha
  · rename_i c
    rw [if_neg c] at hn
    have := h3 i a n ha hn
    exact he _ _ (cs_ne h1 ha this) this
/-- the state of the other law: what stands in the tanks, by a number, and the widths -/
def LSt (H : Hp) (t lw : Addr) (A : List Int) (W : Int) : Prop := ∃ lt lf, H t = some (.tup [.ref lt, .ref lf, .ref lw]) ∧ CsAt H lt A ∧ Li H lf (cp W)
theorem LSt.ex {H H' : Hp} {t lw : Addr} {A : List Int} {W : Int} (h : LSt H t lw A W) (e : Evl.Ex H H') : LSt H' t lw A W := by
  obtain ⟨lt, lf, h1, h2, h3⟩ := h
  exact ⟨lt, lf, e _ _ h1, h2.ex e, e _ _ h3⟩
def st1 (ws : List Int) (S : List Int × Int) : Deed → List Int × Int
  | .po k a => stepA ws S (.po k a)
  | _ => S
section
variable {base : Heap} {mg : Str → Option Value} {K : PySem.W.Frag} {w : World} {P : Program}
end
end V2


namespace V2
open PySem L2
open PySem.Spec PyProof.Rows
/-- a list of new objects, being built -/
def ObN {β : Type} (g : β → HO) (H : Hp) (D : Addr) (fs : List β) (i : Nat) : Prop := ∃ as : List Addr, H D = some (.lst (as.map V.ref)) ∧ as.length = i ∧ ∀ (j : Nat) (a : Addr) (f : β), as[j]? = some a → fs[j]? = some f → a ≠ D ∧ H a = some (g f)
theorem ObN.start {β : Type} {g : β → HO} {H : Hp} {D : Addr} {fs : List β} (h : H D = some (.lst [])) : ObN g H D fs 0 := ⟨[], h, rfl, fun j a n h => by cases h⟩
theorem ObN.more {β : Type} {g : β → HO} {H2 H3 : Hp} {D r : Addr} {fs : List β} {i : Nat} {n : β} (h : ObN g H2 D fs i) (e : Evl.Ex H2 H3) (hr : r ≠ D) (h3 : H3 r = some (g n)) (hn : fs[i]? = some n) (hi : i ≤ 100) :
    ∃ acc, H3 D = some (.lst acc) ∧ acc.length < sizeLine ∧ ObN g (upd H3 D (.lst (acc ++ [.ref r]))) D fs (i + 1) := by
  obtain ⟨as, h1, h2, h4⟩ := h
  refine ⟨_, e _ _ h1, ?_, as ++ [r], ?_, ?_, fun j a m ha hm => ?_⟩
  · rw [List.length_map, h2]
    exact Nat.lt_of_le_of_lt hi (by decide)
  · rw [upd_same, List.map_append]
    rfl
  · rw [List.length_append, h2]
    rfl
  · rcases get_app ha with ⟨h5, _⟩ | ⟨h5, rfl⟩
    · obtain ⟨n1, n2⟩ := h4 j a m h5 hm
      exact ⟨n1, Eq.trans (upd_ne n1) (e _ _ n2)⟩
    · rw [h5, h2, hn] at hm
      cases hm
      exact ⟨hr, Eq.trans (upd_ne hr) h3⟩
theorem ObN.ne {β : Type} {g : β → HO} {H : Hp} {D r : Addr} {fs : List β} {i : Nat} (h : ObN g H D fs i) (hr : H r = none) : r ≠ D := fun z => by
  obtain ⟨as, q, _⟩ := h
  rw [z, q] at hr
  cases hr
def stW (t : Tk) : List Int := match t.1 with
  | none => [0, 1]
  | some z => [z]
def StWs (H : Hp) (l : Addr) (ts : List Tk) : Prop := ∃ as : List Addr, H l = some (.lst (as.map V.ref)) ∧ as.length = ts.length ∧ ∀ (j : Nat) (a : Addr) (t : Tk), as[j]? = some a → ts[j]? = some t → H a = some (.lst (iV (stW t)))
theorem StWs.ex {H H' : Hp} {l : Addr} {ts : List Tk} (h : StWs H l ts) (e : Evl.Ex H H') : StWs H' l ts := by
  obtain ⟨as, h1, h2, h3⟩ := h
  exact ⟨as, e _ _ h1, h2, fun i a t x y => e _ _ (h3 i a t x y)⟩
theorem EndsAt.uniq {ts : List Tk} {ds : List Deed} {u b : Int} {n m : Nat} {e f : V} (h : EndsAt ts ds u b n e) (k : EndsAt ts ds u b m f) : n = m ∧ e = f := by
  have one : ∀ {n m : Nat} {e f : V}, EndsAt ts ds u b n e → EndsAt ts ds u b m f → ¬ n < m := fun {n m e f} h k hn => by
    have hm := k.le
    rcases h.at_ with ⟨h1, _⟩ | ⟨d, h1, h2, _⟩
    · omega
    · rw [k.no n d hn h1] at h2
      cases h2
  have e1 : n = m := by
    have := one h k
    have := one k h
    omega
  subst e1
  refine ⟨rfl, ?_⟩
  rcases h.at_ with ⟨h1, h2⟩ | ⟨d, h1, h2, h3⟩
  · rcases k.at_ with ⟨k1, k2⟩ | ⟨d', k1, k2, k3⟩
    · rw [h2, k2]
    · have := (List.getElem?_eq_some_iff.mp k1).1
      omega
  · rcases k.at_ with ⟨k1, k2⟩ | ⟨d', k1, k2, k3⟩
    · have := (List.getElem?_eq_some_iff.mp h1).1
      omega
    · rw [h3, k3]
section
variable {base : Heap} {mg : Str → Option Value} {K : PySem.W.Frag} {w : World} {P : Program}
end
end V2


namespace V2
open PySem L2
open PySem.Spec PyProof.Rows
theorem cut_drop (xs : List V) (k : Nat) : cutV xs (some (k : Int)) none = xs.drop k := by
  unfold cutV
  rw [sIx_pos]
  have e : HT.sIx xs.length xs.length none = xs.length := rfl
  rw [e]
  by_cases h : k ≤ xs.length
  · rw [Nat.min_eq_left h]
    exact List.take_of_length_le (by rw [List.length_drop]; omega)
  · rw [Nat.min_eq_right (by omega), List.drop_of_length_le (by omega), List.drop_of_length_le (by omega)]
    simp
theorem ds_parts {H : Hp} {as : List Addr} {ds : List Deed} (hl : as.length = ds.length) (h : ∀ (i : Nat) (a : Addr) (d : Deed), as[i]? = some a → ds[i]? = some d → DAt H a d) (k m : Nat) :
    (as.take k ++ as.drop m).length = (ds.take k ++ ds.drop m).length ∧ ∀ (i : Nat) (a : Addr) (d : Deed), (as.take k ++ as.drop m)[i]? = some a → (ds.take k ++ ds.drop m)[i]? = some d → DAt H a d := by
  have l1 : (as.take k).length = (ds.take k).length := by rw [List.length_take, List.length_take, hl]
  refine ⟨by rw [List.length_append, List.length_append, l1, List.length_drop, List.length_drop, hl], fun i a d ha hd => ?_⟩
  by_cases c : i < (as.take k).length
  · rw [List.getElem?_append_left c] at ha
    rw [List.getElem?_append_left (by omega)] at hd
    rw [List.getElem?_take] at ha hd
    split at ha
    · rename_i c2
      rw [if_pos c2] at hd
      exact h i a d ha hd
    · cases ha
  · rw [List.getElem?_append_right (by omega), List.getElem?_drop] at ha
    rw [List.getElem?_append_right (by omega), List.getElem?_drop] at hd
    rw [← l1] at hd
    exact h _ a d ha hd
section
variable {base : Heap} {mg : Str → Option Value} {K : PySem.W.Frag} {w : World} {P : Program} {C fI fT fS pT pS : Addr}
end
end V2


namespace V2
open PySem L2
open PySem.Spec PyProof.Rows
def OwD (H : Hp) (D : Addr) (m : Nat) (H' : Hp) (a : Addr) : Deed → Prop
  | .op ks => ∃ l zs, H l = none ∧ l ≠ D ∧ H' a = some (.tup [.str "open", .ref l]) ∧ H' l = some (.lst (iV zs)) ∧ zs.length ≤ ks.length + m ∧ (m = 0 → zs = ks)
  | d => DAt H' a d
def NoL (H H' : Hp) : Prop := ∀ c o, (∀ xs, o ≠ .lst xs) → H c = some o → H' c = some o
theorem DAt.noL {H H' : Hp} {a : Addr} {d : Deed} (h : DAt H a d) (e : NoL H H') (n : ∀ ks, d ≠ .op ks) : DAt H' a d := by
  cases d with
  | op ks => exact absurd rfl (n ks)
  | po k x => exact e _ _ (fun xs q => by cases q) h
  | sc k p q =>
    obtain ⟨f, h1, h2⟩ := h
    exact ⟨f, e _ _ (fun xs q => by cases q) h1, e _ _ (fun xs q => by cases q) h2⟩
  | mv k m p q =>
    obtain ⟨f, h1, h2⟩ := h
    exact ⟨f, e _ _ (fun xs q => by cases q) h1, e _ _ (fun xs q => by cases q) h2⟩
  | un k m => exact e _ _ (fun xs q => by cases q) h
theorem OwD.keep {H H' H'' : Hp} {D a : Addr} {m m' : Nat} {d : Deed} (h : OwD H D m H' a d) (e : NoL H' H'') (hm : m' = 0 → m = 0)
    (hl : ∀ l zs, l ≠ D → H l = none → H' l = some (.lst (iV zs)) → ∃ zs', H'' l = some (.lst (iV zs')) ∧ zs'.length + m ≤ zs.length + m' ∧ (m' = 0 → zs' = zs)) : OwD H D m' H'' a d := by
  cases d with
  | op ks =>
    obtain ⟨l, zs, h1, h2, h3, h4, h5, h6⟩ := h
    obtain ⟨zs', k1, k2, k3⟩ := hl l zs h2 h1 h4
    exact ⟨l, zs', h1, h2, e _ _ (fun xs q => by cases q) h3, k1, by omega, fun q => (k3 q).trans (h6 (hm q))⟩
  | po k x => exact DAt.noL (d := .po k x) h e (fun ks q => by cases q)
  | sc k p q => exact DAt.noL (d := .sc k p q) h e (fun ks q => by cases q)
  | mv k m p q => exact DAt.noL (d := .mv k m p q) h e (fun ks q => by cases q)
  | un k m => exact DAt.noL (d := .un k m) h e (fun ks q => by cases q)
theorem OwD.ex {H H' H'' : Hp} {D a : Addr} {m : Nat} {d : Deed} (h : OwD H D m H' a d) (e : Evl.Ex H' H'') : OwD H D m H'' a d :=
  h.keep (fun c o _ q => e _ _ q) id fun l zs _ _ q => ⟨zs, e _ _ q, Nat.le_refl _, fun _ => rfl⟩
section
variable {base : Heap} {mg : Str → Option Value} {K : PySem.W.Frag} {w : World} {P : Program} {C fI fT fS pT pS : Addr}
end
end V2


namespace V2
open PySem L2
open PySem.Spec PyProof.Rows
/-- tanks as they may be wrong, small -/
def Bt (t : Tk) : Prop := (∀ z, t.1 = some z → -1000 ≤ z ∧ z ≤ 1000) ∧ -1000 ≤ t.2 ∧ t.2 ≤ 1000
theorem lw_tk {t : Tk} (h : Bt t) : Lw [5, 31] (tkD t) := by
  obtain ⟨w, n⟩ := t
  have sm : ∀ {z : Int}, -1000 ≤ z → z ≤ 1000 → z.natAbs < 2 ^ 50 := fun h1 h2 => Nat.lt_of_le_of_lt (show _ ≤ 1000 by omega) (by decide)
  refine .tup (by show 2 ≤ 5; decide) (lw_cons ?_ (lw_cons (.int (sm h.2.1 h.2.2)) lw_end))
  cases w with
  | none => exact .non
  | some z => exact .int (sm (h.1 z rfl).1 (h.1 z rfl).2)
theorem TksAt.set {H H' : Hp} {l q : Addr} {ts : List Tk} {t : Tk} {j : Nat} (h : TksAt H l ts) (hq : H q = some (.tup [wV t.1, .int t.2])) (he : ∀ c o, c ≠ l → H c = some o → H' c = some o) (hl : ∀ as : List Addr, H l = some (.lst (as.map V.ref)) → H' l = some (.lst ((as.map V.ref).set j (.ref q)))) : TksAt H' l (ts.set j t) := by
  obtain ⟨as, h1, h2, h3⟩ := h
  refine ⟨as.set j q, by rw [hl as h1, List.map_set], by rw [List.length_set, List.length_set, h2], fun i a t' ha ht => ?_⟩
  have nl : ∀ {a : Addr} {xs : List V}, H a = some (.tup xs) → a ≠ l := fun h z => by rw [z, h1] at h; cases h
  rw [List.getElem?_set] at ha ht
  split at ha
  · rename_i c
    rw [if_pos c] at ht
    split at ha
    · split at ht
      · cases ha
        cases ht
        exact he _ _ (nl hq) hq
      · cases ht
    · cases ha
  · rename_i c
    rw [if_neg c] at ht
    have := h3 i a t' ha ht
    exact he _ _ (nl this) this
theorem TrD.new {H H' : Hp} {n : Nat} {v : V} {d : PyData} {as : List Addr} (h : TrD (Nw H H') v d as) (hc : Cp n d) : ∀ a ∈ as, H a = none := fun a ha => by
  obtain ⟨xs, z, _⟩ := h.lists hc a ha
  exact nw_none z
section
variable {base : Heap} {mg : Str → Option Value} {K : PySem.W.Frag} {w : World} {P : Program}
end
end V2


namespace V2
open PySem L2
open PySem.Spec PyProof.Rows
def Sts (H G : Hp) (l : Addr) (ts : List Tk) (es : List Deed) (u b : Int) (e : V) : Prop := ∃ qs : List Addr, H l = some (.lst (qs.map V.ref)) ∧ qs.length = es.length + 1 ∧ ∀ (j : Nat) (q : Addr), qs[j]? = some q → StAt G q (es.take j) (wAt ts es u b j).1 (wAt ts es u b j).2 (if j = es.length then e else .non)
theorem Sts.mv {H G H' G' : Hp} {l : Addr} {ts : List Tk} {es : List Deed} {u b : Int} {e : V} (h : Sts H G l ts es u b e) (k : ∀ o, H l = some o → H' l = some o) (x : Evl.Ex G G') : Sts H' G' l ts es u b e := by
  obtain ⟨qs, h1, h2, h3⟩ := h
  exact ⟨qs, k _ h1, h2, fun j q z => (h3 j q z).ex x⟩
theorem Sts.last {H G : Hp} {l : Addr} {ts : List Tk} {es : List Deed} {u b : Int} {e : V} (h : Sts H G l ts es u b e) : ∃ (ys : List V) (q : Addr), H l = some (.lst (ys ++ [.ref q])) ∧ ys.length = es.length ∧ StAt G q es (wEnd ts es u b).1 (wEnd ts es u b).2 e := by
  obtain ⟨qs, h1, h2, h3⟩ := h
  obtain ⟨ys, q, rfl⟩ : ∃ a c, qs = a ++ [c] := last_split (by omega)
  rw [List.length_append] at h2
  have h2 : ys.length = es.length := Nat.succ.inj h2
  have z := h3 es.length q (by rw [← h2, List.getElem?_append_right (Nat.le_refl _), Nat.sub_self]; rfl)
  rw [if_pos rfl, List.take_length] at z
  exact ⟨ys.map V.ref, q, by rw [h1, List.map_append]; rfl, by rw [List.length_map]; exact h2, z⟩
theorem Sts.one {H G : Hp} {l q : Addr} {ts : List Tk} {u b : Int} (hl : H l = some (.lst [.ref q])) (hq : StAt G q [] (ts.map (·.2)) 1 .non) : Sts H G l ts [] u b .non := by
  refine ⟨[q], hl, rfl, fun j p z => ?_⟩
  match j, z with
  | 0, z =>
    cases z
    exact hq
  | j + 1, z => cases z
end V2


namespace V2
open PySem L2
open PySem.Spec PyProof.Rows
/-- a bench and its states, the list of states at l -/
abbrev BLr (B sk l : Addr) (H : Hp) (x ls lt : Addr) (ts : List Tk) (es : List Deed) (u b : Int) (e : V) : Prop := BnAt B sk (woL [l] H) x ls lt ts es (hist ts es u b) (wEnd ts es u b).1 (ts.map (wid u b)) (wEnd ts es u b).2 u b e
/-- what ended is told by the last step -/
def eV (ts : List Tk) (es : List Deed) (u b : Int) : V := match es.getLast? with
  | none => .non
  | some d => if endB (ts.map (wid u b)) (wAt ts es u b (es.length - 1)).1 d = true then .int ((es.length - 1 : Nat) : Int) else .non
/-- no step but the last one ends -/
def Led (ts : List Tk) (es : List Deed) (u b : Int) : Prop := ∀ (j : Nat) (d : Deed), j + 1 < es.length → es[j]? = some d → endB (ts.map (wid u b)) (wAt ts es u b j).1 d = false
structure Bd (B sk l : Addr) (H : Hp) (x ls lt : Addr) (ts : List Tk) (es : List Deed) (u b : Int) : Prop where
  bn : BLr B sk l H x ls lt ts es u b (eV ts es u b)
  st : Sts H (woL [sk, x, ls, lt, l] H) l ts es u b (eV ts es u b)
  led : Led ts es u b
  ns : l ≠ sk
theorem Bd.ex {B sk l : Addr} {H H' : Hp} {x ls lt : Addr} {ts : List Tk} {es : List Deed} {u b : Int} (h : Bd B sk l H x ls lt ts es u b) (e : Evl.Ex H H') : Bd B sk l H' x ls lt ts es u b :=
  ⟨h.bn.go (woL_go e), h.st.mv (e _) (woL_go e), h.led, h.ns⟩
theorem Bd.coin {B sk l : Addr} {H H' : Hp} {x ls lt : Addr} {ts : List Tk} {es : List Deed} {u b : Int} (h : Bd B sk l H x ls lt ts es u b) (k : But sk H H') : Bd B sk l H' x ls lt ts es u b :=
  ⟨h.bn.sep fun p o z => woL_at (woL_ne z) (woL_at (woL_ne (woL_ex _ _ z)) (k _ _ (fun y => woL_ne z (List.mem_singleton.mpr y)) (woL_ex _ _ (woL_ex _ _ z)))), h.st.mv (k _ · h.ns) ((ButL.of_but k List.mem_cons_self).wo fun _ h => h), h.led, h.ns⟩
theorem Bd.ln {B sk l : Addr} {H : Hp} {x ls lt : Addr} {ts : List Tk} {es : List Deed} {u b : Int} (h : Bd B sk l H x ls lt ts es u b) : l ∉ [x, ls, lt] ∧ (∃ dx fs, H x = some (.ins B dx fs) ∧ fs = fs) ∧ sk ∉ [x, ls, lt, l] := by
  obtain ⟨⟨dx, lq, g, lw, tw, as, bs, hx, hls, _, hlt, _, _⟩, ⟨n1, n2, n3, n4⟩, _, _⟩ := h.bn
  have hm2 : l ∈ [l] := List.mem_singleton.mpr rfl
  refine ⟨fun hm => ?_, ⟨_, _, woL_ex _ _ hx, rfl⟩, ?_⟩
  · simp only [List.mem_cons, List.not_mem_nil, or_false] at hm
    rcases hm with h | h | h
    · rw [← h] at hx
      exact woL_ne hx hm2
    · rw [← h] at hls
      exact woL_ne hls hm2
    · rw [← h] at hlt
      exact woL_ne hlt hm2
  · simp only [List.mem_cons, List.not_mem_nil, or_false, not_or]
    exact ⟨n4.symm, n2.symm, n3.symm, h.ns.symm⟩
end V2


namespace V2
open PySem L2
open PySem.Spec PyProof.Rows
theorem gb_de {ts : List Tk} {d : Deed} (h : GD ts d) (h20 : ts.length ≤ 20) : GB (.de d) := by
  have sm : ∀ {z : Int}, 0 ≤ z → z < ts.length → z.natAbs < 2 ^ 50 := fun h1 h2 => Nat.lt_of_le_of_lt (show _ ≤ 100 by omega) (by decide)
  have w : ∀ x ∈ (["open", "pour", "scoop", "move", "unless"] : List Str), (PyData.shown (.str x)).length ≤ 10 := by decide +kernel
  simp only [List.mem_cons, List.not_mem_nil, or_false, forall_eq_or_imp, forall_eq] at w
  obtain ⟨w1, w2, w3, w4, w5⟩ := w
  obtain ⟨h, hp⟩ := h
  cases d with
  | op ks =>
    obtain ⟨h1, h2, h3, h4⟩ := h
    exact ⟨(by show ks.length ≤ 30; omega), .tup (by show 2 ≤ 5; decide) (lw_cons (.str w1) (lw_cons (lw_ints (by omega) fun z hz => sm (h4 z hz).1 (h4 z hz).2) lw_end)), (fun p q h => by cases h), shp_de (.op ks)⟩
  | po k a =>
    have h5 := hp k a rfl
    have h6 := h.2
    exact ⟨trivial, .tup (by show 3 ≤ 5; decide) (lw_cons (.str w2) (lw_cons (.int (sm h.1.1 h.1.2)) (lw_cons (.int (Nat.lt_of_le_of_lt (show a.natAbs ≤ 1000 by omega) (by decide))) lw_end))), (fun p q h => by cases h), shp_de (.po k a)⟩
  | sc k p q =>
    obtain ⟨_, _, _, _, q1, q2⟩ := h.2
    exact ⟨trivial, .tup (by show 3 ≤ 5; decide) (lw_cons (.str w3) (lw_cons (.int (sm h.1.1 h.1.2)) (lw_cons (lw_fr (f := (p, q)) (by decide) ⟨q1, q2⟩) lw_end))), (fun p' q' h => by cases h; exact ⟨q1, q2⟩), shp_de (.sc k p q)⟩
  | mv k m p q =>
    obtain ⟨_, _, _, _, q1, q2⟩ := h.2.2.2
    exact ⟨trivial, .tup (by show 4 ≤ 5; decide) (lw_cons (.str w4) (lw_cons (.int (sm h.1.1 h.1.2)) (lw_cons (.int (sm h.2.1.1 h.2.1.2)) (lw_cons (lw_fr (f := (p, q)) (by decide) ⟨q1, q2⟩) lw_end)))), (fun p' q' h => by cases h; exact ⟨q1, q2⟩), shp_de (.mv k m p q)⟩
  | un k m => exact ⟨trivial, .tup (by show 3 ≤ 5; decide) (lw_cons (.str w5) (lw_cons (.int (sm h.1.1 h.1.2)) (lw_cons (.int (sm h.2.1.1 h.2.1.2)) lw_end))), (fun p q h => by cases h), shp_de (.un k m)⟩
section
variable {base : Heap} {mg : Str → Option Value} {K : PySem.W.Frag} {w : World} {P : Program} {B gI gC gL gW gE qE gU : Addr}
end
end V2


namespace V2
open PySem L2
open PySem.Spec PyProof.Rows
/-- deeds so far, in a list that grows -/
def DsI (H : Hp) (sk ld : Addr) (m : Int) (ds : List Deed) (H' : Hp) : Prop := But sk H H' ∧ DsAt (wo sk H') ld ds ∧ (∀ d ∈ ds, okD m d) ∧ ∀ k a, Deed.po k a ∈ ds → a ≤ 1000
theorem DsI.more {H H1 H2 : Hp} {sk ld t : Addr} {m : Int} {ds : List Deed} {d : Deed} {n i : Nat} (h : DsI H sk ld m ds H1) (lH : H ld = none) (s : Sk H1 sk n) (b : But sk H1 H2) (hd : DAt (Nw H1 H2) t d) (ok : okD m d) (hp : ∀ k a, d = .po k a → a ≤ 1000) (hl : ds.length = i) (hi : i ≤ 100) :
    ∃ acc, H2 ld = some (.lst acc) ∧ acc.length < sizeLine ∧ DsI H sk ld m (ds ++ [d]) (upd H2 ld (.lst (acc ++ [.ref t]))) := by
  obtain ⟨h1, h2, h3, h4⟩ := h
  have hD7 := h2.ex b.wo
  obtain ⟨acc, q1, q2⟩ := ds_list hD7
  have q1 := wo_ex _ _ q1
  have q3 := ds_more hD7 h3 (hd.ex (nw_wo s)) ok (wo_upd (x := .lst (acc ++ [.ref t]))) (wo_app q1)
  refine ⟨acc, q1, ?_, ?_, q3, ?_, ?_⟩
  · rw [q2, hl]
    exact Nat.lt_of_le_of_lt hi (by decide)
  · exact fun c o nc e => Eq.trans (upd_ne (ne_of_none' e lH)) ((h1.trans b) c o nc e)
  · intro d' h'
    rcases List.mem_append.mp h' with h | h
    · exact h3 _ h
    · rw [List.mem_singleton.mp h]
      exact ok
  · intro k' a' h'
    rcases List.mem_append.mp h' with h | h
    · exact h4 _ _ h
    · exact hp k' a' (List.mem_singleton.mp h).symm
section
variable {base : Heap} {mg : Str → Option Value} {K : PySem.W.Frag} {w : World} {P : Program}
end
end V2


namespace V2
open PySem L2
open PySem.Spec PyProof.Rows
/-- a test that reads only: both answers -/
def Rd (t : TT) (σ : L2.St) (H : Hp) : Prop := ∀ R : Bool → Hp → Prop, R true H → R false H → t σ H R
theorem Rd.and {t u : TT} {σ : L2.St} {H : Hp} (ht : Rd t σ H) (hu : Rd u σ H) : Rd (tAnd t u) σ H := fun R h1 h2 => ht _ (if_t rfl (hu R h1 h2)) (if_f (by decide) h2)
theorem Rd.or {t u : TT} {σ : L2.St} {H : Hp} (ht : Rd t σ H) (hu : Rd u σ H) : Rd (tOr t u) σ H := fun R h1 h2 => ht _ (if_t rfl h1) (if_f (by decide) (hu R h1 h2))
/-- what is drawn so far -/
structure PI (H : Hp) (sk ld lv ll : Addr) (ts : List Tk) (m : Int) (ds : List Deed) (H' : Hp) : Prop where
  but : But sk H H'
  dsk : ld ≠ sk
  lsk : ll ≠ sk
  dH : H ld = none
  dv : ld ≠ lv
  dl : ld ≠ ll
  li : ∃ a b : Int, Li H' ll [a, b]
  lH : H ll = none
  da : DsAt (wo ll (wo sk H')) ld ds
  ta : TksAt (wo ll (wo sk H')) lv ts
  ok : ∀ d ∈ ds, okD m d
  po : ∀ k a, Deed.po k a ∈ ds → a ≤ 1000
theorem PI.go {H H1 H2 : Hp} {sk ld lv ll : Addr} {ts : List Tk} {m : Int} {ds : List Deed} (h : PI H sk ld lv ll ts m ds H1) (b : But sk H1 H2) : PI H sk ld lv ll ts m ds H2 := by
  obtain ⟨x, y, hl⟩ := h.li
  exact ⟨h.but.trans b, h.dsk, h.lsk, h.dH, h.dv, h.dl, ⟨x, y, b _ _ h.lsk hl⟩, h.lH, h.da.ex (ex_wo b.wo), h.ta.ex (ex_wo b.wo), h.ok, h.po⟩
theorem PI.more {H H1 H2 : Hp} {sk ld lv ll t : Addr} {ts : List Tk} {m : Int} {ds : List Deed} {d : Deed} (h : PI H sk ld lv ll ts m ds H1) (b : But sk H1 H2) (hd : DAt (wo ll (wo sk H2)) t d) (ok : okD m d) (hp : ∀ k a, d = .po k a → a ≤ 1000) (hl : ds.length ≤ 100) :
    ∃ acc, H2 ld = some (.lst acc) ∧ acc.length < sizeLine ∧ PI H sk ld lv ll ts m (ds ++ [d]) (upd H2 ld (.lst (acc ++ [.ref t]))) ∧ acc.length = ds.length ∧ DAt (upd H2 ld (.lst (acc ++ [.ref t]))) t d := by
  have h2 := h.go b
  obtain ⟨acc, q1, q2⟩ := ds_list h2.da
  have q1 := wo_ex _ _ (wo_ex _ _ q1)
  have q3 := ds_more h2.da h2.ok hd ok (wo_upd2 (x := .lst (acc ++ [.ref t]))) (wo_app2 q1)
  obtain ⟨x, y, hli⟩ := h2.li
  refine ⟨acc, q1, ?_, ⟨?_, h2.dsk, h2.lsk, h2.dH, h2.dv, h2.dl, ⟨x, y, Eq.trans (upd_ne (Ne.symm h2.dl)) hli⟩, h2.lH, q3, ?_, ?_, ?_⟩, q2, dat_keep' hd ok h2.da (fun c o nc q => Eq.trans (upd_ne nc) (wo_ex _ _ (wo_ex _ _ q)))⟩
  · rw [q2]
    exact Nat.lt_of_le_of_lt hl (by decide)
  · exact fun c o nc e => Eq.trans (upd_ne (ne_of_none' e h2.dH)) (h2.but c o nc e)
  · exact tks_keep h2.ta (wo_at h2.dl (wo_at h2.dsk q1)) (Ne.symm h2.dv) (wo_upd2 (x := .lst (acc ++ [.ref t])))
  · intro d' h'
    rcases List.mem_append.mp h' with h | h
    · exact h2.ok _ h
    · rw [List.mem_singleton.mp h]
      exact ok
  · intro k' a' h'
    rcases List.mem_append.mp h' with h | h
    · exact h2.po _ _ h
    · exact hp k' a' (List.mem_singleton.mp h).symm
theorem wo_wo_upd {q p : Addr} {H : Hp} {x : HO} : Evl.Ex (wo q (wo p H)) (wo q (wo p (upd H q x))) := fun b o h => wo_at (wo_ne h) (wo_at (wo_ne (wo_ex _ _ h)) (Eq.trans (upd_ne (wo_ne h)) (wo_ex _ _ (wo_ex _ _ h))))
theorem PI.set {H H1 : Hp} {sk ld lv ll : Addr} {ts : List Tk} {m : Int} {ds : List Deed} {a b : Int} (h : PI H sk ld lv ll ts m ds H1) : PI H sk ld lv ll ts m ds (upd H1 ll (.lst (iV [a, b]))) :=
  ⟨fun c o nc e => Eq.trans (upd_ne (ne_of_none' e h.lH)) (h.but c o nc e), h.dsk, h.lsk, h.dH, h.dv, h.dl, ⟨a, b, upd_same⟩, h.lH, h.da.ex wo_wo_upd, h.ta.ex wo_wo_upd, h.ok, h.po⟩
theorem PI.new {H H1 : Hp} {sk ld lv ll l2 : Addr} {ts : List Tk} {m : Int} {ds : List Deed} {a b : Int} {n : Nat} (h : PI H sk ld lv ll ts m ds H1) (s : Sk H1 sk n) (hl : H1 l2 = none) : PI H sk ld lv l2 ts m ds (upd H1 l2 (.lst (iV [a, b]))) := by
  have e := Evl.Ex.new (o := .lst (iV [a, b])) hl
  have ex : Evl.Ex (wo ll (wo sk H1)) (wo l2 (wo sk (upd H1 l2 (.lst (iV [a, b]))))) := fun c o q => by
    have q1 := wo_ex _ _ q
    exact wo_at (ne_of_none' (wo_ex _ _ q1) hl) (wo_at (wo_ne q1) (e _ _ (wo_ex _ _ q1)))
  obtain ⟨as, w, _⟩ := h.da
  exact ⟨h.but.trans (But.of_ex e), h.dsk, sk_ne s hl, h.dH, h.dv, ne_of_none' (wo_ex _ _ (wo_ex _ _ w)) hl, ⟨a, b, upd_same⟩, but_none h.but s hl, h.da.ex ex, h.ta.ex ex, h.ok, h.po⟩
section
variable {base : Heap} {mg : Str → Option Value} {K : PySem.W.Frag} {w : World} {P : Program}
end
end V2


namespace V2
open PySem L2
open PySem.Spec PyProof.Rows
/-- two steps exchanged -/
def xch (ds : List Deed) (i : Nat) (d e : Deed) : List Deed := ds.take i ++ [e, d] ++ ds.drop (i + 2)
theorem ds_app {H : Hp} {as bs : List Addr} {ds es : List Deed} (l1 : as.length = ds.length) (h1 : ∀ (i : Nat) (a : Addr) (d : Deed), as[i]? = some a → ds[i]? = some d → DAt H a d) (h2 : ∀ (i : Nat) (a : Addr) (d : Deed), bs[i]? = some a → es[i]? = some d → DAt H a d) : ∀ (i : Nat) (a : Addr) (d : Deed), (as ++ bs)[i]? = some a → (ds ++ es)[i]? = some d → DAt H a d := by
  intro i a d ha hd
  by_cases c : i < as.length
  · rw [List.getElem?_append_left c] at ha
    rw [List.getElem?_append_left (by omega)] at hd
    exact h1 i a d ha hd
  · rw [List.getElem?_append_right (by omega)] at ha
    rw [List.getElem?_append_right (by omega), ← l1] at hd
    exact h2 _ a d ha hd
section
variable {base : Heap} {mg : Str → Option Value} {K : PySem.W.Frag} {w : World} {P : Program} {C fI fT fS pT pS : Addr}
end
end V2


namespace V2
open PySem L2
open PySem.Spec PyProof.Rows
def spWoN (C : Addr) : Sp := fun vs H Q _ => ∃ (x : Addr) (i : Nat) (ts : List Tk) (ds : List Deed), vs = [.ref x, .int (i : Int)] ∧ ScAt H C x ts ds ∧ okS ts ds ∧ i < ds.length ∧ ∀ (y : Addr) (H' : Hp), H y = none → Evl.Ex H H' → ScAt (Nw H H') C y ts (ds.take i ++ ds.drop (i + 1)) → Q (.ref y) H'
def spXcN (C : Addr) : Sp := fun vs H Q _ => ∃ (x : Addr) (i : Nat) (ts : List Tk) (ds : List Deed) (d e : Deed), vs = [.ref x, .int (i : Int)] ∧ ScAt H C x ts ds ∧ okS ts ds ∧ ds[i]? = some d ∧ ds[i + 1]? = some e ∧ ∀ (y : Addr) (H' : Hp), H y = none → Evl.Ex H H' → ScAt (Nw H H') C y ts (xch ds i d e) → Q (.ref y) H'
theorem ds_app3 {H : Hp} {as bs : List Addr} {ds es : List Deed} (l1 : as.length = ds.length) (h1 : ∀ (i : Nat) (a : Addr) (d : Deed), as[i]? = some a → ds[i]? = some d → DAt H a d) (l2 : bs.length = es.length) (h2 : ∀ (i : Nat) (a : Addr) (d : Deed), bs[i]? = some a → es[i]? = some d → DAt H a d) (i m : Nat) :
    (as.take i ++ bs ++ as.drop m).length = (ds.take i ++ es ++ ds.drop m).length ∧ ∀ (j : Nat) (a : Addr) (d : Deed), (as.take i ++ bs ++ as.drop m)[j]? = some a → (ds.take i ++ es ++ ds.drop m)[j]? = some d → DAt H a d := by
  have t1 : ∀ (j : Nat) (a : Addr) (d : Deed), (as.take i)[j]? = some a → (ds.take i)[j]? = some d → DAt H a d := fun j a d' u1 u2 => by
    rw [List.getElem?_take] at u1 u2
    split at u1
    · rename_i c2
      rw [if_pos c2] at u2
      exact h1 j a d' u1 u2
    · cases u1
  have t3 : ∀ (j : Nat) (a : Addr) (d : Deed), (as.drop m)[j]? = some a → (ds.drop m)[j]? = some d → DAt H a d := fun j a d' u1 u2 => by
    rw [List.getElem?_drop] at u1 u2
    exact h1 _ a d' u1 u2
  have l12 : (as.take i).length = (ds.take i).length := by rw [List.length_take, List.length_take, l1]
  refine ⟨?_, ds_app (as := as.take i ++ bs) (ds := ds.take i ++ es) (by rw [List.length_append, List.length_append, l12, l2]) (ds_app l12 t1 h2) t3⟩
  rw [List.length_append, List.length_append, List.length_append, List.length_append, l12, l2, List.length_drop, List.length_drop, l1]
section
variable {base : Heap} {mg : Str → Option Value} {K : PySem.W.Frag} {w : World} {P : Program} {C fI fT fS pT pS : Addr}
theorem ok_Sc_withoutN {f : Addr} {fd fdI : FuncData} (F : Fun K "without" "Script.without" s_Sc_without f fd) (mL : mg "len" = none) (mC : mg "Script" = some (.ref C)) (c : ScC K C fI fT fS pT pS) (FI : FnOk P w K mg base CX0 5 fI fdI p_Sc_init (spScI C)) (bI : Binds K fdI p_Sc_init []) (cI : Cal P w K mg base 3 "check_index" p_check_index spCi) : FnOk P w K mg base CX0 7 f fd p_Sc_without (spWoN C) := by
  refine F.ok sc_Sc_without (fun vs H Q E h => ?_) (fun cdv A outer s H vs Q E hr h => ?_)
  · obtain ⟨x, i, ts, ds, rfl, _⟩ := h
    rfl
  · obtain ⟨x, i, ts, ds, rfl, ⟨dx, fs, v, y, hx, hv, hy, hdv, hdy, _⟩, hok, hi, k⟩ := h
    have r3 : Room 3 _ := hr.mono (by decide)
    obtain ⟨lt, rfl, hlt⟩ := hdv.tks
    obtain ⟨ls, rfl, hls⟩ := hdy.deeds
    obtain ⟨as, h1, h2, h3⟩ := id hls
    refine ⟨_, pss_cons (ps_expr (pe_c cI r3 (pa_cons (pv 1) (pa_cons (pe_callB call_len_seq (by rfl) mL PySem.boot_len (pa_cons (pe_fld (pv 0) rfl) pa_nil)) pa_nil))))
      (pss_one (ps_ret (pe_make c.mkI FI hr (by rfl) mC bI .nil pass0 (pa_cons (pe_fld (pv 0) rfl) (pa_cons (pe_op op_cat (pe_slice sl_list (pe_fld (pv 0) rfl) po_none (po_some (pv 1))) (pe_slice sl_list (pe_fld (pv 0) rfl) (po_some (pe_op op_add (pv 1) pe_int)) po_none)) pa_nil))))), ?_⟩
    refine ⟨_, rfl, _, rfl, x, C, dx, fs, _, rfl, hx, c.cls, c.na2, hy, ls, _, rfl, .inl (SqL.of h1), _, _, rfl, by omega, by rw [List.length_map, h2]; omega, fun H1 e1 => ?_⟩
    have hx1 := e1 _ _ hx
    have g1 := e1 _ _ h1
    refine ⟨_, rfl, x, C, dx, fs, _, rfl, hx1, c.cls, c.na1, hv, _, rfl, x, C, dx, fs, _, rfl, hx1, c.cls, c.na2, hy, ?_⟩
    have len := hok.2.1
    refine ⟨_, rfl, (i : Int), rfl, ls, _, rfl, SqL.of g1, fun p1 hp1 => ?_⟩
    have e2 := Evl.Ex.new (o := .lst (cutV (as.map V.ref) none (some (i : Int)))) hp1
    have q1 : upd H1 p1 (.lst (cutV (as.map V.ref) none (some (i : Int)))) p1 = some (.lst ((as.take i).map V.ref)) := Eq.trans upd_same (by rw [cut_min, List.map_take])
    generalize upd H1 p1 (.lst (cutV (as.map V.ref) none (some (i : Int)))) = H2 at e2 q1
    refine ⟨_, rfl, x, C, dx, fs, _, rfl, e2 _ _ hx1, c.cls, c.na2, hy, _, rfl, _, _, rfl, rfl, ((i + 1 : Nat) : Int), rfl, ls, _, rfl, SqL.of (e2 _ _ g1), fun p2 hp2 => ?_⟩
    have e3 := Evl.Ex.new (o := .lst (cutV (as.map V.ref) (some ((i + 1 : Nat) : Int)) none)) hp2
    have q2 : upd H2 p2 (.lst (cutV (as.map V.ref) (some ((i + 1 : Nat) : Int)) none)) p2 = some (.lst ((as.drop (i + 1)).map V.ref)) := Eq.trans upd_same (by rw [cut_drop, List.map_drop])
    generalize upd H2 p2 (.lst (cutV (as.map V.ref) (some ((i + 1 : Nat) : Int)) none)) = H3 at e3 q2
    refine ⟨p1, p2, _, _, rfl, rfl, e3 _ _ q1, q2, ?_, fun p3 hp3 => ?_⟩
    · rw [List.length_map, List.length_map, List.length_take, List.length_drop]
      exact Nat.le_trans (show min i as.length + (as.length - (i + 1)) ≤ 120 by omega) (by decide)
    have e4 := Evl.Ex.new (o := .lst ((as.take i).map V.ref ++ (as.drop (i + 1)).map V.ref)) hp3
    have q3 : upd H3 p3 (.lst ((as.take i).map V.ref ++ (as.drop (i + 1)).map V.ref)) p3 = some (.lst ((as.take i ++ as.drop (i + 1)).map V.ref)) := Eq.trans upd_same (by rw [List.map_append])
    generalize upd H3 p3 (.lst ((as.take i).map V.ref ++ (as.drop (i + 1)).map V.ref)) = H4 at e4 q3
    have e04 := ((e1.trans e2).trans e3).trans e4
    obtain ⟨pl, pd⟩ := ds_parts h2 h3 i (i + 1)
    have hDs : DsAt H4 p3 (ds.take i ++ ds.drop (i + 1)) := ⟨_, q3, pl, fun j a d u1 u2 => (pd j a d u1 u2).ex e04⟩
    intro y' dy hy' hdy' hne
    have e5 : Evl.Ex H4 (upd (upd H4 dy (.own y')) y' (.ins C dy [])) := fun b o h => Eq.trans (upd_ne (ne_of_none' h hy')) (Eq.trans (upd_ne (ne_of_none' h hdy')) h)
    have ok' : okS ts (ds.take i ++ ds.drop (i + 1)) := ⟨hok.1, by rw [List.length_append, List.length_take, List.length_drop]; omega, fun d hd => by
      rcases List.mem_append.mp hd with h | h
      · exact hok.2.2 d (List.mem_of_mem_take h)
      · exact hok.2.2 d (List.mem_of_mem_drop h)⟩
    refine ⟨y', dy, .ref lt, .ref p3, ts, _, rfl, upd_same, (hlt.ex (e04.trans e5)).dq, (hDs.ex e5).dq, ok', fun v' u' fs' H' b hyy g1 g2 d1 d2 g0 => ⟨rfl, ?_⟩⟩
    have e06 := e04
    have hyH := Evl.fresh_back e06 hy'
    have em : Evl.Ex (Nw (upd (upd H4 dy (.own y')) y' (.ins C dy [])) H') (Nw H H') := fun c o h => nw_at (Evl.fresh_back (e06.trans e5) (nw_none h)) (Nw.ex _ _ h)
    refine k y' H' hyH (fun cc o h => ?_) ⟨dy, fs', v', u', nw_at hyH hyy, g1, g2, d1.go em, d2.go em, g0⟩
    have h5 := e06 _ _ h
    exact b _ _ (ne_of_none' h5 hy') (e5 _ _ h5)

theorem ok_Sc_exchangedN {f : Addr} {fd fdI : FuncData} (F : Fun K "exchanged" "Script.exchanged" s_Sc_exchanged f fd) (mL : mg "len" = none) (mC : mg "Script" = some (.ref C)) (c : ScC K C fI fT fS pT pS) (FI : FnOk P w K mg base CX0 5 fI fdI p_Sc_init (spScI C)) (bI : Binds K fdI p_Sc_init []) (cX : Cal P w K mg base 4 "check_exchange" p_check_exchange spCx) : FnOk P w K mg base CX0 7 f fd p_Sc_exchanged (spXcN C) := by
  refine F.ok sc_Sc_exchanged (fun vs H Q E h => ?_) (fun cdv A outer s H vs Q E hr h => ?_)
  · obtain ⟨x, i, ts, ds, d, e, rfl, _⟩ := h
    rfl
  · obtain ⟨x, i, ts, ds, d, e, rfl, ⟨dx, fs, v, y, hx, hv, hy, hdv, hdy, _⟩, hok, hd, he, k⟩ := h
    have nd := sc_Sc_exchanged.nd
    have r4 : Room 4 _ := hr.mono (by decide)
    have two : 2 ≤ sizeLine := by show 2 ≤ sizeLine; decide
    obtain ⟨lt, rfl, hlt⟩ := hdv.tks
    obtain ⟨ls, rfl, hls⟩ := hdy.deeds
    obtain ⟨as, h1, h2, h3⟩ := id hls
    have hi := (List.getElem?_eq_some_iff.mp he).1
    have len := hok.2.1
    obtain ⟨a0, ha0⟩ : ∃ a, as[i]? = some a := ⟨_, List.getElem?_eq_getElem (by omega)⟩
    obtain ⟨a1, ha1⟩ : ∃ a, as[i + 1]? = some a := ⟨_, List.getElem?_eq_getElem (by omega)⟩
    have g0 : (as.map V.ref)[i]? = some (.ref a0) := by rw [List.getElem?_map, ha0]; rfl
    have g1' : (as.map V.ref)[i + 1]? = some (.ref a1) := by rw [List.getElem?_map, ha1]; rfl
    have hD0 := h3 i a0 d ha0 hd
    have hD1 := h3 (i + 1) a1 e ha1 he
    refine ⟨_, pss_cons (ps_expr (pe_c cX r4 (pa_cons (pv 1) (pa_cons (pe_callB call_len_seq (by rfl) mL PySem.boot_len (pa_cons (pe_fld (pv 0) rfl) pa_nil)) pa_nil))))
      (pss_cons (ps_par (i := 2) (j := 3) rfl nd rfl rfl (by decide) rfl rfl (pa_cons (pe_ix ix_list (pe_fld (pv 0) rfl) (pv 1) (fun _ _ => rfl)) (pa_cons (pe_ix ix_list (pe_fld (pv 0) rfl) (pe_op op_add (pv 1) pe_int) (fun _ _ => rfl)) pa_nil)) (by rfl))
      (pss_one (ps_ret (pe_make c.mkI FI hr (by rfl) mC bI .nil pass0 (pa_cons (pe_fld (pv 0) rfl) (pa_cons (pe_op op_cat (pe_op op_cat (pe_slice sl_list (pe_fld (pv 0) rfl) po_none (po_some (pv 1))) (pe_lst (pa_cons (pv 3) (pa_cons (pv 2) pa_nil)))) (pe_slice sl_list (pe_fld (pv 0) rfl) (po_some (pe_op op_add (pv 1) pe_int)) po_none)) pa_nil)))))), ?_⟩
    refine ⟨_, rfl, _, rfl, x, C, dx, fs, _, rfl, hx, c.cls, c.na2, hy, ls, _, rfl, .inl (SqL.of h1), _, _, rfl, by omega, by rw [List.length_map, h2]; omega, fun H1 e1 => ?_⟩
    have hx1 := e1 _ _ hx
    have g1 := e1 _ _ h1
    refine ⟨_, rfl, x, C, dx, fs, _, rfl, hx1, c.cls, c.na2, hy, _, rfl, ls, _, _, _, rfl, rfl, SqL.of g1, atI_nat g0, ?_⟩
    refine ⟨_, rfl, x, C, dx, fs, _, rfl, hx1, c.cls, c.na2, hy, _, rfl, _, _, rfl, rfl, ls, _, ((i + 1 : Nat) : Int), _, rfl, rfl, SqL.of g1, atI_nat g1', _, _, rfl, ?_⟩
    refine ⟨_, rfl, x, C, dx, fs, _, rfl, hx1, c.cls, c.na1, hv, _, rfl, x, C, dx, fs, _, rfl, hx1, c.cls, c.na2, hy, ?_⟩
    refine ⟨_, rfl, (i : Int), rfl, ls, _, rfl, SqL.of g1, fun p1 hp1 => ?_⟩
    have e2 := Evl.Ex.new (o := .lst (cutV (as.map V.ref) none (some (i : Int)))) hp1
    have q1 : upd H1 p1 (.lst (cutV (as.map V.ref) none (some (i : Int)))) p1 = some (.lst ((as.take i).map V.ref)) := Eq.trans upd_same (by rw [cut_min, List.map_take])
    generalize upd H1 p1 (.lst (cutV (as.map V.ref) none (some (i : Int)))) = H2 at e2 q1
    refine ⟨_, rfl, _, rfl, two, fun p2 hp2 => ?_⟩
    have e3 := Evl.Ex.new (o := .lst [V.ref a1, V.ref a0]) hp2
    refine ⟨p1, p2, _, _, rfl, rfl, e3 _ _ q1, upd_same, ?_, fun p3 hp3 => ?_⟩
    · rw [List.length_map, List.length_take]
      exact Nat.le_trans (show min i as.length + 2 ≤ 120 by omega) (by decide)
    have e4 := Evl.Ex.new (o := .lst ((as.take i).map V.ref ++ [V.ref a1, V.ref a0])) hp3
    have q3 : upd (upd H2 p2 (.lst [V.ref a1, V.ref a0])) p3 (.lst ((as.take i).map V.ref ++ [V.ref a1, V.ref a0])) p3 = some (.lst ((as.take i ++ [a1, a0]).map V.ref)) := Eq.trans upd_same (by rw [List.map_append]; rfl)
    have e14 := (e2.trans e3).trans e4
    generalize upd (upd H2 p2 (.lst [V.ref a1, V.ref a0])) p3 (.lst ((as.take i).map V.ref ++ [V.ref a1, V.ref a0])) = H4 at e4 q3 e14
    have e04 := e1.trans e14
    have hx4 := e04 _ _ hx
    refine ⟨_, rfl, x, C, dx, fs, _, rfl, hx4, c.cls, c.na2, hy, _, rfl, _, _, rfl, rfl, ((i + 2 : Nat) : Int), rfl, ls, _, rfl, SqL.of (e04 _ _ h1), fun p4 hp4 => ?_⟩
    have e5 := Evl.Ex.new (o := .lst (cutV (as.map V.ref) (some ((i + 2 : Nat) : Int)) none)) hp4
    have q4 : upd H4 p4 (.lst (cutV (as.map V.ref) (some ((i + 2 : Nat) : Int)) none)) p4 = some (.lst ((as.drop (i + 2)).map V.ref)) := Eq.trans upd_same (by rw [cut_drop, List.map_drop])
    generalize upd H4 p4 (.lst (cutV (as.map V.ref) (some ((i + 2 : Nat) : Int)) none)) = H5 at e5 q4
    refine ⟨p3, p4, _, _, rfl, rfl, e5 _ _ q3, q4, ?_, fun p5 hp5 => ?_⟩
    · rw [List.length_map, List.length_map, List.length_append, List.length_take, List.length_drop]
      exact Nat.le_trans (show min i as.length + 2 + (as.length - (i + 2)) ≤ 120 by omega) (by decide)
    have e6 := Evl.Ex.new (o := .lst ((as.take i ++ [a1, a0]).map V.ref ++ (as.drop (i + 2)).map V.ref)) hp5
    have q5 : upd H5 p5 (.lst ((as.take i ++ [a1, a0]).map V.ref ++ (as.drop (i + 2)).map V.ref)) p5 = some (.lst ((as.take i ++ [a1, a0] ++ as.drop (i + 2)).map V.ref)) := Eq.trans upd_same (by rw [← List.map_append])
    generalize upd H5 p5 (.lst ((as.take i ++ [a1, a0]).map V.ref ++ (as.drop (i + 2)).map V.ref)) = H6 at e6 q5
    have e06 := (e04.trans e5).trans e6
    have t1 : ∀ (j : Nat) (a : Addr) (d : Deed), (as.take i)[j]? = some a → (ds.take i)[j]? = some d → DAt H a d := fun j a d' u1 u2 => by
      rw [List.getElem?_take] at u1 u2
      split at u1
      · rename_i c2
        rw [if_pos c2] at u2
        exact h3 j a d' u1 u2
      · cases u1
    have t2 : ∀ (j : Nat) (a : Addr) (d' : Deed), [a1, a0][j]? = some a → [e, d][j]? = some d' → DAt H a d' := fun j a d' u1 u2 => by
      match j, u1, u2 with
      | 0, u1, u2 => cases u1; cases u2; exact hD1
      | 1, u1, u2 => cases u1; cases u2; exact hD0
      | j + 2, u1, u2 => cases u1
    have t3 : ∀ (j : Nat) (a : Addr) (d : Deed), (as.drop (i + 2))[j]? = some a → (ds.drop (i + 2))[j]? = some d → DAt H a d := fun j a d' u1 u2 => by
      rw [List.getElem?_drop] at u1 u2
      exact h3 _ a d' u1 u2
    have l12 : (as.take i).length = (ds.take i).length := by rw [List.length_take, List.length_take, h2]
    have all := ds_app (as := as.take i ++ [a1, a0]) (ds := ds.take i ++ [e, d]) (by rw [List.length_append, List.length_append, l12]; rfl) (ds_app l12 t1 t2) t3
    have hDs : DsAt H6 p5 (xch ds i d e) := ⟨_, q5, by unfold xch; rw [List.length_append, List.length_append, List.length_append, List.length_append, l12, List.length_drop, List.length_drop, h2]; rfl, fun j a d' u1 u2 => (all j a d' u1 u2).ex e06⟩
    intro y' dy hy' hdy' hne
    have e7 : Evl.Ex H6 (upd (upd H6 dy (.own y')) y' (.ins C dy [])) := fun b o h => Eq.trans (upd_ne (ne_of_none' h hy')) (Eq.trans (upd_ne (ne_of_none' h hdy')) h)
    have ok' : okS ts (xch ds i d e) := by
      refine ⟨hok.1, ?_, fun d' hd' => ?_⟩
      · unfold xch
        rw [List.length_append, List.length_append, List.length_take, List.length_drop]
        show min i ds.length + 2 + (ds.length - (i + 2)) ≤ 60
        omega
      · unfold xch at hd'
        rcases List.mem_append.mp hd' with h | h
        · rcases List.mem_append.mp h with h | h
          · exact hok.2.2 d' (List.mem_of_mem_take h)
          · simp only [List.mem_cons, List.not_mem_nil, or_false] at h
            rcases h with rfl | rfl
            · exact hok.2.2 _ (List.mem_of_getElem? he)
            · exact hok.2.2 _ (List.mem_of_getElem? hd)
        · exact hok.2.2 d' (List.mem_of_mem_drop h)
    refine ⟨y', dy, .ref lt, .ref p5, ts, _, rfl, upd_same, (hlt.ex (e06.trans e7)).dq, (hDs.ex e7).dq, ok', fun v' u' fs' H' b hyy g1 g2 d1 d2 g0 => ⟨rfl, ?_⟩⟩
    have hyH := Evl.fresh_back e06 hy'
    have em : Evl.Ex (Nw (upd (upd H6 dy (.own y')) y' (.ins C dy [])) H') (Nw H H') := fun c o h => nw_at (Evl.fresh_back (e06.trans e7) (nw_none h)) (Nw.ex _ _ h)
    refine k y' H' hyH (fun cc o h => ?_) ⟨dy, fs', v', u', nw_at hyH hyy, g1, g2, d1.go em, d2.go em, g0⟩
    have h5 := e06 _ _ h
    exact b _ _ (ne_of_none' h5 hy') (e7 _ _ h5)

end
end V2


namespace V2
open PySem L2
open PySem.Spec PyProof.Rows
/-! ## a script is asked: the program's side, with the errors -/
def spCiX (CU : Addr) : Sp := fun vs H Q E => ∃ (i m : Int), vs = [.int i, .int m] ∧ ((0 ≤ i ∧ i < m) → Evl.RetV .non H Q) ∧ (¬ (0 ≤ i ∧ i < m) → ∀ H1, Evl.Ex H H1 → Rz CU H1 (.int i) E)
def spCxX (CU : Addr) : Sp := fun vs H Q E => ∃ (i m : Int), vs = [.int i, .int m] ∧ ((0 ≤ i ∧ i + 1 < m) → Evl.RetV .non H Q) ∧ (¬ (0 ≤ i ∧ i + 1 < m) → ∀ H1, Evl.Ex H H1 → Rz CU H1 (.int i) E)
/-- the step at an index -/
def spGiX (C CU : Addr) : Sp := fun vs H Q E => ∃ (x : Addr) (i : Int) (ts : List Tk) (ds : List Deed), vs = [.ref x, .int i] ∧ ScAt H C x ts ds ∧ okS ts ds ∧
  (∀ (n : Nat) (d : Deed), i = (n : Int) → ds[n]? = some d → ∀ (v : V) (as : List Addr) (H' : Hp), Evl.Ex H H' → TrD (Nw H H') v (dD d) as → as.Nodup → Q v H') ∧
  (¬ (0 ≤ i ∧ i < ds.length) → ∀ H1, Evl.Ex H H1 → Rz CU H1 (.int i) E)
def spWoX (C CU : Addr) : Sp := fun vs H Q E => ∃ (x : Addr) (i : Int) (ts : List Tk) (ds : List Deed), vs = [.ref x, .int i] ∧ ScAt H C x ts ds ∧ okS ts ds ∧
  (∀ n : Nat, i = (n : Int) → n < ds.length → ∀ (y : Addr) (H' : Hp), H y = none → Evl.Ex H H' → ScAt (Nw H H') C y ts (ds.take n ++ ds.drop (n + 1)) → Q (.ref y) H') ∧
  (¬ (0 ≤ i ∧ i < ds.length) → ∀ H1, Evl.Ex H H1 → Rz CU H1 (.int i) E)
def spXcX (C CU : Addr) : Sp := fun vs H Q E => ∃ (x : Addr) (i : Int) (ts : List Tk) (ds : List Deed), vs = [.ref x, .int i] ∧ ScAt H C x ts ds ∧ okS ts ds ∧
  (∀ (n : Nat) (d e : Deed), i = (n : Int) → ds[n]? = some d → ds[n + 1]? = some e → ∀ (y : Addr) (H' : Hp), H y = none → Evl.Ex H H' → ScAt (Nw H H') C y ts (xch ds n d e) → Q (.ref y) H') ∧
  (¬ (0 ≤ i ∧ i + 1 < ds.length) → ∀ H1, Evl.Ex H H1 → Rz CU H1 (.int i) E)
def lone (ts : List Tk) : Nat := ts.findIdx fun t => t.1.isNone
def spUnk (C : Addr) : Sp := fun vs H Q _ => ∃ (x : Addr) (ts : List Tk) (ds : List Deed), vs = [.ref x] ∧ ScAt H C x ts ds ∧ okS ts ds ∧ ∀ H', Evl.Ex H H' → Q (.int (lone ts : Nat)) H'
def spLenS (C : Addr) : Sp := fun vs H Q _ => ∃ (x : Addr) (ts : List Tk) (ds : List Deed), vs = [.ref x] ∧ ScAt H C x ts ds ∧ okS ts ds ∧ Q (.int (ds.length : Nat)) H
def eqB (ts : List Tk) (ds : List Deed) (ts' : List Tk) (ds' : List Deed) : Bool := PyData.eqv (.list (ts.map tkD)) (.list (ts'.map tkD)) && PyData.eqv (.list (ds.map dD)) (.list (ds'.map dD))
/-- whether a script is equal to something -/
def spEqS (K : PySem.W.Frag) (C : Addr) : Sp := fun vs H Q _ => ∃ (x : Addr) (y : V) (ts : List Tk) (ds : List Deed), vs = [.ref x, y] ∧ ScAt H C x ts ds ∧
  ((∃ (b : Addr) (ts' : List Tk) (ds' : List Deed), y = .ref b ∧ ScAt H C b ts' ds' ∧ Q (.bl (eqB ts ds ts' ds')) H) ∨ (∃ T : String, TyX K H y (.type T) ∧ PySem.W.kitOne K (.type T) (.ref C) = some false ∧ Q (.bl false) H))
theorem lone_at {ts : List Tk} (h : ts.countP (fun t => t.1.isNone) = 1) : ∃ t, ts[lone ts]? = some t ∧ t.1 = none ∧ lone ts < ts.length ∧ ∀ (j : Nat) (z : Tk), j < lone ts → ts[j]? = some z → ∃ w, z.1 = some w := by
  have hx : lone ts < ts.length := by
    unfold lone
    refine List.findIdx_lt_length_of_exists ?_
    have : 0 < ts.countP (fun t => t.1.isNone) := by omega
    obtain ⟨t, h1, h2⟩ := List.countP_pos_iff.mp this
    exact ⟨t, h1, h2⟩
  refine ⟨ts[lone ts], List.getElem?_eq_getElem hx, ?_, hx, fun j z hj hz => ?_⟩
  · have := List.findIdx_getElem (xs := ts) (p := fun t : Tk => t.1.isNone) (w := hx)
    have h2 : (ts[lone ts]).1.isNone = true := this
    exact Option.isNone_iff_eq_none.mp h2
  · have := List.not_of_lt_findIdx (xs := ts) (p := fun t : Tk => t.1.isNone) (i := j) hj
    have hj' : j < ts.length := by omega
    rw [List.getElem?_eq_getElem hj'] at hz
    cases hz
    cases e : (ts[j]).1 with
    | none =>
      rw [e] at this
      cases this
    | some w => exact ⟨w, rfl⟩
section
variable {base : Heap} {mg : Str → Option Value} {K : PySem.W.Frag} {w : World} {P : Program} {C CU fI fT fS pT pS eI0 : Addr}
theorem ok_check_indexX {f : Addr} {fd fdI : FuncData} (F : Fun K "check_index" "check_index" s_check_index f fd) (cA : Cal P w K mg base 2 "is_amount" p_is_amount spAmtB) (cc : Cal P w K mg base 1 "copied" p_copied (spCt 0)) (T : EC K CU eI0) (G : EG K eI0) (mE : mg "UnknownStep" = some (.ref CU)) (FI : FnOk P w K mg base CX0 1 eI0 fdI ["self", "value"] (spInit K)) (bI : Binds K fdI ["self", "value"] []) : FnOk P w K mg base (L2.CX P w) 3 f fd p_check_index (spCiX CU) := by
  refine F.okX sc_check_index (fun vs H Q E h => ?_) (fun cdv A outer s H vs Q E hr h => ?_)
  · obtain ⟨i, m, rfl, _⟩ := h
    rfl
  · obtain ⟨i, m, rfl, k, kx⟩ := h
    have r2 : Room (1 + 1) _ := hr.mono (by decide)
    have r1 : Room 1 _ := hr.mono (by decide)
    refine ⟨_, pss_one (ps_if (PW.pt (pw_or (pt_not (pt_val (pe_c cA hr (pa_cons (pv 0) pa_nil)))) (pw_or1 (pt_cmpR op_ge (pv 0) (pv 1) (nomark _))))) (pss_one (ps_raise rfl (takes_of rfl rfl rfl rfl) (pmk_oex (k := 1) T.ox T.iC G.tI FI r2 bI .nil pass0 (by rfl) mE (pa_cons (pe_c cc r1 (pa_cons (pv 0) pa_nil)) pa_nil)))) pss_nil), ?_⟩
    have bad : ∀ {H1 : Hp}, Evl.Ex H H1 → ¬ (0 ≤ i ∧ i < m) → ∀ (v' : V) (as : List Addr) (H3 : Hp), Evl.Ex H1 H3 → TrD (Nw H1 H3) v' (.int i) as → Rz CU H3 v' E := fun {H1} e1 hb v' as H3 e3 hv => by
      cases hv
      exact kx hb H3 (e1.trans e3)
    refine ⟨_, rfl, i, rfl, fun H1 e1 => ⟨_, rfl, ?_⟩⟩
    by_cases c : 0 ≤ i
    · rw [decide_eq_true c]
      refine if_f rfl ⟨_, rfl, _, rfl, _, _, rfl, rfl, _, rfl, ?_⟩
      by_cases c2 : i < m
      · exact if_f (decide_eq_false (by omega)) (k ⟨c, c2⟩ _ e1)
      · refine if_t (decide_eq_true (by omega)) ⟨_, rfl, _, _, rfl, .int i, .int _, fun v' as H3 e4 hv' _ => ?_⟩
        exact raise_in T fun e G' he ee hx => bad e1 (fun z => c2 z.2) v' as H3 e4 hv' e G' he ee hx
    · rw [decide_eq_false c]
      refine if_t rfl ⟨_, rfl, _, _, rfl, .int i, .int _, fun v' as H3 e4 hv' _ => ?_⟩
      exact raise_in T fun e G' he ee hx => bad e1 (fun z => c z.1) v' as H3 e4 hv' e G' he ee hx
theorem ok_check_exchangeX {f : Addr} {fd fdI : FuncData} (F : Fun K "check_exchange" "check_exchange" s_check_exchange f fd) (cI : CalX P w K mg base 3 "check_index" p_check_index (spCiX CU)) (T : EC K CU eI0) (G : EG K eI0) (mE : mg "UnknownStep" = some (.ref CU)) (FI : FnOk P w K mg base CX0 1 eI0 fdI ["self", "value"] (spInit K)) (bI : Binds K fdI ["self", "value"] []) : FnOk P w K mg base (L2.CX P w) 4 f fd p_check_exchange (spCxX CU) := by
  refine F.okX sc_check_exchange (fun vs H Q E h => ?_) (fun cdv A outer s H vs Q E hr h => ?_)
  · obtain ⟨i, m, rfl, _⟩ := h
    rfl
  · obtain ⟨i, m, rfl, k, kx⟩ := h
    have r2 : Room (1 + 1) _ := hr.mono (by decide)
    refine ⟨_, pss_cons (ps_expr (pe_cx (E := E) cI hr (takes_of rfl rfl rfl rfl) (fun _ _ _ _ h => h) (pa_cons (pv 0) (pa_cons (pv 1) pa_nil))))
      (pss_one (ps_if (pt_cmpR op_ge (pe_op op_add (pv 0) pe_int) (pv 1) (nomark _)) (pss_one (ps_raise rfl (takes_of rfl rfl rfl rfl) (pmk_oex (k := 1) T.ox T.iC G.tI FI r2 bI .nil pass0 (by rfl) mE (pa_cons (pv 0) pa_nil)))) pss_nil)), ?_⟩
    refine ⟨_, rfl, _, rfl, i, m, rfl, fun hi H1 e1 => ?_, fun hn => kx (fun z => hn ⟨z.1, by omega⟩)⟩
    refine ⟨_, rfl, _, _, rfl, rfl, _, rfl, _, _, rfl, rfl, _, rfl, ?_⟩
    by_cases c2 : i + 1 < m
    · exact if_f (decide_eq_false (by omega)) (k ⟨hi.1, c2⟩ _ e1)
    · refine if_t (decide_eq_true (by omega)) ⟨_, rfl, ?_⟩
      exact raise_in T fun e G' he ee hx => kx (fun z => c2 z.2) H1 e1 e G' he ee hx
theorem ok_Sc_len {f : Addr} {fd : FuncData} (F : Fun K "__len__" "Script.__len__" s_Sc_len f fd) (mL : mg "len" = none) (c : ScC K C fI fT fS pT pS) : FnOk P w K mg base CX0 1 f fd p_Sc_len (spLenS C) := by
  refine F.ok sc_Sc_len (fun vs H Q E h => ?_) (fun cdv A outer s H vs Q E hr h => ?_)
  · obtain ⟨x, ts, ds, rfl, _⟩ := h
    rfl
  · obtain ⟨x, ts, ds, rfl, ⟨dx, fs, v, y, hx, hv, hy, hdv, hdy, _⟩, hok, k⟩ := h
    obtain ⟨ls, rfl, hls⟩ := hdy.deeds
    obtain ⟨as, h1, h2, h3⟩ := id hls
    refine ⟨_, pss_one (ps_ret (pe_callB call_len_seq (by rfl) mL PySem.boot_len (pa_cons (pe_fld (pv 0) rfl) pa_nil))), ?_⟩
    refine ⟨_, rfl, x, C, dx, fs, _, rfl, hx, c.cls, c.na2, hy, ls, _, rfl, .inl (SqL.of h1), ?_⟩
    rw [List.length_map, h2]
    exact k
theorem ok_Sc_unknown {f : Addr} {fd : FuncData} (F : Fun K "unknown" "Script.unknown" s_Sc_unknown f fd) (c : ScC K C fI fT fS pT pS) : FnOk P w K mg base CX0 1 f fd p_Sc_unknown (spUnk C) := by
  refine F.ok sc_Sc_unknown (fun vs H Q E h => ?_) (fun cdv A outer s H vs Q E hr h => ?_)
  · obtain ⟨x, ts, ds, rfl, _⟩ := h
    rfl
  · obtain ⟨x, ts, ds, rfl, ⟨dx, fs, v, y, hx, hv, hy, hdv, hdy, _⟩, hok, k⟩ := h
    have nd := sc_Sc_unknown.nd
    obtain ⟨lt, rfl, hlt⟩ := hdv.tks
    obtain ⟨as, h1, h2, h3⟩ := id hlt
    refine ⟨_, pss_one (ps_ret (pe_bm PySem.F.plainAttrs_list PySem.F.slot_list_index PySem.F.type_list_index mt_index (pe_lc (own := [("width", 1), ("_", 2)]) (g := gTup K 2 (gCons (gName 1) (gCons (gName 2) gNil))) (tt := tYes) (te := tVar 1) rfl nd (pi_list (pe_fld (pv 0) rfl)) (blkOk_by (N := n_Sc_unknown) (sc := defScope s_Sc_unknown) (by decide +kernel)) (fun _ _ _ _ _ => pg_tup rfl (pgs_cons (pg_name (i := 1) nd rfl (Or.inl rfl)) (pgs_cons (pg_name (i := 2) nd rfl (Or.inl rfl)) pgs_nil))) (fun _ _ _ _ _ => pts_nil) (fun _ _ _ _ _ => pv 1)) (pa_cons pe_non pa_nil))), ?_⟩
    refine ⟨_, rfl, x, C, dx, fs, _, rfl, hx, c.cls, c.na1, hv, lt, rfl, ⟨_, SqL.of h1⟩, fun D hD => lc_list (xs := as.map V.ref) (fun i H' => Evl.Ex H H' ∧ H' D = some (.lst ((ts.take i).map fun t => wV t.1))) ⟨Evl.Ex.new hD, upd_same⟩ (fun i H' _ q => SqL.of (q.1 _ _ h1)) ?_ ?_⟩
    · rintro i z H2 hi ⟨e2, hD2⟩
      rw [List.getElem?_map] at hi
      obtain ⟨a, ha, rfl⟩ := Option.map_eq_some_iff.mp hi
      have hil : i < ts.length := by
        have := (List.getElem?_eq_some_iff.mp ha).1
        omega
      have ht := List.getElem?_eq_getElem hil
      have hat := h3 i a _ ha ht
      generalize ts[i] = t at ht hat
      refine ⟨a, _, rfl, SqT.of (e2 _ _ hat), rfl, ?_⟩
      refine ⟨_, _, rfl, _, _, rfl, rfl, rfl, ?_⟩
      unfold tYes
      refine if_t rfl ?_
      show tVar 1 _ _ _
      refine ⟨_, rfl, _, hD2, ?_, Evl.Ex.mut e2 hD, ?_⟩
      · rw [List.length_map, List.length_take]
        have := hok.1.1
        exact Nat.lt_of_le_of_lt (show min i ts.length ≤ 20 by omega) (by decide)
      · rw [upd_same, List.take_add_one, ht]
        simp
    · rintro H2 ⟨e2, hD2⟩
      rw [List.length_map, h2, List.take_length] at hD2
      obtain ⟨t, ht, tn, hl, hb⟩ := lone_at hok.1.2.2
      refine ⟨.inl ⟨rfl, _, SqL.of hD2⟩, D, _, .non, lone ts, .non, rfl, rfl, SqL.of hD2, rfl, ?_, ?_, rfl, fun m z' hm hz => ?_, k _ e2⟩
      · rw [List.all_eq_true]
        intro z hz
        obtain ⟨t', _, rfl⟩ := List.mem_map.mp hz
        cases t'.1 <;> rfl
      · rw [List.getElem?_map, ht]
        show some (wV t.1) = _
        rw [tn]
        rfl
      · rw [List.getElem?_map] at hz
        obtain ⟨t', h5, rfl⟩ := Option.map_eq_some_iff.mp hz
        obtain ⟨w', hw⟩ := hb m t' hm h5
        show eqV (wV t'.1) .non = false
        rw [hw]
        rfl
theorem ok_Sc_eq {f : Addr} {fd : FuncData} (F : Fun K "__eq__" "Script.__eq__" s_Sc_eq f fd) (c : ScC K C fI fT fS pT pS) (mI : mg "isinstance" = none) (mC : mg "Script" = some (.ref C)) (ty : ∀ {H : Hp} {a dx : Addr} {fs : List (Str × V)}, H a = some (.ins C dx fs) → TyX K H (.ref a) (.ref C)) : FnOk P w K mg base CX0 1 f fd p_Sc_eq (spEqS K C) := by
  refine F.ok sc_Sc_eq (fun vs H Q E h => ?_) (fun cdv A outer s H vs Q E hr h => ?_)
  · obtain ⟨x, y, ts, ds, rfl, _⟩ := h
    rfl
  · obtain ⟨x, y, ts, ds, rfl, ⟨dx, fs, v, u, hx, hv, hu, hdv, hdu, _⟩, h⟩ := h
    have nd := sc_Sc_eq.nd
    refine ⟨_, pss_one (ps_ret (pe_and (pe_callB call_isi (by rfl) mI (by decide +kernel) (pa_cons (pv 1) (pa_cons (pe_glob (v := .ref C) (by rfl) mC rfl) pa_nil))) (pe_and (pe_cmpR (op_eqD hr.units) (pe_fld (pv 0) rfl) (pe_fld (pv 1) rfl) (nomark _)) (pe_one (pe_cmpR (op_eqD hr.units) (pe_fld (pv 0) rfl) (pe_fld (pv 1) rfl) (nomark _)))))), ?_⟩
    rcases h with ⟨b, ts', ds', rfl, ⟨dy, fs', v', u', hy, hv', hu', hdv', hdu', _⟩, k⟩ | ⟨T, hT, hk, k⟩
    · have kt : PySem.W.kitOne K (.ref C) (.ref C) = some true := by
        unfold PySem.W.kitOne
        rw [if_pos (by simp)]
      obtain ⟨lt, rfl, hlt⟩ := hdv.tks
      obtain ⟨ls, rfl, hls⟩ := hdu.deeds
      obtain ⟨lt', rfl, hlt'⟩ := hdv'.tks
      obtain ⟨ls', rfl, hls'⟩ := hdu'.deeds
      refine ⟨_, rfl, .ref b, .ref C, _, _, true, rfl, .own C, ty hy, kt, _, rfl, if_t rfl ?_⟩
      refine ⟨_, rfl, x, C, dx, fs, _, rfl, hx, c.cls, c.na1, hv, _, rfl, b, C, dy, fs', _, rfl, hy, c.cls, c.na1, hv', _, _, dp_tks hlt, dp_tks hlt', shp_tks ts, shp_tks ts', ?_⟩
      unfold eqB at k
      refine ⟨_, rfl, ?_⟩
      cases e1 : PyData.eqv (.list (ts.map tkD)) (.list (ts'.map tkD)) with
      | false =>
        rw [e1] at k
        exact if_f rfl k
      | true =>
        rw [e1] at k
        refine if_t rfl ?_
        exact ⟨_, rfl, x, C, dx, fs, _, rfl, hx, c.cls, c.na2, hu, _, rfl, b, C, dy, fs', _, rfl, hy, c.cls, c.na2, hu', _, _, dp_ds hls, dp_ds hls', shp_ds ds, shp_ds ds', k⟩
    · exact ⟨_, rfl, y, .ref C, _, _, false, rfl, .own C, hT, hk, _, rfl, if_f rfl k⟩
end
end V2


namespace V2
open PySem L2
open PySem.Spec PyProof.Rows
/-! ## a step taken out, two exchanged, one told: right or refused -/
section
variable {base : Heap} {mg : Str → Option Value} {K : PySem.W.Frag} {w : World} {P : Program} {C CU fI fT fS pT pS : Addr}
theorem ok_Sc_withoutX {f : Addr} {fd fdI : FuncData} (F : Fun K "without" "Script.without" s_Sc_without f fd) (mL : mg "len" = none) (mC : mg "Script" = some (.ref C)) (c : ScC K C fI fT fS pT pS) (FI : FnOk P w K mg base CX0 5 fI fdI p_Sc_init (spScI C)) (bI : Binds K fdI p_Sc_init []) (cI : CalX P w K mg base 3 "check_index" p_check_index (spCiX CU)) : FnOk P w K mg base (L2.CX P w) 7 f fd p_Sc_without (spWoX C CU) := by
  refine F.okX sc_Sc_without (fun vs H Q E h => ?_) (fun cdv A outer s H vs Q E hr h => ?_)
  · obtain ⟨x, i, ts, ds, rfl, _⟩ := h
    rfl
  · obtain ⟨x, j, ts, ds, rfl, ⟨dx, fs, v, y, hx, hv, hy, hdv, hdy, _⟩, hok, k, kx⟩ := h
    have r3 : Room 3 _ := hr.mono (by decide)
    obtain ⟨lt, rfl, hlt⟩ := hdv.tks
    obtain ⟨ls, rfl, hls⟩ := hdy.deeds
    obtain ⟨as, h1, h2, h3⟩ := id hls
    refine ⟨_, pss_cons (ps_expr (pe_cx (E := E) cI r3 (takes_of rfl rfl rfl rfl) (fun _ _ _ _ h => h) (pa_cons (pv 1) (pa_cons (pe_callB call_len_seq (by rfl) mL PySem.boot_len (pa_cons (pe_fld (pv 0) rfl) pa_nil)) pa_nil))))
      (pss_one (ps_ret (pe_make c.mkI FI hr (by rfl) mC bI .nil pass0 (pa_cons (pe_fld (pv 0) rfl) (pa_cons (pe_op op_cat (pe_slice sl_list (pe_fld (pv 0) rfl) po_none (po_some (pv 1))) (pe_slice sl_list (pe_fld (pv 0) rfl) (po_some (pe_op op_add (pv 1) pe_int)) po_none)) pa_nil))))), ?_⟩
    refine ⟨_, rfl, _, rfl, x, C, dx, fs, _, rfl, hx, c.cls, c.na2, hy, ls, _, rfl, .inl (SqL.of h1), j, _, rfl, fun hj H1 e1 => ?_, fun hn => kx (by rw [List.length_map, h2] at hn; exact hn)⟩
    rw [List.length_map, h2] at hj
    obtain ⟨i, rfl⟩ : ∃ i : Nat, j = (i : Int) := ⟨j.toNat, by omega⟩
    have hi : i < ds.length := by omega
    have hx1 := e1 _ _ hx
    have g1 := e1 _ _ h1
    refine ⟨_, rfl, x, C, dx, fs, _, rfl, hx1, c.cls, c.na1, hv, _, rfl, x, C, dx, fs, _, rfl, hx1, c.cls, c.na2, hy, ?_⟩
    have len := hok.2.1
    refine ⟨_, rfl, (i : Int), rfl, ls, _, rfl, SqL.of g1, fun p1 hp1 => ?_⟩
    have e2 := Evl.Ex.new (o := .lst (cutV (as.map V.ref) none (some (i : Int)))) hp1
    have q1 : upd H1 p1 (.lst (cutV (as.map V.ref) none (some (i : Int)))) p1 = some (.lst ((as.take i).map V.ref)) := Eq.trans upd_same (by rw [cut_min, List.map_take])
    generalize upd H1 p1 (.lst (cutV (as.map V.ref) none (some (i : Int)))) = H2 at e2 q1
    refine ⟨_, rfl, x, C, dx, fs, _, rfl, e2 _ _ hx1, c.cls, c.na2, hy, _, rfl, _, _, rfl, rfl, ((i + 1 : Nat) : Int), rfl, ls, _, rfl, SqL.of (e2 _ _ g1), fun p2 hp2 => ?_⟩
    have e3 := Evl.Ex.new (o := .lst (cutV (as.map V.ref) (some ((i + 1 : Nat) : Int)) none)) hp2
    have q2 : upd H2 p2 (.lst (cutV (as.map V.ref) (some ((i + 1 : Nat) : Int)) none)) p2 = some (.lst ((as.drop (i + 1)).map V.ref)) := Eq.trans upd_same (by rw [cut_drop, List.map_drop])
    generalize upd H2 p2 (.lst (cutV (as.map V.ref) (some ((i + 1 : Nat) : Int)) none)) = H3 at e3 q2
    refine ⟨p1, p2, _, _, rfl, rfl, e3 _ _ q1, q2, ?_, fun p3 hp3 => ?_⟩
    · rw [List.length_map, List.length_map, List.length_take, List.length_drop]
      exact Nat.le_trans (show min i as.length + (as.length - (i + 1)) ≤ 120 by omega) (by decide)
    have e4 := Evl.Ex.new (o := .lst ((as.take i).map V.ref ++ (as.drop (i + 1)).map V.ref)) hp3
    have q3 : upd H3 p3 (.lst ((as.take i).map V.ref ++ (as.drop (i + 1)).map V.ref)) p3 = some (.lst ((as.take i ++ as.drop (i + 1)).map V.ref)) := Eq.trans upd_same (by rw [List.map_append])
    generalize upd H3 p3 (.lst ((as.take i).map V.ref ++ (as.drop (i + 1)).map V.ref)) = H4 at e4 q3
    have e04 := ((e1.trans e2).trans e3).trans e4
    obtain ⟨pl, pd⟩ := ds_parts h2 h3 i (i + 1)
    have hDs : DsAt H4 p3 (ds.take i ++ ds.drop (i + 1)) := ⟨_, q3, pl, fun j a d u1 u2 => (pd j a d u1 u2).ex e04⟩
    intro y' dy hy' hdy' hne
    have e5 : Evl.Ex H4 (upd (upd H4 dy (.own y')) y' (.ins C dy [])) := fun b o h => Eq.trans (upd_ne (ne_of_none' h hy')) (Eq.trans (upd_ne (ne_of_none' h hdy')) h)
    have ok' : okS ts (ds.take i ++ ds.drop (i + 1)) := ⟨hok.1, by rw [List.length_append, List.length_take, List.length_drop]; omega, fun d hd => by
      rcases List.mem_append.mp hd with h | h
      · exact hok.2.2 d (List.mem_of_mem_take h)
      · exact hok.2.2 d (List.mem_of_mem_drop h)⟩
    refine ⟨y', dy, .ref lt, .ref p3, ts, _, rfl, upd_same, (hlt.ex (e04.trans e5)).dq, (hDs.ex e5).dq, ok', fun v' u' fs' H' b hyy g1 g2 d1 d2 g0 => ⟨rfl, ?_⟩⟩
    have e06 := e04
    have hyH := Evl.fresh_back e06 hy'
    have em : Evl.Ex (Nw (upd (upd H4 dy (.own y')) y' (.ins C dy [])) H') (Nw H H') := fun c o h => nw_at (Evl.fresh_back (e06.trans e5) (nw_none h)) (Nw.ex _ _ h)
    refine k i rfl hi y' H' hyH (fun cc o h => ?_) ⟨dy, fs', v', u', nw_at hyH hyy, g1, g2, d1.go em, d2.go em, g0⟩
    have h5 := e06 _ _ h
    exact b _ _ (ne_of_none' h5 hy') (e5 _ _ h5)

theorem ok_Sc_exchangedX {f : Addr} {fd fdI : FuncData} (F : Fun K "exchanged" "Script.exchanged" s_Sc_exchanged f fd) (mL : mg "len" = none) (mC : mg "Script" = some (.ref C)) (c : ScC K C fI fT fS pT pS) (FI : FnOk P w K mg base CX0 5 fI fdI p_Sc_init (spScI C)) (bI : Binds K fdI p_Sc_init []) (cX : CalX P w K mg base 4 "check_exchange" p_check_exchange (spCxX CU)) : FnOk P w K mg base (L2.CX P w) 7 f fd p_Sc_exchanged (spXcX C CU) := by
  refine F.okX sc_Sc_exchanged (fun vs H Q E h => ?_) (fun cdv A outer s H vs Q E hr h => ?_)
  · obtain ⟨x, i, ts, ds, rfl, _⟩ := h
    rfl
  · obtain ⟨x, j, ts, ds, rfl, ⟨dx, fs, v, y, hx, hv, hy, hdv, hdy, _⟩, hok, k, kx⟩ := h
    have nd := sc_Sc_exchanged.nd
    have r4 : Room 4 _ := hr.mono (by decide)
    have two : 2 ≤ sizeLine := by show 2 ≤ sizeLine; decide
    obtain ⟨lt, rfl, hlt⟩ := hdv.tks
    obtain ⟨ls, rfl, hls⟩ := hdy.deeds
    obtain ⟨as, h1, h2, h3⟩ := id hls
    refine ⟨_, pss_cons (ps_expr (pe_cx (E := E) cX r4 (takes_of rfl rfl rfl rfl) (fun _ _ _ _ h => h) (pa_cons (pv 1) (pa_cons (pe_callB call_len_seq (by rfl) mL PySem.boot_len (pa_cons (pe_fld (pv 0) rfl) pa_nil)) pa_nil))))
      (pss_cons (ps_par (i := 2) (j := 3) rfl nd rfl rfl (by decide) rfl rfl (pa_cons (pe_ix ix_list (pe_fld (pv 0) rfl) (pv 1) (fun _ _ => rfl)) (pa_cons (pe_ix ix_list (pe_fld (pv 0) rfl) (pe_op op_add (pv 1) pe_int) (fun _ _ => rfl)) pa_nil)) (by rfl))
      (pss_one (ps_ret (pe_make c.mkI FI hr (by rfl) mC bI .nil pass0 (pa_cons (pe_fld (pv 0) rfl) (pa_cons (pe_op op_cat (pe_op op_cat (pe_slice sl_list (pe_fld (pv 0) rfl) po_none (po_some (pv 1))) (pe_lst (pa_cons (pv 3) (pa_cons (pv 2) pa_nil)))) (pe_slice sl_list (pe_fld (pv 0) rfl) (po_some (pe_op op_add (pv 1) pe_int)) po_none)) pa_nil)))))), ?_⟩
    refine ⟨_, rfl, _, rfl, x, C, dx, fs, _, rfl, hx, c.cls, c.na2, hy, ls, _, rfl, .inl (SqL.of h1), j, _, rfl, fun hj H1 e1 => ?_, fun hn => kx (by rw [List.length_map, h2] at hn; exact hn)⟩
    rw [List.length_map, h2] at hj
    obtain ⟨i, rfl⟩ : ∃ i : Nat, j = (i : Int) := ⟨j.toNat, by omega⟩
    have hi : i + 1 < ds.length := by omega
    obtain ⟨d, hd⟩ : ∃ d, ds[i]? = some d := ⟨_, List.getElem?_eq_getElem (by omega)⟩
    obtain ⟨e, he⟩ : ∃ e, ds[i + 1]? = some e := ⟨_, List.getElem?_eq_getElem hi⟩
    have len := hok.2.1
    obtain ⟨a0, ha0⟩ : ∃ a, as[i]? = some a := ⟨_, List.getElem?_eq_getElem (by omega)⟩
    obtain ⟨a1, ha1⟩ : ∃ a, as[i + 1]? = some a := ⟨_, List.getElem?_eq_getElem (by omega)⟩
    have g0 : (as.map V.ref)[i]? = some (.ref a0) := by rw [List.getElem?_map, ha0]; rfl
    have g1' : (as.map V.ref)[i + 1]? = some (.ref a1) := by rw [List.getElem?_map, ha1]; rfl
    have hD0 := h3 i a0 d ha0 hd
    have hD1 := h3 (i + 1) a1 e ha1 he
    have hx1 := e1 _ _ hx
    have g1 := e1 _ _ h1
    refine ⟨_, rfl, x, C, dx, fs, _, rfl, hx1, c.cls, c.na2, hy, _, rfl, ls, _, _, _, rfl, rfl, SqL.of g1, atI_nat g0, ?_⟩
    refine ⟨_, rfl, x, C, dx, fs, _, rfl, hx1, c.cls, c.na2, hy, _, rfl, _, _, rfl, rfl, ls, _, ((i + 1 : Nat) : Int), _, rfl, rfl, SqL.of g1, atI_nat g1', _, _, rfl, ?_⟩
    refine ⟨_, rfl, x, C, dx, fs, _, rfl, hx1, c.cls, c.na1, hv, _, rfl, x, C, dx, fs, _, rfl, hx1, c.cls, c.na2, hy, ?_⟩
    refine ⟨_, rfl, (i : Int), rfl, ls, _, rfl, SqL.of g1, fun p1 hp1 => ?_⟩
    have e2 := Evl.Ex.new (o := .lst (cutV (as.map V.ref) none (some (i : Int)))) hp1
    have q1 : upd H1 p1 (.lst (cutV (as.map V.ref) none (some (i : Int)))) p1 = some (.lst ((as.take i).map V.ref)) := Eq.trans upd_same (by rw [cut_min, List.map_take])
    generalize upd H1 p1 (.lst (cutV (as.map V.ref) none (some (i : Int)))) = H2 at e2 q1
    refine ⟨_, rfl, _, rfl, two, fun p2 hp2 => ?_⟩
    have e3 := Evl.Ex.new (o := .lst [V.ref a1, V.ref a0]) hp2
    refine ⟨p1, p2, _, _, rfl, rfl, e3 _ _ q1, upd_same, ?_, fun p3 hp3 => ?_⟩
    · rw [List.length_map, List.length_take]
      exact Nat.le_trans (show min i as.length + 2 ≤ 120 by omega) (by decide)
    have e4 := Evl.Ex.new (o := .lst ((as.take i).map V.ref ++ [V.ref a1, V.ref a0])) hp3
    have q3 : upd (upd H2 p2 (.lst [V.ref a1, V.ref a0])) p3 (.lst ((as.take i).map V.ref ++ [V.ref a1, V.ref a0])) p3 = some (.lst ((as.take i ++ [a1, a0]).map V.ref)) := Eq.trans upd_same (by rw [List.map_append]; rfl)
    have e14 := (e2.trans e3).trans e4
    generalize upd (upd H2 p2 (.lst [V.ref a1, V.ref a0])) p3 (.lst ((as.take i).map V.ref ++ [V.ref a1, V.ref a0])) = H4 at e4 q3 e14
    have e04 := e1.trans e14
    have hx4 := e04 _ _ hx
    refine ⟨_, rfl, x, C, dx, fs, _, rfl, hx4, c.cls, c.na2, hy, _, rfl, _, _, rfl, rfl, ((i + 2 : Nat) : Int), rfl, ls, _, rfl, SqL.of (e04 _ _ h1), fun p4 hp4 => ?_⟩
    have e5 := Evl.Ex.new (o := .lst (cutV (as.map V.ref) (some ((i + 2 : Nat) : Int)) none)) hp4
    have q4 : upd H4 p4 (.lst (cutV (as.map V.ref) (some ((i + 2 : Nat) : Int)) none)) p4 = some (.lst ((as.drop (i + 2)).map V.ref)) := Eq.trans upd_same (by rw [cut_drop, List.map_drop])
    generalize upd H4 p4 (.lst (cutV (as.map V.ref) (some ((i + 2 : Nat) : Int)) none)) = H5 at e5 q4
    refine ⟨p3, p4, _, _, rfl, rfl, e5 _ _ q3, q4, ?_, fun p5 hp5 => ?_⟩
    · rw [List.length_map, List.length_map, List.length_append, List.length_take, List.length_drop]
      exact Nat.le_trans (show min i as.length + 2 + (as.length - (i + 2)) ≤ 120 by omega) (by decide)
    have e6 := Evl.Ex.new (o := .lst ((as.take i ++ [a1, a0]).map V.ref ++ (as.drop (i + 2)).map V.ref)) hp5
    have q5 : upd H5 p5 (.lst ((as.take i ++ [a1, a0]).map V.ref ++ (as.drop (i + 2)).map V.ref)) p5 = some (.lst ((as.take i ++ [a1, a0] ++ as.drop (i + 2)).map V.ref)) := Eq.trans upd_same (by rw [← List.map_append])
    generalize upd H5 p5 (.lst ((as.take i ++ [a1, a0]).map V.ref ++ (as.drop (i + 2)).map V.ref)) = H6 at e6 q5
    have e06 := (e04.trans e5).trans e6
    have t1 : ∀ (j : Nat) (a : Addr) (d : Deed), (as.take i)[j]? = some a → (ds.take i)[j]? = some d → DAt H a d := fun j a d' u1 u2 => by
      rw [List.getElem?_take] at u1 u2
      split at u1
      · rename_i c2
        rw [if_pos c2] at u2
        exact h3 j a d' u1 u2
      · cases u1
    have t2 : ∀ (j : Nat) (a : Addr) (d' : Deed), [a1, a0][j]? = some a → [e, d][j]? = some d' → DAt H a d' := fun j a d' u1 u2 => by
      match j, u1, u2 with
      | 0, u1, u2 => cases u1; cases u2; exact hD1
      | 1, u1, u2 => cases u1; cases u2; exact hD0
      | j + 2, u1, u2 => cases u1
    have t3 : ∀ (j : Nat) (a : Addr) (d : Deed), (as.drop (i + 2))[j]? = some a → (ds.drop (i + 2))[j]? = some d → DAt H a d := fun j a d' u1 u2 => by
      rw [List.getElem?_drop] at u1 u2
      exact h3 _ a d' u1 u2
    have l12 : (as.take i).length = (ds.take i).length := by rw [List.length_take, List.length_take, h2]
    have all := ds_app (as := as.take i ++ [a1, a0]) (ds := ds.take i ++ [e, d]) (by rw [List.length_append, List.length_append, l12]; rfl) (ds_app l12 t1 t2) t3
    have hDs : DsAt H6 p5 (xch ds i d e) := ⟨_, q5, by unfold xch; rw [List.length_append, List.length_append, List.length_append, List.length_append, l12, List.length_drop, List.length_drop, h2]; rfl, fun j a d' u1 u2 => (all j a d' u1 u2).ex e06⟩
    intro y' dy hy' hdy' hne
    have e7 : Evl.Ex H6 (upd (upd H6 dy (.own y')) y' (.ins C dy [])) := fun b o h => Eq.trans (upd_ne (ne_of_none' h hy')) (Eq.trans (upd_ne (ne_of_none' h hdy')) h)
    have ok' : okS ts (xch ds i d e) := by
      refine ⟨hok.1, ?_, fun d' hd' => ?_⟩
      · unfold xch
        rw [List.length_append, List.length_append, List.length_take, List.length_drop]
        show min i ds.length + 2 + (ds.length - (i + 2)) ≤ 60
        omega
      · unfold xch at hd'
        rcases List.mem_append.mp hd' with h | h
        · rcases List.mem_append.mp h with h | h
          · exact hok.2.2 d' (List.mem_of_mem_take h)
          · simp only [List.mem_cons, List.not_mem_nil, or_false] at h
            rcases h with rfl | rfl
            · exact hok.2.2 _ (List.mem_of_getElem? he)
            · exact hok.2.2 _ (List.mem_of_getElem? hd)
        · exact hok.2.2 d' (List.mem_of_mem_drop h)
    refine ⟨y', dy, .ref lt, .ref p5, ts, _, rfl, upd_same, (hlt.ex (e06.trans e7)).dq, (hDs.ex e7).dq, ok', fun v' u' fs' H' b hyy g1 g2 d1 d2 g0 => ⟨rfl, ?_⟩⟩
    have hyH := Evl.fresh_back e06 hy'
    have em : Evl.Ex (Nw (upd (upd H6 dy (.own y')) y' (.ins C dy [])) H') (Nw H H') := fun c o h => nw_at (Evl.fresh_back (e06.trans e7) (nw_none h)) (Nw.ex _ _ h)
    refine k i d e rfl hd he y' H' hyH (fun cc o h => ?_) ⟨dy, fs', v', u', nw_at hyH hyy, g1, g2, d1.go em, d2.go em, g0⟩
    have h5 := e06 _ _ h
    exact b _ _ (ne_of_none' h5 hy') (e7 _ _ h5)

theorem ok_Sc_getitem {f : Addr} {fd : FuncData} (F : Fun K "__getitem__" "Script.__getitem__" s_Sc_getitem f fd) (mL : mg "len" = none) (c : ScC K C fI fT fS pT pS) (cI : CalX P w K mg base 3 "check_index" p_check_index (spCiX CU)) (cc : Cal P w K mg base 3 "copied" p_copied (spCt 2)) : FnOk P w K mg base (L2.CX P w) 4 f fd p_Sc_getitem (spGiX C CU) := by
  refine F.okX sc_Sc_getitem (fun vs H Q E h => ?_) (fun cdv A outer s H vs Q E hr h => ?_)
  · obtain ⟨x, i, ts, ds, rfl, _⟩ := h
    rfl
  · obtain ⟨x, j, ts, ds, rfl, ⟨dx, fs, v, y, hx, hv, hy, hdv, hdy, _⟩, hok, k, kx⟩ := h
    have r3 : Room 3 _ := hr.mono (by decide)
    obtain ⟨ls, rfl, hls⟩ := hdy.deeds
    obtain ⟨as, h1, h2, h3⟩ := id hls
    refine ⟨_, pss_cons (ps_expr (pe_cx (E := E) cI hr (takes_of rfl rfl rfl rfl) (fun _ _ _ _ h => h) (pa_cons (pv 1) (pa_cons (pe_callB call_len_seq (by rfl) mL PySem.boot_len (pa_cons (pe_fld (pv 0) rfl) pa_nil)) pa_nil))))
      (pss_one (ps_ret (pe_c cc r3 (pa_cons (pe_ix ix_list (pe_fld (pv 0) rfl) (pv 1) (fun _ _ => rfl)) pa_nil)))), ?_⟩
    refine ⟨_, rfl, _, rfl, x, C, dx, fs, _, rfl, hx, c.cls, c.na2, hy, ls, _, rfl, .inl (SqL.of h1), j, _, rfl, fun hj H1 e1 => ?_, fun hn => kx (by rw [List.length_map, h2] at hn; exact hn)⟩
    rw [List.length_map, h2] at hj
    obtain ⟨i, rfl⟩ : ∃ i : Nat, j = (i : Int) := ⟨j.toNat, by omega⟩
    have hi : i < ds.length := by omega
    obtain ⟨d, hd⟩ : ∃ d, ds[i]? = some d := ⟨_, List.getElem?_eq_getElem hi⟩
    obtain ⟨a0, ha0⟩ : ∃ a, as[i]? = some a := ⟨_, List.getElem?_eq_getElem (by omega)⟩
    have g0 : (as.map V.ref)[i]? = some (.ref a0) := by rw [List.getElem?_map, ha0]; rfl
    have hm := hok.2.2 d (List.mem_of_getElem? hd)
    refine ⟨_, rfl, x, C, dx, fs, _, rfl, e1 _ _ hx, c.cls, c.na2, hy, _, rfl, ls, _, _, _, rfl, rfl, SqL.of (e1 _ _ h1), atI_nat g0, ?_⟩
    have cpd : Cp 2 (dD d) := by
      have q := cp_deeds (ds := [d]) (n := (ts.length : Int)) (fun d' hd' => by rw [List.mem_singleton.mp hd']; exact hm) (by show 1 ≤ 100; decide)
      cases q with
      | lst _ q => exact q _ (by simp)
    refine ⟨_, _, rfl, dat_dq ((h3 i a0 d ha0 hd).ex e1), cpd, fun v' as' H' e' hv' hn' => ?_⟩
    exact k i d rfl hd v' as' H' (e1.trans e') (hv'.go fun b o z => nw_ofEx e1 z) hn'
end
end V2


namespace V2
open PySem L2
open PySem.Spec PyProof.Rows
/-! ## a script tells what was passed -/
def spGi (C : Addr) : Sp := fun vs H Q _ => ∃ (x : Addr) (i : Nat) (ts : List Tk) (ds : List Deed) (d : Deed), vs = [.ref x, .int (i : Int)] ∧ ScAt H C x ts ds ∧ okS ts ds ∧ ds[i]? = some d ∧ ∀ (v : V) (as : List Addr) (H' : Hp), Evl.Ex H H' → TrD (Nw H H') v (dD d) as → as.Nodup → Q v H'
def spScr (C : Addr) : Sp := fun vs H Q _ => ∃ (t : Addr) (ts : List Tk) (ds : List Deed), vs = [.ref t] ∧ ShAt H t ts ds ∧ okS ts ds ∧ ∀ (x : Addr) (H' : Hp), H x = none → Evl.Ex H H' → ScAt (Nw H H') C x ts ds → Q (.ref x) H'
def spSame (C : Addr) : Sp := fun vs H Q _ => ∃ (x t : Addr) (ts : List Tk) (ds : List Deed), vs = [.ref x, .ref t] ∧ ScAt H C x ts ds ∧ ShAt H t ts ds ∧ ShW ts ds ∧ ∀ H', Evl.Ex H H' → Q (.bl true) H'
theorem lone_only {ts : List Tk} (h : ts.countP (fun t => t.1.isNone) = 1) {j : Nat} {t : Tk} (ht : ts[j]? = some t) (hn : t.1 = none) : j = lone ts := by
  obtain ⟨t0, h0, n0, hl, hb⟩ := lone_at h
  rcases Nat.lt_trichotomy j (lone ts) with h1 | h1 | h1
  · obtain ⟨w, hw⟩ := hb j t h1 ht
    rw [hn] at hw
    cases hw
  · exact h1
  · exfalso
    have hs := h
    rw [← List.take_append_drop (lone ts + 1) ts, List.countP_append] at hs
    have c1 : 0 < (ts.take (lone ts + 1)).countP (fun t => t.1.isNone) := List.countP_pos_iff.mpr ⟨t0, List.mem_of_getElem? (i := lone ts) (by rw [List.getElem?_take, if_pos (Nat.lt_succ_self _)]; exact h0), by rw [n0]; rfl⟩
    have c2 : 0 < (ts.drop (lone ts + 1)).countP (fun t => t.1.isNone) := List.countP_pos_iff.mpr ⟨t, List.mem_of_getElem? (i := j - (lone ts + 1)) (by rw [List.getElem?_drop, show lone ts + 1 + (j - (lone ts + 1)) = j by omega]; exact ht), by rw [hn]; rfl⟩
    omega
/-! ### what is told, as data -/
abbrev lw5 : List Nat := [5, 61, 5, 31]
def fiveD (ts : List Tk) (ds : List Deed) : PyData := .list [.list (ts.map tkD), .list (ds.map dD), .int (lone ts : Nat), .int (ds.length : Nat), .list (ds.map dD)]
theorem lw_up {l : List Nat} {L : Nat} {ds : List PyData} {d : PyData} (h : Lw [5, 31] d) : Lw [5, 31] d := h
theorem bt_of {ts : List Tk} {ds : List Deed} (h : ShW ts ds) : ∀ t ∈ ts, Bt t := fun t ht => ⟨fun z hz => ⟨by have := (h.ok.1.2.1 t ht).1 z hz; omega, (h.w1000 t ht).1 z hz⟩, by have := (h.ok.1.2.1 t ht).2; omega, (h.w1000 t ht).2⟩
theorem gd_of {ts : List Tk} {ds : List Deed} (h : ShW ts ds) : ∀ d ∈ ds, GD ts d := fun d hd => ⟨h.ok.2.2 d hd, fun k a e => by subst e; exact h.p1000 k a hd⟩
theorem lw_tks {ts : List Tk} {ds : List Deed} (h : ShW ts ds) : Lw [61, 5, 31] (.list (ts.map tkD)) := .lst (by rw [List.length_map]; have := h.ok.1.1; omega) fun d hd => by
  obtain ⟨t, ht, rfl⟩ := List.mem_map.mp hd
  exact lw_tk (bt_of h t ht)
theorem lw_dss {ts : List Tk} {ds : List Deed} (h : ShW ts ds) : Lw [61, 5, 31] (.list (ds.map dD)) := .lst (by rw [List.length_map]; have := h.ok.2.1; omega) fun d hd => by
  obtain ⟨t, ht, rfl⟩ := List.mem_map.mp hd
  exact (gb_de (gd_of h t ht) h.ok.1.1).lw
theorem lw_i1000 {l : List Nat} {k : Nat} (h : k ≤ 1000) : Lw l (.int (k : Int)) := .int (Nat.lt_of_le_of_lt (show ((k : Int)).natAbs ≤ 1000 by omega) (by decide))
theorem lone_le {ts : List Tk} {ds : List Deed} (h : ShW ts ds) : lone ts ≤ 1000 := by
  obtain ⟨_, _, _, hl, _⟩ := lone_at h.ok.1.2.2
  have := h.ok.1.1
  omega
theorem lw_five {ts : List Tk} {ds : List Deed} (h : ShW ts ds) : Lw lw5 (fiveD ts ds) := .lst (by show 5 ≤ 5; decide) (lw_cons (lw_tks h) (lw_cons (lw_dss h) (lw_cons (lw_i1000 (lone_le h)) (lw_cons (lw_i1000 (by have := h.ok.2.1; omega)) (lw_cons (lw_dss h) lw_end)))))
theorem cnt_tks : ∀ ts : List Tk, cntA (ts.map tkD) = 0
  | [] => by simp [cntA]
  | (none, a) :: r => by simp [cntA, cnt_tks r, tkD, wD, cntD]
  | (some z, a) :: r => by simp [cntA, cnt_tks r, tkD, wD, cntD]
theorem cntI : ∀ ks : List Int, cntA (ks.map .int) = 0
  | [] => by simp [cntA]
  | k :: r => by simp [cntA, cntI r, cntD]
theorem cnt_dD (d : Deed) : cntD (dD d) ≤ 1 := by
  cases d <;> simp [dD, cntD, cntA, cntI, frD]
theorem cnt_dss (ds : List Deed) : cntA (ds.map dD) ≤ ds.length := by
  have := cntA_le (n := 1) (ds := ds.map dD) fun d hd => by
    obtain ⟨e, _, rfl⟩ := List.mem_map.mp hd
    exact cnt_dD e
  rw [List.length_map] at this
  omega
theorem cnt_five {ts : List Tk} {ds : List Deed} (h : ShW ts ds) : cntD (fiveD ts ds) ≤ 1000 := by
  have h1 := cnt_dss ds
  have h2 := h.ok.2.1
  simp only [fiveD, cntD, cntA, cnt_tks]
  omega
theorem rt5 {H : Hp} {v : V} {d : PyData} {as : List Addr} (hl : Lw lw5 d) (hct : cntD d ≤ 1000) (hv : TrD H v d as) : Cp 4 d ∧ as.length ≤ 1000 ∧ ShX d ∧ ShX (mkD 0 d) := by
  have hc := hv.cnt
  exact ⟨hl.cp (by decide), by omega, hl.sx.sh (by decide) (by decide), (hl.mk 0 (by omega)).sx.sh (by decide) (by decide)⟩
/-- lists that are new are none of the old heap -/
theorem trd_off {H H' : Hp} {v : V} {d : PyData} {as : List Addr} {n : Nat} (h : TrD (Nw H H') v d as) (c : Cp n d) : ∀ a ∈ as, H a = none ∧ ∃ xs, H' a = some (.lst xs) := fun a ha => by
  obtain ⟨xs, h1, _⟩ := h.lists c a ha
  exact ⟨nw_none h1, xs, Nw.ex _ _ h1⟩
theorem ex_woL {H H' : Hp} {as : List Addr} (e : Evl.Ex H H') (n : ∀ a ∈ as, H a = none) : Evl.Ex H (woL as H') := fun c o h => woL_at (fun m => by
  have := n c m
  rw [h] at this
  cases this) (e _ _ h)
theorem ex_butL {H H' H'' : Hp} {as : List Addr} (e : Evl.Ex H H') (n : ∀ a ∈ as, H a = none) (b : ButL as H' H'') : Evl.Ex H H'' := fun c o h => b _ _ (fun m => by
  have := n c m
  rw [h] at this
  cases this) (e _ _ h)
theorem pAt0 {X : Cx} {σ : L2.St} {E : XK} : PassesAt CX0 X σ E := fun _ _ _ _ _ _ h => h.elim
section
variable {base : Heap} {mg : Str → Option Value} {K : PySem.W.Frag} {w : World} {P : Program} {C fI fT fS pT pS pU fU fG fN fQ : Addr}
theorem ok_Sc_getitem0 {f : Addr} {fd : FuncData} (F : Fun K "__getitem__" "Script.__getitem__" s_Sc_getitem f fd) (mL : mg "len" = none) (c : ScC K C fI fT fS pT pS) (cI : Cal P w K mg base 3 "check_index" p_check_index spCi) (cc : Cal P w K mg base 3 "copied" p_copied (spCt 2)) : FnOk P w K mg base CX0 4 f fd p_Sc_getitem (spGi C) := by
  refine F.ok sc_Sc_getitem (fun vs H Q E h => ?_) (fun cdv A outer s H vs Q E hr h => ?_)
  · obtain ⟨x, i, ts, ds, d, rfl, _⟩ := h
    rfl
  · obtain ⟨x, i, ts, ds, d, rfl, ⟨dx, fs, v, y, hx, hv, hy, hdv, hdy, _⟩, hok, hd, k⟩ := h
    have r3 : Room 3 _ := hr.mono (by decide)
    obtain ⟨ls, rfl, hls⟩ := hdy.deeds
    obtain ⟨as, h1, h2, h3⟩ := id hls
    have hi := (List.getElem?_eq_some_iff.mp hd).1
    refine ⟨_, pss_cons (ps_expr (pe_c cI r3 (pa_cons (pv 1) (pa_cons (pe_callB call_len_seq (by rfl) mL PySem.boot_len (pa_cons (pe_fld (pv 0) rfl) pa_nil)) pa_nil))))
      (pss_one (ps_ret (pe_c cc r3 (pa_cons (pe_ix ix_list (pe_fld (pv 0) rfl) (pv 1) (fun _ _ => rfl)) pa_nil)))), ?_⟩
    refine ⟨_, rfl, _, rfl, x, C, dx, fs, _, rfl, hx, c.cls, c.na2, hy, ls, _, rfl, .inl (SqL.of h1), _, _, rfl, by omega, by rw [List.length_map, h2]; omega, fun H1 e1 => ?_⟩
    obtain ⟨a0, ha0⟩ : ∃ a, as[i]? = some a := ⟨_, List.getElem?_eq_getElem (by omega)⟩
    have g0 : (as.map V.ref)[i]? = some (.ref a0) := by rw [List.getElem?_map, ha0]; rfl
    have hm := hok.2.2 d (List.mem_of_getElem? hd)
    refine ⟨_, rfl, x, C, dx, fs, _, rfl, e1 _ _ hx, c.cls, c.na2, hy, _, rfl, ls, _, _, _, rfl, rfl, SqL.of (e1 _ _ h1), atI_nat g0, ?_⟩
    have cpd : Cp 2 (dD d) := by
      have q := cp_deeds (ds := [d]) (n := (ts.length : Int)) (fun d' hd' => by rw [List.mem_singleton.mp hd']; exact hm) (by show 1 ≤ 100; decide)
      cases q with
      | lst _ q => exact q _ (by simp)
    refine ⟨_, _, rfl, dat_dq ((h3 i a0 d ha0 hd).ex e1), cpd, fun v' as' H' e' hv' hn' => ?_⟩
    exact k v' as' H' (e1.trans e') (hv'.go fun b o z => nw_ofEx e1 z) hn'
theorem ok_script {f : Addr} {fd fdI : FuncData} (F : Fun K "_law_pv_script" "_law_pv_script" s_l_script f fd) (mC : mg "Script" = some (.ref C)) (c : ScC K C fI fT fS pT pS) (FI : FnOk P w K mg base CX0 5 fI fdI p_Sc_init (spScI C)) (bI : Binds K fdI p_Sc_init []) (l2 : Cal P w K mg base 3 "_law_pv_copied" p_l_copied (spCp 2)) (l3 : Cal P w K mg base 4 "_law_pv_copied" p_l_copied (spCp 3)) : FnOk P w K mg base CX0 7 f fd p_l_script (spScr C) := by
  refine F.ok sc_l_script (fun vs H Q E h => ?_) (fun cdv A outer s H vs Q E hr h => ?_)
  · obtain ⟨t, ts, ds, rfl, _⟩ := h
    rfl
  · obtain ⟨t, ts, ds, rfl, ⟨lv, ld, ht, hT, hD⟩, hok, k⟩ := h
    have r3 : Room 3 _ := hr.mono (by decide)
    have r4 : Room 4 _ := hr.mono (by decide)
    refine ⟨_, pss_one (ps_ret (pe_make c.mkI FI hr (by rfl) mC bI .nil pass0 (pa_cons (pe_c l2 r3 (pa_cons (pe_ix ix_tup (pv 0) pe_int (fun _ _ => rfl)) pa_nil)) (pa_cons (pe_c l3 r4 (pa_cons (pe_ix ix_tup (pv 0) pe_int (fun _ _ => rfl)) pa_nil)) pa_nil)))), ?_⟩
    refine ⟨_, rfl, t, _, _, _, rfl, rfl, SqT.of ht, rfl, _, _, rfl, hT.dq, cp_tks (Nat.le_trans hok.1.1 (by decide)), fun v H1 e1 hv => ?_⟩
    refine ⟨_, rfl, t, _, _, _, rfl, rfl, SqT.of (e1 _ _ ht), rfl, _, _, rfl, (hD.ex e1).dq, cp_deeds hok.2.2 (Nat.le_trans hok.2.1 (by decide)), fun u H2 e2 hu => ?_⟩
    intro y dy hy hdy hne
    have e12 := e1.trans e2
    have e5 : Evl.Ex H2 (upd (upd H2 dy (.own y)) y (.ins C dy [])) := fun b o h => Eq.trans (upd_ne (ne_of_none' h hy)) (Eq.trans (upd_ne (ne_of_none' h hdy)) h)
    refine ⟨y, dy, v, u, ts, ds, rfl, upd_same, ((Dq.go hv Nw.ex).go e2).go e5, (Dq.go hu Nw.ex).go e5, hok, fun v' u' fs H' b hyy g1 g2 d1 d2 g0 => ⟨rfl, ?_⟩⟩
    have hyH := Evl.fresh_back e12 hy
    have e5' : Evl.Ex H2 H' := fun c o h => b _ _ (ne_of_none' h hy) (e5 _ _ h)
    have em : Evl.Ex (Nw (upd (upd H2 dy (.own y)) y (.ins C dy [])) H') (Nw H H') := fun c o h => nw_at (Evl.fresh_back (e12.trans e5) (nw_none h)) (Nw.ex _ _ h)
    exact k y H' hyH (e12.trans e5') ⟨dy, fs, v', u', nw_at hyH hyy, g1, g2, d1.go em, d2.go em, g0⟩
theorem ok_same_script {f : Addr} {fd fdT fdS fdU fdG fdN fdQ : FuncData} (F : Fun K "_law_pv_same_script" "_law_pv_same_script" s_l_same_script f fd) (mL : mg "len" = none) (mR : mg "range" = none) (c : ScC K C fI fT fS pT pS)
    (FT : FnOk P w K mg base CX0 4 fT fdT p_Sc_tanks (spGetT C 2 "_tanks")) (bT : Binds K fdT p_Sc_tanks []) (FS : FnOk P w K mg base CX0 5 fS fdS p_Sc_steps (spGetT C 3 "_steps")) (bS : Binds K fdS p_Sc_steps [])
    (prU : PropOf K C "unknown" pU fU) (FU : FnOk P w K mg base CX0 1 fU fdU p_Sc_unknown (spUnk C)) (bU : Binds K fdU p_Sc_unknown []) (meN : Meth K C "__len__" fN) (FN : FnOk P w K mg base CX0 1 fN fdN p_Sc_len (spLenS C)) (bN : Binds K fdN p_Sc_len [])
    (gi : GiC K C fG) (FG : FnOk P w K mg base CX0 4 fG fdG p_Sc_getitem (spGi C)) (bG : Binds K fdG p_Sc_getitem []) (eqc : EqC K C fQ) (FQ : FnOk P w K mg base CX0 1 fQ fdQ p_Sc_eq (spEqS K C)) (bQ : Binds K fdQ p_Sc_eq [])
    (cSc : Cal P w K mg base 7 "_law_pv_script" p_l_script (spScr C)) (cRt : CalG P w K mg base 7 "_law_pv_right" p_l_right (spRtW 4)) : FnG P w K mg base 8 f fd p_l_same_script (spSame C) := by
  refine Fun.okG F sc_l_same_script (fun vs H Q E h => ?_) (fun cdv A outer s H vs Q E hg hr h => ?_)
  · obtain ⟨x, t, ts, ds, rfl, _⟩ := h
    rfl
  · obtain ⟨x, t, ts, ds, rfl, hSc, ⟨lv, ld, ht, hT, hD⟩, hW, kk⟩ := h
    have nd := sc_l_same_script.nd
    have five : 5 ≤ sizeLine := by show 5 ≤ sizeLine; decide
    have r1 : Room 1 _ := hr.mono (by decide)
    have r2 : Room 2 _ := hr.mono (by decide)
    have r5 : Room 5 _ := hr.mono (by decide)
    have r6 : Room 6 _ := hr.mono (by decide)
    have r7 : Room 7 _ := hr.mono (by decide)
    refine ⟨_, pss_cons (ps_asg (pv 1) (pg_tup rfl (pgs_cons (pg_name (i := 2) nd rfl (Or.inr rfl)) (pgs_cons (pg_name (i := 3) nd rfl (Or.inl rfl)) pgs_nil))))
      (pss_cons (ps_set (i := 4) nd rfl (Or.inl rfl) (pe_ix ix_list (pe_lc (own := [("k", 8)]) (g := (gName 8)) (tt := (tB (tIsN (tOp (rIxT K) (tOp (rIxL K) (tVar 2) (tVar 8)) (tC (.int 0)))))) (te := (tVar 8)) rfl nd (pi_range1 (by rfl) mR (pa_cons (pe_callB call_len_seq (by rfl) mL PySem.boot_len (pa_cons (pv 2) pa_nil)) pa_nil)) (blkOk_by (N := n_l_same_script) (sc := defScope s_l_same_script) (by decide +kernel)) (fun _ _ _ _ _ => (pg_name (i := 8) nd rfl (Or.inl rfl))) (fun _ _ _ _ _ => pts_one (pt_cmp (pc_isN (pe_ix ix_tup (pe_ix ix_list (pv 2) (pv 8) (fun _ _ => rfl)) pe_int (fun _ _ => rfl))))) (fun _ _ _ _ _ => (pv 8))) pe_int (fun _ _ => rfl)))
      (pss_cons (ps_for PassesOwn.never rfl (pi_range1 (by rfl) mR (pa_cons pe_int pa_nil)) (pg_name (i := 5) nd rfl (Or.inl rfl)) (pss_cons (ps_set (i := 6) nd rfl (Or.inl rfl) (pe_lst (pa_cons (pe_prop (pv 0) c.cls c.prT FT r5 bT .nil pass0 rfl) (pa_cons (pe_prop (pv 0) c.cls c.prS FS r6 bS .nil pass0 rfl) (pa_cons (pe_prop (pv 0) c.cls prU FU r2 bU .nil pass0 rfl) (pa_cons (pe_callB (call_lenO FN meN.at_ meN.fn bN r2) (by rfl) mL PySem.boot_len (pa_cons (pv 0) pa_nil)) (pa_cons (pe_lc (own := [("k", 8)]) (g := (gName 8)) (tt := tYes) (te := (tIxO C (spGi C) (fun _ => E0) (tVar 0) (tVar 8))) rfl nd (pi_range1 (by rfl) mR (pa_cons (pe_callB call_len_seq (by rfl) mL PySem.boot_len (pa_cons (pv 3) pa_nil)) pa_nil)) (blkOk_by (N := n_l_same_script) (sc := defScope s_l_same_script) (by decide +kernel)) (fun _ _ _ _ _ => (pg_name (i := 8) nd rfl (Or.inl rfl))) (fun _ _ _ _ _ => pts_nil) (fun _ _ _ _ _ => (pe_ixO (E := fun _ => E0) (pv 0) (pv 8) FG gi bG (fun _ => pAt0) r5))) pa_nil)))))))
      (pss_one (ps_if (pt_not (pt_val (pe_cg cRt hg r7 (pa_cons (pv 6) (pa_cons (pe_lst (pa_cons (pv 2) (pa_cons (pv 3) (pa_cons (pv 4) (pa_cons (pe_callB call_len_seq (by rfl) mL PySem.boot_len (pa_cons (pv 3) pa_nil)) (pa_cons (pv 3) pa_nil)))))) pa_nil))))) (pss_one (ps_ret pe_bl)) pss_nil))))
      (pss_cons (ps_set (i := 7) nd rfl (Or.inl rfl) (pe_c cSc hr (pa_cons (pv 1) pa_nil)))
      (pss_one (ps_ret (pe_and (pe_cmpR (op_eqO (E := E0) FQ eqc bQ pass0 r1) (pv 0) (pv 7) (nomark _)) (pe_and (pe_cmpR (op_eqO (E := E0) FQ eqc bQ pass0 r1) (pv 7) (pv 0) (nomark _)) (pe_one (pe_not (pe_cmpR (op_neO (E := E0) FQ eqc bQ pass0 r2) (pv 0) (pv 7) (nomark _))))))))))), ?_⟩
    obtain ⟨aT, hl1, hn1, hi1⟩ := id hT
    obtain ⟨aD, hl2, hn2, hi2⟩ := id hD
    have h20 := hW.ok.1.1
    have h60 := hW.ok.2.1
    refine ⟨_, rfl, t, _, rfl, SqT.of ht, rfl, _, _, rfl, _, _, rfl, rfl, ?_⟩
    refine ⟨_, rfl, lv, _, rfl, .inl (SqL.of hl1), (((aT.map V.ref).length : Nat) : Int), rfl, by omega, by rw [List.length_map, hn1]; omega, fun D hDn => lc_range (n := (aT.map V.ref).length) (fun i H' => Evl.Ex H H' ∧ H' D = some (.lst (if lone ts < i then [.int (lone ts : Nat)] else []))) ⟨Evl.Ex.new hDn, upd_same⟩ ?_ ?_⟩
    · rintro i H2 hi ⟨e2, hD2⟩
      rw [List.length_map, hn1] at hi
      rw [Int.zero_add]
      have hti := List.getElem?_eq_getElem hi
      obtain ⟨a, ha⟩ : ∃ a, aT[i]? = some a := ⟨_, List.getElem?_eq_getElem (by omega)⟩
      have hat := hi1 i a _ ha hti
      have g0 : (aT.map V.ref)[i]? = some (.ref a) := by rw [List.getElem?_map, ha]; rfl
      refine ⟨rfl, ?_⟩
      show tB (tIsN (tOp (rIxT K) (tOp (rIxL K) (tVar 2) (tVar 8)) (tC (.int 0)))) _ _ _
      refine ⟨_, rfl, _, rfl, lv, _, _, _, rfl, rfl, SqL.of (e2 _ _ hl1), atI_nat g0, a, _, _, _, rfl, rfl, SqT.of (e2 _ _ hat), rfl, _, rfl, ?_⟩
      cases hw : (ts[i]).1 with
      | none =>
        have hlo : i = lone ts := lone_only hW.ok.1.2.2 hti hw
        refine if_t rfl ?_
        show tVar 8 _ _ _
        rw [if_neg (by omega)] at hD2
        refine ⟨_, rfl, [], hD2, by decide, Evl.Ex.mut e2 hDn, ?_⟩
        rw [upd_same, if_pos (by omega), hlo]
        rfl
      | some z =>
        refine if_f rfl ⟨e2, ?_⟩
        have hne : i ≠ lone ts := fun q => by
          obtain ⟨t0, h0, n0, _⟩ := lone_at hW.ok.1.2.2
          rw [← q, hti] at h0
          cases h0
          rw [hw] at n0
          cases n0
        rw [hD2]
        by_cases h : lone ts < i
        · rw [if_pos h, if_pos (by omega)]
        · rw [if_neg h, if_neg (by omega)]
    rintro H1 ⟨e1, hD1⟩
    obtain ⟨_, _, _, hll, _⟩ := lone_at hW.ok.1.2.2
    rw [List.length_map, hn1, if_pos hll] at hD1
    refine ⟨D, _, 0, _, rfl, rfl, SqL.of hD1, rfl, ?_⟩
    refine ⟨2, rfl, by decide, by decide, for_range (n := 2) (fun i σ H' => ∃ v5 v6, σ = [some (.ref x), some (.ref t), some (.ref lv), some (.ref ld), some (.int (lone ts : Nat)), v5, v6, none, none] ∧ Evl.Ex H H') ⟨_, _, rfl, e1⟩ ?_ ?_⟩
    · rintro i σ H2 hi ⟨v5, v6, rfl, e2⟩
      obtain ⟨dx, fs, v, u, hx, g1, g2, d1, d2, g0⟩ := hSc.ex e2
      refine ⟨_, rfl, x, dx, fs, rfl, hx, x, dx, fs, v, _, rfl, hx, g1, d1, cp_tks (Nat.le_trans h20 (by decide)), fun v1 as1 H3 e3 hv1 hm1 => ?_⟩
      refine ⟨_, rfl, x, dx, fs, rfl, e3 _ _ hx, x, dx, fs, u, _, rfl, e3 _ _ hx, g2, d2.go e3, cp_deeds hW.ok.2.2 (Nat.le_trans h60 (by decide)), fun v2 as2 H4 e4 hv2 hm2 => ?_⟩
      have e24 := e3.trans e4
      have hSc4 := hSc.ex (e2.trans e24)
      refine ⟨_, rfl, x, dx, fs, rfl, e24 _ _ hx, x, ts, ds, rfl, hSc4, hW.ok, fun H5 e5 => ?_⟩
      have e25 := e24.trans e5
      have hSc5 := hSc4.ex e5
      refine ⟨_, rfl, x, dx, fs, rfl, e25 _ _ hx, x, ts, ds, rfl, hSc5, hW.ok, ?_⟩
      refine ⟨ds.length, rfl, by omega, ?_⟩
      have hl5 := (e2.trans e25) _ _ hl2
      have hcs : ∀ d ∈ ds.map dD, Cp 2 d := fun d hd => by
        have q := cp_deeds (ds := ds) (n := (ts.length : Int)) hW.ok.2.2 (Nat.le_trans h60 (by decide))
        cases q with
        | lst _ q => exact q d hd
      refine ⟨_, rfl, ld, _, rfl, .inl (SqL.of hl5), (((aD.map V.ref).length : Nat) : Int), rfl, by omega, by rw [List.length_map, hn2]; omega, fun D5 hD5 => lc_range (n := (aD.map V.ref).length) (fun i H' => Evl.Ex H5 H' ∧ ∃ acc bs, H' D5 = some (.lst acc) ∧ TrA (Nw H5 (woD D5 H')) acc ((ds.map dD).take i) bs ∧ bs.Nodup) ⟨Evl.Ex.new hD5, [], [], upd_same, .nil, List.nodup_nil⟩ ?_ ?_⟩
      · rintro i H6 hi ⟨e6, acc, bs, hD6, hacc, hnd⟩
        rw [List.length_map, hn2] at hi
        rw [Int.zero_add]
        have hdi := List.getElem?_eq_getElem hi
        generalize ds[i] = d at hdi
        have hdi' : (ds.map dD)[i]? = some (dD d) := by rw [List.getElem?_map, hdi]; rfl
        refine ⟨rfl, ?_⟩
        unfold tYes
        refine if_t rfl ?_
        show tIxO C (spGi C) (fun x => E0) (tVar 0) (tVar 8) _ _ _
        refine ⟨_, rfl, _, rfl, x, dx, fs, rfl, e6 _ _ (e25 _ _ hx), x, i, ts, ds, d, rfl, hSc5.ex e6, hW.ok, hdi, fun v' as' H7 e7 hv' hn' => ⟨acc, e7 _ _ hD6, ?_, Evl.Ex.mut (e6.trans e7) hD5, _, bs ++ as', upd_same, ?_, turn_nd hcs (List.mem_of_getElem? hdi') hacc hnd hv' hn'⟩⟩
        · have h1 := hacc.dq.len
          rw [List.length_take, List.length_map] at h1
          exact Nat.lt_of_le_of_lt (show acc.length ≤ 100 by omega) (by decide)
        · rw [ds_take hdi']
          exact (hacc.go (nwd_go e7)).snoc (hv'.go (nwd_new e6 hD6))
      · rintro H6 ⟨e6, acc, bs, hD6, hacc, hnd⟩
        rw [List.length_map, hn2, show ds.length = (ds.map dD).length from (List.length_map ..).symm, List.take_length] at hacc
        have hT5 : TrD (Nw H5 H6) (.ref D5) (.list (ds.map dD)) (D5 :: bs) := .lst (nw_at hD5 hD6) (hacc.go fun b o h => nw_at (nw_none h) (woD_some (Nw.ex _ _ h)).2)
        have hN5 : (D5 :: bs).Nodup := List.nodup_cons.mpr ⟨fun hm => by
          obtain ⟨ys, h1, _⟩ := hacc.lists hcs D5 hm
          exact (woD_some (Nw.ex _ _ h1)).1 rfl, hnd⟩
        have cpT := cp_tks (ts := ts) (Nat.le_trans h20 (by decide))
        have cpD := cp_deeds (ds := ds) (n := (ts.length : Int)) hW.ok.2.2 (Nat.le_trans h60 (by decide))
        have o1 := trd_off hv1 cpT
        have o2 := trd_off hv2 cpD
        have o3 := trd_off hT5 cpD
        refine ⟨five, fun q hq => ?_⟩
        have e7 := Evl.Ex.new (o := .lst [v1, v2, .int (lone ts : Nat), .int (ds.length : Nat), .ref D5]) hq
        have q7 : upd H6 q (.lst [v1, v2, .int (lone ts : Nat), .int (ds.length : Nat), .ref D5]) q = _ := upd_same
        generalize upd H6 q (.lst [v1, v2, .int (lone ts : Nat), .int (ds.length : Nat), .ref D5]) = H7 at e7 q7
        have hl7 := e7 _ _ (e6 _ _ hl5)
        refine ⟨_, rfl, _, rfl, _, rfl, _, rfl, _, rfl, ld, _, rfl, .inl (SqL.of hl7), _, rfl, five, fun r hr' => ?_⟩
        have e8 := Evl.Ex.new (o := .lst [.ref lv, .ref ld, .int (lone ts : Nat), .int ((aD.map V.ref).length : Nat), .ref ld]) hr'
        have r8 : upd H7 r (.lst [.ref lv, .ref ld, .int (lone ts : Nat), .int ((aD.map V.ref).length : Nat), .ref ld]) r = _ := upd_same
        generalize upd H7 r (.lst [.ref lv, .ref ld, .int (lone ts : Nat), .int ((aD.map V.ref).length : Nat), .ref ld]) = H8 at e8 r8
        have e58 := (e6.trans e7).trans e8
        have e38 := (e4.trans e5).trans e58
        have t1 : TrD H8 v1 (.list (ts.map tkD)) as1 := (hv1.go Nw.ex).go e38
        have t2 : TrD H8 v2 (.list (ds.map dD)) as2 := (hv2.go Nw.ex).go (e5.trans e58)
        have t3 : TrD H8 (.ref D5) (.list (ds.map dD)) (D5 :: bs) := (hT5.go Nw.ex).go (e7.trans e8)
        have hTr : TrD H8 (.ref q) (fiveD ts ds) (q :: (as1 ++ (as2 ++ ([] ++ ([] ++ ((D5 :: bs) ++ [])))))) := .lst (e8 _ _ q7) (.cons t1 (.cons t2 (.cons (.int _) (.cons (.int _) (.cons t3 .nil)))))
        -- where the lists are
        have some6 : ∀ a ∈ as1 ++ (as2 ++ ([] ++ ([] ++ ((D5 :: bs) ++ [])))), H2 a = none ∧ ∃ xs, H6 a = some (.lst xs) := fun a ha => by
          simp only [List.nil_append, List.append_nil, List.mem_append] at ha
          rcases ha with ha | ha | ha
          · obtain ⟨n1, xs, s1⟩ := o1 a ha
            exact ⟨n1, xs, e6 _ _ (e5 _ _ (e4 _ _ s1))⟩
          · obtain ⟨n1, xs, s1⟩ := o2 a ha
            exact ⟨Evl.fresh_back e3 n1, xs, e6 _ _ (e5 _ _ s1)⟩
          · obtain ⟨n1, xs, s1⟩ := o3 a ha
            exact ⟨Evl.fresh_back e25 n1, xs, s1⟩
        have hnd2 : (as1 ++ (as2 ++ ([] ++ ([] ++ ((D5 :: bs) ++ []))))).Nodup := by
          simp only [List.nil_append, List.append_nil]
          refine nodup_app hm1 (nodup_app hm2 hN5 fun a ha hb => ?_) fun a ha hb => ?_
          · obtain ⟨n1, _⟩ := o3 a hb
            obtain ⟨_, xs, s1⟩ := o2 a ha
            rw [e5 _ _ s1] at n1
            cases n1
          · obtain ⟨_, xs, s1⟩ := o1 a ha
            rcases List.mem_append.mp hb with hb | hb
            · obtain ⟨n1, _⟩ := o2 a hb
              rw [s1] at n1
              cases n1
            · obtain ⟨n1, _⟩ := o3 a hb
              rw [e5 _ _ (e4 _ _ s1)] at n1
              cases n1
        have hndA : (q :: (as1 ++ (as2 ++ ([] ++ ([] ++ ((D5 :: bs) ++ [])))))).Nodup := List.nodup_cons.mpr ⟨(fun hm => by
          obtain ⟨_, xs, s1⟩ := some6 q hm
          rw [hq] at s1
          cases s1), hnd2⟩
        have hnew : ∀ a ∈ q :: (as1 ++ (as2 ++ ([] ++ ([] ++ ((D5 :: bs) ++ []))))), H2 a = none := fun a ha => by
          rcases List.mem_cons.mp ha with rfl | ha
          · exact Evl.fresh_back (e25.trans e6) hq
          · exact (some6 a ha).1
        have hroff : r ∉ q :: (as1 ++ (as2 ++ ([] ++ ([] ++ ((D5 :: bs) ++ []))))) := fun hm => by
          rcases List.mem_cons.mp hm with rfl | hm
          · rw [q7] at hr'
            cases hr'
          · obtain ⟨_, xs, s1⟩ := some6 r hm
            rw [e7 _ _ s1] at hr'
            cases hr'
        have e28 := e25.trans e58
        have ew := ex_woL e28 hnew
        have eH := e2.trans ew
        obtain ⟨w1, w2, w3, w4⟩ := rt5 (lw_five hW) (cnt_five hW) hTr
        refine ⟨q, r, _, _, rfl, hTr, w1, hndA, w2, (.lst (woL_at hroff r8) (.cons (hT.ex eH).dq (.cons (hD.ex eH).dq (.cons (.int _) (.cons (by rw [List.length_map, hn2]; exact .int _) (.cons (hD.ex eH).dq .nil)))))), w3, w4, fun H9 b9 => ⟨true, rfl, if_f rfl ⟨_, _, rfl, ?_⟩⟩⟩
        exact ex_butL (e2.trans e28) (fun a ha => Evl.fresh_back e2 (hnew a ha)) b9
    · rintro σ H2 ⟨v5, v6, rfl, e2⟩
      refine ⟨_, rfl, t, ts, ds, rfl, ⟨lv, ld, e2 _ _ ht, hT.ex e2, hD.ex e2⟩, hW.ok, fun y H3 hy e3 hY => ?_⟩
      have hE : eqB ts ds ts ds = true := by
        unfold eqB
        rw [eqv_same (shp_tks ts), eqv_same (shp_ds ds)]
        rfl
      have hX3 := hSc.ex (e2.trans e3)
      have hY3 := hY.ex Nw.ex
      obtain ⟨dx, fs, _, _, hx, _⟩ := id hX3
      obtain ⟨dy, gs, _, _, hy3, _⟩ := id hY3
      refine ⟨_, rfl, _, rfl, x, dx, fs, .ref C, rfl, hx, .ins hy3, x, .ref y, ts, ds, rfl, hX3, .inl ⟨y, ts, ds, rfl, hY3, _, rfl, _, rfl, if_t hE ?_⟩⟩
      refine ⟨_, rfl, _, rfl, y, dy, gs, .ref C, rfl, hy3, .ins hx, y, .ref x, ts, ds, rfl, hY3, .inl ⟨x, ts, ds, rfl, hX3, _, rfl, _, rfl, if_t hE ?_⟩⟩
      refine ⟨_, rfl, _, rfl, x, dx, fs, .ref C, rfl, hx, .ins hy3, x, .ref y, ts, ds, rfl, hX3, .inl ⟨y, ts, ds, rfl, hY3, _, rfl, _, rfl, ?_⟩⟩
      show Q (.bl (! !eqB ts ds ts ds)) _
      rw [hE]
      exact kk _ (e2.trans e3)
end
end V2


namespace V2
open PySem L2
open PySem.Spec PyProof.Rows
/-! ## methods with arguments, called where an error is caught -/
/-- o.m(e, ..) -/
def tM1S (C : Addr) (m : Str) (sp : Sp) (E : L2.St → XK) (to : TE) (t : TA) : TE := fun τ G Q => to τ G fun y G1 => ∃ q dx fs, y = .ref q ∧ G1 q = some (.ins C dx fs) ∧ fs.lookup m = none ∧ t τ G1 fun vs G2 => sp (.ref q :: vs) G2 Q (E τ)
/-- o.m(k = e, ..) -/
def tMKS (C : Addr) (m : Str) (n : Nat) (sp : Sp) (gV : List V → List V → List V) (E : L2.St → XK) (to : TE) (tk : TA) : TE := fun τ G Q => to τ G fun y G1 => ∃ q dx fs, y = .ref q ∧ G1 q = some (.ins C dx fs) ∧ fs.lookup m = none ∧ tk τ G1 fun zs G2 => zs.length = n ∧ sp (gV [.ref q] zs) G2 Q (E τ)
section
variable {X : Cx} {CX : CXT} {k : Nat} {f C : Addr} {fd : FuncData} {ps ks : List Str} {sp : Sp} {E : L2.St → XK} {m : Str} {p q : Pos} {o e : Expr} {es : List Expr} {to : TE} {t tk : TA} {kws : List Keyword} {g : List Value → List Value → List Value} {gV : List V → List V → List V}
theorem pe_m1S {pl : Sem Bool} (ho : PE X o to) (cl : Cls X.K C) (hm : Meth X.K C m f) (F : FnOk X.prog X.w X.K X.mg X.base CX k f fd ps sp) (hr : Room k X.A) (hb : Binds X.K fd ps []) (hx : ∀ τ, PassesAt CX X τ (E τ)) (ha : PA X (e :: es) t)
    (hst : starEach (e :: es) X.env = (false, eval e X.env) :: starEach es X.env := by rfl) (hpl : (backTo p (starEach es X.env)).any (·.1) = false := by rfl)
    (ht : eval (.Call (.Attribute o m q) (e :: es) [] p) X.env = (do
      let u ← eval o X.env
      standAt q.atName
      let (g, one) ← holding [u] (getMethod u m pl)
      callWith p g one (backTo p (starEach (e :: es) X.env)) (backToKw p (keywordEach [] X.env))) := by rfl) : PE X (.Call (.Attribute o m q) (e :: es) [] p) (tM1S C m sp E to t) := by
  constructor
  intro pins s τ G Q I h
  refine PySem.W.methodCall_KW (pl := pl) (thn (ho.run pins s τ G _ I h) fun u s1 got => ?_) ht
  obtain ⟨y, G1, I1, ry, b, dx, fs, rfl, hb1, l, z⟩ := got
  cases ry
  refine getmeth_ok I1 hb1 cl hm l ?_
  refine PySem.W.callWith_K (first := [.ref b]) (h₀ := X.base) I.ok.mod.kin hm.kp (thn (ha.run p pins s1 τ G1 _ I1 z) fun us s2 got2 => ?_) hst hpl
  obtain ⟨vs, G2, I2, r, z2⟩ := got2
  exact ⟨I2.kIn, run_fnS (us := .ref b :: us) (vs := .ref b :: vs) F hr hb (hx τ) I2 (.cons rfl r) z2⟩
theorem pe_mkwS {pl : Sem Bool} (ho : PE X o to) (cl : Cls X.K C) (hm : Meth X.K C m f) (F : FnOk X.prog X.w X.K X.mg X.base CX k f fd ps sp) (hr : Room k X.A) (hb : KBn X.K fd ps 1 ks g gV) (hx : ∀ τ, PassesAt CX X τ (E τ)) (hkw : PK X kws tk)
    (hall : (backToKw p (keywordEach kws X.env)).all (·.1.isSome) = true := by rfl) (hks : (backToKw p (keywordEach kws X.env)).filterMap (·.1) = ks := by rfl)
    (hpl : ((backTo p (starEach [] X.env)).any (·.1) || (backToKw p (keywordEach kws X.env)).any (·.1.isNone)) = false := by rfl)
    (ht : eval (.Call (.Attribute o m q) [] kws p) X.env = (do
      let u ← eval o X.env
      standAt q.atName
      let (g, one) ← holding [u] (getMethod u m pl)
      callWith p g one (backTo p (starEach [] X.env)) (backToKw p (keywordEach kws X.env))) := by rfl) : PE X (.Call (.Attribute o m q) [] kws p) (tMKS C m ks.length sp gV E to tk) := by
  constructor
  intro pins s τ G Q I h
  refine PySem.W.methodCall_KW (pl := pl) (thn (ho.run pins s τ G _ I h) fun u s1 got => ?_) ht
  obtain ⟨y, G1, I1, ry, b, dx, fs, rfl, hb1, l, z⟩ := got
  cases ry
  refine getmeth_ok I1 hb1 cl hm l ?_
  refine PySem.W.callWith_KW0 (first := [.ref b]) (h₀ := X.base) I.ok.mod.kin hm.kp hall ?_ hpl
  refine thn (hkw.run p pins s1 τ G1 _ I1 z) fun ws s2 got2 => ?_
  obtain ⟨zs, G2, I2, rz, l2, z2⟩ := got2
  refine ⟨I2.kIn, ?_⟩
  rw [hks]
  have r1 : Vals [V.ref b] [Value.ref b] := .cons rfl .nil
  refine wpAny_call (codeAny_mono (F.run X.A X.stack s2 G2 ⟨[Value.ref b], ks.zip ws⟩ (g [Value.ref b] ws) _ Q (E τ) hr I2.env0 (hb.to _ [Value.ref b] ws I2.kIn rfl (rz.length.symm.trans l2)) (hb.rel r1 rz) z2) fun w s' hq => ?_)
  match w, hq with
  | .error e, hq => exact hx τ pins G2 s2 e s' I2 hq
  | .ok (.ret u), hq => exact I2.after hq
  | .ok .next, hq => exact hq.elim
  | .ok .brk, hq => exact hq.elim
  | .ok .cont, hq => exact hq.elim
end
end V2


namespace V2
open PySem L2
open PySem.Spec PyProof.Rows
/-! ## what is told of an index, or the fault -/
def ixR (ds : List Deed) (way i : Int) : Option PyData :=
  if way = 0 then (if 0 ≤ i then (ds[i.toNat]?).map dD else none)
  else if way = 1 ∨ way = 2 then (if 0 ≤ i ∧ i < ds.length then some (.list ((ds.take i.toNat ++ ds.drop (i.toNat + 1)).map dD)) else none)
  else if 0 ≤ i then (match ds[i.toNat]?, ds[i.toNat + 1]? with
    | some d, some e => some (.list ((xch ds i.toNat d e).map dD))
    | _, _ => none) else none
def ixD (ds : List Deed) (way i : Int) : PyData := match ixR ds way i with
  | some d => .list [d]
  | none => .list [.str "none", .int i]
def spAtI (C : Addr) : Sp := fun vs H Q _ => ∃ (x : Addr) (way i : Int) (ts : List Tk) (ds : List Deed), vs = [.ref x, .int way, .int i] ∧ ScAt H C x ts ds ∧ okS ts ds ∧ 0 ≤ way ∧ way ≤ 4 ∧
  ∀ (y : Addr) (as : List Addr) (H' : Hp), Evl.Ex H H' → TrD (Nw H H') (.ref y) (ixD ds way i) as → as.Nodup → Q (.ref y) H'
theorem xch_len {ds : List Deed} {i : Nat} {d e : Deed} (h1 : ds[i]? = some d) (h2 : ds[i + 1]? = some e) : (xch ds i d e).length = ds.length := by
  have hl := (List.getElem?_eq_some_iff.mp h2).1
  unfold xch
  rw [List.length_append, List.length_append, List.length_take, List.length_drop]
  show min i ds.length + 2 + (ds.length - (i + 2)) = _
  omega
theorem xch_mem {ds : List Deed} {i : Nat} {d e : Deed} (h1 : ds[i]? = some d) (h2 : ds[i + 1]? = some e) : ∀ x ∈ xch ds i d e, x ∈ ds := fun x hx => by
  unfold xch at hx
  rcases List.mem_append.mp hx with h | h
  · rcases List.mem_append.mp h with h | h
    · exact List.mem_of_mem_take h
    · simp only [List.mem_cons, List.not_mem_nil, or_false] at h
      rcases h with rfl | rfl
      · exact List.mem_of_getElem? h2
      · exact List.mem_of_getElem? h1
  · exact List.mem_of_mem_drop h
theorem les_mem {ds : List Deed} {i : Nat} : ∀ x ∈ ds.take i ++ ds.drop (i + 1), x ∈ ds := fun x hx => by
  rcases List.mem_append.mp hx with h | h
  · exact List.mem_of_mem_take h
  · exact List.mem_of_mem_drop h
theorem okS_sub {ts : List Tk} {ds es : List Deed} (h : okS ts ds) (hl : es.length ≤ ds.length) (hm : ∀ x ∈ es, x ∈ ds) : okS ts es := ⟨h.1, Nat.le_trans hl h.2.1, fun d hd => h.2.2 d (hm d hd)⟩
theorem les_len {ds : List Deed} {i : Nat} : (ds.take i ++ ds.drop (i + 1)).length ≤ ds.length := by
  rw [List.length_append, List.length_take, List.length_drop]
  omega
section
variable {base : Heap} {mg : Str → Option Value} {K : PySem.W.Frag} {w : World} {P : Program} {C CU CA fI fT fS pT pS fG fW fX eI0 : Addr}
theorem ok_at_index {f : Addr} {fd fdS fdG fdW fdX : FuncData} (F : Fun K "_law_pv_at_index" "_law_pv_at_index" s_l_at_index f fd) (c : ScC K C fI fT fS pT pS)
    (FS : FnOk P w K mg base CX0 5 fS fdS p_Sc_steps (spGetT C 3 "_steps")) (bS : Binds K fdS p_Sc_steps [])
    (gi : GiC K C fG) (FG : FnOk P w K mg base (L2.CX P w) 4 fG fdG p_Sc_getitem (spGiX C CU)) (bG : Binds K fdG p_Sc_getitem [])
    (meW : Meth K C "without" fW) (FW : FnOk P w K mg base (L2.CX P w) 7 fW fdW p_Sc_without (spWoX C CU)) (bW : Binds K fdW p_Sc_without []) (kW : KBn K fdW p_Sc_without 1 ["index"] (fun us ws => us ++ ws) (fun us ws => us ++ ws))
    (meX : Meth K C "exchanged" fX) (FX : FnOk P w K mg base (L2.CX P w) 7 fX fdX p_Sc_exchanged (spXcX C CU)) (bX : Binds K fdX p_Sc_exchanged []) (kX : KBn K fdX p_Sc_exchanged 1 ["index"] (fun us ws => us ++ ws) (fun us ws => us ++ ws))
    (TU : EC K CU eI0) (mU : mg "UnknownStep" = some (.ref CU)) (mA : mg "TankError" = some (.ref CA)) (uu : PySem.W.subIn K (.ref CU) (.ref CU) = some true) : FnOk P w K mg base CX0 8 f fd p_l_at_index (spAtI C) := by
  refine F.ok sc_l_at_index (fun vs H Q E h => ?_) (fun cdv A outer s H vs Q E hr h => ?_)
  · obtain ⟨x, way, i, ts, ds, rfl, _⟩ := h
    rfl
  · obtain ⟨x, way, i, ts, ds, rfl, hSc, hok, w0, w4, k⟩ := h
    have nd := sc_l_at_index.nd
    have one : 1 ≤ sizeLine := by show 1 ≤ sizeLine; decide
    have two : 2 ≤ sizeLine := by show 2 ≤ sizeLine; decide
    have r6 : Room (5 + 1) _ := hr.mono (by decide)
    have r5 : Room (4 + 1) _ := hr.mono (by decide)
    refine ⟨_, pss_cons (ps_set (i := 3) nd rfl (Or.inl rfl) (pe_lst pa_nil))
      (pss_cons (ps_try_es (n := "e") (i := 4) (tb := fun W => tIfS (tTest (tOp rEq (tVar 1) (tC (.int 0)))) (tAsg (tLst (tCons (tIxO C (spGiX C CU) (WE W) (tVar 0) (tVar 2)) tNil)) (gName 3))
          (tIfS (tTest (tOp rEq (tVar 1) (tC (.int 1)))) (tAsg (tLst (tCons (tProp C (spGetT C 3 "_steps") [] E0 (tM1S C "without" (spWoX C CU) (WE W) (tVar 0) (tCons (tVar 2) tNil))) tNil)) (gName 3))
          (tIfS (tTest (tOp rEq (tVar 1) (tC (.int 2)))) (tAsg (tLst (tCons (tProp C (spGetT C 3 "_steps") [] E0 (tMKS C "without" 1 (spWoX C CU) (fun us ws => us ++ ws) (WE W) (tVar 0) (tCons (tVar 2) tNil))) tNil)) (gName 3))
          (tIfS (tTest (tOp rEq (tVar 1) (tC (.int 3)))) (tAsg (tLst (tCons (tProp C (spGetT C 3 "_steps") [] E0 (tM1S C "exchanged" (spXcX C CU) (WE W) (tVar 0) (tCons (tVar 2) tNil))) tNil)) (gName 3))
            (tAsg (tLst (tCons (tProp C (spGetT C 3 "_steps") [] E0 (tMKS C "exchanged" 1 (spXcX C CU) (fun us ws => us ++ ws) (WE W) (tVar 0) (tCons (tVar 2) tNil))) tNil)) (gName 3)))))) (W0 := fun _ _ _ _ => False) (l := [(.ref CU, fun a cls d => tAsg (tLst (tCons (tC (.str "none")) (tCons (tV1E CU a cls d 4) tNil))) (gName 3)), (.ref CA, fun _ _ _ => fun _ _ _ => False)]) rfl rfl nd rfl rfl takes0
          (fun W pn xe tk _ => by
            have rr : Room 7 (Cx.tr (cxOf CX0 P w K mg base n_l_at_index "_law_pv_at_index" (defScope s_l_at_index) f cdv A outer s H E) pn xe).A := hr
            have rr6 : Room (5 + 1) (Cx.tr (cxOf CX0 P w K mg base n_l_at_index "_law_pv_at_index" (defScope s_l_at_index) f cdv A outer s H E) pn xe).A := r6
            have rr5 : Room (4 + 1) (Cx.tr (cxOf CX0 P w K mg base n_l_at_index "_law_pv_at_index" (defScope s_l_at_index) f cdv A outer s H E) pn xe).A := r5
            exact pss_one (ps_if (pt_cmpR op_eq (pv 1) pe_int (nomark _)) (pss_one (ps_set (i := 3) nd rfl (Or.inl rfl) (pe_lst (pa_cons (pe_ixO (pv 0) (pv 2) FG gi bG (fun σ => passAt tk σ) rr5) pa_nil))))
              (pss_one (ps_if (pt_cmpR op_eq (pv 1) pe_int (nomark _)) (pss_one (ps_set (i := 3) nd rfl (Or.inl rfl) (pe_lst (pa_cons (pe_prop (pe_m1S (pv 0) c.cls meW FW rr bW (fun σ => passAt tk σ) (pa_cons (pv 2) pa_nil)) c.cls c.prS FS rr6 bS .nil pass0 (by rfl)) pa_nil))))
              (pss_one (ps_if (pt_cmpR op_eq (pv 1) pe_int (nomark _)) (pss_one (ps_set (i := 3) nd rfl (Or.inl rfl) (pe_lst (pa_cons (pe_prop (pe_mkwS (pv 0) c.cls meW FW rr kW (fun σ => passAt tk σ) (pk_cons (pv 2) pk_nil)) c.cls c.prS FS rr6 bS .nil pass0 (by rfl)) pa_nil))))
              (pss_one (ps_if (pt_cmpR op_eq (pv 1) pe_int (nomark _)) (pss_one (ps_set (i := 3) nd rfl (Or.inl rfl) (pe_lst (pa_cons (pe_prop (pe_m1S (pv 0) c.cls meX FX rr bX (fun σ => passAt tk σ) (pa_cons (pv 2) pa_nil)) c.cls c.prS FS rr6 bS .nil pass0 (by rfl)) pa_nil))))
                (pss_one (ps_set (i := 3) nd rfl (Or.inl rfl) (pe_lst (pa_cons (pe_prop (pe_mkwS (pv 0) c.cls meX FX rr kX (fun σ => passAt tk σ) (pk_cons (pv 2) pk_nil)) c.cls c.prS FS rr6 bS .nil pass0 (by rfl)) pa_nil))))))))))))
          (.cons ⟨rfl, by decide, Or.inl mU⟩ (fun a oe cls d pn hz hf => pss_one (ps_set (i := 3) nd rfl (Or.inl rfl) (pe_lst (pa_cons pe_str (pa_cons (pe_v1E rfl TU hz hf (pv 4)) pa_nil)))))
          (.cons ⟨rfl, by decide, Or.inl mA⟩ (fun a oe cls d pn hz hf => pss_one ps_never) .nil)))
      (pss_one (ps_ret (pv 3)))), ?_⟩
    refine ⟨Nat.zero_le _, fun l0 hl0 => ?_⟩
    have e0 := Evl.Ex.new (o := .lst []) hl0
    generalize upd H l0 (.lst []) = H0 at e0
    have hSc0 := hSc.ex e0
    obtain ⟨dx, fs, v0, u0, hx, g1, g2, d1, d2, g0⟩ := id hSc0
    subst g0
    have no : ixR ds way i = none → ∀ {H2 : Hp} {r : Addr}, Evl.Ex H H2 → H2 r = none → Q (.ref r) (upd H2 r (.lst [.str "none", .int i])) := fun hn {H2 r} e2 hr2 => by
      refine k r (r :: ([] ++ ([] ++ []))) _ (e2.trans (Evl.Ex.new hr2)) ?_ (nodup1 (Nat.le_refl _))
      unfold ixD
      rw [hn]
      exact .lst (nw_at (Evl.fresh_back e2 hr2) upd_same) (.cons (.str _) (.cons (.int _) .nil))
    have yes : ∀ {d : PyData} {v : V} {as : List Addr} {Ha Hb : Hp} {r : Addr}, ixR ds way i = some d → Cp 3 d → Evl.Ex H Ha → Evl.Ex Ha Hb → TrD (Nw Ha Hb) v d as → as.Nodup → Hb r = none → Q (.ref r) (upd Hb r (.lst [v])) := fun {d v as Ha Hb r} hn hc ea eb hv hnd hr2 => by
      have er := Evl.Ex.new (o := .lst [v]) hr2
      have rH := Evl.fresh_back (ea.trans eb) hr2
      have hv' : TrD (Nw H (upd Hb r (.lst [v]))) v d as := hv.go fun b o z => nw_at (Evl.fresh_back ea (nw_none z)) (er _ _ (Nw.ex _ _ z))
      refine k r (r :: (as ++ [])) _ ((ea.trans eb).trans er) ?_ ?_
      · unfold ixD
        rw [hn]
        exact .lst (nw_at rH upd_same) (.cons hv' .nil)
      · rw [List.append_nil]
        refine List.nodup_cons.mpr ⟨fun hm => ?_, hnd⟩
        obtain ⟨xs, z, _⟩ := hv.lists hc r hm
        rw [Nw.ex _ _ z] at hr2
        cases hr2
    have cpS : ∀ {es : List Deed}, es.length ≤ ds.length → (∀ y ∈ es, y ∈ ds) → Cp 3 (.list (es.map dD)) := fun hl hm => cp_deeds (n := (ts.length : Int)) (fun d hd => hok.2.2 d (hm d hd)) (by have := hok.2.1; omega)
    -- the two refusals
    have inW : ∀ n : Nat, i = (n : Int) → n < ds.length → (way = 1 ∨ way = 2) → ixR ds way i = some (.list ((ds.take n ++ ds.drop (n + 1)).map dD)) := fun n hn hl hw => by
      subst hn
      unfold ixR
      rw [if_neg (by omega), if_pos hw, if_pos (by omega)]
      rfl
    have noW : ¬ (0 ≤ i ∧ i < ds.length) → (way = 1 ∨ way = 2) → ixR ds way i = none := fun hb hw => by
      unfold ixR
      rw [if_neg (by omega), if_pos hw, if_neg hb]
    have inX : ∀ (n : Nat) (d e : Deed), i = (n : Int) → ds[n]? = some d → ds[n + 1]? = some e → (way = 3 ∨ way = 4) → ixR ds way i = some (.list ((xch ds n d e).map dD)) := fun n d e hn h1 h2 hw => by
      subst hn
      unfold ixR
      rw [if_neg (by omega), if_neg (by omega), if_pos (by omega), Int.toNat_natCast, h1, h2]
    have noX : ¬ (0 ≤ i ∧ i + 1 < ds.length) → (way = 3 ∨ way = 4) → ixR ds way i = none := fun hb hw => by
      unfold ixR
      rw [if_neg (by omega), if_neg (by omega)]
      by_cases h0 : 0 ≤ i
      · rw [if_pos h0]
        have : ds[i.toNat + 1]? = none := List.getElem?_eq_none (by omega)
        rw [this]
        cases ds[i.toNat]? <;> rfl
      · rw [if_neg h0]
    rcases (show way = 0 ∨ way = 1 ∨ way = 2 ∨ way = 3 ∨ way = 4 by omega) with rfl | rfl | rfl | rfl | rfl
    · refine ⟨_, rfl, rfl, _, rfl, if_t (by decide) ?_⟩
      refine ⟨_, rfl, _, rfl, x, dx, _, rfl, hx, x, i, ts, ds, rfl, hSc0, hok, fun n d hn hd v as H' e' hv hnd => ⟨one, fun r hr2 => ⟨_, rfl, yes ?_ ?_ e0 e' hv hnd hr2⟩⟩, fun hbad H1 e1 e H2 he e2 hx2 => ⟨true, PySem.W.exm_ref TU.xf.exC TU.xf.hdC TU.ox.tyC uu, fun _ a ha => ⟨e, _, .int i, rfl, rfl, rfl, hx2, rfl, two, fun r hr2 => ⟨_, rfl, no ?_ ((e0.trans e1).trans e2) hr2⟩⟩, fun z => Bool.noConfusion z⟩⟩
      · subst hn
        unfold ixR
        rw [if_pos rfl, if_pos (by omega), Int.toNat_natCast, hd]
        rfl
      · have q := cpS (es := ds) (Nat.le_refl _) (fun y hy => hy)
        cases q with
        | lst _ q => exact (q _ (List.mem_map.mpr ⟨d, List.mem_of_getElem? hd, rfl⟩)).up
      · unfold ixR
        rw [if_pos rfl]
        by_cases h0 : 0 ≤ i
        · rw [if_pos h0, List.getElem?_eq_none (by omega)]
          rfl
        · rw [if_neg h0]
    · refine ⟨_, rfl, rfl, _, rfl, if_f (by decide) ⟨_, rfl, rfl, _, rfl, if_t (by decide) ?_⟩⟩
      refine ⟨_, rfl, x, dx, _, rfl, hx, rfl, _, rfl, x, i, ts, ds, rfl, hSc0, hok, fun n hn hl y H' hy e' hY => ?_, fun hbad H1 e1 e H2 he e2 hx2 => ⟨true, PySem.W.exm_ref TU.xf.exC TU.xf.hdC TU.ox.tyC uu, fun _ a ha => ⟨e, _, .int i, rfl, rfl, rfl, hx2, rfl, two, fun r hr2 => ⟨_, rfl, no (noW hbad (.inl rfl)) ((e0.trans e1).trans e2) hr2⟩⟩, fun z => Bool.noConfusion z⟩⟩
      obtain ⟨dy, gs, v', u', hyy, f1, f2, q1, q2, _⟩ := hY.ex Nw.ex
      exact ⟨y, dy, gs, rfl, hyy, y, dy, gs, u', _, rfl, hyy, f2, q2, cpS les_len les_mem, fun v as H'' e'' hv hnd => ⟨one, fun r hr2 => ⟨_, rfl, yes (inW n hn hl (.inl rfl)) (cpS les_len les_mem) (e0.trans e') e'' hv hnd hr2⟩⟩⟩
    · refine ⟨_, rfl, rfl, _, rfl, if_f (by decide) ⟨_, rfl, rfl, _, rfl, if_f (by decide) ⟨_, rfl, rfl, _, rfl, if_t (by decide) ?_⟩⟩⟩
      refine ⟨_, rfl, x, dx, _, rfl, hx, rfl, _, rfl, rfl, x, i, ts, ds, rfl, hSc0, hok, fun n hn hl y H' hy e' hY => ?_, fun hbad H1 e1 e H2 he e2 hx2 => ⟨true, PySem.W.exm_ref TU.xf.exC TU.xf.hdC TU.ox.tyC uu, fun _ a ha => ⟨e, _, .int i, rfl, rfl, rfl, hx2, rfl, two, fun r hr2 => ⟨_, rfl, no (noW hbad (.inr rfl)) ((e0.trans e1).trans e2) hr2⟩⟩, fun z => Bool.noConfusion z⟩⟩
      obtain ⟨dy, gs, v', u', hyy, f1, f2, q1, q2, _⟩ := hY.ex Nw.ex
      exact ⟨y, dy, gs, rfl, hyy, y, dy, gs, u', _, rfl, hyy, f2, q2, cpS les_len les_mem, fun v as H'' e'' hv hnd => ⟨one, fun r hr2 => ⟨_, rfl, yes (inW n hn hl (.inr rfl)) (cpS les_len les_mem) (e0.trans e') e'' hv hnd hr2⟩⟩⟩
    · refine ⟨_, rfl, rfl, _, rfl, if_f (by decide) ⟨_, rfl, rfl, _, rfl, if_f (by decide) ⟨_, rfl, rfl, _, rfl, if_f (by decide) ⟨_, rfl, rfl, _, rfl, if_t (by decide) ?_⟩⟩⟩⟩
      refine ⟨_, rfl, x, dx, _, rfl, hx, rfl, _, rfl, x, i, ts, ds, rfl, hSc0, hok, fun n d e hn h1 h2 y H' hy e' hY => ?_, fun hbad H1 e1 e H2 he e2 hx2 => ⟨true, PySem.W.exm_ref TU.xf.exC TU.xf.hdC TU.ox.tyC uu, fun _ a ha => ⟨e, _, .int i, rfl, rfl, rfl, hx2, rfl, two, fun r hr2 => ⟨_, rfl, no (noX hbad (.inl rfl)) ((e0.trans e1).trans e2) hr2⟩⟩, fun z => Bool.noConfusion z⟩⟩
      obtain ⟨dy, gs, v', u', hyy, f1, f2, q1, q2, _⟩ := hY.ex Nw.ex
      have cpx := cpS (Nat.le_of_eq (xch_len h1 h2)) (xch_mem h1 h2)
      exact ⟨y, dy, gs, rfl, hyy, y, dy, gs, u', _, rfl, hyy, f2, q2, cpx, fun v as H'' e'' hv hnd => ⟨one, fun r hr2 => ⟨_, rfl, yes (inX n d e hn h1 h2 (.inl rfl)) cpx (e0.trans e') e'' hv hnd hr2⟩⟩⟩
    · refine ⟨_, rfl, rfl, _, rfl, if_f (by decide) ⟨_, rfl, rfl, _, rfl, if_f (by decide) ⟨_, rfl, rfl, _, rfl, if_f (by decide) ⟨_, rfl, rfl, _, rfl, if_f (by decide) ?_⟩⟩⟩⟩
      refine ⟨_, rfl, x, dx, _, rfl, hx, rfl, _, rfl, rfl, x, i, ts, ds, rfl, hSc0, hok, fun n d e hn h1 h2 y H' hy e' hY => ?_, fun hbad H1 e1 e H2 he e2 hx2 => ⟨true, PySem.W.exm_ref TU.xf.exC TU.xf.hdC TU.ox.tyC uu, fun _ a ha => ⟨e, _, .int i, rfl, rfl, rfl, hx2, rfl, two, fun r hr2 => ⟨_, rfl, no (noX hbad (.inr rfl)) ((e0.trans e1).trans e2) hr2⟩⟩, fun z => Bool.noConfusion z⟩⟩
      obtain ⟨dy, gs, v', u', hyy, f1, f2, q1, q2, _⟩ := hY.ex Nw.ex
      have cpx := cpS (Nat.le_of_eq (xch_len h1 h2)) (xch_mem h1 h2)
      exact ⟨y, dy, gs, rfl, hyy, y, dy, gs, u', _, rfl, hyy, f2, q2, cpx, fun v as H'' e'' hv hnd => ⟨one, fun r hr2 => ⟨_, rfl, yes (inX n d e hn h1 h2 (.inr rfl)) cpx (e0.trans e') e'' hv hnd hr2⟩⟩⟩
end
end V2


namespace V2
open PySem L2
open PySem.Spec PyProof.Rows
/-! ## each index is told, or refused -/
def spIxR (C : Addr) : Sp := fun vs H Q _ => ∃ (sk x ld : Addr) (m : Nat) (ts : List Tk) (ds : List Deed), vs = [.ref sk, .ref x, .ref ld] ∧ Sk H sk m ∧ m ≤ 80000 ∧ ScAt (wo sk H) C x ts ds ∧ DsAt (wo sk H) ld ds ∧ ShW ts ds ∧
  ∀ H', But sk H H' → Sk H' sk (m + 3) → Q (.bl true) H'
theorem rd_chain {σ : L2.St} {H : Hp} {ta tb tc : TE} {z k n : Int} {Q : Bool → Hp → Prop} (ha : ∀ Q' : VK, Q' (.int z) H → ta σ H Q') (hb : ∀ Q' : VK, Q' (.int k) H → tb σ H Q') (hc : ∀ Q' : VK, Q' (.int n) H → tc σ H Q') (hq : Q (decide (z ≤ k) && decide (k < n)) H) :
    tTest (tChain (rI0 fun i j => .bl (decide (i ≤ j))) (rI0 fun i j => .bl (decide (i < j))) ta tb tc) σ H Q := by
  refine ha _ (hb _ ⟨_, _, rfl, rfl, _, rfl, ?_⟩)
  by_cases c : z ≤ k
  · rw [if_pos (decide_eq_true c)]
    refine hc _ ⟨_, _, rfl, rfl, _, rfl, ?_⟩
    rw [decide_eq_true c, Bool.true_and] at hq
    exact hq
  · rw [if_neg (by rw [decide_eq_false c]; decide)]
    rw [decide_eq_false c, Bool.false_and] at hq
    exact ⟨_, rfl, hq⟩
/-! ### the weight of what is told -/
abbrev lwI : List Nat := [2, 61, 21, 21]
theorem lw_dd {a b : Nat} {l : List Nat} {ts : List Tk} {d : Deed} (h : GD ts d) (h20 : ts.length ≤ 20) (ha : 4 ≤ a) (hb : 20 ≤ b) : Lw (a :: b :: l) (dD d) := by
  have sm : ∀ {z : Int}, 0 ≤ z → z < ts.length → z.natAbs < 2 ^ 50 := fun h1 h2 => Nat.lt_of_le_of_lt (show _ ≤ 100 by omega) (by decide)
  have w : ∀ x ∈ (["open", "pour", "scoop", "move", "unless"] : List Str), (PyData.shown (.str x)).length ≤ 10 := by decide +kernel
  simp only [List.mem_cons, List.not_mem_nil, or_false, forall_eq_or_imp, forall_eq] at w
  obtain ⟨w1, w2, w3, w4, w5⟩ := w
  obtain ⟨h, hp⟩ := h
  cases d with
  | op ks =>
    obtain ⟨h1, h2, h3, h4⟩ := h
    exact .tup (by show 2 ≤ a; omega) (lw_cons (.str w1) (lw_cons (lw_ints (by omega) fun z hz => sm (h4 z hz).1 (h4 z hz).2) lw_end))
  | po k x =>
    have h5 := hp k x rfl
    have h6 := h.2
    exact .tup (by show 3 ≤ a; omega) (lw_cons (.str w2) (lw_cons (.int (sm h.1.1 h.1.2)) (lw_cons (.int (Nat.lt_of_le_of_lt (show x.natAbs ≤ 1000 by omega) (by decide))) lw_end)))
  | sc k p q =>
    obtain ⟨_, _, _, _, q1, q2⟩ := h.2
    exact .tup (by show 3 ≤ a; omega) (lw_cons (.str w3) (lw_cons (.int (sm h.1.1 h.1.2)) (lw_cons (lw_fr (f := (p, q)) (by omega) ⟨q1, q2⟩) lw_end)))
  | mv k m p q =>
    obtain ⟨_, _, _, _, q1, q2⟩ := h.2.2.2
    exact .tup (by show 4 ≤ a; omega) (lw_cons (.str w4) (lw_cons (.int (sm h.1.1 h.1.2)) (lw_cons (.int (sm h.2.1.1 h.2.1.2)) (lw_cons (lw_fr (f := (p, q)) (by omega) ⟨q1, q2⟩) lw_end))))
  | un k m => exact .tup (by show 3 ≤ a; omega) (lw_cons (.str w5) (lw_cons (.int (sm h.1.1 h.1.2)) (lw_cons (.int (sm h.2.1.1 h.2.1.2)) lw_end)))
/-- what is told: a step, or steps -/
inductive Tol (ds : List Deed) : PyData → Prop
  | one {d : Deed} : d ∈ ds → Tol ds (dD d)
  | all {es : List Deed} : es.length ≤ ds.length → (∀ d ∈ es, d ∈ ds) → Tol ds (.list (es.map dD))
theorem ixR_tol {ds : List Deed} {way i : Int} {D : PyData} (h : ixR ds way i = some D) : Tol ds D := by
  unfold ixR at h
  split at h
  · split at h
    · obtain ⟨d, h1, rfl⟩ := Option.map_eq_some_iff.mp h
      exact .one (List.mem_of_getElem? h1)
    · cases h
  · split at h
    · split at h
      · cases h
        exact .all les_len les_mem
      · cases h
    · split at h
      · split at h
        · rename_i h1 h2
          cases h
          exact .all (Nat.le_of_eq (xch_len h1 h2)) (xch_mem h1 h2)
        · cases h
      · cases h
theorem lw_ixD {ts : List Tk} {ds : List Deed} {way i : Int} (h : ShW ts ds) (hi : i.natAbs < 2 ^ 50) : Lw lwI (ixD ds way i) ∧ cntD (ixD ds way i) ≤ 1000 := by
  have s1 : (PyData.shown (.str "none")).length ≤ 10 := by decide +kernel
  have h60 := h.ok.2.1
  unfold ixD
  cases e : ixR ds way i with
  | none => exact ⟨.lst (by show 2 ≤ 2; decide) (lw_cons (.str s1) (lw_cons (.int hi) lw_end)), by simp [cntD, cntA]⟩
  | some D =>
    have t := ixR_tol e
    cases t with
    | one hd =>
      refine ⟨.lst (by show 1 ≤ 2; decide) (lw_cons (lw_dd (gd_of h _ hd) h.ok.1.1 (by decide) (by decide)) lw_end), ?_⟩
      simp only [cntD, cntA]
      exact Nat.le_trans (Nat.add_le_add_left (Nat.add_le_add_right (cnt_dD _) 0) 1) (by decide)
    | @all es hl hm =>
      refine ⟨.lst (by show 1 ≤ 2; decide) (lw_cons (.lst (by rw [List.length_map]; omega) fun d hd => ?_) lw_end), ?_⟩
      · obtain ⟨t, ht, rfl⟩ := List.mem_map.mp hd
        exact lw_dd (gd_of h t (hm t ht)) h.ok.1.1 (by decide) (by decide)
      · have := cnt_dss es
        simp only [cntD, cntA]
        omega
theorem ixD_2 (ds : List Deed) (k : Int) : ixD ds 2 k = ixD ds 1 k := rfl
theorem ixD_4 (ds : List Deed) (k : Int) : ixD ds 4 k = ixD ds 3 k := rfl
theorem rtI {H : Hp} {v : V} {d : PyData} {as : List Addr} (hl : Lw lwI d) (hct : cntD d ≤ 1000) (hv : TrD H v d as) : Cp 4 d ∧ as.length ≤ 1000 ∧ ShX d ∧ ShX (mkD 0 d) := by
  have hc := hv.cnt
  exact ⟨hl.cp (by decide), by omega, hl.sx.sh (by decide) (by decide), (hl.mk 0 (by omega)).sx.sh (by decide) (by decide)⟩
section
variable {base : Heap} {mg : Str → Option Value} {K : PySem.W.Frag} {w : World} {P : Program} {C : Addr}
theorem ok_indexes_right {f : Addr} {fd : FuncData} (F : Fun K "_law_pv_indexes_right" "_law_pv_indexes_right" s_l_indexes_right f fd) (mL : mg "len" = none) (mE : mg "enumerate" = none) (cC : Cal P w K mg base 1 "_law_pv_coin" p_l_coin spCoin)
    (cAt : Cal P w K mg base 8 "_law_pv_at_index" p_l_at_index (spAtI C)) (cRt : CalG P w K mg base 7 "_law_pv_right" p_l_right (spRtW 4)) : FnG P w K mg base 9 f fd p_l_indexes_right (spIxR C) := by
  refine Fun.okG F sc_l_indexes_right (fun vs H Q E h => ?_) (fun cdv A outer s H vs Q E hg hr h => ?_)
  · obtain ⟨sk, x, ld, m, ts, ds, rfl, _⟩ := h
    rfl
  · obtain ⟨sk, x, ld, m, ts, ds, rfl, hS, hm, hSc, hD, hW, kk⟩ := h
    have nd := sc_l_indexes_right.nd
    have n200 := n200e
    have w9 : CPowX 10 9 := pow_ok (k := 4) (n := 9) (by decide) (by decide)
    have one : 1 ≤ sizeLine := by show 1 ≤ sizeLine; decide
    have two : 2 ≤ sizeLine := by show 2 ≤ sizeLine; decide
    have five : 5 ≤ sizeLine := by show 5 ≤ sizeLine; decide
    have seven : 7 ≤ sizeLine := by show 7 ≤ sizeLine; decide
    have r1 : Room 1 _ := hr.mono (by decide)
    have r7 : Room 7 _ := hr.mono (by decide)
    have h60 := hW.ok.2.1
    refine ⟨_, pss_cons (ps_set (i := 3) nd rfl (Or.inl rfl) (pe_callB call_len_seq (by rfl) mL PySem.boot_len (pa_cons (pv 2) pa_nil)))
      (pss_cons (ps_set (i := 4) nd rfl (Or.inl rfl) (pe_lst (pa_cons (pe_op op_sub pe_int pe_int) (pa_cons (pv 3) (pa_cons (pe_op op_sub (pv 3) pe_int) (pa_cons (pe_op op_sub (pv 3) pe_int) (pa_cons pe_int (pa_cons (pe_op op_add (pv 3) (pe_c cC r1 (pa_cons (pv 0) (pa_cons (pe_op op_powX pe_int pe_int) pa_nil)))) (pa_cons (pe_op op_sub (pe_op op_sub pe_int pe_int) (pe_c cC r1 (pa_cons (pv 0) (pa_cons pe_int pa_nil)))) pa_nil)))))))))
      (pss_cons (ps_for PassesOwn.never rfl (pi_list (pe_op op_cat (pv 4) (pe_lst (pa_cons (pe_c cC r1 (pa_cons (pv 0) (pa_cons (pe_op op_add (pv 3) pe_int) pa_nil))) pa_nil)))) (pg_name (i := 5) nd rfl (Or.inl rfl)) (pss_cons (ps_par (i := 6) (j := 7) rfl nd rfl rfl (by decide) rfl rfl (pa_cons (pe_lst (pa_cons pe_str (pa_cons (pv 5) pa_nil))) (pa_cons (pe_lst (pa_cons pe_str (pa_cons (pv 5) pa_nil))) pa_nil)) (by rfl))
      (Evl.pss_cut (ps_if (pt_chain op_le op_lt pe_int (pv 5) (pv 3)) (pss_one (ps_set (i := 6) nd rfl (Or.inl rfl) (pe_lst (pa_cons (pe_op op_cat (pe_slice sl_list (pv 2) po_none (po_some (pv 5))) (pe_slice sl_list (pv 2) (po_some (pe_op op_add (pv 5) pe_int)) po_none)) pa_nil)))) pss_nil)
      (Evl.pss_cut (ps_if (pt_chain op_le op_lt pe_int (pv 5) (pe_op op_sub (pv 3) pe_int)) (pss_one (ps_set (i := 7) nd rfl (Or.inl rfl) (pe_lst (pa_cons (pe_op op_cat (pe_op op_cat (pe_slice sl_list (pv 2) po_none (po_some (pv 5))) (pe_lst (pa_cons (pe_ix ix_list (pv 2) (pe_op op_add (pv 5) pe_int) (fun _ _ => rfl)) (pa_cons (pe_ix ix_list (pv 2) (pv 5) (fun _ _ => rfl)) pa_nil)))) (pe_slice sl_list (pv 2) (po_some (pe_op op_add (pv 5) pe_int)) po_none)) pa_nil)))) pss_nil)
      (pss_cons (ps_set (i := 8) nd rfl (Or.inl rfl) (pe_ifExp (pt_chain op_le op_lt pe_int (pv 5) (pv 3)) (pe_lst (pa_cons (pe_ix ix_list (pv 2) (pv 5) (fun _ _ => rfl)) pa_nil)) (pe_lst (pa_cons pe_str (pa_cons (pv 5) pa_nil)))))
      (pss_one (ps_for PassesOwn.never rfl (pi_enum (by rfl) mE (pa_cons (pe_lst (pa_cons (pv 8) (pa_cons (pv 6) (pa_cons (pv 6) (pa_cons (pv 7) (pa_cons (pv 7) pa_nil)))))) pa_nil)) (pg_tup rfl (pgs_cons (pg_name (i := 9) nd rfl (Or.inl rfl)) (pgs_cons (pg_name (i := 10) nd rfl (Or.inl rfl)) pgs_nil))) (pss_one (ps_if (pt_not (pt_val (pe_cg cRt hg r7 (pa_cons (pe_c cAt hr (pa_cons (pv 1) (pa_cons (pv 9) (pa_cons (pv 5) pa_nil)))) (pa_cons (pv 10) pa_nil))))) (pss_one (ps_ret pe_bl)) pss_nil)))))))))
      (pss_one (ps_ret pe_bl)))), ?_⟩
    obtain ⟨aD, hl0, hn0, hi0⟩ := id hD
    refine ⟨_, rfl, ld, _, rfl, .inl (SqL.of (wo_ex _ _ hl0)), ?_⟩
    have hlen : (((aD.map V.ref).length : Nat) : Int) = (ds.length : Int) := by rw [List.length_map, hn0]
    rw [hlen]
    refine ⟨_, _, rfl, rfl, _, rfl, _, rfl, _, _, rfl, rfl, _, rfl, _, _, rfl, rfl, ?_⟩
    refine ⟨_, rfl, _, rfl, 10, 9, rfl, rfl, w9, sk, 10 ^ (9 : Int).toNat, m, rfl, hS, by omega, by decide, by decide, fun a H1 a0 a1 b1 s1 z1 => ⟨_, _, rfl, rfl, ?_⟩⟩
    refine ⟨_, _, rfl, rfl, _, rfl, sk, 70, m + 1, rfl, s1, by omega, by decide, by decide, fun b H2 b0 b1' b2 s2 z2 => ⟨_, _, rfl, rfl, seven, fun p hp => ?_⟩⟩
    have a1' : a < 1000000000 := a1
    have e3 := Evl.Ex.new (o := .lst [.int (0 - 1), .int (ds.length : Int), .int ((ds.length : Int) - 1), .int ((ds.length : Int) - 2), .int 0, .int ((ds.length : Int) + a), .int (0 - 1 - b)]) hp
    have q3 : upd H2 p (.lst [.int (0 - 1), .int (ds.length : Int), .int ((ds.length : Int) - 1), .int ((ds.length : Int) - 2), .int 0, .int ((ds.length : Int) + a), .int (0 - 1 - b)]) p = _ := upd_same
    have p3 := sk_ne s2 hp
    generalize upd H2 p (.lst [.int (0 - 1), .int (ds.length : Int), .int ((ds.length : Int) - 1), .int ((ds.length : Int) - 2), .int 0, .int ((ds.length : Int) + a), .int (0 - 1 - b)]) = H3 at e3 q3
    have s3 := s2.ex e3
    have bb3 := (b1.trans b2).trans (But.of_ex (p := sk) e3)
    refine ⟨_, rfl, _, rfl, _, rfl, _, _, rfl, rfl, sk, (ds.length : Int) + 1, m + 1 + 1, rfl, s3, by omega, by omega, by rw [n200]; omega, fun c H4 c0 c1 b4 s4 z4 => ⟨one, fun p' hp' => ?_⟩⟩
    have q4 := b4 _ _ p3 q3
    have e5 := Evl.Ex.new (o := .lst [.int c]) hp'
    have q5 : upd H4 p' (.lst [.int c]) p' = _ := upd_same
    generalize upd H4 p' (.lst [.int c]) = H5 at e5 q5
    refine ⟨p, p', _, _, rfl, rfl, e5 _ _ q4, q5, by show 7 + 1 ≤ _; decide, fun p'' hp'' => ?_⟩
    obtain ⟨ks, hks, hkb⟩ : ∃ ks : List Int, [V.int (0 - 1), .int (ds.length : Int), .int ((ds.length : Int) - 1), .int ((ds.length : Int) - 2), .int 0, .int ((ds.length : Int) + a), .int (0 - 1 - b)] ++ [V.int c] = iV ks ∧ ∀ k ∈ ks, k.natAbs < 2 ^ 50 := by
      refine ⟨[0 - 1, (ds.length : Int), (ds.length : Int) - 1, (ds.length : Int) - 2, 0, (ds.length : Int) + a, 0 - 1 - b, c], rfl, fun k hk => ?_⟩
      refine Nat.lt_of_le_of_lt (m := 2000000000) ?_ (by decide)
      simp only [List.mem_cons, List.not_mem_nil, or_false] at hk
      rcases hk with rfl | rfl | rfl | rfl | rfl | rfl | rfl | rfl <;> omega
    rw [hks]
    have e6 := Evl.Ex.new (o := .lst (iV ks)) hp''
    have q6 : upd H5 p'' (.lst (iV ks)) p'' = _ := upd_same
    generalize upd H5 p'' (.lst (iV ks)) = H6 at e6 q6
    have s6 := (s4.ex e5).ex e6
    have bb6 := (bb3.trans b4).trans (But.of_ex (p := sk) (e5.trans e6))
    have hSc6 : ScAt H6 C x ts ds := (hSc.ex bb6.wo).ex wo_ex
    have hD6 : DsAt H6 ld ds := (hD.ex bb6.wo).ex wo_ex
    clear hSc hD hl0 hi0
    obtain ⟨aD, hl6, hn6, hi6⟩ := id hD6
    refine ⟨p'', rfl, ⟨_, SqL.of q6⟩, for_list (xs := iV ks) (fun i σ H' => ∃ v5 v6 v7 v8 v9 v10, σ = [some (.ref sk), some (.ref x), some (.ref ld), some (.int (ds.length : Int)), some (.ref p), v5, v6, v7, v8, v9, v10] ∧ Evl.Ex H6 H') ⟨_, _, _, _, _, _, rfl, Evl.Ex.refl _⟩ (fun i σ H' _ q => by
      obtain ⟨_, _, _, _, _, _, _, q⟩ := q
      exact SqL.of (q _ _ q6)) ?_ ?_⟩
    · rintro i v σ H7 hi ⟨v5, v6, v7, v8, v9, v10, rfl, e7⟩
      obtain ⟨k, hk, rfl⟩ : ∃ k, k ∈ ks ∧ v = .int k := by
        unfold iV at hi
        rw [List.getElem?_map] at hi
        obtain ⟨k, h1, rfl⟩ := Option.map_eq_some_iff.mp hi
        exact ⟨k, List.mem_of_getElem? h1, rfl⟩
      have hkB := hkb k hk
      -- two lists
      refine ⟨_, rfl, two, fun l6 hl6' => ⟨_, rfl, two, fun l7 hl7 => ⟨_, _, rfl, ?_⟩⟩⟩
      have f1 := Evl.Ex.new (o := .lst [.str "none", .int k]) hl6'
      have x6 : upd H7 l6 (.lst [.str "none", .int k]) l6 = _ := upd_same
      generalize upd H7 l6 (.lst [.str "none", .int k]) = H8 at f1 x6 hl7
      have f2 := Evl.Ex.new (o := .lst [.str "none", .int k]) hl7
      have x7 : upd H8 l7 (.lst [.str "none", .int k]) l7 = _ := upd_same
      generalize upd H8 l7 (.lst [.str "none", .int k]) = H9 at f2 x7
      have e9 := (e7.trans f1).trans f2
      have nn : ∀ {G : Hp} {l : Addr}, G l = some (.lst [.str "none", .int k]) → Dq G (.ref l) (.list [.str "none", .int k]) := fun h => .lst h (.cons (.str _) (.cons (.int _) .nil))
      have d6 := nn (f2 _ _ x6)
      have d7 := nn x7
      have hl9 := e9 _ _ hl6
      have hi9 := fun (i : Nat) (a : Addr) (d : Deed) (h1 : aD[i]? = some a) (h2 : ds[i]? = some d) => (hi6 i a d h1 h2).ex e9
      -- without the step
      refine ⟨fun σ H' => ∃ l6', σ = [some (.ref sk), some (.ref x), some (.ref ld), some (.int (ds.length : Int)), some (.ref p), some (.int k), some (.ref l6'), some (.ref l7), v8, v9, v10] ∧ Evl.Ex H9 H' ∧ Dq H' (.ref l6') (ixD ds 1 k), ?_, ?_⟩
      · refine rd_chain (fun _ q => q) (fun _ q => ⟨_, rfl, q⟩) (fun _ q => ⟨_, rfl, q⟩) ?_
        by_cases c : 0 ≤ k ∧ k < ds.length
        · rw [decide_eq_true c.1, decide_eq_true c.2]
          refine if_t rfl ?_
          obtain ⟨n, rfl⟩ : ∃ n : Nat, k = (n : Int) := ⟨k.toNat, by omega⟩
          have hn : n < ds.length := by omega
          refine ⟨_, rfl, _, rfl, (n : Int), rfl, ld, _, rfl, SqL.of hl9, fun p1 hp1 => ?_⟩
          have g1 := Evl.Ex.new (o := .lst (cutV (aD.map V.ref) none (some (n : Int)))) hp1
          have y1 : upd H9 p1 (.lst (cutV (aD.map V.ref) none (some (n : Int)))) p1 = some (.lst ((aD.take n).map V.ref)) := Eq.trans upd_same (by rw [cut_min, List.map_take])
          generalize upd H9 p1 (.lst (cutV (aD.map V.ref) none (some (n : Int)))) = G1 at g1 y1
          refine ⟨_, rfl, _, rfl, _, _, rfl, rfl, ((n + 1 : Nat) : Int), rfl, ld, _, rfl, SqL.of (g1 _ _ hl9), fun p2 hp2 => ?_⟩
          have g2 := Evl.Ex.new (o := .lst (cutV (aD.map V.ref) (some ((n + 1 : Nat) : Int)) none)) hp2
          have y2 : upd G1 p2 (.lst (cutV (aD.map V.ref) (some ((n + 1 : Nat) : Int)) none)) p2 = some (.lst ((aD.drop (n + 1)).map V.ref)) := Eq.trans upd_same (by rw [cut_drop, List.map_drop])
          generalize upd G1 p2 (.lst (cutV (aD.map V.ref) (some ((n + 1 : Nat) : Int)) none)) = G2 at g2 y2
          refine ⟨p1, p2, _, _, rfl, rfl, g2 _ _ y1, y2, ?_, fun p3 hp3 => ?_⟩
          · rw [List.length_map, List.length_map, List.length_take, List.length_drop]
            exact Nat.le_trans (show min n aD.length + (aD.length - (n + 1)) ≤ 120 by omega) (by decide)
          have g3 := Evl.Ex.new (o := .lst ((aD.take n).map V.ref ++ (aD.drop (n + 1)).map V.ref)) hp3
          have y3 : upd G2 p3 (.lst ((aD.take n).map V.ref ++ (aD.drop (n + 1)).map V.ref)) p3 = some (.lst ((aD.take n ++ aD.drop (n + 1)).map V.ref)) := Eq.trans upd_same (by rw [List.map_append])
          generalize upd G2 p3 (.lst ((aD.take n).map V.ref ++ (aD.drop (n + 1)).map V.ref)) = G3 at g3 y3
          have g13 := (g1.trans g2).trans g3
          obtain ⟨pl, pd⟩ := ds_parts hn6 hi9 n (n + 1)
          have hDs : DsAt G3 p3 (ds.take n ++ ds.drop (n + 1)) := ⟨_, y3, pl, fun j a d u1 u2 => (pd j a d u1 u2).ex g13⟩
          refine ⟨one, fun r hr' => ⟨r, rfl, g13.trans (Evl.Ex.new hr'), ?_⟩⟩
          have e : ixD ds 1 (n : Int) = .list [.list ((ds.take n ++ ds.drop (n + 1)).map dD)] := by
            unfold ixD ixR
            rw [if_neg (by decide), if_pos (.inl rfl), if_pos c]
            rfl
          rw [e]
          exact .lst upd_same (.cons (hDs.ex (Evl.Ex.new hr')).dq .nil)
        · refine if_f (by rw [Bool.and_eq_false_iff, decide_eq_false_iff_not, decide_eq_false_iff_not]; omega) ?_
          refine ⟨l6, rfl, Evl.Ex.refl _, ?_⟩
          have e : ixD ds 1 k = .list [.str "none", .int k] := by
            unfold ixD ixR
            rw [if_neg (by decide), if_pos (.inl rfl), if_neg c]
          rw [e]
          exact d6
      rintro σ HA ⟨l6', rfl, eA, dA⟩
      have hlA := eA _ _ hl9
      -- with two exchanged
      refine ⟨fun σ H' => ∃ l7', σ = [some (.ref sk), some (.ref x), some (.ref ld), some (.int (ds.length : Int)), some (.ref p), some (.int k), some (.ref l6'), some (.ref l7'), v8, v9, v10] ∧ Evl.Ex HA H' ∧ Dq H' (.ref l7') (ixD ds 3 k), ?_, ?_⟩
      · refine rd_chain (n := (ds.length : Int) - 1) (fun _ q => q) (fun _ q => ⟨_, rfl, q⟩) (fun _ q => ⟨_, rfl, _, _, rfl, rfl, q⟩) ?_
        by_cases c : 0 ≤ k ∧ k < (ds.length : Int) - 1
        · rw [decide_eq_true c.1, decide_eq_true c.2]
          refine if_t rfl ?_
          obtain ⟨n, rfl⟩ : ∃ n : Nat, k = (n : Int) := ⟨k.toNat, by omega⟩
          have hn : n + 1 < ds.length := by omega
          obtain ⟨d, hd⟩ : ∃ d, ds[n]? = some d := ⟨_, List.getElem?_eq_getElem (by omega)⟩
          obtain ⟨e, he⟩ : ∃ e, ds[n + 1]? = some e := ⟨_, List.getElem?_eq_getElem hn⟩
          obtain ⟨a0, ha0⟩ : ∃ a, aD[n]? = some a := ⟨_, List.getElem?_eq_getElem (by omega)⟩
          obtain ⟨a1, ha1⟩ : ∃ a, aD[n + 1]? = some a := ⟨_, List.getElem?_eq_getElem (by omega)⟩
          have z0 : (aD.map V.ref)[n]? = some (.ref a0) := by rw [List.getElem?_map, ha0]; rfl
          have z1' : (aD.map V.ref)[n + 1]? = some (.ref a1) := by rw [List.getElem?_map, ha1]; rfl
          refine ⟨_, rfl, _, rfl, (n : Int), rfl, ld, _, rfl, SqL.of hlA, fun p1 hp1 => ?_⟩
          have g1 := Evl.Ex.new (o := .lst (cutV (aD.map V.ref) none (some (n : Int)))) hp1
          have y1 : upd HA p1 (.lst (cutV (aD.map V.ref) none (some (n : Int)))) p1 = some (.lst ((aD.take n).map V.ref)) := Eq.trans upd_same (by rw [cut_min, List.map_take])
          generalize upd HA p1 (.lst (cutV (aD.map V.ref) none (some (n : Int)))) = G1 at g1 y1
          refine ⟨_, rfl, _, rfl, _, _, rfl, rfl, ld, _, ((n + 1 : Nat) : Int), _, rfl, rfl, SqL.of (g1 _ _ hlA), atI_nat z1', ?_⟩
          refine ⟨_, rfl, _, rfl, ld, _, (n : Int), _, rfl, rfl, SqL.of (g1 _ _ hlA), atI_nat z0, two, fun p2 hp2 => ?_⟩
          have g2 := Evl.Ex.new (o := .lst [V.ref a1, V.ref a0]) hp2
          have y2 : upd G1 p2 (.lst [V.ref a1, V.ref a0]) p2 = _ := upd_same
          generalize upd G1 p2 (.lst [V.ref a1, V.ref a0]) = G2 at g2 y2
          refine ⟨p1, p2, _, _, rfl, rfl, g2 _ _ y1, y2, ?_, fun p3 hp3 => ?_⟩
          · rw [List.length_map, List.length_take]
            exact Nat.le_trans (show min n aD.length + 2 ≤ 120 by omega) (by decide)
          have g3 := Evl.Ex.new (o := .lst ((aD.take n).map V.ref ++ [V.ref a1, V.ref a0])) hp3
          have y3 : upd G2 p3 (.lst ((aD.take n).map V.ref ++ [V.ref a1, V.ref a0])) p3 = some (.lst ((aD.take n ++ [a1, a0]).map V.ref)) := Eq.trans upd_same (by rw [List.map_append]; rfl)
          generalize upd G2 p3 (.lst ((aD.take n).map V.ref ++ [V.ref a1, V.ref a0])) = G3 at g3 y3
          have g13 := (g1.trans g2).trans g3
          refine ⟨_, rfl, _, rfl, _, _, rfl, rfl, ((n + 2 : Nat) : Int), rfl, ld, _, rfl, SqL.of (g13 _ _ hlA), fun p4 hp4 => ?_⟩
          have g4 := Evl.Ex.new (o := .lst (cutV (aD.map V.ref) (some ((n + 2 : Nat) : Int)) none)) hp4
          have y4 : upd G3 p4 (.lst (cutV (aD.map V.ref) (some ((n + 2 : Nat) : Int)) none)) p4 = some (.lst ((aD.drop (n + 2)).map V.ref)) := Eq.trans upd_same (by rw [cut_drop, List.map_drop])
          generalize upd G3 p4 (.lst (cutV (aD.map V.ref) (some ((n + 2 : Nat) : Int)) none)) = G4 at g4 y4
          refine ⟨p3, p4, _, _, rfl, rfl, g4 _ _ y3, y4, ?_, fun p5 hp5 => ?_⟩
          · rw [List.length_map, List.length_map, List.length_append, List.length_take, List.length_drop]
            exact Nat.le_trans (show min n aD.length + 2 + (aD.length - (n + 2)) ≤ 120 by omega) (by decide)
          have g5 := Evl.Ex.new (o := .lst ((aD.take n ++ [a1, a0]).map V.ref ++ (aD.drop (n + 2)).map V.ref)) hp5
          have y5 : upd G4 p5 (.lst ((aD.take n ++ [a1, a0]).map V.ref ++ (aD.drop (n + 2)).map V.ref)) p5 = some (.lst ((aD.take n ++ [a1, a0] ++ aD.drop (n + 2)).map V.ref)) := Eq.trans upd_same (by rw [← List.map_append])
          generalize upd G4 p5 (.lst ((aD.take n ++ [a1, a0]).map V.ref ++ (aD.drop (n + 2)).map V.ref)) = G5 at g5 y5
          have g15 := (g13.trans g4).trans g5
          have hiA := fun (i : Nat) (a : Addr) (d : Deed) (h1 : aD[i]? = some a) (h2 : ds[i]? = some d) => (hi9 i a d h1 h2).ex (eA.trans g15)
          obtain ⟨pl, pd⟩ := ds_app3 (H := G5) (bs := [a1, a0]) (es := [e, d]) hn6 hiA rfl (fun j a d' u1 u2 => by
            match j, u1, u2 with
            | 0, u1, u2 => cases u1; cases u2; exact hiA _ _ _ ha1 he
            | 1, u1, u2 => cases u1; cases u2; exact hiA _ _ _ ha0 hd
            | j + 2, u1, u2 => cases u1) n (n + 2)
          have hDs : DsAt G5 p5 (xch ds n d e) := ⟨_, y5, pl, pd⟩
          refine ⟨one, fun r hr' => ⟨r, rfl, g15.trans (Evl.Ex.new hr'), ?_⟩⟩
          have ee : ixD ds 3 (n : Int) = .list [.list ((xch ds n d e).map dD)] := by
            unfold ixD ixR
            rw [if_neg (by decide), if_neg (by decide), if_pos (by omega), Int.toNat_natCast, hd, he]
          rw [ee]
          exact .lst upd_same (.cons (hDs.ex (Evl.Ex.new hr')).dq .nil)
        · refine if_f (by rw [Bool.and_eq_false_iff, decide_eq_false_iff_not, decide_eq_false_iff_not]; omega) ?_
          refine ⟨l7, rfl, Evl.Ex.refl _, ?_⟩
          have e : ixD ds 3 k = .list [.str "none", .int k] := by
            unfold ixD ixR
            rw [if_neg (by decide), if_neg (by decide)]
            by_cases h0 : 0 ≤ k
            · rw [if_pos h0, List.getElem?_eq_none (l := ds) (i := k.toNat + 1) (by omega)]
              cases ds[k.toNat]? <;> rfl
            · rw [if_neg h0]
          rw [e]
          exact Dq.go d7 eA
      rintro σ HB ⟨l7', rfl, eB, dB'⟩
      have hlB := eB _ _ hlA
      have dAB := Dq.go dA eB
      -- the step itself
      refine rd_chain (fun _ q => q) (fun _ q => ⟨_, rfl, q⟩) (fun _ q => ⟨_, rfl, q⟩) ?_
      have both : ∀ {R : VK}, (∀ (l : Addr) (H' : Hp), Evl.Ex HB H' → Dq H' (.ref l) (ixD ds 0 k) → R (.ref l) H') → (if (decide (0 ≤ k) && decide (k < (ds.length : Int))) = true then tLst (tCons (tOp (rIxL K) (tVar 2) (tVar 5)) tNil) [some (.ref sk), some (.ref x), some (.ref ld), some (.int (ds.length : Int)), some (.ref p), some (.int k), some (.ref l6'), some (.ref l7'), v8, v9, v10] HB R else tLst (tCons (tC (.str "none")) (tCons (tVar 5) tNil)) [some (.ref sk), some (.ref x), some (.ref ld), some (.int (ds.length : Int)), some (.ref p), some (.int k), some (.ref l6'), some (.ref l7'), v8, v9, v10] HB R) := fun {R} h => by
        by_cases c : 0 ≤ k ∧ k < ds.length
        · rw [decide_eq_true c.1, decide_eq_true c.2]
          refine if_t rfl ?_
          obtain ⟨n, rfl⟩ : ∃ n : Nat, k = (n : Int) := ⟨k.toNat, by omega⟩
          obtain ⟨d, hd⟩ : ∃ d, ds[n]? = some d := ⟨_, List.getElem?_eq_getElem (by omega)⟩
          obtain ⟨a0, ha0⟩ : ∃ a, aD[n]? = some a := ⟨_, List.getElem?_eq_getElem (by omega)⟩
          have z0 : (aD.map V.ref)[n]? = some (.ref a0) := by rw [List.getElem?_map, ha0]; rfl
          refine ⟨_, rfl, _, rfl, ld, _, (n : Int), _, rfl, rfl, SqL.of hlB, atI_nat z0, one, fun r hr' => h r _ (Evl.Ex.new hr') ?_⟩
          have ee : ixD ds 0 (n : Int) = .list [dD d] := by
            unfold ixD ixR
            rw [if_pos rfl, if_pos c.1, Int.toNat_natCast, hd]
            rfl
          rw [ee]
          exact .lst upd_same (.cons (dat_dq ((hi9 n a0 d ha0 hd).ex ((eA.trans eB).trans (Evl.Ex.new hr')))) .nil)
        · refine if_f (by rw [Bool.and_eq_false_iff, decide_eq_false_iff_not, decide_eq_false_iff_not]; omega) ?_
          refine ⟨_, rfl, two, fun r hr' => h r _ (Evl.Ex.new hr') ?_⟩
          have e : ixD ds 0 k = .list [.str "none", .int k] := by
            unfold ixD ixR
            rw [if_pos rfl]
            by_cases h0 : 0 ≤ k
            · rw [if_pos h0, List.getElem?_eq_none (by omega)]
              rfl
            · rw [if_neg h0]
          rw [e]
          exact nn upd_same
      refine both fun l8 HC eC d8 => ?_
      clear both
      refine ⟨_, rfl, _, rfl, _, rfl, _, rfl, _, rfl, five, fun q hq => ?_⟩
      have eD := Evl.Ex.new (o := .lst [.ref l8, .ref l6', .ref l6', .ref l7', .ref l7']) hq
      have qD : upd HC q (.lst [.ref l8, .ref l6', .ref l6', .ref l7', .ref l7']) q = _ := upd_same
      generalize upd HC q (.lst [.ref l8, .ref l6', .ref l6', .ref l7', .ref l7']) = HD at eD qD
      have e6D := ((((e9.trans eA).trans eB).trans eC).trans eD)
      have d8' := Dq.go d8 eD
      have d6' := Dq.go dAB (eC.trans eD)
      have d7' := Dq.go dB' (eC.trans eD)
      refine ⟨q, _, rfl, SqL.of qD, for_it walk_enum (fun i σ H' => ∃ v9 v10, σ = [some (.ref sk), some (.ref x), some (.ref ld), some (.int (ds.length : Int)), some (.ref p), some (.int k), some (.ref l6'), some (.ref l7'), some (.ref l8), v9, v10] ∧ Evl.Ex HD H') ⟨_, _, rfl, Evl.Ex.refl _⟩ (fun i σ H' _ ⟨_, _, _, q⟩ => SqL.of (q _ _ qD)) ?_ ?_⟩
      · rintro i v σ Ha Hb hi ⟨v9, v10, rfl, ea⟩ ⟨t3, z, o, rfl, ht3, rfl, hz, ho⟩
        obtain rfl := (Option.some.inj hz).symm
        have hi5 : i < 5 := (List.getElem?_eq_some_iff.mp ho).1
        obtain ⟨due, rfl, hdue⟩ : ∃ due, o = .ref due ∧ Dq HD (.ref due) (ixD ds (i : Int) k) := by
          match i, hi5, ho with
          | 0, _, ho => cases ho; exact ⟨_, rfl, d8'⟩
          | 1, _, ho => cases ho; exact ⟨_, rfl, d6'⟩
          | 2, _, ho => cases ho; exact ⟨_, rfl, d6'⟩
          | 3, _, ho => cases ho; exact ⟨_, rfl, d7'⟩
          | 4, _, ho => cases ho; exact ⟨_, rfl, d7'⟩
        have et := Evl.Ex.new (o := .tup [.int (i : Nat), .ref due]) ht3
        refine ⟨t3, _, rfl, SqT.of upd_same, rfl, _, _, rfl, _, _, rfl, rfl, ?_⟩
        generalize upd Ha t3 (.tup [.int (i : Nat), .ref due]) = Hb at et
        have eb := ea.trans et
        refine ⟨_, rfl, _, rfl, _, rfl, x, (i : Int), k, ts, ds, rfl, (hSc6.ex e6D).ex eb, hW.ok, by omega, by omega, fun y as Hc ec hy hnd => ?_⟩
        obtain ⟨lw1, lw2⟩ := lw_ixD (way := (i : Int)) hW hkB
        have tr := hy.go Nw.ex
        obtain ⟨w1, w2, w3, w4⟩ := rtI lw1 lw2 tr
        have off := trd_off hy w1
        have ew := ex_woL ec (fun a ha => (off a ha).1)
        refine ⟨_, rfl, y, due, _, as, rfl, tr, w1, hnd, w2, Dq.go hdue (eb.trans ew), w3, w4, fun Hd bd => ⟨true, rfl, if_f rfl ⟨_, _, rfl, ?_⟩⟩⟩
        exact ex_butL (eb.trans ec) (fun a ha => Evl.fresh_back eb (off a ha).1) bd
      · rintro σ Ha ⟨v9, v10, rfl, ea⟩
        exact ⟨_, _, _, _, _, _, rfl, e6D.trans ea⟩
    · rintro σ H7 ⟨v5, v6, v7, v8, v9, v10, rfl, e7⟩
      exact kk H7 (bb6.trans (But.of_ex e7)) ((s6.ex e7).le (by omega))
end
end V2


namespace V2
open PySem L2
open PySem.Spec PyProof.Rows
/-! ## tanks and steps with one thing other -/
inductive F2 {α : Type} (R : Addr → α → Prop) : List Addr → List α → Prop
  | nil : F2 R [] []
  | cons {a : Addr} {x : α} {as : List Addr} {xs : List α} : R a x → F2 R as xs → F2 R (a :: as) (x :: xs)
namespace F2
variable {α : Type} {R S : Addr → α → Prop}
theorem of : ∀ {as : List Addr} {xs : List α}, as.length = xs.length → (∀ (i : Nat) (a : Addr) (x : α), as[i]? = some a → xs[i]? = some x → R a x) → F2 R as xs
  | [], [], _, _ => .nil
  | [], _ :: _, h, _ => by cases h
  | _ :: _, [], h, _ => by cases h
  | a :: as, x :: xs, h, g => .cons (g 0 a x rfl rfl) (of (Nat.succ.inj h) fun i b y h1 h2 => g (i + 1) b y h1 h2)
theorem len : ∀ {as : List Addr} {xs : List α}, F2 R as xs → as.length = xs.length
  | _, _, .nil => rfl
  | _, _, .cons _ h => congrArg Nat.succ (len h)
theorem get : ∀ {as : List Addr} {xs : List α}, F2 R as xs → ∀ (i : Nat) (a : Addr) (x : α), as[i]? = some a → xs[i]? = some x → R a x
  | _, _, .nil, i, a, x, h, _ => by simp at h
  | _, _, .cons r h, 0, a, x, h1, h2 => by cases h1; cases h2; exact r
  | _, _, .cons r h, i + 1, a, x, h1, h2 => get h i a x h1 h2
theorem imp (f : ∀ a x, R a x → S a x) : ∀ {as : List Addr} {xs : List α}, F2 R as xs → F2 S as xs
  | _, _, .nil => .nil
  | _, _, .cons r h => .cons (f _ _ r) (imp f h)
theorem app : ∀ {as bs : List Addr} {xs ys : List α}, F2 R as xs → F2 R bs ys → F2 R (as ++ bs) (xs ++ ys)
  | _, _, _, _, .nil, h => h
  | _, _, _, _, .cons r h, g => .cons r (app h g)
theorem take : ∀ {as : List Addr} {xs : List α} (n : Nat), F2 R as xs → F2 R (as.take n) (xs.take n)
  | _, _, 0, _ => by simp only [List.take_zero]; exact .nil
  | _, _, n + 1, .nil => by simp only [List.take_nil]; exact .nil
  | _, _, n + 1, .cons r h => .cons r (take n h)
theorem drop : ∀ {as : List Addr} {xs : List α} (n : Nat), F2 R as xs → F2 R (as.drop n) (xs.drop n)
  | _, _, 0, h => h
  | _, _, n + 1, .nil => .nil
  | _, _, n + 1, .cons r h => drop n h
theorem rev : ∀ {as : List Addr} {xs : List α}, F2 R as xs → F2 R as.reverse xs.reverse
  | _, _, .nil => .nil
  | _, _, .cons r h => by
    rw [List.reverse_cons, List.reverse_cons]
    exact app (rev h) (.cons r .nil)
theorem set : ∀ {as : List Addr} {xs : List α} (n : Nat) {a : Addr} {x : α}, F2 R as xs → R a x → F2 R (as.set n a) (xs.set n x)
  | _, _, 0, _, _, .nil, _ => .nil
  | _, _, n + 1, _, _, .nil, _ => .nil
  | _, _, 0, _, _, .cons r h, q => .cons q h
  | _, _, n + 1, _, _, .cons r h, q => .cons r (set n h q)
end F2
abbrev TkA (H : Hp) (a : Addr) (t : Tk) : Prop := H a = some (.tup [wV t.1, .int t.2])
theorem f2_tks {H : Hp} {l : Addr} {as : List Addr} {ts : List Tk} (h : H l = some (.lst (as.map V.ref))) (f : F2 (TkA H) as ts) : TksAt H l ts := ⟨as, h, f.len, f.get⟩
theorem f2_ds {H : Hp} {l : Addr} {as : List Addr} {ds : List Deed} (h : H l = some (.lst (as.map V.ref))) (f : F2 (DAt H) as ds) : DsAt H l ds := ⟨as, h, f.len, f.get⟩
theorem okD_up {n m : Int} {d : Deed} (h : okD n d) (l : n ≤ m) : okD m d := by
  cases d with
  | op ks => exact ⟨h.1, h.2.1, h.2.2.1, fun k hk => ⟨(h.2.2.2 k hk).1, by have := (h.2.2.2 k hk).2; omega⟩⟩
  | po k a => exact ⟨⟨h.1.1, by have := h.1.2; omega⟩, h.2⟩
  | sc k p q => exact ⟨⟨h.1.1, by have := h.1.2; omega⟩, h.2⟩
  | mv k m' p q => exact ⟨⟨h.1.1, by have := h.1.2; omega⟩, ⟨h.2.1.1, by have := h.2.1.2; omega⟩, h.2.2⟩
  | un k m' => exact ⟨⟨h.1.1, by have := h.1.2; omega⟩, ⟨h.2.1.1, by have := h.2.1.2; omega⟩, h.2.2⟩
theorem cut_mid (xs : List V) (i j : Nat) : cutV xs (some (i : Int)) (some (j : Int)) = (xs.drop i).take (j - i) := by
  unfold cutV
  rw [sIx_pos, sIx_pos]
  by_cases h : i ≤ xs.length
  · rw [Nat.min_eq_left h]
    by_cases h2 : j ≤ xs.length
    · rw [Nat.min_eq_left h2]
    · rw [Nat.min_eq_right (show xs.length ≤ j by omega), List.take_of_length_le (by rw [List.length_drop]; omega), List.take_of_length_le (by rw [List.length_drop]; omega)]
  · rw [Nat.min_eq_right (show xs.length ≤ i by omega), List.drop_of_length_le (show xs.length ≤ xs.length by omega), List.drop_of_length_le (show xs.length ≤ i by omega)]
    simp
/-- three parts, the second one turned -/
abbrev swp {α : Type} (xs : List α) (k : Nat) : List α := xs.take k ++ ((xs.drop k).take 2).reverse ++ xs.drop (k + 2)
theorem parts3 {α : Type} (xs : List α) (k : Nat) : xs = xs.take k ++ ((xs.drop k).take 2 ++ xs.drop (k + 2)) := by
  have : (xs.drop k).take 2 ++ xs.drop (k + 2) = xs.drop k := by
    rw [show xs.drop (k + 2) = (xs.drop k).drop 2 by rw [List.drop_drop]]
    exact List.take_append_drop 2 _
  rw [this, List.take_append_drop]
theorem swp_len {α : Type} (xs : List α) (k : Nat) : (swp xs k).length = xs.length := by
  have h : xs.length = (xs.take k ++ ((xs.drop k).take 2 ++ xs.drop (k + 2))).length := congrArg List.length (parts3 xs k)
  simp only [List.length_append] at h
  simp only [swp, List.length_append, List.length_reverse]
  omega
theorem swp_mem {α : Type} {xs : List α} {k : Nat} {x : α} (h : x ∈ swp xs k) : x ∈ xs := by
  rw [parts3 xs k]
  simp only [List.mem_append, List.mem_reverse] at h ⊢
  rcases h with (h | h) | h
  · exact .inl h
  · exact .inr (.inl h)
  · exact .inr (.inr h)
theorem swp_cnt {α : Type} (p : α → Bool) (xs : List α) (k : Nat) : (swp xs k).countP p = xs.countP p := by
  have h := congrArg (List.countP p) (parts3 xs k)
  rw [List.countP_append, List.countP_append] at h
  rw [List.countP_append, List.countP_append, List.countP_reverse]
  omega
theorem set_cnt {ts : List Tk} {k : Nat} {t x : Tk} (ht : ts[k]? = some t) (hx : x.1 = none ↔ t.1 = none) : (ts.set k x).countP (fun t => t.1.isNone) = ts.countP (fun t => t.1.isNone) := by
  induction ts generalizing k with
  | nil => rfl
  | cons y r ih =>
    cases k with
    | zero =>
      cases ht
      simp only [List.set_cons_zero, List.countP_cons]
      congr 1
      have : x.1.isNone = t.1.isNone := by
        cases e : t.1 with
        | none => rw [hx.mpr e]
        | some z =>
          cases e2 : x.1 with
          | none => rw [hx.mp e2] at e; cases e
          | some w => rfl
      rw [this]
    | succ k =>
      simp only [List.set_cons_succ, List.countP_cons, ih ht]
theorem rd_and {σ : L2.St} {H : Hp} {ta tb : TT} {p q : Prop} [Decidable p] [Decidable q] {R : Bool → Hp → Prop} (ha : ∀ R' : Bool → Hp → Prop, R' (decide p) H → ta σ H R') (hb : ∀ R' : Bool → Hp → Prop, R' (decide q) H → tb σ H R') (hr : R (decide p && decide q) H) : tAnd ta tb σ H R := by
  refine ha _ ?_
  by_cases c : p
  · refine if_t (decide_eq_true c) (hb _ ?_)
    rw [decide_eq_true c, Bool.true_and] at hr
    exact hr
  · refine if_f (decide_eq_false c) ?_
    rw [decide_eq_false c, Bool.false_and] at hr
    exact hr
def spNear : Sp := fun vs H Q _ => ∃ (sk t : Addr) (m : Nat) (ts : List Tk) (ds : List Deed), vs = [.ref sk, .ref t] ∧ Sk H sk m ∧ m ≤ 79000 ∧ ShAt (wo sk H) t ts ds ∧ ShW ts ds ∧
  ∀ (r : Addr) (ts' : List Tk) (ds' : List Deed) (H' : Hp), But sk H H' → Sk H' sk (m + 30) → ShAt (wo sk H') r ts' ds' → ShW ts' ds' → Q (.ref r) H'
section
variable {base : Heap} {mg : Str → Option Value} {K : PySem.W.Frag} {w : World} {P : Program}
theorem ok_near {f : Addr} {fd : FuncData} (F : Fun K "_law_pv_near" "_law_pv_near" s_l_near f fd) (mL : mg "len" = none) (mLs : mg "list" = none) (mI : mg "int" = none) (cC : Cal P w K mg base 1 "_law_pv_coin" p_l_coin spCoin) (cDe : Cal P w K mg base 4 "_law_pv_deed" p_l_deed spDeed) : FnOk P w K mg base CX0 5 f fd p_l_near spNear := by
  refine F.ok sc_l_near (fun vs H Q E h => ?_) (fun cdv A outer s H vs Q E hr h => ?_)
  · obtain ⟨sk, t, m, ts, ds, rfl, _⟩ := h
    rfl
  · obtain ⟨sk, t, m, ts, ds, rfl, hS, hm, ⟨lv, ld, ht, hT, hD⟩, hW, kk⟩ := h
    have nd := sc_l_near.nd
    have n200 := n200e
    have one : 1 ≤ sizeLine := by show 1 ≤ sizeLine; decide
    have two : 2 ≤ sizeLine := by show 2 ≤ sizeLine; decide
    have five : 5 ≤ sizeLine := by show 5 ≤ sizeLine; decide
    have r1 : Room 1 _ := hr.mono (by decide)
    have h20 := hW.ok.1.1
    have h60 := hW.ok.2.1
    refine ⟨_, pss_cons (ps_par (i := 2) (j := 3) rfl nd rfl rfl (by decide) rfl rfl (pa_cons (pe_callTy call_list_of (by rfl) mLs (by decide +kernel) (pa_cons (pe_ix ix_tup (pv 1) pe_int (fun _ _ => rfl)) pa_nil)) (pa_cons (pe_callTy call_list_of (by rfl) mLs (by decide +kernel) (pa_cons (pe_ix ix_tup (pv 1) pe_int (fun _ _ => rfl)) pa_nil)) pa_nil)) (by rfl))
      (pss_cons (ps_par (i := 4) (j := 5) rfl nd rfl rfl (by decide) rfl rfl (pa_cons (pe_c cC r1 (pa_cons (pv 0) (pa_cons pe_int pa_nil))) (pa_cons (pe_callB call_len_seq (by rfl) mL PySem.boot_len (pa_cons (pe_ix ix_tup (pv 1) pe_int (fun _ _ => rfl)) pa_nil)) pa_nil)) (by rfl))
      (pss_cons (ps_if (PW.pt (pw_or (pt_cmpR op_lt (pv 4) pe_int (nomark _)) (pw_or1 (PW.pt (pw_and (pt_cmpR (op_eqD hr.units) (pv 3) (pe_lst pa_nil) (nomark _)) (pw_and1 (pt_cmpR op_lt (pv 4) pe_int (nomark _)))))))) (pss_cons (ps_set (i := 6) nd rfl (Or.inl rfl) (pe_c cC r1 (pa_cons (pv 0) (pa_cons (pv 5) pa_nil))))
      (pss_cons (ps_asg (pe_ix ix_list (pv 2) (pv 6) (fun _ _ => rfl)) (pg_tup rfl (pgs_cons (pg_name (i := 7) nd rfl (Or.inl rfl)) (pgs_cons (pg_name (i := 8) nd rfl (Or.inl rfl)) pgs_nil))))
      (Evl.pss_cut (ps_if (PW.pt (pw_and (pt_cmpR op_eq (pv 4) pe_int (nomark _)) (pw_and1 (pt_cmp (pc_notN (pv 7)))))) (pss_one (ps_set (i := 7) nd rfl (Or.inl rfl) (pe_op op_sub (pe_op op_add (pv 7) pe_int) (pe_op op_mul pe_int (pe_callTy call_int1 (by rfl) mI (by decide +kernel) (pa_cons (pe_cmpR op_gt (pv 7) pe_int (nomark _)) pa_nil)))))) (pss_one (ps_set (i := 8) nd rfl (Or.inl rfl) (pe_op op_sub (pe_op op_add (pv 8) pe_int) (pe_op op_mul pe_int (pe_callTy call_int1 (by rfl) mI (by decide +kernel) (pa_cons (pe_cmpR op_gt (pv 8) pe_int (nomark _)) pa_nil)))))))
      (pss_cons (ps_asg (pe_tup (pa_cons (pv 7) (pa_cons (pv 8) pa_nil))) (pg_sub (pv 2) (pv 6) set_list))
      (pss_one (ps_ret (pe_tup (pa_cons (pv 2) (pa_cons (pv 3) pa_nil))))))))) pss_nil)
      (pss_cons (ps_if (pt_cmpR op_eq (pv 4) pe_int (nomark _)) (pss_cons (ps_set (i := 6) nd rfl (Or.inl rfl) (pe_c cC r1 (pa_cons (pv 0) (pa_cons (pv 5) pa_nil))))
      (pss_one (ps_ret (pe_tup (pa_cons (pe_op op_cat (pe_op op_cat (pe_slice sl_list (pv 2) po_none (po_some (pv 6))) (pe_revL (pe_slice sl_list (pv 2) (po_some (pv 6)) (po_some (pe_op op_add (pv 6) pe_int))))) (pe_slice sl_list (pv 2) (po_some (pe_op op_add (pv 6) pe_int)) po_none)) (pa_cons (pv 3) pa_nil)))))) pss_nil)
      (pss_cons (ps_set (i := 6) nd rfl (Or.inl rfl) (pe_c cC r1 (pa_cons (pv 0) (pa_cons (pe_callB call_len_seq (by rfl) mL PySem.boot_len (pa_cons (pv 3) pa_nil)) pa_nil))))
      (pss_cons (ps_if (pt_cmpR op_eq (pv 4) pe_int (nomark _)) (pss_one (ps_ret (pe_tup (pa_cons (pv 2) (pa_cons (pe_op op_cat (pe_slice sl_list (pv 3) po_none (po_some (pv 6))) (pe_slice sl_list (pv 3) (po_some (pe_op op_add (pv 6) pe_int)) po_none)) pa_nil))))) pss_nil)
      (pss_cons (ps_if (PW.pt (pw_and (pt_cmpR op_eq (pv 4) pe_int (nomark _)) (pw_and1 (pt_cmpR op_lt (pv 5) pe_int (nomark _))))) (pss_one (ps_ret (pe_tup (pa_cons (pe_op op_cat (pv 2) (pe_lst (pa_cons (pe_tup (pa_cons pe_int (pa_cons pe_int pa_nil))) pa_nil))) (pa_cons (pv 3) pa_nil))))) pss_nil)
      (pss_cons (ps_if (PW.pt (pw_and (pt_cmpR op_eq (pv 4) pe_int (nomark _)) (pw_and1 (pt_cmpR op_lt (pe_callB call_len_seq (by rfl) mL PySem.boot_len (pa_cons (pv 3) pa_nil)) pe_int (nomark _))))) (pss_one (ps_ret (pe_tup (pa_cons (pv 2) (pa_cons (pe_op op_cat (pv 3) (pe_lst (pa_cons (pe_ix ix_list (pv 3) (pv 6) (fun _ _ => rfl)) pa_nil))) pa_nil))))) pss_nil)
      (pss_cons (ps_if (pt_cmpR op_eq (pv 4) pe_int (nomark _)) (pss_one (ps_ret (pe_tup (pa_cons (pv 2) (pa_cons (pe_op op_cat (pe_slice sl_list (pv 3) (po_some (pv 6)) po_none) (pe_slice sl_list (pv 3) po_none (po_some (pv 6)))) pa_nil))))) pss_nil)
      (pss_cons (ps_asg (pe_c cDe hr (pa_cons (pv 0) (pa_cons (pv 5) (pa_cons pe_int (pa_cons (pe_lst (pa_cons pe_str (pa_cons pe_str (pa_cons pe_str (pa_cons pe_str (pa_cons pe_str pa_nil)))))) pa_nil))))) (pg_sub (pv 3) (pv 6) set_list))
      (pss_one (ps_ret (pe_tup (pa_cons (pv 2) (pa_cons (pv 3) pa_nil)))))))))))))), ?_⟩
    obtain ⟨aT, hl1, hn1, hi1⟩ := id hT
    obtain ⟨aD, hl2, hn2, hi2⟩ := id hD
    have fT : F2 (TkA (wo sk H)) aT ts := F2.of hn1 hi1
    have fD : F2 (DAt (wo sk H)) aD ds := F2.of hn2 hi2
    have ht' := wo_ex _ _ ht
    have ts0 : 0 < ts.length := by
      have := hW.ok.1.2.2
      cases ts with
      | nil => cases this
      | cons t r => exact Nat.succ_pos _
    -- two lists of one's own
    refine ⟨_, rfl, t, _, _, _, rfl, rfl, SqT.of ht', rfl, lv, _, rfl, .inl (SqL.of (wo_ex _ _ hl1)), fun lv2 hlv2 => ?_⟩
    have e1 := Evl.Ex.new (o := .lst (aT.map V.ref)) hlv2
    have v1 : upd H lv2 (.lst (aT.map V.ref)) lv2 = _ := upd_same
    generalize upd H lv2 (.lst (aT.map V.ref)) = H1 at e1 v1
    refine ⟨_, rfl, t, _, _, _, rfl, rfl, SqT.of (e1 _ _ ht'), rfl, ld, _, rfl, .inl (SqL.of (e1 _ _ (wo_ex _ _ hl2))), fun ld2 hld2 => ⟨_, _, rfl, ?_⟩⟩
    have e2 := Evl.Ex.new (o := .lst (aD.map V.ref)) hld2
    have v2 : upd H1 ld2 (.lst (aD.map V.ref)) ld2 = _ := upd_same
    generalize upd H1 ld2 (.lst (aD.map V.ref)) = H2 at e2 v2
    have e12 := e1.trans e2
    have s2 := hS.ex e12
    have lvsk := sk_ne hS hlv2
    have ldsk := sk_ne (hS.ex e1) hld2
    have ldH := Evl.fresh_back e1 hld2
    have lvld : lv2 ≠ ld2 := fun z => by
      rw [z] at v1
      rw [v1] at hld2
      cases hld2
    refine ⟨_, rfl, sk, 9, m, rfl, s2, by omega, by decide, by decide, fun way H3 w0 w9 b3 s3 z3 => ?_⟩
    have b23 := (But.of_ex (p := sk) e12).trans b3
    have v1' := b3 _ _ lvsk (e2 _ _ v1)
    have v2' := b3 _ _ ldsk v2
    refine ⟨_, rfl, t, _, _, _, rfl, rfl, SqT.of (wo_ex _ _ (b23.wo _ _ ht)), rfl, lv, _, rfl, .inl (SqL.of (wo_ex _ _ (b23.wo _ _ hl1))), _, _, rfl, ?_⟩
    have hlen : (((aT.map V.ref).length : Nat) : Int) = (ts.length : Int) := by rw [List.length_map, hn1]
    rw [hlen]
    -- how it ends
    have fin : ∀ {H' : Hp} {r l1 l2 : Addr} {as bs : List Addr} {ts' : List Tk} {ds' : List Deed}, But sk H H' → Sk H' sk (m + 30) → r ≠ sk → l1 ≠ sk → l2 ≠ sk → H' r = some (.tup [.ref l1, .ref l2]) → H' l1 = some (.lst (as.map V.ref)) → H' l2 = some (.lst (bs.map V.ref)) → F2 (TkA (wo sk H')) as ts' → F2 (DAt (wo sk H')) bs ds' → ShW ts' ds' → Q (.ref r) H' :=
      fun {H' r l1 l2 as bs ts' ds'} hb hs n1 n2 n3 q1 q2 q3 fa fb hw => kk r ts' ds' H' hb hs ⟨l1, l2, wo_at n1 q1, f2_tks (wo_at n2 q2) fa, f2_ds (wo_at n3 q3) fb⟩ hw
    have goT : ∀ {H' : Hp}, But sk H H' → F2 (TkA (wo sk H')) aT ts := fun hb => fT.imp fun a x h => hb.wo _ _ h
    have goD : ∀ {H' : Hp}, But sk H H' → F2 (DAt (wo sk H')) aD ds := fun hb => fD.imp fun a x h => DAt.ex h hb.wo
    have okSub : ∀ {es : List Deed}, es.length ≤ 60 → (∀ d ∈ es, d ∈ ds) → ShW ts es := fun hl hm => ⟨⟨hW.ok.1, hl, fun d hd => hW.ok.2.2 d (hm d hd)⟩, hW.w1000, fun k a h => hW.p1000 k a (hm _ h)⟩
    have test : ∀ {R : Bool → Hp → Prop}, (∀ b H', Evl.Ex H3 H' → (b = true ∨ (b = false ∧ 2 ≤ way ∧ (ds ≠ [] ∨ 8 ≤ way))) → R b H') → tOr (tTest (tOp (rI0 fun i j => .bl (decide (i < j))) (tVar 4) (tC (.int 2)))) (tAnd (tTest (tOp (rEqD K) (tVar 3) (tLst tNil))) (tTest (tOp (rI0 fun i j => .bl (decide (i < j))) (tVar 4) (tC (.int 8))))) [some (.ref sk), some (.ref t), some (.ref lv2), some (.ref ld2), some (.int way), some (.int (ts.length : Int)), none, none, none] H3 R := fun {R} h => by
      refine ⟨_, rfl, _, _, rfl, rfl, _, rfl, ?_⟩
      by_cases c : way < 2
      · exact if_t (decide_eq_true c) (h _ _ (Evl.Ex.refl _) (.inl rfl))
      · refine if_f (decide_eq_false c) ?_
        refine ⟨_, rfl, Nat.zero_le _, fun l hl => ⟨_, _, dp_ds (es := ds) ((f2_ds (H := wo sk H3) (wo_at ldsk v2') (goD b23)).ex (wo_ex.trans (Evl.Ex.new hl))), dp_nil upd_same, shp_ds ds, shp_nil, _, rfl, ?_⟩⟩
        rw [eqv_nil]
        by_cases c2 : ds = []
        · refine if_t (decide_eq_true c2) ⟨_, rfl, _, _, rfl, rfl, _, rfl, ?_⟩
          by_cases c3 : way < 8
          · exact h _ _ (Evl.Ex.new hl) (.inl (decide_eq_true c3))
          · exact h _ _ (Evl.Ex.new hl) (.inr ⟨decide_eq_false c3, by omega, .inr (by omega)⟩)
        · exact if_f (decide_eq_false c2) (h _ _ (Evl.Ex.new hl) (.inr ⟨rfl, by omega, .inl c2⟩))
    refine test fun bb H4 e4 hb => ?_
    clear test
    have b4 := b23.trans (But.of_ex (p := sk) e4)
    have s4 := s3.ex e4
    have x1 := e4 _ _ v1'
    have x2 := e4 _ _ v2'
    cases bb with
    | true =>
      refine if_t rfl ?_
      refine ⟨_, rfl, _, rfl, sk, (ts.length : Int), _, rfl, s4, by omega, by omega, by rw [n200]; omega, fun k H5 k0 k1 b5 s5 z5 => ?_⟩
      obtain ⟨n, rfl⟩ : ∃ n : Nat, k = (n : Int) := ⟨k.toNat, by omega⟩
      have hn : n < ts.length := by omega
      have bb5 := b4.trans b5
      have y1 := b5 _ _ lvsk x1
      have y2 := b5 _ _ ldsk x2
      have htn := List.getElem?_eq_getElem hn
      obtain ⟨a0, ha0⟩ : ∃ a, aT[n]? = some a := ⟨_, List.getElem?_eq_getElem (by omega)⟩
      have hat : TkA (wo sk H5) a0 ts[n] := (goT bb5).get n a0 _ ha0 htn
      generalize hts : ts[n] = tk at htn hat
      have z0 : (aT.map V.ref)[n]? = some (.ref a0) := by rw [List.getElem?_map, ha0]; rfl
      refine ⟨_, rfl, _, rfl, lv2, _, (n : Int), _, rfl, rfl, SqL.of y1, atI_nat z0, a0, _, rfl, SqT.of (wo_ex _ _ hat), rfl, _, _, rfl, _, _, rfl, rfl, ?_⟩
      have hmem := List.mem_of_getElem? htn
      have hk1 := hW.ok.1.2.1 tk hmem
      have hk2 := hW.w1000 tk hmem
      refine ⟨fun σ H' => ∃ (b : Option Int) (f : Int), σ = [some (.ref sk), some (.ref t), some (.ref lv2), some (.ref ld2), some (.int way), some (.int (ts.length : Int)), some (.int (n : Int)), some (wV b), some (.int f)] ∧ H' = H5 ∧ (∀ z, b = some z → 1 ≤ z ∧ z ≤ 1000) ∧ 0 ≤ f ∧ f ≤ 1000 ∧ (b = none ↔ tk.1 = none), ?_, ?_⟩
      · have other : ∀ {D : Ends}, D.nx = (fun σ H' => ∃ (b : Option Int) (f : Int), σ = [some (.ref sk), some (.ref t), some (.ref lv2), some (.ref ld2), some (.int way), some (.int (ts.length : Int)), some (.int (n : Int)), some (wV b), some (.int f)] ∧ H' = H5 ∧ (∀ z, b = some z → 1 ≤ z ∧ z ≤ 1000) ∧ 0 ≤ f ∧ f ≤ 1000 ∧ (b = none ↔ tk.1 = none)) → tAsg (tOp (rI0 fun i j => .int (i - j)) (tOp (rI0 fun i j => .int (i + j)) (tVar 8) (tC (.int 1))) (tOp (rI CMul fun i j => .int (i * j)) (tC (.int 2)) (tCB (fun xs H Q => (∃ i, xs = [.int i] ∧ Q (.int i) H) ∨ ∃ k, xs = [.bl k] ∧ Q (.int (if k then 1 else 0)) H) (tCons (tOp (rI0 fun i j => .bl (decide (j < i))) (tVar 8) (tC (.int 900))) tNil)))) (gName 8) D [some (.ref sk), some (.ref t), some (.ref lv2), some (.ref ld2), some (.int way), some (.int (ts.length : Int)), some (.int (n : Int)), some (wV tk.1), some (.int tk.2)] H5 := fun {D} hD' => by
          refine ⟨_, rfl, _, _, rfl, rfl, _, rfl, _, _, rfl, rfl, .inr ⟨_, rfl, _, _, rfl, rfl, .inl (by decide), _, _, rfl, rfl, ?_⟩⟩
          show D.nx _ _
          rw [hD']
          refine ⟨tk.1, _, rfl, rfl, fun z hz => ⟨hk1.1 z hz, hk2.1 z hz⟩, ?_, ?_, Iff.rfl⟩
          · have h1 := hk1.2
            by_cases c : 900 < tk.2
            · rw [decide_eq_true c]; show 0 ≤ tk.2 + 1 - 2 * 1; omega
            · rw [decide_eq_false c]; show 0 ≤ tk.2 + 1 - 2 * 0; omega
          · have h1 := hk2.2
            by_cases c : 900 < tk.2
            · rw [decide_eq_true c]; show tk.2 + 1 - 2 * 1 ≤ 1000; omega
            · rw [decide_eq_false c]; show tk.2 + 1 - 2 * 0 ≤ 1000; omega
        refine ⟨_, rfl, rfl, _, rfl, ?_⟩
        by_cases c : way = 0
        · refine if_t (by rw [c]; decide) ?_
          cases hw1 : tk.1 with
          | none =>
            rw [hw1] at other
            exact ⟨_, rfl, _, rfl, if_f rfl (other rfl)⟩
          | some z =>
            have hz1 := hk1.1 z hw1
            have hz2 := hk2.1 z hw1
            refine ⟨_, rfl, _, rfl, if_t rfl ?_⟩
            refine ⟨_, rfl, _, _, rfl, rfl, _, rfl, _, _, rfl, rfl, .inr ⟨_, rfl, _, _, rfl, rfl, .inl (by decide), _, _, rfl, rfl, ?_⟩⟩
            refine ⟨some _, _, rfl, rfl, fun z' hz' => ?_, hk1.2, hk2.2, ?_⟩
            · injection hz' with hz'
              subst hz'
              by_cases c : 900 < z
              · rw [decide_eq_true c]; show 1 ≤ z + 1 - 2 * 1 ∧ z + 1 - 2 * 1 ≤ 1000; omega
              · rw [decide_eq_false c]; show 1 ≤ z + 1 - 2 * 0 ∧ z + 1 - 2 * 0 ≤ 1000; omega
            · exact ⟨fun q => (by cases q), fun q => (by cases q)⟩
        · exact if_f (decide_eq_false fun q => c (by injection q)) (other rfl)
      · rintro σ H' ⟨b, f, rfl, rfl, hb1, f0, f1, hbn⟩
        refine ⟨_, rfl, _, rfl, two, fun r hr' => ⟨_, rfl, _, rfl, lv2, _, (n : Int), n, rfl, rfl, Evl.Ex.new (o := .tup [wV b, .int f]) hr' _ _ y1, Evl.ixN_nat (by rw [List.length_map]; omega), ?_⟩⟩
        have rlv : r ≠ lv2 := fun z => by rw [z, y1] at hr'; cases hr'
        have e6 := Evl.Ex.new (o := .tup [wV b, .int f]) hr'
        have r6 : upd H' r (.tup [wV b, .int f]) r = _ := upd_same
        have s6 := s5.ex e6
        have rsk := sk_ne s5 hr'
        have y2' := e6 _ _ y2
        have bb6 := bb5.trans (But.of_ex (p := sk) e6)
        generalize upd H' r (.tup [wV b, .int f]) = H6 at e6 r6 s6 y2' bb6
        have bb7 : But sk H (upd H6 lv2 (.lst ((aT.map V.ref).set n (.ref r)))) := fun c o nc e => Eq.trans (upd_ne (ne_of_none' e hlv2)) (bb6 c o nc e)
        have q1 : upd H6 lv2 (.lst ((aT.map V.ref).set n (.ref r))) lv2 = some (.lst ((aT.set n r).map V.ref)) := Eq.trans upd_same (by rw [List.map_set])
        have q2 : upd H6 lv2 (.lst ((aT.map V.ref).set n (.ref r))) ld2 = some (.lst (aD.map V.ref)) := Eq.trans (upd_ne (Ne.symm lvld)) y2'
        have q3 : upd H6 lv2 (.lst ((aT.map V.ref).set n (.ref r))) r = some (.tup [wV b, .int f]) := Eq.trans (upd_ne rlv) r6
        have s7 : Sk (upd H6 lv2 (.lst ((aT.map V.ref).set n (.ref r)))) sk _ := s6.upd lvsk
        refine ⟨_, rfl, _, rfl, two, fun rr hrr => ?_⟩
        have e8 := Evl.Ex.new (o := .tup [.ref lv2, .ref ld2]) hrr
        have bb8 := bb7.trans (But.of_ex (p := sk) e8)
        refine fin bb8 ((s7.ex e8).le (by omega)) (sk_ne s7 hrr) lvsk ldsk upd_same (e8 _ _ q1) (e8 _ _ q2) (ts' := ts.set n (b, f)) ((goT bb8).set n (wo_at rsk (e8 _ _ q3))) (goD bb8) ?_
        have mm : ∀ x ∈ ts.set n (b, f), x = (b, f) ∨ x ∈ ts := fun x hx => (List.mem_or_eq_of_mem_set hx).symm
        refine ⟨⟨⟨by rw [List.length_set]; exact h20, fun x hx => ?_, ?_⟩, h60, fun d hd => by rw [List.length_set]; exact hW.ok.2.2 d hd⟩, fun x hx => ?_, hW.p1000⟩
        · rcases mm x hx with rfl | h
          · exact ⟨fun z hz => (hb1 z hz).1, f0⟩
          · exact hW.ok.1.2.1 x h
        · rw [set_cnt htn hbn]
          exact hW.ok.1.2.2
        · rcases mm x hx with rfl | h
          · exact ⟨fun z hz => (hb1 z hz).2, f1⟩
          · exact hW.w1000 x h
    | false =>
      refine if_f rfl ?_
      have hb' : 2 ≤ way ∧ (ds ≠ [] ∨ 8 ≤ way) := by
        rcases hb with h | ⟨_, h⟩
        · cases h
        · exact h
      refine ⟨_, rfl, rfl, _, rfl, ?_⟩
      by_cases c8 : way = 8
      · refine if_t (by rw [c8]; decide) ?_
        refine ⟨_, rfl, _, rfl, sk, (ts.length : Int), _, rfl, s4, by omega, by omega, by rw [n200]; omega, fun k H5 k0 k1 b5 s5 z5 => ?_⟩
        obtain ⟨n, rfl⟩ : ∃ n : Nat, k = (n : Int) := ⟨k.toNat, by omega⟩
        have bb5 := b4.trans b5
        have y1 := b5 _ _ lvsk x1
        have y2 := b5 _ _ ldsk x2
        refine ⟨_, rfl, _, rfl, (n : Int), rfl, lv2, _, rfl, SqL.of y1, fun p1 hp1 => ?_⟩
        have g1 := Evl.Ex.new (o := .lst (cutV (aT.map V.ref) none (some (n : Int)))) hp1
        have u1 : upd H5 p1 (.lst (cutV (aT.map V.ref) none (some (n : Int)))) p1 = some (.lst ((aT.take n).map V.ref)) := Eq.trans upd_same (by rw [cut_min, List.map_take])
        generalize upd H5 p1 (.lst (cutV (aT.map V.ref) none (some (n : Int)))) = G1 at g1 u1
        refine ⟨_, rfl, _, rfl, (n : Int), rfl, _, rfl, _, _, rfl, rfl, ((n + 2 : Nat) : Int), rfl, lv2, _, rfl, SqL.of (g1 _ _ y1), fun p2 hp2 => ?_⟩
        have g2 := Evl.Ex.new (o := .lst (cutV (aT.map V.ref) (some (n : Int)) (some ((n + 2 : Nat) : Int)))) hp2
        have u2 : upd G1 p2 (.lst (cutV (aT.map V.ref) (some (n : Int)) (some ((n + 2 : Nat) : Int)))) p2 = some (.lst (((aT.drop n).take 2).map V.ref)) := Eq.trans upd_same (by rw [cut_mid, List.map_take, List.map_drop, show n + 2 - n = 2 by omega])
        generalize upd G1 p2 (.lst (cutV (aT.map V.ref) (some (n : Int)) (some ((n + 2 : Nat) : Int)))) = G2 at g2 u2
        refine ⟨p2, _, rfl, SqL.of u2, fun p3 hp3 => ?_⟩
        have g3 := Evl.Ex.new (o := .lst (((aT.drop n).take 2).map V.ref).reverse) hp3
        have u3 : upd G2 p3 (.lst (((aT.drop n).take 2).map V.ref).reverse) p3 = some (.lst (((aT.drop n).take 2).reverse.map V.ref)) := Eq.trans upd_same (by rw [List.map_reverse])
        generalize upd G2 p3 (.lst (((aT.drop n).take 2).map V.ref).reverse) = G3 at g3 u3
        refine ⟨p1, p3, _, _, rfl, rfl, g3 _ _ (g2 _ _ u1), u3, ?_, fun p4 hp4 => ?_⟩
        · rw [List.length_map, List.length_map, List.length_take, List.length_reverse, List.length_take, List.length_drop]
          exact Nat.le_trans (show min n aT.length + min 2 (aT.length - n) ≤ 120 by omega) (by decide)
        have g4 := Evl.Ex.new (o := .lst ((aT.take n).map V.ref ++ (((aT.drop n).take 2).reverse).map V.ref)) hp4
        have u4 : upd G3 p4 (.lst ((aT.take n).map V.ref ++ (((aT.drop n).take 2).reverse).map V.ref)) p4 = some (.lst ((aT.take n ++ ((aT.drop n).take 2).reverse).map V.ref)) := Eq.trans upd_same (by rw [List.map_append])
        generalize upd G3 p4 (.lst ((aT.take n).map V.ref ++ (((aT.drop n).take 2).reverse).map V.ref)) = G4 at g4 u4
        have g14 := ((g1.trans g2).trans g3).trans g4
        refine ⟨_, rfl, _, rfl, _, _, rfl, rfl, ((n + 2 : Nat) : Int), rfl, lv2, _, rfl, SqL.of (g14 _ _ y1), fun p5 hp5 => ?_⟩
        have g5 := Evl.Ex.new (o := .lst (cutV (aT.map V.ref) (some ((n + 2 : Nat) : Int)) none)) hp5
        have u5 : upd G4 p5 (.lst (cutV (aT.map V.ref) (some ((n + 2 : Nat) : Int)) none)) p5 = some (.lst ((aT.drop (n + 2)).map V.ref)) := Eq.trans upd_same (by rw [cut_drop, List.map_drop])
        generalize upd G4 p5 (.lst (cutV (aT.map V.ref) (some ((n + 2 : Nat) : Int)) none)) = G5 at g5 u5
        refine ⟨p4, p5, _, _, rfl, rfl, g5 _ _ u4, u5, ?_, fun p6 hp6 => ?_⟩
        · rw [List.length_map, List.length_map, List.length_append, List.length_take, List.length_reverse, List.length_take, List.length_drop, List.length_drop]
          exact Nat.le_trans (show min n aT.length + min 2 (aT.length - n) + (aT.length - (n + 2)) ≤ 120 by omega) (by decide)
        have g6 := Evl.Ex.new (o := .lst ((aT.take n ++ ((aT.drop n).take 2).reverse).map V.ref ++ (aT.drop (n + 2)).map V.ref)) hp6
        have u6 : upd G5 p6 (.lst ((aT.take n ++ ((aT.drop n).take 2).reverse).map V.ref ++ (aT.drop (n + 2)).map V.ref)) p6 = some (.lst ((swp aT n).map V.ref)) := Eq.trans upd_same (by rw [← List.map_append])
        have p6sk := sk_ne ((s5.ex g14).ex g5) hp6
        generalize upd G5 p6 (.lst ((aT.take n ++ ((aT.drop n).take 2).reverse).map V.ref ++ (aT.drop (n + 2)).map V.ref)) = G6 at g6 u6
        have g16 := (g14.trans g5).trans g6
        refine ⟨_, rfl, two, fun rr hrr => ?_⟩
        have e8 := Evl.Ex.new (o := .tup [.ref p6, .ref ld2]) hrr
        have s6 := s5.ex g16
        have bb8 := bb5.trans (But.of_ex (p := sk) (g16.trans e8))
        refine fin bb8 ((s6.ex e8).le (by omega)) (sk_ne s6 hrr) p6sk ldsk upd_same (e8 _ _ u6) (e8 _ _ (g16 _ _ y2)) (ts' := swp ts n) (((goT bb8).take n).app (((goT bb8).drop n).take 2).rev |>.app ((goT bb8).drop (n + 2))) (goD bb8) ?_
        have hln := swp_len ts n
        exact ⟨⟨⟨by omega, fun x hx => hW.ok.1.2.1 x (swp_mem hx), by rw [swp_cnt]; exact hW.ok.1.2.2⟩, h60, fun d hd => by rw [hln]; exact hW.ok.2.2 d hd⟩, fun x hx => hW.w1000 x (swp_mem hx), hW.p1000⟩
      refine if_f (decide_eq_false fun q => c8 (by injection q)) ?_
      have ds0 : 0 < ds.length := by
        rcases hb'.2 with h | h
        · exact List.length_pos_iff.mpr h
        · omega
      have hlenD : (((aD.map V.ref).length : Nat) : Int) = (ds.length : Int) := by rw [List.length_map, hn2]
      refine ⟨_, rfl, _, rfl, ld2, _, rfl, .inl (SqL.of x2), sk, (ds.length : Int), _, by rw [hlenD]; rfl, s4, by omega, by omega, by rw [n200]; omega, fun k H5 k0 k1 b5 s5 z5 => ?_⟩
      obtain ⟨n, rfl⟩ : ∃ n : Nat, k = (n : Int) := ⟨k.toNat, by omega⟩
      have hn : n < ds.length := by omega
      have bb5 := b4.trans b5
      have y1 := b5 _ _ lvsk x1
      have y2 := b5 _ _ ldsk x2
      have hdn := List.getElem?_eq_getElem hn
      obtain ⟨a0, ha0⟩ : ∃ a, aD[n]? = some a := ⟨_, List.getElem?_eq_getElem (by omega)⟩
      have z0 : (aD.map V.ref)[n]? = some (.ref a0) := by rw [List.getElem?_map, ha0]; rfl
      have hmem := List.getElem_mem hn
      generalize hts : ds[n] = dn at hdn hmem
      refine ⟨_, rfl, rfl, _, rfl, ?_⟩
      by_cases c2 : way = 2
      · refine if_t (by rw [c2]; decide) ?_
        refine ⟨_, rfl, _, rfl, _, rfl, (n : Int), rfl, ld2, _, rfl, SqL.of y2, fun p1 hp1 => ?_⟩
        have g1 := Evl.Ex.new (o := .lst (cutV (aD.map V.ref) none (some (n : Int)))) hp1
        have u1 : upd H5 p1 (.lst (cutV (aD.map V.ref) none (some (n : Int)))) p1 = some (.lst ((aD.take n).map V.ref)) := Eq.trans upd_same (by rw [cut_min, List.map_take])
        generalize upd H5 p1 (.lst (cutV (aD.map V.ref) none (some (n : Int)))) = G1 at g1 u1
        refine ⟨_, rfl, _, rfl, _, _, rfl, rfl, ((n + 1 : Nat) : Int), rfl, ld2, _, rfl, SqL.of (g1 _ _ y2), fun p5 hp5 => ?_⟩
        have g5 := Evl.Ex.new (o := .lst (cutV (aD.map V.ref) (some ((n + 1 : Nat) : Int)) none)) hp5
        have u5 : upd G1 p5 (.lst (cutV (aD.map V.ref) (some ((n + 1 : Nat) : Int)) none)) p5 = some (.lst ((aD.drop (n + 1)).map V.ref)) := Eq.trans upd_same (by rw [cut_drop, List.map_drop])
        generalize upd G1 p5 (.lst (cutV (aD.map V.ref) (some ((n + 1 : Nat) : Int)) none)) = G5 at g5 u5
        refine ⟨p1, p5, _, _, rfl, rfl, g5 _ _ u1, u5, ?_, fun p6 hp6 => ?_⟩
        · rw [List.length_map, List.length_map, List.length_take, List.length_drop]
          exact Nat.le_trans (show min n aD.length + (aD.length - (n + 1)) ≤ 120 by omega) (by decide)
        have g6 := Evl.Ex.new (o := .lst ((aD.take n).map V.ref ++ (aD.drop (n + 1)).map V.ref)) hp6
        have u6 : upd G5 p6 (.lst ((aD.take n).map V.ref ++ (aD.drop (n + 1)).map V.ref)) p6 = some (.lst ((aD.take n ++ aD.drop (n + 1)).map V.ref)) := Eq.trans upd_same (by rw [← List.map_append])
        have p6sk := sk_ne ((s5.ex g1).ex g5) hp6
        generalize upd G5 p6 (.lst ((aD.take n).map V.ref ++ (aD.drop (n + 1)).map V.ref)) = G6 at g6 u6
        have g16 := (g1.trans g5).trans g6
        refine ⟨two, fun rr hrr => ?_⟩
        have e8 := Evl.Ex.new (o := .tup [.ref lv2, .ref p6]) hrr
        have s6 := s5.ex g16
        have bb8 := bb5.trans (But.of_ex (p := sk) (g16.trans e8))
        exact fin bb8 ((s6.ex e8).le (by omega)) (sk_ne s6 hrr) lvsk p6sk upd_same (e8 _ _ (g16 _ _ y1)) (e8 _ _ u6) (goT bb8) (((goD bb8).take n).app ((goD bb8).drop (n + 1))) (okSub (Nat.le_trans les_len h60) les_mem)
      refine if_f (decide_eq_false fun q => c2 (by injection q)) ?_
      show tAnd (tTest (tOp rEq (tVar 4) (tC (.int 3)))) (tTest (tOp (rI0 fun i j => .bl (decide (i < j))) (tVar 5) (tC (.int 20)))) _ _ _
      refine rd_and (p := V.int way = V.int 3) (q := (ts.length : Int) < 20) (fun _ h => ⟨_, rfl, rfl, _, rfl, h⟩) (fun _ h => ⟨_, rfl, _, _, rfl, rfl, _, rfl, h⟩) ?_
      by_cases c3 : V.int way = V.int 3 ∧ (ts.length : Int) < 20
      · rw [decide_eq_true c3.1, decide_eq_true c3.2]
        refine if_t rfl ?_
        refine ⟨_, rfl, two, fun p1 hp1 => ⟨one, fun p2 hp2 => ?_⟩⟩
        have g1 := Evl.Ex.new (o := .tup [.int 1, .int 0]) hp1
        have u1 : upd H5 p1 (.tup [.int 1, .int 0]) p1 = _ := upd_same
        have p1sk := sk_ne s5 hp1
        generalize upd H5 p1 (.tup [.int 1, .int 0]) = G1 at g1 u1 hp2
        have g2 := Evl.Ex.new (o := .lst [.ref p1]) hp2
        have u2 : upd G1 p2 (.lst [.ref p1]) p2 = _ := upd_same
        generalize upd G1 p2 (.lst [.ref p1]) = G2 at g2 u2
        refine ⟨lv2, p2, _, _, rfl, rfl, g2 _ _ (g1 _ _ y1), u2, ?_, fun p6 hp6 => ?_⟩
        · rw [List.length_map]
          exact Nat.le_trans (show aT.length + 1 ≤ 120 by omega) (by decide)
        have g6 := Evl.Ex.new (o := .lst (aT.map V.ref ++ [.ref p1])) hp6
        have u6 : upd G2 p6 (.lst (aT.map V.ref ++ [.ref p1])) p6 = some (.lst ((aT ++ [p1]).map V.ref)) := Eq.trans upd_same (by rw [List.map_append]; rfl)
        have p6sk := sk_ne ((s5.ex g1).ex g2) hp6
        generalize upd G2 p6 (.lst (aT.map V.ref ++ [.ref p1])) = G6 at g6 u6
        have g16 := (g1.trans g2).trans g6
        refine ⟨_, rfl, two, fun rr hrr => ?_⟩
        have e8 := Evl.Ex.new (o := .tup [.ref p6, .ref ld2]) hrr
        have s6 := s5.ex g16
        have bb8 := bb5.trans (But.of_ex (p := sk) (g16.trans e8))
        refine fin bb8 ((s6.ex e8).le (by omega)) (sk_ne s6 hrr) p6sk ldsk upd_same (e8 _ _ u6) (e8 _ _ (g16 _ _ y2)) (ts' := ts ++ [(some 1, 0)]) ((goT bb8).app (.cons (wo_at p1sk (e8 _ _ (g6 _ _ (g2 _ _ u1)))) .nil)) (goD bb8) ?_
        have hle : (ts ++ [((some 1, 0) : Tk)]).length = ts.length + 1 := by rw [List.length_append]; rfl
        have hx : ∀ x ∈ ts ++ [((some 1, 0) : Tk)], x = (some 1, 0) ∨ x ∈ ts := fun x hx => by
          rcases List.mem_append.mp hx with h | h
          · exact .inr h
          · exact .inl (List.mem_singleton.mp h)
        refine ⟨⟨⟨by rw [hle]; omega, fun x hm => ?_, ?_⟩, h60, fun d hd => okD_up (hW.ok.2.2 d hd) (by rw [hle]; omega)⟩, fun x hm => ?_, hW.p1000⟩
        · rcases hx x hm with rfl | h
          · exact ⟨fun z hz => by cases hz; decide, by decide⟩
          · exact hW.ok.1.2.1 x h
        · rw [List.countP_append]
          show _ + 0 = 1
          rw [hW.ok.1.2.2]
        · rcases hx x hm with rfl | h
          · exact ⟨fun z hz => by cases hz; decide, by decide⟩
          · exact hW.w1000 x h
      refine if_f (by rw [Bool.and_eq_false_iff, decide_eq_false_iff_not, decide_eq_false_iff_not]; by_cases q1 : V.int way = V.int 3; exact .inr fun q2 => c3 ⟨q1, q2⟩; exact .inl q1) ?_
      show tAnd (tTest (tOp rEq (tVar 4) (tC (.int 4)))) (tTest (tOp (rI0 fun i j => .bl (decide (i < j))) (tCB (Evl.rLenS K) (tCons (tVar 3) tNil)) (tC (.int 60)))) _ _ _
      refine rd_and (p := V.int way = V.int 4) (q := (((aD.map V.ref).length : Nat) : Int) < 60) (fun _ h => ⟨_, rfl, rfl, _, rfl, h⟩) (fun _ h => ⟨_, rfl, ld2, _, rfl, .inl (SqL.of y2), _, _, rfl, rfl, _, rfl, h⟩) ?_
      rw [hlenD]
      by_cases c4 : V.int way = V.int 4 ∧ (ds.length : Int) < 60
      · rw [decide_eq_true c4.1, decide_eq_true c4.2]
        refine if_t rfl ?_
        refine ⟨_, rfl, _, rfl, _, rfl, _, rfl, ld2, _, (n : Int), _, rfl, rfl, SqL.of y2, atI_nat z0, one, fun p2 hp2 => ?_⟩
        have g2 := Evl.Ex.new (o := .lst [.ref a0]) hp2
        have u2 : upd H5 p2 (.lst [.ref a0]) p2 = _ := upd_same
        generalize upd H5 p2 (.lst [.ref a0]) = G2 at g2 u2
        refine ⟨ld2, p2, _, _, rfl, rfl, g2 _ _ y2, u2, ?_, fun p6 hp6 => ?_⟩
        · rw [List.length_map]
          exact Nat.le_trans (show aD.length + 1 ≤ 120 by omega) (by decide)
        have g6 := Evl.Ex.new (o := .lst (aD.map V.ref ++ [.ref a0])) hp6
        have u6 : upd G2 p6 (.lst (aD.map V.ref ++ [.ref a0])) p6 = some (.lst ((aD ++ [a0]).map V.ref)) := Eq.trans upd_same (by rw [List.map_append]; rfl)
        have p6sk := sk_ne (s5.ex g2) hp6
        generalize upd G2 p6 (.lst (aD.map V.ref ++ [.ref a0])) = G6 at g6 u6
        have g16 := g2.trans g6
        refine ⟨two, fun rr hrr => ?_⟩
        have e8 := Evl.Ex.new (o := .tup [.ref lv2, .ref p6]) hrr
        have s6 := s5.ex g16
        have bb8 := bb5.trans (But.of_ex (p := sk) (g16.trans e8))
        refine fin bb8 ((s6.ex e8).le (by omega)) (sk_ne s6 hrr) lvsk p6sk upd_same (e8 _ _ (g16 _ _ y1)) (e8 _ _ u6) (goT bb8) ((goD bb8).app (.cons ((goD bb8).get n a0 dn ha0 hdn) .nil)) (okSub (by rw [List.length_append]; show ds.length + 1 ≤ 60; omega) fun d hd => ?_)
        rcases List.mem_append.mp hd with h | h
        · exact h
        · rw [List.mem_singleton.mp h]
          exact hmem
      refine if_f (by rw [Bool.and_eq_false_iff, decide_eq_false_iff_not, decide_eq_false_iff_not]; by_cases q1 : V.int way = V.int 4; exact .inr fun q2 => c4 ⟨q1, q2⟩; exact .inl q1) ?_
      refine ⟨_, rfl, rfl, _, rfl, ?_⟩
      by_cases c5 : way = 5
      · refine if_t (by rw [c5]; decide) ?_
        refine ⟨_, rfl, _, rfl, _, rfl, (n : Int), rfl, ld2, _, rfl, SqL.of y2, fun p1 hp1 => ?_⟩
        have g1 := Evl.Ex.new (o := .lst (cutV (aD.map V.ref) (some (n : Int)) none)) hp1
        have u1 : upd H5 p1 (.lst (cutV (aD.map V.ref) (some (n : Int)) none)) p1 = some (.lst ((aD.drop n).map V.ref)) := Eq.trans upd_same (by rw [cut_drop, List.map_drop])
        generalize upd H5 p1 (.lst (cutV (aD.map V.ref) (some (n : Int)) none)) = G1 at g1 u1
        refine ⟨_, rfl, _, rfl, (n : Int), rfl, ld2, _, rfl, SqL.of (g1 _ _ y2), fun p5 hp5 => ?_⟩
        have g5 := Evl.Ex.new (o := .lst (cutV (aD.map V.ref) none (some (n : Int)))) hp5
        have u5 : upd G1 p5 (.lst (cutV (aD.map V.ref) none (some (n : Int)))) p5 = some (.lst ((aD.take n).map V.ref)) := Eq.trans upd_same (by rw [cut_min, List.map_take])
        generalize upd G1 p5 (.lst (cutV (aD.map V.ref) none (some (n : Int)))) = G5 at g5 u5
        refine ⟨p1, p5, _, _, rfl, rfl, g5 _ _ u1, u5, ?_, fun p6 hp6 => ?_⟩
        · rw [List.length_map, List.length_map, List.length_take, List.length_drop]
          exact Nat.le_trans (show aD.length - n + min n aD.length ≤ 120 by omega) (by decide)
        have g6 := Evl.Ex.new (o := .lst ((aD.drop n).map V.ref ++ (aD.take n).map V.ref)) hp6
        have u6 : upd G5 p6 (.lst ((aD.drop n).map V.ref ++ (aD.take n).map V.ref)) p6 = some (.lst ((aD.drop n ++ aD.take n).map V.ref)) := Eq.trans upd_same (by rw [← List.map_append])
        have p6sk := sk_ne ((s5.ex g1).ex g5) hp6
        generalize upd G5 p6 (.lst ((aD.drop n).map V.ref ++ (aD.take n).map V.ref)) = G6 at g6 u6
        have g16 := (g1.trans g5).trans g6
        refine ⟨two, fun rr hrr => ?_⟩
        have e8 := Evl.Ex.new (o := .tup [.ref lv2, .ref p6]) hrr
        have s6 := s5.ex g16
        have bb8 := bb5.trans (But.of_ex (p := sk) (g16.trans e8))
        refine fin bb8 ((s6.ex e8).le (by omega)) (sk_ne s6 hrr) lvsk p6sk upd_same (e8 _ _ (g16 _ _ y1)) (e8 _ _ u6) (goT bb8) (((goD bb8).drop n).app ((goD bb8).take n)) (okSub ?_ fun d hd => ?_)
        · rw [List.length_append, List.length_drop, List.length_take]
          omega
        · rcases List.mem_append.mp hd with h | h
          · exact List.mem_of_mem_drop h
          · exact List.mem_of_mem_take h
      refine if_f (decide_eq_false fun q => c5 (by injection q)) ?_
      -- another step
      refine ⟨_, rfl, _, rfl, five, fun lk hlk => ?_⟩
      have g1 := Evl.Ex.new (o := .lst [.str "pour", .str "scoop", .str "move", .str "open", .str "unless"]) hlk
      have u1 : upd H5 lk (.lst [.str "pour", .str "scoop", .str "move", .str "open", .str "unless"]) lk = _ := upd_same
      generalize upd H5 lk (.lst [.str "pour", .str "scoop", .str "move", .str "open", .str "unless"]) = G1 at g1 u1
      have sg1 := s5.ex g1
      refine ⟨sk, lk, (ts.length : Int), 12, ["pour", "scoop", "move", "open", "unless"], _, rfl, by omega, by omega, by decide, by decide, u1, by decide, by decide, (fun z hz => by simp only [List.mem_cons, List.not_mem_nil, or_false] at hz; exact hz), sg1, by omega, fun td d G2 bG sG hd hdo hdp => ?_⟩
      have b6 := bb5.trans ((But.of_ex (p := sk) g1).trans bG)
      have y1' := bG _ _ lvsk (g1 _ _ y1)
      have y2' := bG _ _ ldsk (g1 _ _ y2)
      refine ⟨_, rfl, _, rfl, ld2, _, (n : Int), n, rfl, rfl, y2', Evl.ixN_nat (by rw [List.length_map]; omega), ?_⟩
      have tdld : td ≠ ld2 := fun z => by
        obtain ⟨wx, rs, hwx⟩ := dat_word (hd.ex Nw.ex)
        rw [z, y2'] at hwx
        cases hwx
      have bb7 : But sk H (upd G2 ld2 (.lst ((aD.map V.ref).set n (.ref td)))) := fun c o nc e => Eq.trans (upd_ne (ne_of_none' e ldH)) (b6 c o nc e)
      have q2 : upd G2 ld2 (.lst ((aD.map V.ref).set n (.ref td))) ld2 = some (.lst ((aD.set n td).map V.ref)) := Eq.trans upd_same (by rw [List.map_set])
      have q1 : upd G2 ld2 (.lst ((aD.map V.ref).set n (.ref td))) lv2 = some (.lst (aT.map V.ref)) := Eq.trans (upd_ne lvld) y1'
      have s7 : Sk (upd G2 ld2 (.lst ((aD.map V.ref).set n (.ref td)))) sk _ := sG.upd ldsk
      -- the new step stands apart from the list
      have hd7 : DAt (wo sk (upd G2 ld2 (.lst ((aD.map V.ref).set n (.ref td))))) td d := hd.ex fun c o h => wo_at (fun z => by
        rw [z] at h
        obtain ⟨_, _, _, hx, _⟩ := sg1
        rw [nw_none h] at hx
        cases hx) (Eq.trans (upd_ne (fun z => by
        rw [z] at h
        have := nw_none h
        rw [g1 _ _ y2] at this
        cases this)) (Nw.ex _ _ h))
      refine ⟨_, rfl, _, rfl, two, fun rr hrr => ?_⟩
      have e8 := Evl.Ex.new (o := .tup [.ref lv2, .ref ld2]) hrr
      have bb8 := bb7.trans (But.of_ex (p := sk) e8)
      refine fin bb8 ((s7.ex e8).le (by omega)) (sk_ne s7 hrr) lvsk ldsk upd_same (e8 _ _ q1) (e8 _ _ q2) (goT bb8) ((goD bb8).set n (hd7.ex (ex_wo e8))) ?_
      have mm : ∀ x ∈ ds.set n d, x = d ∨ x ∈ ds := fun x hx => (List.mem_or_eq_of_mem_set hx).symm
      refine ⟨⟨hW.ok.1, by rw [List.length_set]; exact h60, fun x hx => ?_⟩, hW.w1000, fun k' a' hx => ?_⟩
      · rcases mm x hx with rfl | h
        · exact hdo
        · exact hW.ok.2.2 x h
      · rcases mm _ hx with h | h
        · exact hdp k' a' h.symm
        · exact hW.p1000 k' a' h
end
end V2


namespace V2
open PySem L2
open PySem.Spec PyProof.Rows
/-! ## equal just if all is the same -/
def shD (ts : List Tk) (ds : List Deed) : PyData := .tuple [.list (ts.map tkD), .list (ds.map dD)]
theorem pl_i {i : Int} (h : 0 ≤ i) : Pl (.int i) := by
  obtain ⟨n, rfl⟩ := Int.eq_ofNat_of_zero_le h
  exact .int n
theorem pl_two {d e : PyData} (h : Pl d) (k : Pl e) : Pl (.tuple [d, e]) := .tup (fun x hx => by
  simp only [List.mem_cons, List.not_mem_nil, or_false] at hx
  rcases hx with rfl | rfl
  · exact h
  · exact k) (by simp)
theorem pl_tks {ts : List Tk} {ds : List Deed} (h : ShW ts ds) : Pl (.list (ts.map tkD)) := .list fun d hd => by
  obtain ⟨t, ht, rfl⟩ := List.mem_map.mp hd
  have h1 := h.ok.1.2.1 t ht
  obtain ⟨w, a⟩ := t
  cases w with
  | none => exact pl_two .non (pl_i h1.2)
  | some z => exact pl_two (pl_i (by have := h1.1 z rfl; omega)) (pl_i h1.2)
theorem pl_dss {ts : List Tk} {ds : List Deed} (h : ShW ts ds) : Pl (.list (ds.map dD)) := .list fun d hd => by
  obtain ⟨e, he, rfl⟩ := List.mem_map.mp hd
  have h1 := h.ok.2.2 e he
  cases e with
  | op ks => exact pl_two (.str (by decide)) (.list fun x hx => by
      obtain ⟨k, hk, rfl⟩ := List.mem_map.mp hx
      exact pl_i (h1.2.2.2 k hk).1)
  | po k a => exact .tup (fun x hx => by
      simp only [List.mem_cons, List.not_mem_nil, or_false] at hx
      rcases hx with rfl | rfl | rfl
      · exact .str (by decide)
      · exact pl_i h1.1.1
      · exact pl_i h1.2) (by simp)
  | sc k p q => exact .tup (fun x hx => by
      simp only [List.mem_cons, List.not_mem_nil, or_false] at hx
      rcases hx with rfl | rfl | rfl
      · exact .str (by decide)
      · exact pl_i h1.1.1
      · exact pl_two (pl_i h1.2.1) (pl_i (by have := h1.2.1; have := h1.2.2.1; omega))) (by simp)
  | mv k m p q => exact .tup (fun x hx => by
      simp only [List.mem_cons, List.not_mem_nil, or_false] at hx
      rcases hx with rfl | rfl | rfl | rfl
      · exact .str (by decide)
      · exact pl_i h1.1.1
      · exact pl_i h1.2.1.1
      · exact pl_two (pl_i h1.2.2.2.1) (pl_i (by have := h1.2.2.2.1; have := h1.2.2.2.2.1; omega))) (by simp)
  | un k m => exact .tup (fun x hx => by
      simp only [List.mem_cons, List.not_mem_nil, or_false] at hx
      rcases hx with rfl | rfl | rfl
      · exact .str (by decide)
      · exact pl_i h1.1.1
      · exact pl_i h1.2.1.1) (by simp)
theorem eqB_iff {ts ts' : List Tk} {ds ds' : List Deed} (h : ShW ts ds) (k : ShW ts' ds') : eqB ts ds ts' ds' = true ↔ shD ts ds = shD ts' ds' := by
  unfold eqB shD
  rw [Bool.and_eq_true, pl_eqv1 (pl_tks h) _ (pl_tks k), pl_eqv1 (pl_dss h) _ (pl_dss k)]
  constructor
  · rintro ⟨h1, h2⟩
    rw [h1, h2]
  · intro q
    injection q with q
    injection q with q1 q
    injection q with q2 _
    exact ⟨q1, q2⟩
theorem shown_iff {ts ts' : List Tk} {ds ds' : List Deed} (h : ShW ts ds) (k : ShW ts' ds') : (shD ts ds).shown = (shD ts' ds').shown ↔ shD ts ds = shD ts' ds' :=
  ⟨fun q => pl_inj (pl_two (pl_tks h) (pl_dss h)) (pl_two (pl_tks k) (pl_dss k)) q, fun q => by rw [q]⟩
theorem lw_shD {ts : List Tk} {ds : List Deed} (h : ShW ts ds) : ShX (shD ts ds) := by
  have l : Lw [2, 61, 5, 31] (shD ts ds) := .tup (by show 2 ≤ 2; decide) (lw_cons (lw_tks h) (lw_cons (lw_dss h) lw_end))
  exact l.sx.sh (by decide) (by decide)
theorem sh_bools {a b c : Bool} : ShX (.list [.bool a, .bool b, .bool c]) := by
  have := sx_list (xs := [.bool a, .bool b, .bool c]) (n := 1) (B := 10) fun d hd => by
    simp only [List.mem_cons, List.not_mem_nil, or_false] at hd
    rcases hd with rfl | rfl | rfl
    · exact sx_bool a
    · exact sx_bool b
    · exact sx_bool c
  exact this.sh (by decide) (by show 3 * 10 + 2 * 3 + 3 ≤ 10000000; decide)
def kinds5 : List String := ["list", "tuple", "NoneType", "str", "int"]
def spEqR (C : Addr) : Sp := fun vs H Q _ => ∃ (sk x t : Addr) (m : Nat) (ts : List Tk) (ds : List Deed), vs = [.ref sk, .ref x, .ref t] ∧ Sk H sk m ∧ m ≤ 78000 ∧ ScAt (wo sk H) C x ts ds ∧ ShAt (wo sk H) t ts ds ∧ ShW ts ds ∧
  ∀ H', But sk H H' → Sk H' sk (m + 30) → Q (.bl true) H'
section
variable {base : Heap} {mg : Str → Option Value} {K : PySem.W.Frag} {w : World} {P : Program} {C fQ : Addr}
theorem ok_equal_right {f : Addr} {fd fdQ : FuncData} (F : Fun K "_law_pv_equal_right" "_law_pv_equal_right" s_l_equal_right f fd) (hN : NoDig K) (mRe : mg "repr" = none) (cNe : Cal P w K mg base 5 "_law_pv_near" p_l_near spNear) (cSc : Cal P w K mg base 7 "_law_pv_script" p_l_script (spScr C))
    (eqc : EqC K C fQ) (FQ : FnOk P w K mg base CX0 1 fQ fdQ p_Sc_eq (spEqS K C)) (bQ : Binds K fdQ p_Sc_eq []) (kit : ∀ T ∈ kinds5, PySem.W.kitOne K (.type T) (.ref C) = some false) : FnG P w K mg base 8 f fd p_l_equal_right (spEqR C) := by
  refine Fun.okG F sc_l_equal_right (fun vs H Q E h => ?_) (fun cdv A outer s H vs Q E hg hr h => ?_)
  · obtain ⟨sk, x, t, m, ts, ds, rfl, _⟩ := h
    rfl
  · obtain ⟨sk, x, t, m, ts, ds, rfl, hS, hm, hSc, hSh, hW, kk⟩ := h
    have nd := sc_l_equal_right.nd
    have two : 2 ≤ sizeLine := by show 2 ≤ sizeLine; decide
    have three : 3 ≤ sizeLine := by show 3 ≤ sizeLine; decide
    have six : 6 ≤ sizeLine := by show 6 ≤ sizeLine; decide
    have r1 : Room 1 _ := hr.mono (by decide)
    have r2 : Room 2 _ := hr.mono (by decide)
    have r5 : Room 5 _ := hr.mono (by decide)
    refine ⟨_, pss_cons (ps_set (i := 3) nd rfl (Or.inl rfl) (pe_c cNe r5 (pa_cons (pv 0) (pa_cons (pv 2) pa_nil))))
      (pss_cons (ps_par (i := 4) (j := 5) rfl nd rfl rfl (by decide) rfl rfl (pa_cons (pe_c cSc hr (pa_cons (pv 3) pa_nil)) (pa_cons (pe_cmpR op_eq (pe_callB (call_showW hN hg hr.units) (by rfl) mRe (by decide +kernel) (pa_cons (pv 3) pa_nil)) (pe_callB (call_showW hN hg hr.units) (by rfl) mRe (by decide +kernel) (pa_cons (pv 2) pa_nil)) (nomark _)) pa_nil)) (by rfl))
      (pss_cons (ps_if (pt_cmpR op_ne (pe_callB (call_showW hN hg hr.units) (by rfl) mRe (by decide +kernel) (pa_cons (pe_lst (pa_cons (pe_cmpR (op_eqO (E := E0) FQ eqc bQ pass0 r1) (pv 1) (pv 4) (nomark _)) (pa_cons (pe_cmpR (op_eqO (E := E0) FQ eqc bQ pass0 r1) (pv 4) (pv 1) (nomark _)) (pa_cons (pe_cmpR (op_neO (E := E0) FQ eqc bQ pass0 r2) (pv 1) (pv 4) (nomark _)) pa_nil)))) pa_nil)) (pe_callB (call_showW hN hg hr.units) (by rfl) mRe (by decide +kernel) (pa_cons (pe_lst (pa_cons (pv 5) (pa_cons (pv 5) (pa_cons (pe_not (pv 5)) pa_nil)))) pa_nil)) (nomark _)) (pss_one (ps_ret pe_bl)) pss_nil)
      (pss_cons (ps_for PassesOwn.never rfl (pi_tup (pe_tup (pa_cons (pv 2) (pa_cons (pe_lst (pa_cons (pe_ix ix_tup (pv 2) pe_int (fun _ _ => rfl)) (pa_cons (pe_ix ix_tup (pv 2) pe_int (fun _ _ => rfl)) pa_nil))) (pa_cons pe_non (pa_cons pe_str (pa_cons pe_int (pa_cons (pe_ix ix_tup (pv 2) pe_int (fun _ _ => rfl)) pa_nil)))))))) (pg_name (i := 6) nd rfl (Or.inl rfl)) (pss_one (ps_if (PW.pt (pw_or (pt_cmpR (op_eqO (E := E0) FQ eqc bQ pass0 r1) (pv 1) (pv 6) (nomark _)) (pw_or1 (pt_not (pt_cmpR (op_neO (E := E0) FQ eqc bQ pass0 r2) (pv 1) (pv 6) (nomark _)))))) (pss_one (ps_ret pe_bl)) pss_nil)))
      (pss_one (ps_ret pe_bl))))), ?_⟩
    have hSh0 := hSh
    obtain ⟨lv, ld, ht, hT, hD⟩ := hSh
    refine ⟨_, rfl, _, rfl, sk, t, m, ts, ds, rfl, hS, by omega, hSh0, hW, fun r ts' ds' H1 b1 s1 hR hW' => ?_⟩
    obtain ⟨lv', ld', hr1, hT', hD'⟩ := hR
    have hR1 : ShAt H1 r ts' ds' := ⟨lv', ld', wo_ex _ _ hr1, hT'.ex wo_ex, hD'.ex wo_ex⟩
    refine ⟨_, rfl, r, ts', ds', rfl, hR1, hW'.ok, fun y H2 hy e2 hY => ?_⟩
    have s2 := s1.ex e2
    have b2 := b1.trans (But.of_ex (p := sk) e2)
    have hSc2 : ScAt H2 C x ts ds := (hSc.ex b2.wo).ex wo_ex
    have hY2 := hY.ex Nw.ex
    have dqr : Dq H2 (.ref r) (shD ts' ds') := .tup (e2 _ _ (wo_ex _ _ hr1)) (.cons ((hT'.ex wo_ex).ex e2).dq (.cons ((hD'.ex wo_ex).ex e2).dq .nil))
    have dqt : Dq H2 (.ref t) (shD ts ds) := .tup (wo_ex _ _ (b2.wo _ _ ht)) (.cons ((hT.ex b2.wo).ex wo_ex).dq (.cons ((hD.ex b2.wo).ex wo_ex).dq .nil))
    obtain ⟨p1, p2, p3⟩ := lw_shD hW'
    obtain ⟨q1, q2, q3⟩ := lw_shD hW
    refine ⟨_, rfl, r, _, rfl, dqr, p1, p2, p3, _, rfl, t, _, rfl, dqt, q1, q2, q3, rfl, ?_⟩
    obtain ⟨bb, hbb, h1, h2⟩ : ∃ bb : Bool, decide (V.str (shD ts' ds').shown = V.str (shD ts ds).shown) = bb ∧ eqB ts ds ts' ds' = bb ∧ eqB ts' ds' ts ds = bb := by
      refine ⟨_, rfl, ?_, ?_⟩
      · rw [Bool.eq_iff_iff, eqB_iff hW hW', decide_eq_true_iff]
        constructor
        · intro q
          rw [q]
        · intro q
          injection q with q
          exact ((shown_iff hW' hW).mp q).symm
      · rw [Bool.eq_iff_iff, eqB_iff hW' hW, decide_eq_true_iff]
        constructor
        · intro q
          rw [q]
        · intro q
          injection q with q
          exact (shown_iff hW' hW).mp q
    rw [hbb]
    refine ⟨_, _, rfl, ?_⟩
    obtain ⟨dx, fs, _, _, hx, _⟩ := id hSc2
    obtain ⟨dy, gs, _, _, hy2, _⟩ := id hY2
    refine ⟨_, rfl, _, rfl, x, dx, fs, .ref C, rfl, hx, .ins hy2, x, .ref y, ts, ds, rfl, hSc2, .inl ⟨y, ts', ds', rfl, hY2, _, rfl, ?_⟩⟩
    refine ⟨_, rfl, _, rfl, y, dy, gs, .ref C, rfl, hy2, .ins hx, y, .ref x, ts', ds', rfl, hY2, .inl ⟨x, ts, ds, rfl, hSc2, _, rfl, ?_⟩⟩
    refine ⟨_, rfl, _, rfl, x, dx, fs, .ref C, rfl, hx, .ins hy2, x, .ref y, ts, ds, rfl, hSc2, .inl ⟨y, ts', ds', rfl, hY2, _, rfl, three, fun l hl => ?_⟩⟩
    rw [h1, h2]
    have e3 := Evl.Ex.new (o := .lst [.bl bb, .bl bb, .bl !bb]) hl
    have g3 : upd H2 l (.lst [.bl bb, .bl bb, .bl !bb]) l = _ := upd_same
    generalize upd H2 l (.lst [.bl bb, .bl bb, .bl !bb]) = H3 at e3 g3
    obtain ⟨w1, w2, w3⟩ := sh_bools (a := bb) (b := bb) (c := !bb)
    refine ⟨l, _, rfl, .lst g3 (.cons (.bl _) (.cons (.bl _) (.cons (.bl _) .nil))), w1, w2, w3, ?_⟩
    refine ⟨_, rfl, _, rfl, _, rfl, _, rfl, three, fun l' hl' => ?_⟩
    have e4 := Evl.Ex.new (o := .lst [.bl bb, .bl bb, .bl !bb]) hl'
    have g4 : upd H3 l' (.lst [.bl bb, .bl bb, .bl !bb]) l' = _ := upd_same
    generalize upd H3 l' (.lst [.bl bb, .bl bb, .bl !bb]) = H4 at e4 g4
    refine ⟨l', _, rfl, .lst g4 (.cons (.bl _) (.cons (.bl _) (.cons (.bl _) .nil))), w1, w2, w3, rfl, _, rfl, if_f (by simp) ?_⟩
    have e24 := e3.trans e4
    have b4 := b2.trans (But.of_ex (p := sk) e24)
    have s4 := s2.ex e24
    have ht4 := wo_ex _ _ (b4.wo _ _ ht)
    refine ⟨_, rfl, _, rfl, t, _, _, _, rfl, rfl, SqT.of ht4, rfl, _, rfl, t, _, _, _, rfl, rfl, SqT.of ht4, rfl, two, fun q hq => ?_⟩
    have e5 := Evl.Ex.new (o := .lst [.ref lv, .ref ld]) hq
    have g5 : upd H4 q (.lst [.ref lv, .ref ld]) q = _ := upd_same
    generalize upd H4 q (.lst [.ref lv, .ref ld]) = H5 at e5 g5
    refine ⟨_, rfl, t, _, _, _, rfl, rfl, SqT.of (e5 _ _ ht4), rfl, six, fun u hu => ?_⟩
    have e6 := Evl.Ex.new (o := .tup [.ref t, .ref q, .non, .str "", .int 0, .ref ld]) hu
    have g6 : upd H5 u (.tup [.ref t, .ref q, .non, .str "", .int 0, .ref ld]) u = _ := upd_same
    generalize upd H5 u (.tup [.ref t, .ref q, .non, .str "", .int 0, .ref ld]) = H6 at e6 g6
    have e46 := e5.trans e6
    have b6 := b4.trans (But.of_ex (p := sk) e46)
    have hSc6 : ScAt H6 C x ts ds := (hSc.ex b6.wo).ex wo_ex
    obtain ⟨dx6, fs6, _, _, hx6, _⟩ := id hSc6
    obtain ⟨aD, hld, _, _⟩ := (hD.ex b6.wo).ex wo_ex
    refine ⟨u, rfl, ⟨_, SqT.of g6⟩, for_tup (xs := [.ref t, .ref q, .non, .str "", .int 0, .ref ld]) (fun i σ H' => ∃ v6, σ = [some (.ref sk), some (.ref x), some (.ref t), some (.ref r), some (.ref y), some (.bl bb), v6] ∧ H' = H6) ⟨_, rfl, rfl⟩ (fun i σ H' _ q => by
      obtain ⟨_, _, rfl⟩ := q
      exact SqT.of g6) ?_ ?_⟩
    · rintro i v σ H7 hi ⟨v6, rfl, rfl⟩
      obtain ⟨T, hT5, hYt, hTy⟩ : ∃ T : String, T ∈ kinds5 ∧ Yt K C H7 v (.type T) ∧ TyX K H7 v (.type T) := by
        have i6 : i < 6 := (List.getElem?_eq_some_iff.mp hi).1
        match i, i6, hi with
        | 0, _, hi => cases hi; exact ⟨"tuple", by decide, .tup (e46 _ _ ht4), .base (.tup (e46 _ _ ht4))⟩
        | 1, _, hi => cases hi; exact ⟨"list", by decide, .lst (e6 _ _ g5), .base (.lst (e6 _ _ g5))⟩
        | 2, _, hi => cases hi; exact ⟨"NoneType", by decide, .non, .base .non⟩
        | 3, _, hi => cases hi; exact ⟨"str", by decide, .str _, .base (.str _)⟩
        | 4, _, hi => cases hi; exact ⟨"int", by decide, .int _, .base (.int _)⟩
        | 5, _, hi => cases hi; exact ⟨"list", by decide, .lst hld, .base (.lst hld)⟩
      have hk := kit T hT5
      refine ⟨_, rfl, _, rfl, x, dx6, fs6, _, rfl, hx6, hYt, x, v, ts, ds, rfl, hSc6, .inr ⟨T, hTy, hk, _, rfl, _, rfl, if_f rfl ?_⟩⟩
      exact ⟨_, rfl, _, rfl, x, dx6, fs6, _, rfl, hx6, hYt, x, v, ts, ds, rfl, hSc6, .inr ⟨T, hTy, hk, _, rfl, _, rfl, if_f rfl ⟨_, rfl, rfl⟩⟩⟩
    · rintro σ H7 ⟨v6, rfl, rfl⟩
      exact kk H7 b6 ((s4.ex e46).le (by omega))
end
end V2


namespace V2
open PySem L2
open PySem.Spec PyProof.Rows
/-! ## scripts, again and again -/
def spChk13 : Sp := fun vs H Q _ => ∃ (p : Addr) (m : Nat), vs = [.ref p] ∧ Sk H p m ∧ m ≤ 1000 ∧ ∀ H', But p H H' → Q (.bl true) H'
theorem rt2 {H : Hp} {v : V} {ts : List Tk} {ds : List Deed} {as : List Addr} (h : ShW ts ds) (hv : TrD H v (.list [.list (ts.map tkD), .list (ds.map dD)]) as) : Cp 4 (.list [.list (ts.map tkD), .list (ds.map dD)]) ∧ as.length ≤ 1000 ∧ ShX (mkD 0 (.list [.list (ts.map tkD), .list (ds.map dD)])) := by
  have hc := hv.cnt
  have hl : Lw lw5 (.list [.list (ts.map tkD), .list (ds.map dD)]) := .lst (by show 2 ≤ 5; decide) (lw_cons (lw_tks h) (lw_cons (lw_dss h) lw_end))
  have h1 := cnt_dss ds
  have h2 := h.ok.2.1
  have hct : cntD (.list [.list (ts.map tkD), .list (ds.map dD)]) ≤ 1000 := by
    simp only [cntD, cntA, cnt_tks]
    omega
  exact ⟨hl.cp (by decide), by omega, (hl.mk 0 (by omega)).sx.sh (by decide) (by decide)⟩
theorem shW_sub {ts : List Tk} {ds es : List Deed} (h : ShW ts ds) (hl : es.length ≤ ds.length) (hm : ∀ x ∈ es, x ∈ ds) : ShW ts es := ⟨okS_sub h.ok hl hm, h.w1000, fun k a hx => h.p1000 k a (hm _ hx)⟩
section
variable {base : Heap} {mg : Str → Option Value} {K : PySem.W.Frag} {w : World} {P : Program} {C fI fT fS pT pS fW fX : Addr}
theorem ok_checked13 {f : Addr} {fd fdI fdW fdX : FuncData} (F : Fun K "_law_pv_checked" "_law_pv_checked" s_l_checked f fd) (mL : mg "len" = none) (mR : mg "range" = none) (mC : mg "Script" = some (.ref C)) (c : ScC K C fI fT fS pT pS)
    (FI : FnOk P w K mg base CX0 5 fI fdI p_Sc_init (spScI C)) (bI : Binds K fdI p_Sc_init []) (kI : KBn K fdI p_Sc_init 1 ["steps", "tanks"] (fun us ws => gW2 us ws) (fun us ws => gW2 us ws))
    (meW : Meth K C "without" fW) (FW : FnOk P w K mg base CX0 7 fW fdW p_Sc_without (spWoN C)) (bW : Binds K fdW p_Sc_without []) (meX : Meth K C "exchanged" fX) (FX : FnOk P w K mg base CX0 7 fX fdX p_Sc_exchanged (spXcN C)) (bX : Binds K fdX p_Sc_exchanged [])
    (cC : Cal P w K mg base 1 "_law_pv_coin" p_l_coin spCoin) (cL : Cal P w K mg base 5 "_law_pv_long" p_l_long spLong) (cSh : Cal P w K mg base 5 "_law_pv_shape" p_l_shape spShape) (lt2 : Cal P w K mg base 3 "_law_pv_copied" p_l_copied (spCt 2)) (lt3 : Cal P w K mg base 4 "_law_pv_copied" p_l_copied (spCt 3))
    (cMk : CalG P w K mg base 6 "_law_pv_marked" p_l_marked (spMkW 4)) (cSS : CalG P w K mg base 8 "_law_pv_same_script" p_l_same_script (spSame C)) (cIR : CalG P w K mg base 9 "_law_pv_indexes_right" p_l_indexes_right (spIxR C)) (cER : CalG P w K mg base 8 "_law_pv_equal_right" p_l_equal_right (spEqR C)) : FnG P w K mg base 10 f fd p_l_checked spChk13 := by
  refine Fun.okG F sc_l_checked (fun vs H Q E h => ?_) (fun cdv A outer s H vs Q E hg hr h => ?_)
  · obtain ⟨p, m, rfl, _⟩ := h
    rfl
  · obtain ⟨sk, m, rfl, hS, hm, kk⟩ := h
    have nd := sc_l_checked.nd
    have n200 := n200e
    have two : 2 ≤ sizeLine := by show 2 ≤ sizeLine; decide
    have r1 : Room 1 _ := hr.mono (by decide)
    have r3 : Room 3 _ := hr.mono (by decide)
    have r4 : Room 4 _ := hr.mono (by decide)
    have r5 : Room 5 _ := hr.mono (by decide)
    have r6 : Room 6 _ := hr.mono (by decide)
    have r7 : Room 7 _ := hr.mono (by decide)
    have r8 : Room 8 _ := hr.mono (by decide)
    refine ⟨_, pss_cons (ps_set (i := 1) nd rfl (Or.inl rfl) (pe_ifExp (pt_cmpR op_eq (pe_c cC r1 (pa_cons (pv 0) (pa_cons pe_int pa_nil))) pe_int (nomark _)) (pe_c cL r5 (pa_cons (pv 0) pa_nil)) (pe_c cSh r5 (pa_cons (pv 0) pa_nil))))
      (pss_cons (ps_par (i := 2) (j := 3) rfl nd rfl rfl (by decide) rfl rfl (pa_cons (pe_c lt2 r3 (pa_cons (pe_ix ix_tup (pv 1) pe_int (fun _ _ => rfl)) pa_nil)) (pa_cons (pe_c lt3 r4 (pa_cons (pe_ix ix_tup (pv 1) pe_int (fun _ _ => rfl)) pa_nil)) pa_nil)) (by rfl))
      (pss_cons (ps_set (i := 4) nd rfl (Or.inl rfl) (pe_ifExp (pt_cmpR op_eq (pe_c cC r1 (pa_cons (pv 0) (pa_cons pe_int pa_nil))) pe_int (nomark _)) (pe_mkKS (E := fun _ => E0) c.mkI FI r6 (by rfl) mC kI (fun _ => pAt0) (pk_cons (pv 3) (pk_cons (pv 2) pk_nil))) (pe_make c.mkI FI r6 (by rfl) mC bI .nil pass0 (pa_cons (pv 2) (pa_cons (pv 3) pa_nil)))))
      (pss_cons (ps_expr (pe_cg cMk hg r6 (pa_cons (pe_lst (pa_cons (pv 2) (pa_cons (pv 3) pa_nil))) pa_nil)))
      (pss_cons (ps_for PassesOwn.never rfl (pi_range1 (by rfl) mR (pa_cons pe_int pa_nil)) (pg_name (i := 5) nd rfl (Or.inl rfl)) (pss_cons (ps_if (PW.pt (pw_or (pt_not (pt_val (pe_cg cSS hg r8 (pa_cons (pv 4) (pa_cons (pv 1) pa_nil))))) (pw_or1 (pt_not (pt_val (pe_cg cIR hg hr (pa_cons (pv 0) (pa_cons (pv 4) (pa_cons (pe_ix ix_tup (pv 1) pe_int (fun _ _ => rfl)) pa_nil))))))))) (pss_one (ps_ret pe_bl)) pss_nil)
      (pss_cons (ps_if (pt_not (pt_val (pe_cg cER hg r8 (pa_cons (pv 0) (pa_cons (pv 4) (pa_cons (pv 1) pa_nil)))))) (pss_one (ps_ret pe_bl)) pss_nil)
      (pss_cons (ps_par3 (i := 6) (j := 7) (l := 8) rfl nd rfl rfl rfl (by decide) (by decide) (by decide) rfl rfl rfl (pa_cons (pe_callB call_len_seq (by rfl) mL PySem.boot_len (pa_cons (pe_ix ix_tup (pv 1) pe_int (fun _ _ => rfl)) pa_nil)) (pa_cons (pv 4) (pa_cons (pv 1) pa_nil))) (by rfl))
      (pss_cons (ps_if (pt_cmpR op_lt (pv 6) pe_int (nomark _)) (pss_one (ps_ret (pe_cg cSS hg r8 (pa_cons (pv 4) (pa_cons (pv 1) pa_nil))))) pss_nil)
      (pss_cons (ps_set (i := 9) nd rfl (Or.inl rfl) (pe_c cC r1 (pa_cons (pv 0) (pa_cons (pe_op op_sub (pv 6) pe_int) pa_nil))))
      (Evl.pss_cut (ps_if (pt_cmpR op_eq (pe_c cC r1 (pa_cons (pv 0) (pa_cons pe_int pa_nil))) pe_int (nomark _)) (pss_one (ps_par (i := 4) (j := 1) rfl nd rfl rfl (by decide) rfl rfl (pa_cons (pe_meth (pv 4) c.cls meW FW r7 bW .nil pass0 (pa_cons (pv 9) pa_nil)) (pa_cons (pe_tup (pa_cons (pe_ix ix_tup (pv 1) pe_int (fun _ _ => rfl)) (pa_cons (pe_op op_cat (pe_slice sl_list (pe_ix ix_tup (pv 1) pe_int (fun _ _ => rfl)) po_none (po_some (pv 9))) (pe_slice sl_list (pe_ix ix_tup (pv 1) pe_int (fun _ _ => rfl)) (po_some (pe_op op_add (pv 9) pe_int)) po_none)) pa_nil))) pa_nil)) (by rfl))) (pss_cons (ps_set (i := 10) nd rfl (Or.inl rfl) (pe_lst (pa_cons (pe_ix ix_list (pe_ix ix_tup (pv 1) pe_int (fun _ _ => rfl)) (pe_op op_add (pv 9) pe_int) (fun _ _ => rfl)) (pa_cons (pe_ix ix_list (pe_ix ix_tup (pv 1) pe_int (fun _ _ => rfl)) (pv 9) (fun _ _ => rfl)) pa_nil))))
      (pss_one (ps_par (i := 4) (j := 1) rfl nd rfl rfl (by decide) rfl rfl (pa_cons (pe_meth (pv 4) c.cls meX FX r7 bX .nil pass0 (pa_cons (pv 9) pa_nil)) (pa_cons (pe_tup (pa_cons (pe_ix ix_tup (pv 1) pe_int (fun _ _ => rfl)) (pa_cons (pe_op op_cat (pe_op op_cat (pe_slice sl_list (pe_ix ix_tup (pv 1) pe_int (fun _ _ => rfl)) po_none (po_some (pv 9))) (pv 10)) (pe_slice sl_list (pe_ix ix_tup (pv 1) pe_int (fun _ _ => rfl)) (po_some (pe_op op_add (pv 9) pe_int)) po_none)) pa_nil))) pa_nil)) (by rfl)))))
      (pss_one (ps_if (pt_not (pt_val (pe_cg cSS hg r8 (pa_cons (pv 7) (pa_cons (pv 8) pa_nil))))) (pss_one (ps_ret pe_bl)) pss_nil)))))))))
      (pss_one (ps_ret (pe_cg cSS hg r8 (pa_cons (pv 4) (pa_cons (pv 1) pa_nil))))))))), ?_⟩
    refine ⟨_, rfl, sk, 3, m, rfl, hS, by omega, by decide, by decide, fun c0 H1 c00 c01 b1 s1 z1 => ⟨rfl, _, rfl, ?_⟩⟩
    have both : ∀ {R : VK}, (∀ (t : Addr) (ts : List Tk) (ds : List Deed) (H' : Hp), But sk H1 H' → Sk H' sk (m + 1 + 3000) → ShAt (wo sk H') t ts ds → ShW ts ds → R (.ref t) H') → (if decide (V.int c0 = V.int 0) = true then tCall spLong [] E0 (tCons (tVar 0) tNil) [some (.ref sk), none, none, none, none, none, none, none, none, none, none] H1 R else tCall spShape [] E0 (tCons (tVar 0) tNil) [some (.ref sk), none, none, none, none, none, none, none, none, none, none] H1 R) := fun {R} h => by
      split
      · exact ⟨_, rfl, sk, m + 1, rfl, s1, by omega, h⟩
      · exact ⟨_, rfl, sk, m + 1, rfl, s1, by omega, h⟩
    refine both fun t ts ds H2 b2 s2 hSh hW => ?_
    clear both
    obtain ⟨lv, ld, ht, hT, hD⟩ := id hSh
    have h20 := hW.ok.1.1
    have h60 := hW.ok.2.1
    -- copies
    have ht2 := wo_ex _ _ ht
    refine ⟨_, rfl, t, _, _, _, rfl, rfl, SqT.of ht2, rfl, _, _, rfl, (hT.ex wo_ex).dq, cp_tks (Nat.le_trans h20 (by decide)), fun v as H3 e3 hv hnv => ?_⟩
    refine ⟨_, rfl, t, _, _, _, rfl, rfl, SqT.of (e3 _ _ ht2), rfl, _, _, rfl, ((hD.ex wo_ex).ex e3).dq, cp_deeds hW.ok.2.2 (Nat.le_trans h60 (by decide)), fun u bs H4 e4 hu hnu => ⟨_, _, rfl, ?_⟩⟩
    have s4 := (s2.ex e3).ex e4
    have cpT := cp_tks (ts := ts) (Nat.le_trans h20 (by decide))
    have cpD := cp_deeds (ds := ds) (n := (ts.length : Int)) hW.ok.2.2 (Nat.le_trans h60 (by decide))
    have o1 := trd_off hv cpT
    have o2 := trd_off hu cpD
    have v4 : TrD H4 v (.list (ts.map tkD)) as := (hv.go Nw.ex).go e4
    have u4 : TrD H4 u (.list (ds.map dD)) bs := hu.go Nw.ex
    have b24 := (b2.trans (But.of_ex (p := sk) e3)).trans (But.of_ex (p := sk) e4)
    refine ⟨_, rfl, sk, 2, m + 3001, rfl, s4, by omega, by decide, by decide, fun c1 H5 c10 c11 b5 s5 z5 => ⟨rfl, _, rfl, ?_⟩⟩
    have as_sk : ∀ a ∈ as, a ≠ sk ∧ ∃ xs, H5 a = some (.lst xs) := fun a ha => by
      obtain ⟨n1, xs, x1⟩ := o1 a ha
      have ne := sk_ne s2 n1
      exact ⟨ne, xs, b5 _ _ ne (e4 _ _ x1)⟩
    have bs_sk : ∀ a ∈ bs, a ≠ sk ∧ ∃ xs, H5 a = some (.lst xs) := fun a ha => by
      obtain ⟨n1, xs, x1⟩ := o2 a ha
      have ne := sk_ne (s2.ex e3) n1
      exact ⟨ne, xs, b5 _ _ ne x1⟩
    have v4w : TrD (wo sk H4) v (.list (ts.map tkD)) as := hv.go fun c o h => wo_at (fun z => by
      rw [z] at h
      obtain ⟨_, _, _, hx, _⟩ := s2
      rw [nw_none h] at hx
      cases hx) (e4 _ _ (Nw.ex _ _ h))
    have u4w : TrD (wo sk H4) u (.list (ds.map dD)) bs := hu.go fun c o h => wo_at (fun z => by
      rw [z] at h
      obtain ⟨_, _, _, hx, _⟩ := s2.ex e3
      rw [nw_none h] at hx
      cases hx) (Nw.ex _ _ h)
    have v5 : TrD H5 v (.list (ts.map tkD)) as := (v4w.go b5.wo).go wo_ex
    have u5 : TrD H5 u (.list (ds.map dD)) bs := (u4w.go b5.wo).go wo_ex
    -- the script is made, in one way or the other
    have made : ∀ {R : VK}, (∀ (y : Addr) (H' : Hp), H5 y = none → Evl.Ex H5 H' → ScAt (Nw H5 H') C y ts ds → R (.ref y) H') → (if decide (V.int c1 = V.int 0) = true then tMkKS C 2 (spScI C) (fun us ws => gW2 us ws) (fun _ => E0) (tCons (tVar 3) (tCons (tVar 2) tNil)) [some (.ref sk), some (.ref t), some v, some u, none, none, none, none, none, none, none] H5 R else tMake C (spScI C) [] E0 (tCons (tVar 2) (tCons (tVar 3) tNil)) [some (.ref sk), some (.ref t), some v, some u, none, none, none, none, none, none, none] H5 R) := fun {R} h => by
      have go : ∀ (y dy : Addr), H5 y = none → H5 dy = none → dy ≠ y → spScI C [.ref y, v, u] (upd (upd H5 dy (.own y)) y (.ins C dy [])) (fun v G3 => v = .non ∧ R (.ref y) G3) E0 := fun y dy hy hdy hne => by
        have e5 : Evl.Ex H5 (upd (upd H5 dy (.own y)) y (.ins C dy [])) := fun b o h => Eq.trans (upd_ne (ne_of_none' h hy)) (Eq.trans (upd_ne (ne_of_none' h hdy)) h)
        refine ⟨y, dy, v, u, ts, ds, rfl, upd_same, v5.dq.go e5, u5.dq.go e5, hW.ok, fun v' u' fs H' b hyy g1 g2 d1 d2 g0 => ⟨rfl, ?_⟩⟩
        have e5' : Evl.Ex H5 H' := fun c o h => b _ _ (ne_of_none' h hy) (e5 _ _ h)
        have em : Evl.Ex (Nw (upd (upd H5 dy (.own y)) y (.ins C dy [])) H') (Nw H5 H') := fun c o h => nw_at (Evl.fresh_back e5 (nw_none h)) (Nw.ex _ _ h)
        exact h y H' hy e5' ⟨dy, fs, v', u', nw_at hy hyy, g1, g2, d1.go em, d2.go em, g0⟩
      split
      · exact ⟨_, rfl, _, rfl, rfl, fun y dy hy hdy hne => go y dy hy hdy hne⟩
      · exact ⟨_, rfl, _, rfl, fun y dy hy hdy hne => go y dy hy hdy hne⟩
    refine made fun y H6 hy e6 hY => ?_
    clear made
    have s6 := s5.ex e6
    -- what was passed is changed behind
    refine ⟨_, rfl, _, rfl, two, fun q hq => ?_⟩
    have e7 := Evl.Ex.new (o := .lst [v, u]) hq
    have q7 : upd H6 q (.lst [v, u]) q = _ := upd_same
    have s7 := s6.ex e7
    have qsk := sk_ne s6 hq
    generalize upd H6 q (.lst [v, u]) = H7 at e7 q7 s7
    have e57 := e6.trans e7
    have hTr : TrD H7 (.ref q) (.list [.list (ts.map tkD), .list (ds.map dD)]) (q :: (as ++ (bs ++ []))) := .lst q7 (.cons (v5.go e57) (.cons (u5.go e57) .nil))
    obtain ⟨w1, w2, w3⟩ := rt2 hW hTr
    have lists5 : ∀ a ∈ as ++ (bs ++ []), a ≠ sk ∧ ∃ xs, H5 a = some (.lst xs) := fun a ha => by
      rw [List.append_nil] at ha
      rcases List.mem_append.mp ha with h | h
      · exact as_sk a h
      · exact bs_sk a h
    have hnd : (q :: (as ++ (bs ++ []))).Nodup := by
      refine List.nodup_cons.mpr ⟨fun hmm => ?_, ?_⟩
      · obtain ⟨_, xs, x1⟩ := lists5 q hmm
        rw [e6 _ _ x1] at hq
        cases hq
      · rw [List.append_nil]
        refine nodup_app hnv hnu fun a ha hb => ?_
        obtain ⟨_, xs, x1⟩ := o1 a ha
        obtain ⟨n1, _⟩ := o2 a hb
        rw [x1] at n1
        cases n1
    refine ⟨q, _, _, rfl, hTr, w1, hnd, w2, w3, fun H8 b8 => ?_⟩
    have skoff : sk ∉ q :: (as ++ (bs ++ [])) := fun hmm => by
      rcases List.mem_cons.mp hmm with h | h
      · exact qsk h.symm
      · exact (lists5 sk h).1 rfl
    have s8 : Sk H8 sk (m + 3002) := by
      obtain ⟨a1, a2, a3, h1, h2⟩ := s7
      exact ⟨a1, a2, a3, b8 _ _ skoff h1, h2⟩
    -- the script stands apart
    have e58 : Evl.Ex (Nw H5 H6) (wo sk H8) := fun c o h => wo_at (fun z => by
      rw [z] at h
      obtain ⟨_, _, _, hx, _⟩ := s5
      rw [nw_none h] at hx
      cases hx) (b8 _ _ (fun hmm => by
        rcases List.mem_cons.mp hmm with rfl | hmm
        · rw [Nw.ex _ _ h] at hq
          cases hq
        · obtain ⟨_, xs, x1⟩ := lists5 c hmm
          rw [nw_none h] at x1
          cases x1) (e7 _ _ (Nw.ex _ _ h)))
    have hY8 : ScAt (wo sk H8) C y ts ds := hY.ex e58
    have b28 : But sk H2 H8 := fun c o nc h => b8 _ _ (fun hmm => by
      rcases List.mem_cons.mp hmm with rfl | hmm
      · rw [e6 _ _ (b5 _ _ nc (e4 _ _ (e3 _ _ h)))] at hq
        cases hq
      · rw [List.append_nil] at hmm
        rcases List.mem_append.mp hmm with hmm | hmm
        · obtain ⟨n1, _⟩ := o1 c hmm
          rw [h] at n1
          cases n1
        · obtain ⟨n1, _⟩ := o2 c hmm
          rw [e3 _ _ h] at n1
          cases n1) (e7 _ _ (e6 _ _ (b5 _ _ nc (e4 _ _ (e3 _ _ h)))))
    have hSh8 : ShAt (wo sk H8) t ts ds := ⟨lv, ld, b28.wo _ _ ht, hT.ex b28.wo, hD.ex b28.wo⟩
    have b08 := (b1.trans b2).trans b28
    have shR : ∀ {G : Hp} {t : Addr} {ts : List Tk} {ds : List Deed}, ShAt (wo sk G) t ts ds → ShAt G t ts ds := fun ⟨a, b, h1, h2, h3⟩ => ⟨a, b, wo_ex _ _ h1, h2.ex wo_ex, h3.ex wo_ex⟩
    have shB : ∀ {G G' : Hp} {t : Addr} {ts : List Tk} {ds : List Deed}, ShAt (wo sk G) t ts ds → But sk G G' → ShAt (wo sk G') t ts ds := fun ⟨a, b, h1, h2, h3⟩ g => ⟨a, b, g.wo _ _ h1, h2.ex g.wo, h3.ex g.wo⟩
    clear hY8
    have hY8 : ScAt (wo sk H8) C y ts ds := hY.ex e58
    refine ⟨4, rfl, by decide, by decide, for_range (n := 4) (fun i σ H' => ∃ (t y : Addr) (ts : List Tk) (ds : List Deed) (v5 v6 v7 v8 v9 v10 : Option V), σ = [some (.ref sk), some (.ref t), some v, some u, some (.ref y), v5, v6, v7, v8, v9, v10] ∧ But sk H8 H' ∧ Sk H' sk (m + 3002 + 100 * i) ∧ ScAt (wo sk H') C y ts ds ∧ ShAt (wo sk H') t ts ds ∧ ShW ts ds)
      ⟨t, y, ts, ds, _, _, _, _, _, _, rfl, But.refl _ _, s8.le (by omega), hY8, hSh8, hW⟩ ?_ ?_⟩
    · clear hTr hnd lists5 as_sk bs_sk hY8 hSh8 hSh ht hT hD h20 h60 hW w1 w2 w3 v5 u5 v4 u4 v4w u4w hv hu o1 o2 cpT cpD hY e58 ht2
      rintro i σ H9 hi ⟨t, y, ts, ds, v5, v6, v7, v8, v9, v10, rfl, b9, s9, hY, hSh, hW⟩
      have h60 := hW.ok.2.1
      refine ⟨_, rfl, _, rfl, y, t, ts, ds, rfl, hY.ex wo_ex, shR hSh, hW, fun HA eA => ⟨true, rfl, if_f rfl ?_⟩⟩
      have bA := But.of_ex (p := sk) eA
      have sA := s9.ex eA
      have hYA := hY.ex bA.wo
      have hShA := shB hSh bA
      obtain ⟨lv, ld, ht, hT, hD⟩ := id hShA
      refine ⟨_, rfl, _, rfl, _, rfl, t, _, _, _, rfl, rfl, SqT.of (wo_ex _ _ ht), rfl, sk, y, ld, _, ts, ds, rfl, sA, by omega, hYA, hD, hW, fun HB bB sB => ⟨true, rfl, if_f rfl ?_⟩⟩
      have hYB := hYA.ex bB.wo
      have hShB := shB hShA bB
      refine ⟨_, rfl, _, rfl, _, rfl, sk, y, t, _, ts, ds, rfl, sB, by omega, hYB, hShB, hW, fun HC bC sC => ⟨true, rfl, if_f rfl ?_⟩⟩
      have hYC := hYB.ex bC.wo
      have hShC := shB hShB bC
      have b9C := (bA.trans bB).trans bC
      obtain ⟨lv, ld, ht, hT, hD⟩ := id hShC
      obtain ⟨aD, hld, hn2, hi2⟩ := id hD
      have hlenD : (((aD.map V.ref).length : Nat) : Int) = (ds.length : Int) := by rw [List.length_map, hn2]
      refine ⟨_, rfl, t, _, _, _, rfl, rfl, SqT.of (wo_ex _ _ ht), rfl, ld, _, rfl, .inl (SqL.of (wo_ex _ _ hld)), _, rfl, _, rfl, _, _, _, rfl, ?_⟩
      rw [hlenD]
      refine ⟨_, rfl, _, _, rfl, rfl, _, rfl, ?_⟩
      by_cases c2 : (ds.length : Int) < 2
      · refine if_t (decide_eq_true c2) ⟨_, rfl, _, rfl, y, t, ts, ds, rfl, hYC.ex wo_ex, shR hShC, hW, fun HD eD => ?_⟩
        exact kk HD ((((b08.trans b9).trans b9C).trans (But.of_ex (p := sk) eD)))
      refine if_f (decide_eq_false c2) ?_
      refine ⟨_, rfl, _, rfl, _, _, rfl, rfl, sk, (ds.length : Int) - 1, _, rfl, sC, by omega, by omega, by rw [n200]; omega, fun k HD k0 k1 bD sD zD => ?_⟩
      obtain ⟨n, rfl⟩ : ∃ n : Nat, k = (n : Int) := ⟨k.toNat, by omega⟩
      have hn : n + 1 < ds.length := by omega
      have hYD := hYC.ex bD.wo
      have hShD := shB hShC bD
      have htD := wo_ex _ _ (bD.wo _ _ ht)
      have hldD := wo_ex _ _ (bD.wo _ _ hld)
      have hiD := fun (i : Nat) (a : Addr) (d : Deed) (h1 : aD[i]? = some a) (h2 : ds[i]? = some d) => (hi2 i a d h1 h2).ex bD.wo
      refine ⟨fun σ H' => ∃ (t2 y2 : Addr) (ds2 : List Deed) (w10 : Option V), σ = [some (.ref sk), some (.ref t2), some v, some u, some (.ref y2), some (.int (0 + (i : Int))), some (.int (ds.length : Int)), some (.ref y), some (.ref t), some (.int (n : Int)), w10] ∧ But sk HD H' ∧ Sk H' sk (m + 3002 + 100 * i + 50) ∧ ScAt (wo sk H') C y2 ts ds2 ∧ ShAt (wo sk H') t2 ts ds2 ∧ ShW ts ds2, ?_, ?_⟩
      · refine ⟨_, rfl, sk, 2, _, rfl, sD, by omega, by decide, by decide, fun cc HE cc0 cc1 bE sE zE => ⟨rfl, _, rfl, ?_⟩⟩
        have hYE := hYD.ex bE.wo
        have htE := wo_ex _ _ (bE.wo _ _ (bD.wo _ _ ht))
        have hlvE := bE.wo _ _ (bD.wo _ _ ht)
        have hldE := wo_ex _ _ (bE.wo _ _ (bD.wo _ _ hld))
        have hTE := (hT.ex bD.wo).ex bE.wo
        have hiE := fun (i : Nat) (a : Addr) (d : Deed) (h1 : aD[i]? = some a) (h2 : ds[i]? = some d) => (hiD i a d h1 h2).ex bE.wo
        obtain ⟨dy, fs, vy, uy, hyy, _, _, _, _, g0⟩ := id (hYE.ex wo_ex)
        by_cases c3 : V.int cc = V.int 0
        · refine if_t (decide_eq_true c3) ?_
          subst g0
          refine ⟨_, rfl, y, dy, _, rfl, hyy, rfl, _, rfl, y, n, ts, ds, rfl, hYE.ex wo_ex, hW.ok, by omega, fun y2 HF hy2 eF hY2 => ?_⟩
          refine ⟨_, rfl, t, _, _, _, rfl, rfl, SqT.of (eF _ _ htE), rfl, _, rfl, t, _, _, _, rfl, rfl, SqT.of (eF _ _ htE), rfl, _, rfl, (n : Int), rfl, ld, _, rfl, SqL.of (eF _ _ hldE), fun p1 hp1 => ?_⟩
          have g1 := Evl.Ex.new (o := .lst (cutV (aD.map V.ref) none (some (n : Int)))) hp1
          have x1 : upd HF p1 (.lst (cutV (aD.map V.ref) none (some (n : Int)))) p1 = some (.lst ((aD.take n).map V.ref)) := Eq.trans upd_same (by rw [cut_min, List.map_take])
          generalize upd HF p1 (.lst (cutV (aD.map V.ref) none (some (n : Int)))) = G1 at g1 x1
          refine ⟨_, rfl, t, _, _, _, rfl, rfl, SqT.of (g1 _ _ (eF _ _ htE)), rfl, _, rfl, _, _, rfl, rfl, ((n + 1 : Nat) : Int), rfl, ld, _, rfl, SqL.of (g1 _ _ (eF _ _ hldE)), fun p2 hp2 => ?_⟩
          have g2 := Evl.Ex.new (o := .lst (cutV (aD.map V.ref) (some ((n + 1 : Nat) : Int)) none)) hp2
          have x2 : upd G1 p2 (.lst (cutV (aD.map V.ref) (some ((n + 1 : Nat) : Int)) none)) p2 = some (.lst ((aD.drop (n + 1)).map V.ref)) := Eq.trans upd_same (by rw [cut_drop, List.map_drop])
          generalize upd G1 p2 (.lst (cutV (aD.map V.ref) (some ((n + 1 : Nat) : Int)) none)) = G2 at g2 x2
          refine ⟨p1, p2, _, _, rfl, rfl, g2 _ _ x1, x2, ?_, fun p3 hp3 => ?_⟩
          · rw [List.length_map, List.length_map, List.length_take, List.length_drop]
            exact Nat.le_trans (show min n aD.length + (aD.length - (n + 1)) ≤ 120 by omega) (by decide)
          have g3 := Evl.Ex.new (o := .lst ((aD.take n).map V.ref ++ (aD.drop (n + 1)).map V.ref)) hp3
          have x3 : upd G2 p3 (.lst ((aD.take n).map V.ref ++ (aD.drop (n + 1)).map V.ref)) p3 = some (.lst ((aD.take n ++ aD.drop (n + 1)).map V.ref)) := Eq.trans upd_same (by rw [List.map_append])
          have p3sk := sk_ne (((sE.ex eF).ex g1).ex g2) hp3
          generalize upd G2 p3 (.lst ((aD.take n).map V.ref ++ (aD.drop (n + 1)).map V.ref)) = G3 at g3 x3
          have eG := ((eF.trans g1).trans g2).trans g3
          refine ⟨two, fun t2 ht2 => ⟨_, _, rfl, ?_⟩⟩
          have e9 := Evl.Ex.new (o := .tup [.ref lv, .ref p3]) ht2
          have t2sk := sk_ne (sE.ex eG) ht2
          have bG := bE.trans (But.of_ex (p := sk) (eG.trans e9))
          have wG := (But.of_ex (p := sk) (eG.trans e9)).wo
          obtain ⟨pl, pd⟩ := ds_parts hn2 (fun j a d h1 h2 => (hiE j a d h1 h2).ex wG) n (n + 1)
          have eN : Evl.Ex (Nw HE HF) (wo sk (upd G3 t2 (.tup [.ref lv, .ref p3]))) := fun c o h => wo_at (fun z => by
            rw [z] at h
            obtain ⟨_, _, _, hx, _⟩ := sE
            rw [nw_none h] at hx
            cases hx) (e9 _ _ (g3 _ _ (g2 _ _ (g1 _ _ (Nw.ex _ _ h)))))
          exact ⟨t2, y2, _, _, rfl, bG, ((sE.ex eG).ex e9).le (by omega), hY2.ex eN, ⟨lv, p3, wo_at t2sk upd_same, hTE.ex wG, ⟨_, wo_at p3sk (e9 _ _ x3), pl, pd⟩⟩, shW_sub hW les_len les_mem⟩
        · refine if_f (decide_eq_false c3) ?_
          subst g0
          obtain ⟨d, hd⟩ : ∃ d, ds[n]? = some d := ⟨_, List.getElem?_eq_getElem (by omega)⟩
          obtain ⟨e, he⟩ : ∃ e, ds[n + 1]? = some e := ⟨_, List.getElem?_eq_getElem hn⟩
          obtain ⟨a0, ha0⟩ : ∃ a, aD[n]? = some a := ⟨_, List.getElem?_eq_getElem (by omega)⟩
          obtain ⟨a1, ha1⟩ : ∃ a, aD[n + 1]? = some a := ⟨_, List.getElem?_eq_getElem (by omega)⟩
          have z0 : (aD.map V.ref)[n]? = some (.ref a0) := by rw [List.getElem?_map, ha0]; rfl
          have z1' : (aD.map V.ref)[n + 1]? = some (.ref a1) := by rw [List.getElem?_map, ha1]; rfl
          refine ⟨_, rfl, t, _, _, _, rfl, rfl, SqT.of htE, rfl, _, rfl, _, _, rfl, rfl, ld, _, ((n + 1 : Nat) : Int), _, rfl, rfl, SqL.of hldE, atI_nat z1', ?_⟩
          refine ⟨_, rfl, t, _, _, _, rfl, rfl, SqT.of htE, rfl, _, rfl, ld, _, (n : Int), _, rfl, rfl, SqL.of hldE, atI_nat z0, two, fun pp hpp => ?_⟩
          have g0 := Evl.Ex.new (o := .lst [V.ref a1, V.ref a0]) hpp
          have x0 : upd HE pp (.lst [V.ref a1, V.ref a0]) pp = _ := upd_same
          generalize upd HE pp (.lst [V.ref a1, V.ref a0]) = G0 at g0 x0
          refine ⟨_, rfl, y, dy, _, rfl, g0 _ _ hyy, rfl, _, rfl, y, n, ts, ds, d, e, rfl, (hYE.ex wo_ex).ex g0, hW.ok, hd, he, fun y2 HF hy2 eF hY2 => ?_⟩
          have e0F := g0.trans eF
          refine ⟨_, rfl, t, _, _, _, rfl, rfl, SqT.of (e0F _ _ htE), rfl, _, rfl, t, _, _, _, rfl, rfl, SqT.of (e0F _ _ htE), rfl, _, rfl, (n : Int), rfl, ld, _, rfl, SqL.of (e0F _ _ hldE), fun p1 hp1 => ?_⟩
          have g1 := Evl.Ex.new (o := .lst (cutV (aD.map V.ref) none (some (n : Int)))) hp1
          have x1 : upd HF p1 (.lst (cutV (aD.map V.ref) none (some (n : Int)))) p1 = some (.lst ((aD.take n).map V.ref)) := Eq.trans upd_same (by rw [cut_min, List.map_take])
          generalize upd HF p1 (.lst (cutV (aD.map V.ref) none (some (n : Int)))) = G1 at g1 x1
          refine ⟨_, rfl, p1, pp, _, _, rfl, rfl, x1, g1 _ _ (eF _ _ x0), ?_, fun p3 hp3 => ?_⟩
          · rw [List.length_map, List.length_take]
            exact Nat.le_trans (show min n aD.length + 2 ≤ 120 by omega) (by decide)
          have g3 := Evl.Ex.new (o := .lst ((aD.take n).map V.ref ++ [V.ref a1, V.ref a0])) hp3
          have x3 : upd G1 p3 (.lst ((aD.take n).map V.ref ++ [V.ref a1, V.ref a0])) p3 = some (.lst ((aD.take n ++ [a1, a0]).map V.ref)) := Eq.trans upd_same (by rw [List.map_append]; rfl)
          generalize upd G1 p3 (.lst ((aD.take n).map V.ref ++ [V.ref a1, V.ref a0])) = G3 at g3 x3
          have e03 := (e0F.trans g1).trans g3
          refine ⟨_, rfl, t, _, _, _, rfl, rfl, SqT.of (e03 _ _ htE), rfl, _, rfl, _, _, rfl, rfl, ((n + 2 : Nat) : Int), rfl, ld, _, rfl, SqL.of (e03 _ _ hldE), fun p4 hp4 => ?_⟩
          have g4 := Evl.Ex.new (o := .lst (cutV (aD.map V.ref) (some ((n + 2 : Nat) : Int)) none)) hp4
          have x4 : upd G3 p4 (.lst (cutV (aD.map V.ref) (some ((n + 2 : Nat) : Int)) none)) p4 = some (.lst ((aD.drop (n + 2)).map V.ref)) := Eq.trans upd_same (by rw [cut_drop, List.map_drop])
          generalize upd G3 p4 (.lst (cutV (aD.map V.ref) (some ((n + 2 : Nat) : Int)) none)) = G4 at g4 x4
          refine ⟨p3, p4, _, _, rfl, rfl, g4 _ _ x3, x4, ?_, fun p5 hp5 => ?_⟩
          · rw [List.length_map, List.length_map, List.length_append, List.length_take, List.length_drop]
            exact Nat.le_trans (show min n aD.length + 2 + (aD.length - (n + 2)) ≤ 120 by omega) (by decide)
          have g5 := Evl.Ex.new (o := .lst ((aD.take n ++ [a1, a0]).map V.ref ++ (aD.drop (n + 2)).map V.ref)) hp5
          have x5 : upd G4 p5 (.lst ((aD.take n ++ [a1, a0]).map V.ref ++ (aD.drop (n + 2)).map V.ref)) p5 = some (.lst ((aD.take n ++ [a1, a0] ++ aD.drop (n + 2)).map V.ref)) := Eq.trans upd_same (by rw [← List.map_append])
          have p5sk := sk_ne ((sE.ex e03).ex g4) hp5
          generalize upd G4 p5 (.lst ((aD.take n ++ [a1, a0]).map V.ref ++ (aD.drop (n + 2)).map V.ref)) = G5 at g5 x5
          have eG := (e03.trans g4).trans g5
          refine ⟨two, fun t2 ht2 => ⟨_, _, rfl, ?_⟩⟩
          have e9 := Evl.Ex.new (o := .tup [.ref lv, .ref p5]) ht2
          have t2sk := sk_ne (sE.ex eG) ht2
          have bG := bE.trans (But.of_ex (p := sk) (eG.trans e9))
          have wG := (But.of_ex (p := sk) (eG.trans e9)).wo
          have hiG := fun (j : Nat) (a : Addr) (d : Deed) (h1 : aD[j]? = some a) (h2 : ds[j]? = some d) => (hiE j a d h1 h2).ex wG
          obtain ⟨pl, pd⟩ := ds_app3 (bs := [a1, a0]) (es := [e, d]) hn2 hiG rfl (fun j a d' u1 u2 => by
            match j, u1, u2 with
            | 0, u1, u2 => cases u1; cases u2; exact hiG _ _ _ ha1 he
            | 1, u1, u2 => cases u1; cases u2; exact hiG _ _ _ ha0 hd
            | j + 2, u1, u2 => cases u1) n (n + 2)
          have eN : Evl.Ex (Nw G0 HF) (wo sk (upd G5 t2 (.tup [.ref lv, .ref p5]))) := fun c o h => wo_at (fun z => by
            rw [z] at h
            obtain ⟨_, _, _, hx, _⟩ := sE.ex g0
            rw [nw_none h] at hx
            cases hx) (e9 _ _ (g5 _ _ (g4 _ _ (g3 _ _ (g1 _ _ (Nw.ex _ _ h))))))
          exact ⟨t2, y2, _, _, rfl, bG, ((sE.ex eG).ex e9).le (by omega), hY2.ex eN, ⟨lv, p5, wo_at t2sk upd_same, hTE.ex wG, ⟨_, wo_at p5sk (e9 _ _ x5), pl, pd⟩⟩, shW_sub hW (Nat.le_of_eq (xch_len hd he)) (xch_mem hd he)⟩
      · rintro σ HF ⟨t2, y2, ds2, w10, rfl, bF, sF, hY2, hSh2, hW2⟩
        have hYF := hYD.ex bF.wo
        have hShF := shB hShD bF
        refine ⟨_, rfl, _, rfl, y, t, ts, ds, rfl, hYF.ex wo_ex, shR hShF, hW, fun HG eG => ⟨true, rfl, if_f rfl ?_⟩⟩
        have bG := But.of_ex (p := sk) eG
        exact ⟨t2, y2, ts, ds2, _, _, _, _, _, _, rfl, (((b9.trans b9C).trans bD).trans bF).trans bG, (sF.ex eG).le (by omega), hY2.ex bG.wo, shB hSh2 bG, hW2⟩
    · rintro σ H9 ⟨t, y, ts, ds, v5, v6, v7, v8, v9, v10, rfl, b9, s9, hY, hSh, hW⟩
      refine ⟨_, rfl, _, rfl, y, t, ts, ds, rfl, hY.ex wo_ex, shR hSh, hW, fun HD eD => ?_⟩
      exact kk HD ((b08.trans b9).trans (But.of_ex (p := sk) eD))
end
end V2


namespace V2
open PySem L2
open PySem.Spec PyProof.Rows
theorem sq_ex_but {K : PySem.W.Frag} {H H1 H2 : Hp} {a q : Addr} {xs : List V} (h : SqL K H a xs) (hq : H q = none) (e : Evl.Ex H H1) (b : But q H1 H2) : SqL K H2 a xs := by
  rcases h with h | h
  · left
    have go : ∀ o, H a = some o → H2 a = some o := fun o ho => b a o (ne_of_none ho hq) (e a o ho)
    rcases h with h | ⟨o, h⟩
    · exact .inl (go _ h)
    · exact .inr ⟨o, go _ h⟩
  · exact .inr h
def spLaw (K : PySem.W.Frag) : Sp := fun vs H Q _ => ∃ (a : Addr) (ns : List Int), vs = [.ref a] ∧ SqL K H a (iV ns) ∧ ns.length ≤ 63 ∧ ∀ H', Q (.bl true) H'
structure T6 (mg : Str → Option Value) : Prop where
  rng : mg "range" = none
  len : mg "len" = none
  max : mg "max" = none
  min : mg "min" = none
def Lay (K : PySem.W.Frag) (mg : Str → Option Value) (x : Str) (st : Stmt) (ps : List Str) : Prop := ∃ (f : Addr) (fd : FuncData), Fun K x x st f fd ∧ mg x = some (.ref f) ∧ PySem.W.keepIn K (.ref f) = true ∧ Binds K fd ps []
theorem lay_of {h : Heap} {mg : Str → Option Value} {K : PySem.W.Frag} {w : World} {L : Lk} (X : K.In h) (G : h.Ns mainGlobals mg) (c : L.seen K = L.due w) (i j : Nat) {x : Str} {st : Stmt} {ps : List Str}
    (hi : L.ds[i]? = some ⟨fun K => He.ga K x, x, x, st⟩) (hj : L.fb[j]? = some (bGlo x))
    (hb : ∀ (kV doc pm : Value) (an : Option Addr) (cdv ct : Value) (us : List Value), us.length = ps.length → bindArgs (PySem.W.fnOf x x (defArgs st) (defBody st) (defScope st) .none kV doc pm an cdv ct) ⟨us, []⟩ = pure (ps.zip us)) : Lay K mg x st ps := by
  obtain ⟨fd, F⟩ := Lk.df c i hi
  exact ⟨_, fd, F, He.glo_ok X G (Lk.fact c j hj), F.kp, Fun.binds F hb⟩
/-- a method, a getter -/
def LayM (K : PySem.W.Frag) (x y : Str) (st : Stmt) (f : Addr) (ps : List Str) : Prop := ∃ fd : FuncData, Fun K x y st f fd ∧ Binds K fd ps []
theorem laym_of {K : PySem.W.Frag} {w : World} {L : Lk} (c : L.seen K = L.due w) (i : Nat) {x y : Str} {st : Stmt} {a : PySem.W.Frag → Addr} {ps : List Str} (hi : L.ds[i]? = some ⟨a, x, y, st⟩)
    (hb : ∀ (kV doc pm : Value) (an : Option Addr) (cdv ct : Value) (us : List Value), us.length = ps.length → bindArgs (PySem.W.fnOf x y (defArgs st) (defBody st) (defScope st) .none kV doc pm an cdv ct) ⟨us, []⟩ = pure (ps.zip us)) : LayM K x y st (a K) ps := by
  obtain ⟨fd, F⟩ := Lk.df c i hi
  exact ⟨fd, F, Fun.binds F hb⟩
section
variable {base : Heap} {mg : Str → Option Value} {K : PySem.W.Frag} {w : World} {P : Program}
theorem Lay.cal {x : Str} {st : Stmt} {ps : List Str} {k : Nat} {sp : Sp} (L : Lay K mg x st ps) (h : ∀ f fd, Fun K x x st f fd → FnOk P w K mg base CX0 k f fd ps sp) : Cal P w K mg base k x ps sp := by
  obtain ⟨f, fd, F, m, kp, b⟩ := L
  exact ⟨f, fd, h f fd F, m, kp, b⟩
theorem Lay.calG {x : Str} {st : Stmt} {ps : List Str} {k : Nat} {sp : Sp} (L : Lay K mg x st ps) (h : ∀ f fd, Fun K x x st f fd → FnG P w K mg base k f fd ps sp) : CalG P w K mg base k x ps sp := by
  obtain ⟨f, fd, F, m, kp, b⟩ := L
  exact ⟨f, fd, h f fd F, m, kp, b⟩
end
end V2


namespace V2
open PySem L2
open PySem.Spec PyProof.Rows
theorem nodig_ok {K : PySem.W.Frag} (c : bNoDig K = true) : NoDig K := He.eqO_ok c
theorem rel_gW2 {vs zs : List V} {us ws : List Value} (r1 : Vals vs us) (r2 : Vals zs ws) : Vals (gW2 vs zs) (gW2 us ws) := by
  cases r1 with
  | nil => exact .nil
  | cons a r =>
    cases r with
    | cons b r => exact .nil
    | nil =>
      cases r2 with
      | nil => exact .nil
      | cons b r2 =>
        cases r2 with
        | nil => exact .nil
        | cons c r2 =>
          cases r2 with
          | nil => exact .cons a (.cons c (.cons b .nil))
          | cons d r2 => exact .nil
section
variable {base : Heap} {mg : Str → Option Value} {K : PySem.W.Frag} {w : World} {P : Program}
theorem Lay.calX {x : Str} {st : Stmt} {ps : List Str} {k : Nat} {sp : Sp} (L : Lay K mg x st ps) (h : ∀ f fd, Fun K x x st f fd → FnOk P w K mg base (L2.CX P w) k f fd ps sp) : CalX P w K mg base k x ps sp := by
  obtain ⟨f, fd, F, m, kp, b⟩ := L
  exact ⟨f, fd, h f fd F, m, kp, b⟩
theorem ok_law {f : Addr} {fd : FuncData} (F : Fun K "law" "law" s_law f fd) (T : T6 mg) (cP : Cal P w K mg base 1 "_law_pv_sack" p_l_sack (spSack K)) (cR : CalG P w K mg base 10 "_law_pv_checked" p_l_checked spChk13) : FnG P w K mg base 11 f fd p_law (spLaw K) := by
  refine Fun.okG F sc_law (fun vs H Q E h => ?_) (fun cdv A outer s H vs Q E hg hr h => ?_)
  · obtain ⟨a, ns, rfl, _⟩ := h
    rfl
  · obtain ⟨a, ns, rfl, hS, hl, k⟩ := h
    have nd := sc_law.nd
    have r1 : Room 1 _ := hr.mono (by decide)
    refine ⟨_, pss_cons (ps_for PassesOwn.never rfl (pi_range1 (by rfl) T.rng (pa_cons (pe_callB (call_max2 rfl) (by rfl) T.max (by decide +kernel) (pa_cons pe_int (pa_cons (pe_callB (call_min2 rfl) (by rfl) T.min (by decide +kernel) (pa_cons pe_int (pa_cons (pe_callB call_len_seq (by rfl) T.len PySem.boot_len (pa_cons (pv 0) pa_nil)) pa_nil))) pa_nil))) pa_nil)) (pg_name (i := 1) nd rfl (Or.inl rfl)) (pss_one (ps_if (pt_not (pt_val (pe_cg cR hg hr (pa_cons (pe_c cP r1 (pa_cons (pv 0) (pa_cons (pv 1) pa_nil))) pa_nil)))) (pss_one (ps_ret pe_bl)) pss_nil)))
      (pss_one (ps_ret pe_bl)), ?_⟩
    refine ⟨_, rfl, a, _, rfl, .inl hS, _, _, rfl, _, _, rfl, _, rfl, ?_, ?_, ?_⟩
    · split <;> split <;> omega
    · split <;> split <;> omega
    have hb : (if (if ((iV ns).length : Int) < 3 then ((iV ns).length : Int) else 3) > 1 then (if ((iV ns).length : Int) < 3 then ((iV ns).length : Int) else 3) else 1 : Int) ≤ 3 := by split <;> split <;> omega
    generalize (if (if ((iV ns).length : Int) < 3 then ((iV ns).length : Int) else 3) > 1 then (if ((iV ns).length : Int) < 3 then ((iV ns).length : Int) else 3) else 1 : Int) = n at hb
    refine for_range (n := n.toNat) (fun i σ H' => ∃ v1, σ = [some (.ref a), v1] ∧ SqL K H' a (iV ns)) ⟨none, rfl, hS⟩ ?_ ?_
    · rintro i σ H1 hi ⟨v1, rfl, hS1⟩
      refine ⟨_, rfl, _, rfl, a, ns, i, ?_, hS1, hl, by omega, fun q H2 hq e2 h2 => ?_⟩
      · rw [Int.zero_add]
        rfl
      exact ⟨q, 0, rfl, h2, by omega, fun H3 b3 => ⟨true, rfl, if_f rfl ⟨_, rfl, sq_ex_but hS1 hq e2 b3⟩⟩⟩
    · rintro σ H1 ⟨v1, rfl, hS1⟩
      exact k H1
end
theorem whole {P : Program} {w : World} {K : PySem.W.Frag} {h : Heap} {mg : Str → Option Value} {fa : Addr} (X : K.In h) (G : h.Ns mainGlobals mg) (hfa : mg ("law" : Str) = some (.ref fa)) (c : lk.seen K = lk.due w) :
    ∃ fd : FuncData, (∀ (s : Shared) (v : Value), BindsTo s fd ⟨[v], []⟩ [("script", v)]) ∧ ∀ base : Heap, K.In base → base.Ns mainGlobals mg → FnG P w K mg base 11 fa fd p_law (spLaw K) := by
  have z_len : mg "len" = none := (He.free_ok X G (Lk.fact c 69 (f := bFree "len") rfl))
  have z_max : mg "max" = none := (He.free_ok X G (Lk.fact c 71 (f := bFree "max") rfl))
  have z_min : mg "min" = none := (He.free_ok X G (Lk.fact c 72 (f := bFree "min") rfl))
  have z_abs : mg "abs" = none := (He.free_ok X G (Lk.fact c 63 (f := bFree "abs") rfl))
  have z_int : mg "int" = none := (He.free_ok X G (Lk.fact c 67 (f := bFree "int") rfl))
  have z_range : mg "range" = none := (He.free_ok X G (Lk.fact c 73 (f := bFree "range") rfl))
  have z_list : mg "list" = none := (He.free_ok X G (Lk.fact c 70 (f := bFree "list") rfl))
  have z_isinstance : mg "isinstance" = none := (He.free_ok X G (Lk.fact c 68 (f := bFree "isinstance") rfl))
  have z_bool : mg "bool" = none := (He.free_ok X G (Lk.fact c 65 (f := bFree "bool") rfl))
  have z_tuple : mg "tuple" = none := (He.free_ok X G (Lk.fact c 76 (f := bFree "tuple") rfl))
  have z_all : mg "all" = none := (He.free_ok X G (Lk.fact c 64 (f := bFree "all") rfl))
  have z_str : mg "str" = none := (He.free_ok X G (Lk.fact c 75 (f := bFree "str") rfl))
  have z_repr : mg "repr" = none := (He.free_ok X G (Lk.fact c 74 (f := bFree "repr") rfl))
  have z_enumerate : mg "enumerate" = none := (He.free_ok X G (Lk.fact c 66 (f := bFree "enumerate") rfl))
  have z_gcd : mg "gcd" = some (.builtin "math.gcd") := (blt_ok X G (Lk.fact c 77 (f := bBlt "gcd" "math.gcd") rfl))
  have t0 : T0 mg := ⟨z_len, z_max, z_abs, z_int⟩
  have t3 : T3 mg := ⟨z_isinstance, z_int, z_bool, z_list, z_tuple, z_len, z_all, z_gcd⟩
  have t5 : T5 mg := ⟨z_isinstance, z_list, z_tuple⟩
  have t8 : T8 mg := ⟨t5, z_range, z_len, z_repr⟩
  have hND : NoDig K := nodig_ok (Lk.fact c 78 (f := bNoDig) rfl)
  obtain ⟨es, nT, D⟩ := Lk.tab c 0 rfl
  obtain ⟨t_0, d_0⟩ := dint_ok (Lk.fact c 58 (f := bInt "THINGS" "open" 2) rfl)
  obtain ⟨t_1, d_1⟩ := dint_ok (Lk.fact c 59 (f := bInt "THINGS" "pour" 3) rfl)
  obtain ⟨t_2, d_2⟩ := dint_ok (Lk.fact c 60 (f := bInt "THINGS" "scoop" 3) rfl)
  obtain ⟨t_3, d_3⟩ := dint_ok (Lk.fact c 61 (f := bInt "THINGS" "move" 4) rfl)
  obtain ⟨t_4, d_4⟩ := dint_ok (Lk.fact c 62 (f := bInt "THINGS" "unless" 3) rfl)
  have th : Th K w mg (He.ga K "THINGS") es nT t_0 t_1 t_2 t_3 t_4 := ⟨(He.glo_ok X G (Lk.fact c 57 (f := bGlo "THINGS") rfl)), D, d_0, d_1, d_2, d_3, d_4⟩
  have L_order_of_fractions : Lay K mg "order_of_fractions" s_order_of_fractions p_order_of_fractions := lay_of X G c 0 0 rfl rfl (fun _ _ _ _ _ _ us hl => match us, hl with | [_, _], _ => rfl)
  have L_sign_of : Lay K mg "sign_of" s_sign_of p_sign_of := lay_of X G c 1 1 rfl rfl (fun _ _ _ _ _ _ us hl => match us, hl with | [_], _ => rfl)
  have L_copied : Lay K mg "copied" s_copied p_copied := lay_of X G c 2 2 rfl rfl (fun _ _ _ _ _ _ us hl => match us, hl with | [_], _ => rfl)
  have L_is_integer : Lay K mg "is_integer" s_is_integer p_is_integer := lay_of X G c 3 3 rfl rfl (fun _ _ _ _ _ _ us hl => match us, hl with | [_], _ => rfl)
  have L_is_fraction : Lay K mg "is_fraction" s_is_fraction p_is_fraction := lay_of X G c 4 4 rfl rfl (fun _ _ _ _ _ _ us hl => match us, hl with | [_], _ => rfl)
  have L_is_amount : Lay K mg "is_amount" s_is_amount p_is_amount := lay_of X G c 5 5 rfl rfl (fun _ _ _ _ _ _ us hl => match us, hl with | [_], _ => rfl)
  have L_is_tank : Lay K mg "is_tank" s_is_tank p_is_tank := lay_of X G c 6 6 rfl rfl (fun _ _ _ _ _ _ us hl => match us, hl with | [_], _ => rfl)
  have L_check_tanks : Lay K mg "check_tanks" s_check_tanks p_check_tanks := lay_of X G c 7 7 rfl rfl (fun _ _ _ _ _ _ us hl => match us, hl with | [_], _ => rfl)
  have L_is_ascending : Lay K mg "is_ascending" s_is_ascending p_is_ascending := lay_of X G c 8 8 rfl rfl (fun _ _ _ _ _ _ us hl => match us, hl with | [_], _ => rfl)
  have L_is_step : Lay K mg "is_step" s_is_step p_is_step := lay_of X G c 9 9 rfl rfl (fun _ _ _ _ _ _ us hl => match us, hl with | [_], _ => rfl)
  have L_tanks_of : Lay K mg "tanks_of" s_tanks_of p_tanks_of := lay_of X G c 10 10 rfl rfl (fun _ _ _ _ _ _ us hl => match us, hl with | [_], _ => rfl)
  have L_check_numbers : Lay K mg "check_numbers" s_check_numbers p_check_numbers := lay_of X G c 11 11 rfl rfl (fun _ _ _ _ _ _ us hl => match us, hl with | [_, _], _ => rfl)
  have L_check_part : Lay K mg "check_part" s_check_part p_check_part := lay_of X G c 12 12 rfl rfl (fun _ _ _ _ _ _ us hl => match us, hl with | [_], _ => rfl)
  have L_check_step : Lay K mg "check_step" s_check_step p_check_step := lay_of X G c 13 13 rfl rfl (fun _ _ _ _ _ _ us hl => match us, hl with | [_, _], _ => rfl)
  have L_check_index : Lay K mg "check_index" s_check_index p_check_index := lay_of X G c 14 14 rfl rfl (fun _ _ _ _ _ _ us hl => match us, hl with | [_, _], _ => rfl)
  have L_check_exchange : Lay K mg "check_exchange" s_check_exchange p_check_exchange := lay_of X G c 15 15 rfl rfl (fun _ _ _ _ _ _ us hl => match us, hl with | [_, _], _ => rfl)
  have L_l_sack : Lay K mg "_law_pv_sack" s_l_sack p_l_sack := lay_of X G c 16 16 rfl rfl (fun _ _ _ _ _ _ us hl => match us, hl with | [_, _], _ => rfl)
  have L_l_coin : Lay K mg "_law_pv_coin" s_l_coin p_l_coin := lay_of X G c 17 17 rfl rfl (fun _ _ _ _ _ _ us hl => match us, hl with | [_, _], _ => rfl)
  have L_l_shared : Lay K mg "_law_pv_shared" s_l_shared p_l_shared := lay_of X G c 18 18 rfl rfl (fun _ _ _ _ _ _ us hl => match us, hl with | [_, _], _ => rfl)
  have L_l_ratio : Lay K mg "_law_pv_ratio" s_l_ratio p_l_ratio := lay_of X G c 19 19 rfl rfl (fun _ _ _ _ _ _ us hl => match us, hl with | [_, _], _ => rfl)
  have L_l_copied : Lay K mg "_law_pv_copied" s_l_copied p_l_copied := lay_of X G c 20 20 rfl rfl (fun _ _ _ _ _ _ us hl => match us, hl with | [_], _ => rfl)
  have L_l_lists : Lay K mg "_law_pv_lists" s_l_lists p_l_lists := lay_of X G c 21 21 rfl rfl (fun _ _ _ _ _ _ us hl => match us, hl with | [_], _ => rfl)
  have L_l_marked : Lay K mg "_law_pv_marked" s_l_marked p_l_marked := lay_of X G c 22 22 rfl rfl (fun _ _ _ _ _ _ us hl => match us, hl with | [_], _ => rfl)
  have L_l_right : Lay K mg "_law_pv_right" s_l_right p_l_right := lay_of X G c 23 23 rfl rfl (fun _ _ _ _ _ _ us hl => match us, hl with | [_, _], _ => rfl)
  have L_l_part : Lay K mg "_law_pv_part" s_l_part p_l_part := lay_of X G c 24 24 rfl rfl (fun _ _ _ _ _ _ us hl => match us, hl with | [_, _], _ => rfl)
  have L_l_vessels : Lay K mg "_law_pv_vessels" s_l_vessels p_l_vessels := lay_of X G c 25 25 rfl rfl (fun _ _ _ _ _ _ us hl => match us, hl with | [_, _, _], _ => rfl)
  have L_l_two : Lay K mg "_law_pv_two" s_l_two p_l_two := lay_of X G c 26 26 rfl rfl (fun _ _ _ _ _ _ us hl => match us, hl with | [_, _], _ => rfl)
  have L_l_deed : Lay K mg "_law_pv_deed" s_l_deed p_l_deed := lay_of X G c 27 27 rfl rfl (fun _ _ _ _ _ _ us hl => match us, hl with | [_, _, _, _], _ => rfl)
  have L_l_shape : Lay K mg "_law_pv_shape" s_l_shape p_l_shape := lay_of X G c 28 28 rfl rfl (fun _ _ _ _ _ _ us hl => match us, hl with | [_], _ => rfl)
  have L_l_long : Lay K mg "_law_pv_long" s_l_long p_l_long := lay_of X G c 29 29 rfl rfl (fun _ _ _ _ _ _ us hl => match us, hl with | [_], _ => rfl)
  have L_l_script : Lay K mg "_law_pv_script" s_l_script p_l_script := lay_of X G c 30 30 rfl rfl (fun _ _ _ _ _ _ us hl => match us, hl with | [_], _ => rfl)
  have L_l_same_script : Lay K mg "_law_pv_same_script" s_l_same_script p_l_same_script := lay_of X G c 31 31 rfl rfl (fun _ _ _ _ _ _ us hl => match us, hl with | [_, _], _ => rfl)
  have L_l_at_index : Lay K mg "_law_pv_at_index" s_l_at_index p_l_at_index := lay_of X G c 32 32 rfl rfl (fun _ _ _ _ _ _ us hl => match us, hl with | [_, _, _], _ => rfl)
  have L_l_indexes_right : Lay K mg "_law_pv_indexes_right" s_l_indexes_right p_l_indexes_right := lay_of X G c 33 33 rfl rfl (fun _ _ _ _ _ _ us hl => match us, hl with | [_, _, _], _ => rfl)
  have L_l_near : Lay K mg "_law_pv_near" s_l_near p_l_near := lay_of X G c 34 34 rfl rfl (fun _ _ _ _ _ _ us hl => match us, hl with | [_, _], _ => rfl)
  have L_l_equal_right : Lay K mg "_law_pv_equal_right" s_l_equal_right p_l_equal_right := lay_of X G c 35 35 rfl rfl (fun _ _ _ _ _ _ us hl => match us, hl with | [_, _, _], _ => rfl)
  have L_l_checked : Lay K mg "_law_pv_checked" s_l_checked p_l_checked := lay_of X G c 36 36 rfl rfl (fun _ _ _ _ _ _ us hl => match us, hl with | [_], _ => rfl)
  obtain ⟨fd_TE_init, F_TE_init, b_TE_init⟩ : LayM K "__init__" "TankError.__init__" s_TE_init _ p_TE_init := laym_of c 38 rfl (fun _ _ _ _ _ _ us hl => match us, hl with | [_, _], _ => rfl)
  obtain ⟨fd_Sc_init, F_Sc_init, b_Sc_init⟩ : LayM K "__init__" "Script.__init__" s_Sc_init _ p_Sc_init := laym_of c 39 rfl (fun _ _ _ _ _ _ us hl => match us, hl with | [_, _, _], _ => rfl)
  obtain ⟨fd_Sc_tanks, F_Sc_tanks, b_Sc_tanks⟩ : LayM K "tanks" "Script.tanks" s_Sc_tanks _ p_Sc_tanks := laym_of c 40 rfl (fun _ _ _ _ _ _ us hl => match us, hl with | [_], _ => rfl)
  obtain ⟨fd_Sc_steps, F_Sc_steps, b_Sc_steps⟩ : LayM K "steps" "Script.steps" s_Sc_steps _ p_Sc_steps := laym_of c 41 rfl (fun _ _ _ _ _ _ us hl => match us, hl with | [_], _ => rfl)
  obtain ⟨fd_Sc_unknown, F_Sc_unknown, b_Sc_unknown⟩ : LayM K "unknown" "Script.unknown" s_Sc_unknown _ p_Sc_unknown := laym_of c 42 rfl (fun _ _ _ _ _ _ us hl => match us, hl with | [_], _ => rfl)
  obtain ⟨fd_Sc_getitem, F_Sc_getitem, b_Sc_getitem⟩ : LayM K "__getitem__" "Script.__getitem__" s_Sc_getitem _ p_Sc_getitem := laym_of c 43 rfl (fun _ _ _ _ _ _ us hl => match us, hl with | [_, _], _ => rfl)
  obtain ⟨fd_Sc_without, F_Sc_without, b_Sc_without⟩ : LayM K "without" "Script.without" s_Sc_without _ p_Sc_without := laym_of c 44 rfl (fun _ _ _ _ _ _ us hl => match us, hl with | [_, _], _ => rfl)
  obtain ⟨fd_Sc_exchanged, F_Sc_exchanged, b_Sc_exchanged⟩ : LayM K "exchanged" "Script.exchanged" s_Sc_exchanged _ p_Sc_exchanged := laym_of c 45 rfl (fun _ _ _ _ _ _ us hl => match us, hl with | [_, _], _ => rfl)
  obtain ⟨fd_Sc_len, F_Sc_len, b_Sc_len⟩ : LayM K "__len__" "Script.__len__" s_Sc_len _ p_Sc_len := laym_of c 46 rfl (fun _ _ _ _ _ _ us hl => match us, hl with | [_], _ => rfl)
  obtain ⟨fd_Sc_eq, F_Sc_eq, b_Sc_eq⟩ : LayM K "__eq__" "Script.__eq__" s_Sc_eq _ p_Sc_eq := laym_of c 47 rfl (fun _ _ _ _ _ _ us hl => match us, hl with | [_, _], _ => rfl)
  have cs : ScC K (He.ga K "Script") _ _ _ _ _ := ⟨(He.cls_ok (Lk.fact c 44 (f := bCls "Script") rfl)), (He.noat_ok (Lk.fact c 56 (f := bNo "Script" "_tanks") rfl)), (He.noat_ok (Lk.fact c 55 (f := bNo "Script" "_steps") rfl)), (He.mkr_ok (Lk.fact c 45 (f := bMk "Script") rfl)), (prop_ok (Lk.fact c 46 (f := bProp "Script" "tanks") rfl)), (prop_ok (Lk.fact c 47 (f := bProp "Script" "steps") rfl))⟩
  have hgS : mg "Script" = some (.ref (He.ga K "Script")) := (He.glo_ok X G (Lk.fact c 43 (f := bGlo "Script") rfl))
  have k_without : KBn K fd_Sc_without p_Sc_without 1 ["index"] (fun us ws => us ++ ws) (fun us ws => us ++ ws) := by
    obtain ⟨ow, oe, kw, dc, pn, am, cdv, cu, sl, rfl, lk, hcd⟩ := F_Sc_without.ex
    exact ⟨fun s us ws X h1 h2 => match us, ws, h1, h2 with | [_], [_], _, _ => .of_eq rfl, fun r1 r2 => r1.append r2⟩
  have k_exchanged : KBn K fd_Sc_exchanged p_Sc_exchanged 1 ["index"] (fun us ws => us ++ ws) (fun us ws => us ++ ws) := by
    obtain ⟨ow, oe, kw, dc, pn, am, cdv, cu, sl, rfl, lk, hcd⟩ := F_Sc_exchanged.ex
    exact ⟨fun s us ws X h1 h2 => match us, ws, h1, h2 with | [_], [_], _, _ => .of_eq rfl, fun r1 r2 => r1.append r2⟩
  have kI : KBn K fd_Sc_init p_Sc_init 1 ["steps", "tanks"] (fun us ws => gW2 us ws) (fun us ws => gW2 us ws) := by
    obtain ⟨ow, oe, kw, dc, pn, am, cdv, cu, sl, rfl, lk, hcd⟩ := F_Sc_init.ex
    exact ⟨fun s us ws X h1 h2 => match us, ws, h1, h2 with | [_], [_, _], _, _ => .of_eq rfl, fun r1 r2 => rel_gW2 r1 r2⟩
  obtain ⟨fdw, Fw⟩ := Lk.df c 37 rfl
  have efa := hfa.symm.trans (He.glo_ok X G (Lk.fact c 37 (f := bGlo "law") rfl))
  cases efa
  have main : ∀ base : Heap, K.In base → base.Ns mainGlobals mg → FnG P w K mg base 11 (He.ga K "law") fdw p_law (spLaw K) := fun base _ _ => by
    have isint : Cal P w K mg base 1 "is_integer" p_is_integer spInt := L_is_integer.cal fun f fd F => ok_is_integer F t3
    have isfr : Cal P w K mg base 2 "is_fraction" p_is_fraction spIsFr := L_is_fraction.cal fun f fd F => ok_is_fraction F t3 isint
    have cp0 : Cal P w K mg base 1 "copied" p_copied (spCp 0) := L_copied.cal fun f fd F => ok_copied0 F t5
    have cp1 : Cal P w K mg base 2 "copied" p_copied (spCp 1) := L_copied.cal fun f fd F => ok_copiedS F t5 cp0
    have cp2 : Cal P w K mg base 3 "copied" p_copied (spCp 2) := L_copied.cal fun f fd F => ok_copiedS F t5 cp1
    have amt : Cal P w K mg base 2 "is_amount" p_is_amount spAmt := L_is_amount.cal fun f fd F => ok_is_amount F isint
    have tank : Cal P w K mg base 3 "is_tank" p_is_tank spTank := L_is_tank.cal fun f fd F => ok_is_tank F t3 isint amt
    have chkT : Cal P w K mg base 4 "check_tanks" p_check_tanks spChkT := L_check_tanks.cal fun f fd F => ok_check_tanks F z_len tank
    have asc : Cal P w K mg base 2 "is_ascending" p_is_ascending spAsc := L_is_ascending.cal fun f fd F => ok_is_ascending F t3 z_range isint
    have isstep : Cal P w K mg base 3 "is_step" p_is_step spStep := L_is_step.cal fun f fd F => ok_is_step F t3 z_str th asc amt
    have sgn_ : Cal P w K mg base 1 "sign_of" p_sign_of spSgn := L_sign_of.cal fun f fd F => ok_sign_of F
    have ord_ : Cal P w K mg base 2 "order_of_fractions" p_order_of_fractions spOrd := L_order_of_fractions.cal fun f fd F => ok_order F sgn_
    have tof : ∀ n, Cal P w K mg base 1 "tanks_of" p_tanks_of (spTof n) := fun n => L_tanks_of.cal fun f fd F => ok_tanks_of F
    have nums : Cal P w K mg base 3 "check_numbers" p_check_numbers spNums := L_check_numbers.cal fun f fd F => ok_check_numbers F amt
    have chkP : Cal P w K mg base 3 "check_part" p_check_part spPart := L_check_part.cal fun f fd F => ok_check_part F isfr ord_
    have chkS : Cal P w K mg base 4 "check_step" p_check_step spChkS := L_check_step.cal fun f fd F => ok_check_step F isstep tof nums chkP
    have cp3 : Cal P w K mg base 4 "copied" p_copied (spCp 3) := L_copied.cal fun f fd F => ok_copiedS F t5 cp2
    have si := ok_Sc_init (P := P) (w := w) (mg := mg) (base := base) F_Sc_init z_len cs cp2 cp3 chkT chkS
    have chkI : Cal P w K mg base 3 "check_index" p_check_index spCi := L_check_index.cal fun f fd F => ok_check_index F amt
    have chkX : Cal P w K mg base 4 "check_exchange" p_check_exchange spCx := L_check_exchange.cal fun f fd F => ok_check_exchange F chkI
    have ct0 : Cal P w K mg base 1 "copied" p_copied (spCt 0) := L_copied.cal fun f fd F => ok_ct0 F t5
    have ct1 : Cal P w K mg base 2 "copied" p_copied (spCt 1) := L_copied.cal fun f fd F => ok_ctS F t5 ct0
    have ct2 : Cal P w K mg base 3 "copied" p_copied (spCt 2) := L_copied.cal fun f fd F => ok_ctS F t5 ct1
    have ct3 : Cal P w K mg base 4 "copied" p_copied (spCt 3) := L_copied.cal fun f fd F => ok_ctS F t5 ct2
    have st := ok_Sc_tanksT (P := P) (w := w) (mg := mg) (base := base) F_Sc_tanks cs ct2
    have ss := ok_Sc_stepsT (P := P) (w := w) (mg := mg) (base := base) F_Sc_steps cs ct3
    have sw := ok_Sc_withoutN (P := P) (w := w) (mg := mg) (base := base) F_Sc_without z_len hgS cs si b_Sc_init chkI
    have sx := ok_Sc_exchangedN (P := P) (w := w) (mg := mg) (base := base) F_Sc_exchanged z_len hgS cs si b_Sc_init chkX
    have ec : EC K (He.ga K "UnknownStep") (eI K) := err_ok (Lk.fact c 41 (f := bErr "UnknownStep") rfl)
    have gl : mg "UnknownStep" = some (.ref (He.ga K "UnknownStep")) := (He.glo_ok X G (Lk.fact c 40 (f := bGlo "UnknownStep") rfl))
    have glA : mg "TankError" = some (.ref (He.ga K "TankError")) := (He.glo_ok X G (Lk.fact c 39 (f := bGlo "TankError") rfl))
    have eg : EG K (eI K) := eg_ok (Lk.fact c 38 (f := bEG) rfl)
    have ti := ok_TE_init (P := P) (w := w) (mg := mg) (base := base) F_TE_init
    have amtB : Cal P w K mg base 2 "is_amount" p_is_amount spAmtB := L_is_amount.cal fun f fd F => ok_is_amountB F isint
    have chkIX : CalX P w K mg base 3 "check_index" p_check_index (spCiX (He.ga K "UnknownStep")) := L_check_index.calX fun f fd F => ok_check_indexX F amtB ct0 ec eg gl ti b_TE_init
    have chkXX : CalX P w K mg base 4 "check_exchange" p_check_exchange (spCxX (He.ga K "UnknownStep")) := L_check_exchange.calX fun f fd F => ok_check_exchangeX F chkIX ec eg gl ti b_TE_init
    have swX := ok_Sc_withoutX (P := P) (w := w) (mg := mg) (base := base) F_Sc_without z_len hgS cs si b_Sc_init chkIX
    have sxX := ok_Sc_exchangedX (P := P) (w := w) (mg := mg) (base := base) F_Sc_exchanged z_len hgS cs si b_Sc_init chkXX
    have gi0 := ok_Sc_getitem0 (P := P) (w := w) (mg := mg) (base := base) F_Sc_getitem z_len cs chkI ct2
    have giX := ok_Sc_getitem (P := P) (w := w) (mg := mg) (base := base) F_Sc_getitem z_len cs chkIX ct2
    have su := ok_Sc_unknown (P := P) (w := w) (mg := mg) (base := base) F_Sc_unknown cs
    have sl := ok_Sc_len (P := P) (w := w) (mg := mg) (base := base) F_Sc_len z_len cs
    have sq := ok_Sc_eq (P := P) (w := w) (mg := mg) (base := base) F_Sc_eq cs z_isinstance hgS (fun {H a dx fs} e => ty_ok (Lk.fact c 38 (f := bEG) rfl) (Lk.fact c 54 (f := bTy "Script") rfl) cs.cls e)
    have eqc := eqc_ok (Lk.fact c 79 (f := bNe "Script") rfl) (Lk.fact c 53 (f := bMeth "Script" "__eq__") rfl)
    have gic := gic_ok (Lk.fact c 80 (f := bFi "Script" "__getitem__") rfl) (Lk.fact c 49 (f := bMeth "Script" "__getitem__") rfl)
    obtain ⟨fSh, fdSh, FSh, msh, kSh, bSh⟩ := id L_l_shared
    obtain ⟨fRa, fdRa, FRa, mra, kRa, bRa⟩ := id L_l_ratio
    have l_coin : Cal P w K mg base 1 "_law_pv_coin" p_l_coin spCoin := L_l_coin.cal fun f fd F => ok_coin F t0
    have l_sack : Cal P w K mg base 1 "_law_pv_sack" p_l_sack (spSack K) := L_l_sack.cal fun f fd F => ok_sack F t0
    have l_shared : Cal P w K mg base 1 "_law_pv_shared" p_l_shared spShared := L_l_shared.cal fun f fd F => ok_shared F (⟨t0, z_range, z_list, msh, mra⟩ : T1 mg _ _)
    have l_ratio : Cal P w K mg base 2 "_law_pv_ratio" p_l_ratio spRatio := L_l_ratio.cal fun f fd F => ok_ratio F t0 l_shared
    have l_part : Cal P w K mg base 3 "_law_pv_part" p_l_part spPt := L_l_part.cal fun f fd F => ok_part F l_coin l_ratio
    have l_two : Cal P w K mg base 2 "_law_pv_two" p_l_two spTwo2 := L_l_two.cal fun f fd F => ok_two F t0 l_coin
    have l_vessels : Cal P w K mg base 2 "_law_pv_vessels" p_l_vessels spVats := L_l_vessels.cal fun f fd F => ok_vessels F z_range z_min l_coin
    have lc0 : Cal P w K mg base 1 "_law_pv_copied" p_l_copied (spCp 0) := L_l_copied.cal fun f fd F => ok_lcopied0 F t5
    have lc1 : Cal P w K mg base 2 "_law_pv_copied" p_l_copied (spCp 1) := L_l_copied.cal fun f fd F => ok_lcopiedS F t5 lc0
    have lc2 : Cal P w K mg base 3 "_law_pv_copied" p_l_copied (spCp 2) := L_l_copied.cal fun f fd F => ok_lcopiedS F t5 lc1
    have l_deed : Cal P w K mg base 4 "_law_pv_deed" p_l_deed spDeed := L_l_deed.cal fun f fd F => ok_deed F z_range z_len l_coin l_part l_two
    have l_long : Cal P w K mg base 5 "_law_pv_long" p_l_long spLong := L_l_long.cal fun f fd F => ok_long F z_range l_coin l_vessels l_deed
    have l_shape : Cal P w K mg base 5 "_law_pv_shape" p_l_shape spShape := L_l_shape.cal fun f fd F => ok_shape F z_range z_int l_coin l_vessels l_deed
    have lc3 : Cal P w K mg base 4 "_law_pv_copied" p_l_copied (spCp 3) := L_l_copied.cal fun f fd F => ok_lcopiedS F t5 lc2
    have lt0 : Cal P w K mg base 1 "_law_pv_copied" p_l_copied (spCt 0) := L_l_copied.cal fun f fd F => ok_lct0 F t5
    have lt1 : Cal P w K mg base 2 "_law_pv_copied" p_l_copied (spCt 1) := L_l_copied.cal fun f fd F => ok_lctS F t5 lt0
    have lt2 : Cal P w K mg base 3 "_law_pv_copied" p_l_copied (spCt 2) := L_l_copied.cal fun f fd F => ok_lctS F t5 lt1
    have lt3 : Cal P w K mg base 4 "_law_pv_copied" p_l_copied (spCt 3) := L_l_copied.cal fun f fd F => ok_lctS F t5 lt2
    have lt4 : Cal P w K mg base 5 "_law_pv_copied" p_l_copied (spCt 4) := L_l_copied.cal fun f fd F => ok_lctS F t5 lt3
    have ls0 : Cal P w K mg base 1 "_law_pv_lists" p_l_lists (spLs 0) := L_l_lists.cal fun f fd F => ok_ls0 F t8
    have ls1 : Cal P w K mg base 2 "_law_pv_lists" p_l_lists (spLs 1) := L_l_lists.cal fun f fd F => ok_lsS F t8 ls0
    have ls2 : Cal P w K mg base 3 "_law_pv_lists" p_l_lists (spLs 2) := L_l_lists.cal fun f fd F => ok_lsS F t8 ls1
    have ls3 : Cal P w K mg base 4 "_law_pv_lists" p_l_lists (spLs 3) := L_l_lists.cal fun f fd F => ok_lsS F t8 ls2
    have ls4 : Cal P w K mg base 5 "_law_pv_lists" p_l_lists (spLs 4) := L_l_lists.cal fun f fd F => ok_lsS F t8 ls3
    have l_mk : CalG P w K mg base 6 "_law_pv_marked" p_l_marked (spMkW 4) := L_l_marked.calG fun f fd F => ok_markedW F hND t8 ls4
    have l_rt : CalG P w K mg base 7 "_law_pv_right" p_l_right (spRtW 4) := L_l_right.calG fun f fd F => ok_rightW F hND t8 lt4 (by decide) l_mk
    have l_sc : Cal P w K mg base 7 "_law_pv_script" p_l_script (spScr (He.ga K "Script")) := L_l_script.cal fun f fd F => ok_script F hgS cs si b_Sc_init lc2 lc3
    have l_ss : CalG P w K mg base 8 "_law_pv_same_script" p_l_same_script (spSame (He.ga K "Script")) := L_l_same_script.calG fun f fd F => ok_same_script F z_len z_range cs st b_Sc_tanks ss b_Sc_steps (prop_ok (Lk.fact c 48 (f := bProp "Script" "unknown") rfl)) su b_Sc_unknown (He.meth_ok (Lk.fact c 52 (f := bMeth "Script" "__len__") rfl)) sl b_Sc_len gic gi0 b_Sc_getitem eqc sq b_Sc_eq l_sc l_rt
    have l_ai : Cal P w K mg base 8 "_law_pv_at_index" p_l_at_index (spAtI (He.ga K "Script")) := L_l_at_index.cal fun f fd F => ok_at_index F cs ss b_Sc_steps gic giX b_Sc_getitem (He.meth_ok (Lk.fact c 50 (f := bMeth "Script" "without") rfl)) swX b_Sc_without k_without (He.meth_ok (Lk.fact c 51 (f := bMeth "Script" "exchanged") rfl)) sxX b_Sc_exchanged k_exchanged ec gl glA (sub_ok (Lk.fact c 42 (f := bSub "UnknownStep" "UnknownStep" true) rfl))
    have l_ir : CalG P w K mg base 9 "_law_pv_indexes_right" p_l_indexes_right (spIxR (He.ga K "Script")) := L_l_indexes_right.calG fun f fd F => ok_indexes_right F z_len z_enumerate l_coin l_ai l_rt
    have l_ne : Cal P w K mg base 5 "_law_pv_near" p_l_near spNear := L_l_near.cal fun f fd F => ok_near F z_len z_list z_int l_coin l_deed
    have kit : ∀ T ∈ kinds5, PySem.W.kitOne K (.type T) (.ref (He.ga K "Script")) = some false := fun T hT => by
      simp only [kinds5, List.mem_cons, List.not_mem_nil, or_false] at hT
      rcases hT with rfl | rfl | rfl | rfl | rfl
      · exact kt_ok (Lk.fact c 81 (f := bKT "list" "Script") rfl)
      · exact kt_ok (Lk.fact c 82 (f := bKT "tuple" "Script") rfl)
      · exact kt_ok (Lk.fact c 83 (f := bKT "NoneType" "Script") rfl)
      · exact kt_ok (Lk.fact c 84 (f := bKT "str" "Script") rfl)
      · exact kt_ok (Lk.fact c 85 (f := bKT "int" "Script") rfl)
    have l_er : CalG P w K mg base 8 "_law_pv_equal_right" p_l_equal_right (spEqR (He.ga K "Script")) := L_l_equal_right.calG fun f fd F => ok_equal_right F hND z_repr l_ne l_sc eqc sq b_Sc_eq kit
    have l_ck : CalG P w K mg base 10 "_law_pv_checked" p_l_checked spChk13 := L_l_checked.calG fun f fd F => ok_checked13 F z_len z_range hgS cs si b_Sc_init kI (He.meth_ok (Lk.fact c 50 (f := bMeth "Script" "without") rfl)) sw b_Sc_without (He.meth_ok (Lk.fact c 51 (f := bMeth "Script" "exchanged") rfl)) sx b_Sc_exchanged l_coin l_long l_shape lt2 lt3 l_mk l_ss l_ir l_er
    exact ok_law Fw ⟨z_range, z_len, z_max, z_min⟩ l_sack l_ck
  obtain ⟨ow, oe, kw, dc, pn, am, cdv, cu, sl, rfl, lk, hcd⟩ := Fw.ex
  exact ⟨_, fun s v => .of_eq rfl, main⟩
end V2


open PySem PySem.W PySem.Calls PyProof.Rows in
set_option maxRecDepth 99000 in
set_option maxHeartbeats 0 in
theorem PySem.Challenge.cw_valvelevels_k13_scripts_told_holds : PySem.Challenge.rw_valvelevels_k13_scripts_told.Holds := by
  w_on
  o_law
  refine HandSHeadRun.head_imp (r := PySem.W.OpenLaw.row PySem.Challenge.rw_valvelevels_k13_scripts_told) (q := V2.vwK) (H := V2.lk.hook 900) (ob := fun s => V2.lk.off 900 (HandSHeadRun.getT s)) (M := 12000) (loose := V2.nms) (d := HandSHeadRun.topDef (PySem.W.OpenLaw.row PySem.Challenge.rw_valvelevels_k13_scripts_told).prog 52) (kwd := [])
    (fun s => V2.Lk.off_eq (HandSHeadRun.getT_eq s)) V2.runK (by kernel_rfl) (by kernel_rfl) (by kernel_rfl) (by rfl) (by first | assumption | decide +kernel) (by decide +kernel) ⟨rfl, rfl, rfl, rfl, rfl, by decide +kernel⟩ ?hw ?hc
  case hw => w_witness2
  case hc =>
    refine V2.walk_GE (l := PySem.Challenge.rw_valvelevels_k13_scripts_told) (n := 63) (k := 11) (x := "script") rfl (by decide) (by kernel_rfl) ⟨rfl, by decide, by decide⟩ ?F
    intro w mg fa h Y G hmg0
    obtain ⟨K, KX, c⟩ := Y
    have hmg : mg ("law" : PySem.Str) = some (.ref fa) := by
      have e : (HandSHeadRun.topDef (PySem.W.OpenLaw.row PySem.Challenge.rw_valvelevels_k13_scripts_told).prog 52).name = ("law" : PySem.Str) := by kernel_rfl
      rw [← e]
      exact hmg0
    obtain ⟨fd, hb, hF⟩ := V2.whole (P := (PySem.Challenge.rw_valvelevels_k13_scripts_told).prog) (w := w) KX G hmg c
    exact ⟨K, fd, V2.spLaw K, KX, hb, fun H a ns hl _ hS => ⟨a, ns, rfl, hS, hl, fun _ => rfl⟩, hF⟩


