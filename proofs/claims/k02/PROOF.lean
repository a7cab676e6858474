import PyProof.Rows.All
import Wide.All
import OpenK.AllK
import Wide.FinOn
import HandS.ForMost
import HandS.ForExc
import HandS.Wide
import HandS.Gcd
import HandS.IsInst
import HandS.Defaults
import HandS.Flow
import HandS.EndBits
import PySem.Challenge.RW_valvelevels_k02_sums_products_and_values
import HandS.Evl
import HandS.Steps
import HandS.Walk
import HandS.Style
import PyProof.ReprRoads
import PyProof.ReprLen
set_option Elab.async false
set_option linter.all false
set_option maxRecDepth 100000
set_option maxHeartbeats 5000000
set_option exponentiation.threshold 100000
namespace V2
open PySem L2
/-! the text by its places -/
def topS (i : Nat) : Stmt := PySem.Challenge.pw_valvelevels_k02_sums_products_and_values.main.body.getD i (.Pass ⟨0, 0, 0, 0⟩)
abbrev s_fraction : Stmt := topS 2
abbrev n_fraction : List Str := ["above", "below", "factor"]
abbrev p_fraction : List Str := ["above", "below"]
theorem sc_fraction : FnScope n_fraction p_fraction (defScope s_fraction) := ⟨rfl, rfl, rfl, by decide +kernel, rfl, by decide +kernel, by decide +kernel⟩
abbrev s_cut : Stmt := topS 3
abbrev n_cut : List Str := ["numbers", "many"]
abbrev p_cut : List Str := ["numbers"]
theorem sc_cut : FnScope n_cut p_cut (defScope s_cut) := ⟨rfl, rfl, rfl, by decide +kernel, rfl, by decide +kernel, by decide +kernel⟩
abbrev s_added : Stmt := topS 4
abbrev n_added : List Str := ["one", "other", "many", "mine", "yours", "k"]
abbrev p_added : List Str := ["one", "other"]
theorem sc_added : FnScope n_added p_added (defScope s_added) := ⟨rfl, rfl, rfl, by decide +kernel, rfl, by decide +kernel, by decide +kernel⟩
abbrev s_multiplied : Stmt := topS 5
abbrev n_multiplied : List Str := ["one", "other", "numbers", "k", "number", "j", "factor"]
abbrev p_multiplied : List Str := ["one", "other"]
theorem sc_multiplied : FnScope n_multiplied p_multiplied (defScope s_multiplied) := ⟨rfl, rfl, rfl, by decide +kernel, rfl, by decide +kernel, by decide +kernel⟩
abbrev s_scaled_value : Stmt := topS 6
abbrev n_scaled_value : List Str := ["one", "spot", "above", "below", "total", "power", "k", "number"]
abbrev p_scaled_value : List Str := ["one", "spot"]
theorem sc_scaled_value : FnScope n_scaled_value p_scaled_value (defScope s_scaled_value) := ⟨rfl, rfl, rfl, by decide +kernel, rfl, by decide +kernel, by decide +kernel⟩
abbrev s_value_at : Stmt := topS 7
abbrev n_value_at : List Str := ["one", "spot", "total", "power"]
abbrev p_value_at : List Str := ["one", "spot"]
theorem sc_value_at : FnScope n_value_at p_value_at (defScope s_value_at) := ⟨rfl, rfl, rfl, by decide +kernel, rfl, by decide +kernel, by decide +kernel⟩
abbrev s_copied : Stmt := topS 13
abbrev n_copied : List Str := ["thing", "part"]
abbrev p_copied : List Str := ["thing"]
theorem sc_copied : FnScope n_copied p_copied (defScope s_copied) := ⟨rfl, rfl, rfl, by decide +kernel, rfl, by decide +kernel, by decide +kernel⟩
abbrev s_is_integer : Stmt := topS 14
abbrev n_is_integer : List Str := ["thing"]
abbrev p_is_integer : List Str := ["thing"]
theorem sc_is_integer : FnScope n_is_integer p_is_integer (defScope s_is_integer) := ⟨rfl, rfl, rfl, by decide +kernel, rfl, by decide +kernel, by decide +kernel⟩
abbrev s_is_fraction : Stmt := topS 15
abbrev n_is_fraction : List Str := ["thing", "above", "below"]
abbrev p_is_fraction : List Str := ["thing"]
theorem sc_is_fraction : FnScope n_is_fraction p_is_fraction (defScope s_is_fraction) := ⟨rfl, rfl, rfl, by decide +kernel, rfl, by decide +kernel, by decide +kernel⟩
abbrev s_is_polynomial : Stmt := topS 16
abbrev n_is_polynomial : List Str := ["thing", "number"]
abbrev p_is_polynomial : List Str := ["thing"]
theorem sc_is_polynomial : FnScope n_is_polynomial p_is_polynomial (defScope s_is_polynomial) := ⟨rfl, rfl, rfl, by decide +kernel, rfl, by decide +kernel, by decide +kernel⟩
abbrev s_check_polynomials : Stmt := topS 17
abbrev n_check_polynomials : List Str := ["told", "one"]
abbrev p_check_polynomials : List Str := ["told"]
theorem sc_check_polynomials : FnScope n_check_polynomials p_check_polynomials (defScope s_check_polynomials) := ⟨rfl, rfl, rfl, by decide +kernel, rfl, by decide +kernel, by decide +kernel⟩
abbrev s_check_fraction : Stmt := topS 18
abbrev n_check_fraction : List Str := ["spot"]
abbrev p_check_fraction : List Str := ["spot"]
theorem sc_check_fraction : FnScope n_check_fraction p_check_fraction (defScope s_check_fraction) := ⟨rfl, rfl, rfl, by decide +kernel, rfl, by decide +kernel, by decide +kernel⟩
abbrev s_trimmed : Stmt := topS 20
abbrev n_trimmed : List Str := ["numbers"]
abbrev p_trimmed : List Str := ["numbers"]
theorem sc_trimmed : FnScope n_trimmed p_trimmed (defScope s_trimmed) := ⟨rfl, rfl, rfl, by decide +kernel, rfl, by decide +kernel, by decide +kernel⟩
abbrev s_plus : Stmt := topS 21
abbrev n_plus : List Str := ["one", "other"]
abbrev p_plus : List Str := ["one", "other"]
theorem sc_plus : FnScope n_plus p_plus (defScope s_plus) := ⟨rfl, rfl, rfl, by decide +kernel, rfl, by decide +kernel, by decide +kernel⟩
abbrev s_times : Stmt := topS 22
abbrev n_times : List Str := ["one", "other"]
abbrev p_times : List Str := ["one", "other"]
theorem sc_times : FnScope n_times p_times (defScope s_times) := ⟨rfl, rfl, rfl, by decide +kernel, rfl, by decide +kernel, by decide +kernel⟩
abbrev s_value : Stmt := topS 23
abbrev n_value : List Str := ["one", "spot"]
abbrev p_value : List Str := ["one", "spot"]
theorem sc_value : FnScope n_value p_value (defScope s_value) := ⟨rfl, rfl, rfl, by decide +kernel, rfl, by decide +kernel, by decide +kernel⟩
abbrev s_l_sack : Stmt := topS 25
abbrev n_l_sack : List Str := ["script", "rank", "cell"]
abbrev p_l_sack : List Str := ["script", "rank"]
theorem sc_l_sack : FnScope n_l_sack p_l_sack (defScope s_l_sack) := ⟨rfl, rfl, rfl, by decide +kernel, rfl, by decide +kernel, by decide +kernel⟩
abbrev s_l_coin : Stmt := topS 26
abbrev n_l_coin : List Str := ["sack", "many", "drawn", "stirred"]
abbrev p_l_coin : List Str := ["sack", "many"]
theorem sc_l_coin : FnScope n_l_coin p_l_coin (defScope s_l_coin) := ⟨rfl, rfl, rfl, by decide +kernel, rfl, by decide +kernel, by decide +kernel⟩
abbrev s_l_shared : Stmt := topS 27
abbrev n_l_shared : List Str := ["left", "right", "turn"]
abbrev p_l_shared : List Str := ["left", "right"]
theorem sc_l_shared : FnScope n_l_shared p_l_shared (defScope s_l_shared) := ⟨rfl, rfl, rfl, by decide +kernel, rfl, by decide +kernel, by decide +kernel⟩
abbrev s_l_ratio : Stmt := topS 28
abbrev n_l_ratio : List Str := ["up", "down", "shared"]
abbrev p_l_ratio : List Str := ["up", "down"]
theorem sc_l_ratio : FnScope n_l_ratio p_l_ratio (defScope s_l_ratio) := ⟨rfl, rfl, rfl, by decide +kernel, rfl, by decide +kernel, by decide +kernel⟩
abbrev s_l_add : Stmt := topS 29
abbrev n_l_add : List Str := ["left", "right"]
abbrev p_l_add : List Str := ["left", "right"]
theorem sc_l_add : FnScope n_l_add p_l_add (defScope s_l_add) := ⟨rfl, rfl, rfl, by decide +kernel, rfl, by decide +kernel, by decide +kernel⟩
abbrev s_l_mul : Stmt := topS 30
abbrev n_l_mul : List Str := ["left", "right"]
abbrev p_l_mul : List Str := ["left", "right"]
theorem sc_l_mul : FnScope n_l_mul p_l_mul (defScope s_l_mul) := ⟨rfl, rfl, rfl, by decide +kernel, rfl, by decide +kernel, by decide +kernel⟩
abbrev s_l_trim : Stmt := topS 31
abbrev n_l_trim : List Str := ["some", "size", "turn"]
abbrev p_l_trim : List Str := ["some"]
theorem sc_l_trim : FnScope n_l_trim p_l_trim (defScope s_l_trim) := ⟨rfl, rfl, rfl, by decide +kernel, rfl, by decide +kernel, by decide +kernel⟩
abbrev s_l_sum : Stmt := topS 32
abbrev n_l_sum : List Str := ["left", "right", "size", "k"]
abbrev p_l_sum : List Str := ["left", "right"]
theorem sc_l_sum : FnScope n_l_sum p_l_sum (defScope s_l_sum) := ⟨rfl, rfl, rfl, by decide +kernel, rfl, by decide +kernel, by decide +kernel⟩
abbrev s_l_product : Stmt := topS 33
abbrev n_l_product : List Str := ["left", "right", "found", "k", "piece", "m", "part"]
abbrev p_l_product : List Str := ["left", "right"]
theorem sc_l_product : FnScope n_l_product p_l_product (defScope s_l_product) := ⟨rfl, rfl, rfl, by decide +kernel, rfl, by decide +kernel, by decide +kernel⟩
abbrev s_l_at : Stmt := topS 34
abbrev n_l_at : List Str := ["poly", "ratio", "found", "power", "piece"]
abbrev p_l_at : List Str := ["poly", "ratio"]
theorem sc_l_at : FnScope n_l_at p_l_at (defScope s_l_at) := ⟨rfl, rfl, rfl, by decide +kernel, rfl, by decide +kernel, by decide +kernel⟩
abbrev s_l_poly : Stmt := topS 35
abbrev n_l_poly : List Str := ["sack", "size", "top", "found", "turn"]
abbrev p_l_poly : List Str := ["sack", "size"]
theorem sc_l_poly : FnScope n_l_poly p_l_poly (defScope s_l_poly) := ⟨rfl, rfl, rfl, by decide +kernel, rfl, by decide +kernel, by decide +kernel⟩
abbrev s_l_any_ratio : Stmt := topS 36
abbrev n_l_any_ratio : List Str := ["sack", "top", "base"]
abbrev p_l_any_ratio : List Str := ["sack"]
theorem sc_l_any_ratio : FnScope n_l_any_ratio p_l_any_ratio (defScope s_l_any_ratio) := ⟨rfl, rfl, rfl, by decide +kernel, rfl, by decide +kernel, by decide +kernel⟩
abbrev s_l_copied : Stmt := topS 37
abbrev n_l_copied : List Str := ["thing", "part"]
abbrev p_l_copied : List Str := ["thing"]
theorem sc_l_copied : FnScope n_l_copied p_l_copied (defScope s_l_copied) := ⟨rfl, rfl, rfl, by decide +kernel, rfl, by decide +kernel, by decide +kernel⟩
abbrev s_l_lists : Stmt := topS 38
abbrev n_l_lists : List Str := ["thing", "found", "part"]
abbrev p_l_lists : List Str := ["thing"]
theorem sc_l_lists : FnScope n_l_lists p_l_lists (defScope s_l_lists) := ⟨rfl, rfl, rfl, by decide +kernel, rfl, by decide +kernel, by decide +kernel⟩
abbrev s_l_marked : Stmt := topS 39
abbrev n_l_marked : List Str := ["thing", "some", "k"]
abbrev p_l_marked : List Str := ["thing"]
theorem sc_l_marked : FnScope n_l_marked p_l_marked (defScope s_l_marked) := ⟨rfl, rfl, rfl, by decide +kernel, rfl, by decide +kernel, by decide +kernel⟩
abbrev s_l_right : Stmt := topS 40
abbrev n_l_right : List Str := ["found", "due"]
abbrev p_l_right : List Str := ["found", "due"]
theorem sc_l_right : FnScope n_l_right p_l_right (defScope s_l_right) := ⟨rfl, rfl, rfl, by decide +kernel, rfl, by decide +kernel, by decide +kernel⟩
abbrev s_l_checked : Stmt := topS 41
abbrev n_l_checked : List Str := ["sack", "left", "right", "ratio", "some", "kept", "turn", "found", "due", "piece"]
abbrev p_l_checked : List Str := ["sack"]
theorem sc_l_checked : FnScope n_l_checked p_l_checked (defScope s_l_checked) := ⟨rfl, rfl, rfl, by decide +kernel, rfl, by decide +kernel, by decide +kernel⟩
abbrev s_law : Stmt := topS 42
abbrev n_law : List Str := ["script", "rank", "sack", "turn"]
abbrev p_law : List Str := ["script"]
theorem sc_law : FnScope n_law p_law (defScope s_law) := ⟨rfl, rfl, rfl, by decide +kernel, rfl, by decide +kernel, by decide +kernel⟩
end V2


namespace V2
open PySem L2
open PySem.Spec PyProof.Rows
/-! ## rules of our own -/
def CPowX (i j : Int) : Prop := 0 ≤ j ∧ (Builtin.Int.intBits i : Int) * j ≤ 2 ^ 27
theorem op_powX {X : Cx} : OpR X (binaryOp .Pow) (rI CPowX fun i j => .int (i ^ j.toNat)) :=
  opI fun _ _ _ _ _ _ _ hc q => pow_int hc.1 hc.2 q
theorem pow_ok {i : Int} {k n : Nat} (hi : i.natAbs < 2 ^ k) (h : k * n ≤ 134217728) : CPowX i (n : Int) := by
  (refine ⟨Int.natCast_nonneg _, ?_⟩)
  have h1 := intBits_le hi
  have h2 : Builtin.Int.intBits i * n ≤ k * n := Nat.mul_le_mul_right n h1
  have h3 : ((Builtin.Int.intBits i * n : Nat) : Int) ≤ 134217728 := by omega
  have e : (2 : Int) ^ 27 = 134217728 := (by decide)
  rw [e, ← Int.natCast_mul]
  exact h3
/-- all but the list at p is as it was (and there may be new things) -/
def But (p : Addr) (H H' : Hp) : Prop := ∀ b o, b ≠ p → H b = some o → H' b = some o
theorem But.refl (p : Addr) (H : Hp) : But p H H := fun _ _ _ h => h
theorem But.trans {p : Addr} {H H1 H2 : Hp} (a : But p H H1) (b : But p H1 H2) : But p H H2 := fun c o n h => b c o n (a c o n h)
theorem But.of_ex {p : Addr} {H H' : Hp} (e : Evl.Ex H H') : But p H H' := fun b o _ h => e b o h
theorem But.upd {p : Addr} {H : Hp} {o : HO} : But p H (upd H p o) := fun b u n h => by
  rw [upd_ne n]; exact h
/-- the law's sack at p: three ints, at most m draws so far -/
def Sk (H : Hp) (p : Addr) (m : Nat) : Prop := ∃ a b c : Int, H p = some (.lst [.int a, .int b, .int c]) ∧ 0 ≤ a ∧ 0 ≤ b ∧ b < 2 ^ 80 ∧ 0 ≤ c ∧ c ≤ m
theorem Sk.le {H : Hp} {p : Addr} {m n : Nat} (h : Sk H p m) (l : m ≤ n) : Sk H p n := by
  obtain ⟨a, b, c, h1, h2, h3, h4, h5, h6⟩ := h
  exact ⟨a, b, c, h1, h2, h3, h4, h5, by omega⟩
theorem Sk.ex {H H' : Hp} {p : Addr} {m : Nat} (h : Sk H p m) (e : Evl.Ex H H') : Sk H' p m := by
  obtain ⟨a, b, c, h1, h2⟩ := h
  exact ⟨a, b, c, e _ _ h1, h2⟩
/-- a draw: any number below many, the sack goes on -/
def spCoin : Sp := fun vs H Q _ => ∃ (p : Addr) (many : Int) (m : Nat), vs = [.ref p, .int many] ∧ Sk H p m ∧ m ≤ 100000 ∧ 0 < many ∧ many.natAbs < 2 ^ 200 ∧
  ∀ (r : Int) (H' : Hp), 0 ≤ r → r < many → But p H H' → Sk H' p (m + 1) → (∀ q, H q = none → H' q = none) → Q (.int r) H'
structure T0 (mg : Str → Option Value) : Prop where
  len : mg "len" = none
  max : mg "max" = none
  abs : mg "abs" = none
  int : mg "int" = none
theorem at0 {a b c : V} : atI [a, b, c] 0 = some a := by rfl
theorem at1 {a b c : V} : atI [a, b, c] 1 = some b := by rfl
theorem at2 {a b c : V} : atI [a, b, c] 2 = some c := by rfl
theorem ixN3 (j : Nat) (h : j < 3) : ixN 3 (j : Int) = some j := Evl.ixN_nat h
section
variable {base : Heap} {mg : Str → Option Value} {K : PySem.W.Frag} {w : World} {P : Program}
theorem ok_coin {f : Addr} {fd : FuncData} (F : Fun K "_law_pv_coin" "_law_pv_coin" s_l_coin f fd) (T : T0 mg) : FnOk P w K mg base CX0 1 f fd p_l_coin spCoin := by
  refine F.ok sc_l_coin (fun vs H Q E h => ?_) (fun cdv A outer s H vs Q E hr h => ?_)
  · obtain ⟨p, many, m, rfl, _⟩ := h
    rfl
  · obtain ⟨p, many, m, rfl, ⟨a, b, c, hp, ha, hb, hb2, hc, hc2⟩, hm, h0, h200, k⟩ := h
    have nd := sc_l_coin.nd
    refine ⟨_, pss_cons (ps_if (pt_cmpR op_gt (pe_ix ix_list (pv 0) pe_int (fun _ _ => rfl)) pe_int (nomark _))
        (pss_cons (ps_set (i := 2) nd rfl (Or.inl rfl) (pe_op op_mod (pe_callTy call_int1 (by rfl) T.int (by decide +kernel) (pa_cons (pe_ix ix_list (pv 0) pe_int (fun _ _ => rfl)) pa_nil)) (pv 1)))
        (pss_cons (ps_asg (pe_op op_fdivW (pe_ix ix_list (pv 0) pe_int (fun _ _ => rfl)) (pv 1)) (pg_sub (pv 0) pe_int set_list))
        (pss_one (ps_ret (pv 2))))) pss_nil)
      (pss_cons (ps_asg (pe_op op_add (pe_ix ix_list (pv 0) pe_int (fun _ _ => rfl)) pe_int) (pg_sub (pv 0) pe_int set_list))
      (pss_cons (ps_set (i := 3) nd rfl (Or.inl rfl) (pe_op op_mod (pe_op op_powX (pe_callTy call_int1 (by rfl) T.int (by decide +kernel) (pa_cons (pe_op op_add (pe_ix ix_list (pv 0) pe_int (fun _ _ => rfl)) (pe_op op_mul pe_int (pe_ix ix_list (pv 0) pe_int (fun _ _ => rfl)))) pa_nil)) pe_int) (pe_op op_add (pe_op op_powX pe_int pe_int) pe_int)))
      (pss_cons (ps_set (i := 3) nd rfl (Or.inl rfl) (pe_op op_mod (pe_op op_powX (pe_callTy call_int1 (by rfl) T.int (by decide +kernel) (pa_cons (pe_op op_add (pv 3) (pe_op op_mul pe_int (pe_ix ix_list (pv 0) pe_int (fun _ _ => rfl)))) pa_nil)) pe_int) (pe_op op_add (pe_op op_powX pe_int pe_int) pe_int)))
      (pss_one (ps_ret (pe_op op_mod (pe_callTy call_int1 (by rfl) T.int (by decide +kernel) (pa_cons (pe_op op_fdivW (pv 3) pe_int) pa_nil)) (pv 1))))))), ?_⟩
    refine ⟨_, rfl, p, _, _, _, rfl, rfl, SqL.of hp, at0, _, _, rfl, rfl, _, rfl, ?_⟩
    refine ite2 (fun q => ?_) (fun _ => ?_)
    · have q0 : 0 < a := by simpa using q
      refine ⟨_, rfl, p, _, _, _, rfl, rfl, SqL.of hp, at0, .inl ⟨_, rfl, _, rfl, _, _, rfl, rfl, h0, ?_⟩⟩
      refine ⟨_, rfl, p, _, _, _, rfl, rfl, SqL.of hp, at0, _, rfl, _, _, rfl, rfl, wide_div h0 h200 (by decide) (by decide), _, rfl, p, _, 0, 0, rfl, rfl, hp, ixN3 0 (by decide), ?_⟩
      refine ⟨_, rfl, k _ _ (Int.emod_nonneg _ (by omega)) (Int.emod_lt_of_pos _ h0) But.upd ⟨a / many, b, c, upd_same, Int.ediv_nonneg ha (by omega), hb, hb2, hc, by omega⟩ (fun q hq => ?_)⟩
      rw [upd_ne (fun z => by rw [z, hp] at hq; cases hq)]; exact hq
    · have e24 : ((10 : Int) ^ (24 : Int).toNat + 7) = 1000000000000000000000007 := by decide
      have e25 : ((10 : Int) ^ (25 : Int).toNat + 13) = 10000000000000000000000013 := by decide
      have p80 : (2 : Int) ^ 80 = 1208925819614629174706176 := by decide
      have n81 : (2 : Nat) ^ 81 = 2417851639229258349412352 := by decide
      have n85 : (2 : Nat) ^ 85 = 38685626227668133590597632 := by decide
      rw [p80] at hb2
      have w1 : CPowX (b + 1640531527 * (c + 1)) 3 := pow_ok (k := 81) (n := 3) (by rw [n81]; omega) (by decide)
      have w25 : CPowX 10 25 := pow_ok (k := 4) (n := 25) (by decide) (by decide)
      have w24 : CPowX 10 24 := pow_ok (k := 4) (n := 24) (by decide) (by decide)
      have hp2 : upd H p (.lst [.int a, .int b, .int (c + 1)]) p = some (.lst [.int a, .int b, .int (c + 1)]) := upd_same
      refine ⟨_, rfl, p, _, _, _, rfl, rfl, SqL.of hp, at2, _, _, rfl, rfl, _, rfl, p, _, 2, 2, rfl, rfl, hp, ixN3 2 (by decide), ?_⟩
      refine ⟨_, rfl, p, _, _, _, rfl, rfl, SqL.of hp2, at1, _, rfl, p, _, _, _, rfl, rfl, SqL.of hp2, at2, _, _, rfl, rfl, .inl ⟨by decide, by decide⟩, _, _, rfl, rfl, .inl ⟨_, rfl, ?_⟩⟩
      have g25 : (0 : Int) < 10 ^ (25 : Int).toNat + 13 := by rw [e25]; decide
      have g24 : (0 : Int) < 10 ^ (24 : Int).toNat + 7 := by rw [e24]; decide
      refine ⟨_, 3, rfl, rfl, w1, 10, 25, rfl, rfl, w25, _, 13, rfl, rfl, _, _, rfl, rfl, g25, ?_⟩
      have x0 : 0 ≤ (b + 1640531527 * (c + 1)) ^ (3 : Int).toNat % (10 ^ (25 : Int).toNat + 13) := Int.emod_nonneg _ (by omega)
      have x1 : (b + 1640531527 * (c + 1)) ^ (3 : Int).toNat % (10 ^ (25 : Int).toNat + 13) < 10000000000000000000000013 := by rw [← e25]; exact Int.emod_lt_of_pos _ g25
      have w2 : CPowX ((b + 1640531527 * (c + 1)) ^ (3 : Int).toNat % (10 ^ (25 : Int).toNat + 13) + 805459861 * (c + 1)) 2 := pow_ok (k := 85) (n := 2) (by rw [n85]; omega) (by decide)
      refine ⟨_, rfl, _, rfl, p, _, _, _, rfl, rfl, SqL.of hp2, at2, _, _, rfl, rfl, .inl ⟨by decide, by decide⟩, _, _, rfl, rfl, .inl ⟨_, rfl, ?_⟩⟩
      refine ⟨_, 2, rfl, rfl, w2, 10, 24, rfl, rfl, w24, _, 7, rfl, rfl, _, _, rfl, rfl, g24, ?_⟩
      refine ⟨_, rfl, _, 1024, rfl, rfl, wide_div (b := 11) (by decide) (by decide) (by decide) (by decide), .inl ⟨_, rfl, _, rfl, _, _, rfl, rfl, h0, ?_⟩⟩
      refine k _ _ (Int.emod_nonneg _ (by omega)) (Int.emod_lt_of_pos _ h0) But.upd ⟨a, b, c + 1, hp2, ha, hb, by rw [p80]; exact hb2, by omega, by omega⟩ (fun q hq => ?_)
      rw [upd_ne (fun z => by rw [z, hp] at hq; cases hq)]; exact hq
end
end V2


namespace V2
/-! ## plain mathematics -/
/-- how many zeros a list begins with -/
def zer : List Int → Nat
  | [] => 0
  | x :: r => if x = 0 then zer r + 1 else 0
theorem zer_le : ∀ l : List Int, zer l ≤ l.length
  | [] => Nat.le_refl _
  | x :: r => by
    unfold zer
    split
    · have := zer_le r; simp only [List.length_cons]; omega
    · exact Nat.zero_le _
theorem zer_in : ∀ (l : List Int) (j : Nat), j < zer l → l[j]? = some 0
  | [], j, h => absurd h (Nat.not_lt_zero _)
  | x :: r, j, h => by
    unfold zer at h
    split at h
    · rename_i e
      cases j with
      | zero => simp [e]
      | succ j => simpa using zer_in r j (by omega)
    · exact absurd h (Nat.not_lt_zero _)
theorem zer_at : ∀ (l : List Int), zer l < l.length → ∃ x, l[zer l]? = some x ∧ x ≠ 0
  | [], h => absurd h (Nat.not_lt_zero _)
  | x :: r, h => by
    unfold zer at h ⊢
    split
    · rename_i e
      rw [if_pos e, List.length_cons] at h
      obtain ⟨y, h1, h2⟩ := zer_at r (by omega)
      exact ⟨y, by simpa using h1, h2⟩
    · rename_i e
      exact ⟨x, rfl, e⟩
/-- how many zeros stand at the end -/
def tz (ns : List Int) : Nat := zer ns.reverse
theorem tz_le (ns : List Int) : tz ns ≤ ns.length := by
  have := zer_le ns.reverse
  rwa [List.length_reverse] at this
theorem tz_in (ns : List Int) (j : Nat) (h : j < tz ns) : ns[ns.length - 1 - j]? = some 0 := by
  have h1 := zer_in ns.reverse j h
  have h2 := tz_le ns
  rwa [List.getElem?_reverse (by omega)] at h1
theorem tz_at (ns : List Int) (h : tz ns < ns.length) : ∃ x, ns[ns.length - 1 - tz ns]? = some x ∧ x ≠ 0 := by
  have h1 := zer_at ns.reverse (by rwa [List.length_reverse])
  obtain ⟨x, h2, h3⟩ := h1
  refine ⟨x, ?_, h3⟩
  change ns.reverse[tz ns]? = some x at h2
  rwa [List.getElem?_reverse h] at h2
/-- without the zeros at the end -/
def trm (ns : List Int) : List Int := ns.take (ns.length - tz ns)
/-- no 0 at the end -/
def Pol (ns : List Int) : Prop := ∀ x, ns[ns.length - 1]? = some x → x ≠ 0
theorem tz_pol {ns : List Int} (h : Pol ns) : tz ns = 0 := by
  cases e : tz ns with
  | zero => rfl
  | succ k =>
    exact absurd rfl (h 0 (by have := tz_in ns 0 (by omega); simpa using this))
theorem trm_pol {ns : List Int} (h : Pol ns) : trm ns = ns := by
  unfold trm
  rw [tz_pol h, Nat.sub_zero, List.take_length]
theorem pol_trm (ns : List Int) : Pol (trm ns) := by
  intro x h
  unfold trm at h
  have h2 := tz_le ns
  rw [List.length_take, Nat.min_eq_left (Nat.sub_le _ _)] at h
  by_cases h3 : tz ns < ns.length
  · obtain ⟨y, h4, h5⟩ := tz_at ns h3
    rw [List.getElem?_take, if_pos (by omega), show ns.length - tz ns - 1 = ns.length - 1 - tz ns by omega, h4] at h
    cases h; exact h5
  · rw [List.getElem?_take, if_neg (by omega)] at h
    cases h
theorem trm_len (ns : List Int) : (trm ns).length ≤ ns.length := by
  unfold trm; rw [List.length_take]; omega
theorem trm_mem {ns : List Int} {x : Int} (h : x ∈ trm ns) : x ∈ ns := List.mem_of_mem_take h
/-! ### Euclid -/
theorem mod_half {l r : Nat} (h0 : 0 < r) (h : r < l) : r * (l % r) * 2 ≤ l * r := by
  have h1 := Nat.mod_lt l h0
  have h2 : l % r + r ≤ l := by
    have := Nat.div_add_mod l r
    have h3 : 1 ≤ l / r := Nat.div_pos (Nat.le_of_lt h) h0
    have h4 : r * 1 ≤ r * (l / r) := Nat.mul_le_mul_left r h3
    omega
  have h5 : (l % r) * 2 ≤ l := by omega
  calc r * (l % r) * 2 = r * ((l % r) * 2) := by rw [Nat.mul_assoc]
    _ ≤ r * l := Nat.mul_le_mul_left r h5
    _ = l * r := Nat.mul_comm _ _
/-- behind i turns -/
def Euc (B x y i l r : Nat) : Prop := Nat.gcd l r = Nat.gcd x y ∧ l < 2 ^ B ∧ r < 2 ^ B ∧ (i = 0 ∨ (r < l ∧ l * r * 2 ^ (i - 1) < 2 ^ (2 * B)))
theorem euc_0 {B x y : Nat} (hx : x < 2 ^ B) (hy : y < 2 ^ B) : Euc B x y 0 x y := ⟨rfl, hx, hy, .inl rfl⟩
theorem euc_s {B x y i l r : Nat} (h : Euc B x y i l r) (h0 : 0 < r) : Euc B x y (i + 1) r (l % r) := by
  obtain ⟨hg, hl, hr, hi⟩ := h
  have hm := Nat.mod_lt l h0
  refine ⟨?_, hr, Nat.lt_trans hm hr, .inr ⟨hm, ?_⟩⟩
  · rw [← hg, Nat.gcd_comm r, ← Nat.gcd_rec, Nat.gcd_comm]
  · rw [Nat.add_sub_cancel]
    rcases hi with rfl | ⟨hlt, hb⟩
    · rw [Nat.pow_zero, Nat.mul_one, Nat.two_mul, Nat.pow_add]
      exact Nat.mul_lt_mul'' hr (Nat.lt_trans hm hr)
    · cases i with
      | zero =>
        rw [Nat.pow_zero, Nat.mul_one, Nat.two_mul, Nat.pow_add]
        exact Nat.mul_lt_mul'' hr (Nat.lt_trans hm hr)
      | succ i =>
        rw [Nat.add_sub_cancel] at hb
        refine Nat.lt_of_le_of_lt ?_ hb
        rw [Nat.pow_succ, Nat.mul_comm (2 ^ i) 2, ← Nat.mul_assoc]
        exact Nat.mul_le_mul_right _ (mod_half h0 hlt)
theorem euc_end {B x y i l r : Nat} (h : Euc B x y i l r) (hi : 2 * B + 1 ≤ i) : r = 0 := by
  obtain ⟨_, _, _, h | ⟨hlt, hb⟩⟩ := h
  · omega
  · rcases Nat.eq_zero_or_pos r with e | e
    · exact e
    · exfalso
      have h1 : 1 * 2 ^ (2 * B) ≤ l * r * 2 ^ (i - 1) := Nat.mul_le_mul (Nat.mul_pos (by omega) e) (Nat.pow_le_pow_right (by decide) (by omega))
      omega
theorem euc_val {B x y i l : Nat} (h : Euc B x y i l 0) : l = Nat.gcd x y := by
  rw [← h.1, Nat.gcd_zero_right]
/-! ### fractions in lowest terms -/
def fr (u d : Int) : Int × Int := (u / (Int.gcd u d : Int), d / (Int.gcd u d : Int))
theorem gcd_pos {u d : Int} (h : 0 < d) : (0 : Int) < (Int.gcd u d : Int) := by
  have := Int.gcd_pos_of_ne_zero_right u (show d ≠ 0 by omega)
  omega
theorem fr_mul {u d : Int} (h : 0 < d) : u = (fr u d).1 * (Int.gcd u d : Int) ∧ d = (fr u d).2 * (Int.gcd u d : Int) :=
  ⟨(Int.ediv_mul_cancel (Int.gcd_dvd_left ..)).symm, (Int.ediv_mul_cancel (Int.gcd_dvd_right ..)).symm⟩
theorem fr_pos {u d : Int} (h : 0 < d) : 0 < (fr u d).2 := by
  have g := gcd_pos (u := u) h
  have e := (fr_mul (u := u) h).2
  rcases Int.lt_or_le 0 (fr u d).2 with h1 | h1
  · exact h1
  · exfalso
    have : (fr u d).2 * (Int.gcd u d : Int) ≤ 0 := Int.mul_nonpos_of_nonpos_of_nonneg h1 (by omega)
    omega
theorem fr_cop {u d : Int} (h : 0 < d) : Int.gcd (fr u d).1 (fr u d).2 = 1 := by
  have g := gcd_pos (u := u) h
  unfold fr
  exact Int.gcd_ediv_gcd_ediv_gcd (by omega)
/-- two fractions in lowest terms that are one number are one -/
theorem cop_eq {a b c d : Int} (hb : 0 < b) (hd : 0 < d) (h1 : Int.gcd a b = 1) (h2 : Int.gcd c d = 1) (e : a * d = c * b) : a = c ∧ b = d := by
  have hbd : b ∣ d := by
    have h3 : b ∣ a * d := ⟨c, by rw [e, Int.mul_comm]⟩
    have h4 := Int.dvd_gcd_mul_iff_dvd_mul.mpr h3
    rw [Int.gcd_comm, h1] at h4
    simpa using h4
  have hdb : d ∣ b := by
    have h3 : d ∣ c * b := ⟨a, by rw [← e, Int.mul_comm]⟩
    have h4 := Int.dvd_gcd_mul_iff_dvd_mul.mpr h3
    rw [Int.gcd_comm, h2] at h4
    simpa using h4
  have ebd : b = d := Int.dvd_antisymm (by omega) (by omega) hbd hdb
  subst ebd
  exact ⟨Int.eq_of_mul_eq_mul_right (by omega) e, rfl⟩
theorem fr_eq {a b c d : Int} (hb : 0 < b) (hd : 0 < d) (e : a * d = c * b) : fr a b = fr c d := by
  have g1 := gcd_pos (u := a) hb
  have g2 := gcd_pos (u := c) hd
  obtain ⟨a1, b1⟩ := fr_mul (u := a) hb
  obtain ⟨c1, d1⟩ := fr_mul (u := c) hd
  have k : (fr a b).1 * (fr c d).2 = (fr c d).1 * (fr a b).2 := by
    have z : ((fr a b).1 * (fr c d).2) * ((Int.gcd a b : Int) * (Int.gcd c d : Int)) = ((fr c d).1 * (fr a b).2) * ((Int.gcd a b : Int) * (Int.gcd c d : Int)) := by
      calc ((fr a b).1 * (fr c d).2) * ((Int.gcd a b : Int) * (Int.gcd c d : Int)) = ((fr a b).1 * (Int.gcd a b : Int)) * ((fr c d).2 * (Int.gcd c d : Int)) := by simp only [Int.mul_assoc, Int.mul_comm, Int.mul_left_comm]
        _ = a * d := by rw [← a1, ← d1]
        _ = c * b := e
        _ = ((fr c d).1 * (Int.gcd c d : Int)) * ((fr a b).2 * (Int.gcd a b : Int)) := by rw [← c1, ← b1]
        _ = _ := by simp only [Int.mul_assoc, Int.mul_comm, Int.mul_left_comm]
    exact Int.eq_of_mul_eq_mul_right (Int.ne_of_gt (Int.mul_pos g1 g2)) z
  obtain ⟨h1, h2⟩ := cop_eq (fr_pos hb) (fr_pos hd) (fr_cop hb) (fr_cop hd) k
  exact Prod.ext h1 h2
theorem fr_same {a b : Int} (hb : 0 < b) (h : Int.gcd a b = 1) : fr a b = (a, b) := by
  unfold fr
  rw [h]
  simp
theorem fr_val {a b : Int} (hb : 0 < b) : (fr a b).1 * b = a * (fr a b).2 := by
  obtain ⟨h1, h2⟩ := fr_mul (u := a) hb
  generalize (Int.gcd a b : Int) = g at h1 h2
  calc (fr a b).1 * b = (fr a b).1 * ((fr a b).2 * g) := by rw [← h2]
    _ = ((fr a b).1 * g) * (fr a b).2 := by simp only [Int.mul_assoc, Int.mul_comm, Int.mul_left_comm]
    _ = a * (fr a b).2 := by rw [← h1]
theorem fr_abs1 {a b : Int} (hb : 0 < b) : (fr a b).1.natAbs ≤ a.natAbs := by
  obtain ⟨h1, _⟩ := fr_mul (u := a) hb
  have g := gcd_pos (u := a) hb
  generalize Int.gcd a b = n at h1 g
  have e : a.natAbs = (fr a b).1.natAbs * n := by
    have := congrArg Int.natAbs h1
    rw [Int.natAbs_mul, Int.natAbs_natCast] at this
    exact this
  rw [e]
  exact Nat.le_mul_of_pos_right _ (by omega)
theorem fr_abs2 {a b : Int} (hb : 0 < b) : (fr a b).2.natAbs ≤ b.natAbs := by
  obtain ⟨_, h1⟩ := fr_mul (u := a) hb
  have g := gcd_pos (u := a) hb
  generalize Int.gcd a b = n at h1 g
  have e : b.natAbs = (fr a b).2.natAbs * n := by
    have := congrArg Int.natAbs h1
    rw [Int.natAbs_mul, Int.natAbs_natCast] at this
    exact this
  rw [e]
  exact Nat.le_mul_of_pos_right _ (by omega)
end V2


namespace V2
open PySem L2
open PySem.Spec PyProof.Rows
def RetU (xs : List V) (H : Hp) (Q : VK) : Prop := ∀ p H2, H p = none → Evl.Ex H H2 → H2 p = some (.tup xs) → Q (.ref p) H2
def iV (ns : List Int) : List V := ns.map V.int
theorem iV_len (ns : List Int) : (iV ns).length = ns.length := List.length_map ..
theorem iV_at {ns : List Int} {j : Nat} {n : Int} (h : ns[j]? = some n) : (iV ns)[j]? = some (.int n) := by
  unfold iV; rw [List.getElem?_map, h]; rfl
theorem cut_to (xs : List V) {k : Nat} (h : k ≤ xs.length) : cutV xs none (some (k : Int)) = xs.take k := by
  unfold cutV HT.sIx
  have e1 : Int.toNat (k : Int) = k := Int.toNat_natCast k
  simp
  first
    | done
    | (split <;> simp_all <;> omega)
    | omega
/-- the script, the rank: a new sack -/
def spSack (K : PySem.W.Frag) : Sp := fun vs H Q _ => ∃ (a : Addr) (ns : List Int) (r : Nat), vs = [.ref a, .int (r : Int)] ∧ SqL K H a (iV ns) ∧ ns.length ≤ 63 ∧ r ≤ 63 ∧
  ∀ (q : Addr) (H' : Hp), H q = none → Evl.Ex H H' → Sk H' q 0 → Q (.ref q) H'
def spShared : Sp := fun vs H Q _ => ∃ x y : Int, vs = [.int x, .int y] ∧ x.natAbs < 2 ^ 9000 ∧ y.natAbs < 2 ^ 9000 ∧ Evl.RetV (.int (Int.gcd x y : Int)) H Q
def spRatio : Sp := fun vs H Q _ => ∃ x y : Int, vs = [.int x, .int y] ∧ x.natAbs < 2 ^ 9000 ∧ y.natAbs < 2 ^ 9000 ∧ 0 < y ∧ RetU [.int (fr x y).1, .int (fr x y).2] H Q
structure T1 (mg : Str → Option Value) (fS fR : Addr) : Prop extends T0 mg where
  rng : mg "range" = none
  lst : mg "list" = none
  gS : mg "_law_pv_shared" = some (.ref fS)
  gR : mg "_law_pv_ratio" = some (.ref fR)
section
variable {base : Heap} {mg : Str → Option Value} {K : PySem.W.Frag} {w : World} {P : Program}
theorem ok_sack {f : Addr} {fd : FuncData} (F : Fun K "_law_pv_sack" "_law_pv_sack" s_l_sack f fd) (T : T0 mg) : FnOk P w K mg base CX0 1 f fd p_l_sack (spSack K) := by
  refine F.ok sc_l_sack (fun vs H Q E h => ?_) (fun cdv A outer s H vs Q E hr h => ?_)
  · obtain ⟨a, ns, r, rfl, _⟩ := h
    rfl
  · obtain ⟨a, ns, r, rfl, hS, hl, hr63, k⟩ := h
    have nd := sc_l_sack.nd
    refine ⟨_, pss_cons (ps_set (i := 2) nd rfl (Or.inl rfl) (pe_ifExp (pt_cmpR op_lt (pv 1) (pe_callB call_len_seq (by rfl) T.len PySem.boot_len (pa_cons (pv 0) pa_nil)) (nomark _)) (pe_ix ix_list (pv 0) (pv 1) (fun _ _ => rfl)) pe_int))
      (pss_one (ps_ret (pe_lst (pa_cons (pe_callB (call_max2 rfl) (by rfl) T.max (by decide +kernel) (pa_cons pe_int (pa_cons (pe_op op_sub (pe_callB call_abs (by rfl) T.abs (by decide +kernel) (pa_cons (pv 2) pa_nil)) (pe_op op_powX pe_int pe_int)) pa_nil)))
        (pa_cons (pe_op op_mod (pe_callTy call_int1 (by rfl) T.int (by decide +kernel) (pa_cons (pe_op op_add (pe_op op_add (pe_op op_mul (pv 2) pe_int) (pe_op op_mul (pv 1) pe_int)) pe_int) pa_nil)) (pe_op op_add (pe_op op_powX pe_int pe_int) pe_int))
        (pa_cons pe_int pa_nil)))))), ?_⟩
    have w18 : CPowX 10 18 := pow_ok (k := 4) (n := 18) (by decide) (by decide)
    have w24 : CPowX 10 24 := pow_ok (k := 4) (n := 24) (by decide) (by decide)
    have e24 : ((10 : Int) ^ (24 : Int).toNat + 7) = 1000000000000000000000007 := by decide
    have g24 : (0 : Int) < 10 ^ (24 : Int).toNat + 7 := by rw [e24]; decide
    have p80 : (2 : Int) ^ 80 = 1208925819614629174706176 := by decide
    (refine ⟨_, rfl, _, rfl, a, _, rfl, .inl hS, _, _, rfl, rfl, _, rfl, ?_⟩)
    refine ite2 (fun q => ?_) (fun _ => ?_)
    · have q2 : r < ns.length := by
        have q1 := of_decide_eq_true q
        rw [iV_len] at q1
        omega
      refine ⟨_, rfl, _, rfl, a, _, _, _, rfl, rfl, hS, atI_nat (iV_at (List.getElem?_eq_getElem q2)), ?_⟩
      refine ⟨_, rfl, _, rfl, 10, 18, rfl, rfl, w18, _, _, rfl, rfl, _, _, rfl, ?_⟩
      refine ⟨_, rfl, _, 69857, rfl, rfl, .inr ⟨by decide, by decide⟩, _, rfl, _, 9176291, rfl, rfl, .inr ⟨by decide, by decide⟩, _, _, rfl, rfl, _, _, rfl, rfl, .inl ⟨_, rfl, ?_⟩⟩
      refine ⟨10, 24, rfl, rfl, w24, _, 7, rfl, rfl, _, _, rfl, rfl, g24, ?_⟩
      refine ⟨by show 3 ≤ sizeLine; decide, fun q hq => ?_⟩
      refine k q _ hq (Evl.Ex.new hq) ⟨_, _, _, upd_same, ?_, Int.emod_nonneg _ (by omega), Int.lt_trans (Int.emod_lt_of_pos _ g24) (by rw [e24, p80]; decide), Int.le_refl _, Int.le_refl _⟩
      split <;> omega
    · refine ⟨_, rfl, _, rfl, 10, 18, rfl, rfl, w18, _, _, rfl, rfl, _, _, rfl, ?_⟩
      refine ⟨_, rfl, _, 69857, rfl, rfl, .inr ⟨by decide, by decide⟩, _, rfl, _, 9176291, rfl, rfl, .inr ⟨by decide, by decide⟩, _, _, rfl, rfl, _, _, rfl, rfl, .inl ⟨_, rfl, ?_⟩⟩
      refine ⟨10, 24, rfl, rfl, w24, _, 7, rfl, rfl, _, _, rfl, rfl, g24, ?_⟩
      refine ⟨by show 3 ≤ sizeLine; decide, fun q hq => ?_⟩
      refine k q _ hq (Evl.Ex.new hq) ⟨_, _, _, upd_same, ?_, Int.emod_nonneg _ (by omega), Int.lt_trans (Int.emod_lt_of_pos _ g24) (by rw [e24, p80]; decide), Int.le_refl _, Int.le_refl _⟩
      split <;> omega
theorem ok_shared {f : Addr} {fd : FuncData} (F : Fun K "_law_pv_shared" "_law_pv_shared" s_l_shared f fd) {fS fR : Addr} (T : T1 mg fS fR) : FnOk P w K mg base CX0 1 f fd p_l_shared spShared := by
  refine F.ok sc_l_shared (fun vs H Q E h => ?_) (fun cdv A outer s H vs Q E hr h => ?_)
  · obtain ⟨x, y, rfl, _⟩ := h
    rfl
  · obtain ⟨x, y, rfl, hx, hy, k⟩ := h
    have nd := sc_l_shared.nd
    refine ⟨_, pss_cons (ps_par (i := 0) (j := 1) rfl nd rfl rfl (by decide) rfl rfl (pa_cons (pe_callB call_abs (by rfl) T.abs (by decide +kernel) (pa_cons (pv 0) pa_nil)) (pa_cons (pe_callB call_abs (by rfl) T.abs (by decide +kernel) (pa_cons (pv 1) pa_nil)) pa_nil)) (by rfl))
      (pss_cons (ps_for PassesOwn.never rfl (pi_range1 (by rfl) T.rng (pa_cons pe_int pa_nil)) (pg_name (i := 2) nd rfl (Or.inl rfl))
        (pss_cons (ps_if (pt_cmpR op_eq (pv 1) pe_int (nomark _)) (pss_one (ps_ret (pv 0))) pss_nil)
        (pss_one (ps_par (i := 0) (j := 1) rfl nd rfl rfl (by decide) rfl rfl (pa_cons (pv 1) (pa_cons (pe_op op_mod (pe_callTy call_int1 (by rfl) T.int (by decide +kernel) (pa_cons (pv 0) pa_nil)) (pe_callTy call_int1 (by rfl) T.int (by decide +kernel) (pa_cons (pv 1) pa_nil))) pa_nil)) (by rfl)))))
      (pss_one (ps_ret (pv 0)))), ?_⟩
    have ab : ∀ z : Int, (if z < 0 then -z else z) = (z.natAbs : Int) := fun z => by split <;> omega
    refine ⟨_, rfl, _, rfl, _, rfl, _, rfl, _, _, rfl, ?_⟩
    rw [ab, ab]
    refine ⟨20000, rfl, by decide, by decide, for_range (n := 20000) (fun i σ H' => H' = H ∧ ∃ (l r : Nat) (v : Option V), σ = [some (.int l), some (.int r), v] ∧ Euc 9000 x.natAbs y.natAbs i l r)
      ⟨rfl, _, _, none, rfl, euc_0 hx hy⟩ ?_ ?_⟩
    · rintro i σ H' hi ⟨rfl, l, r, v, rfl, he⟩
      (refine ⟨_, rfl, rfl, _, rfl, ?_⟩)
      refine ite2 (fun q => ?_) (fun q => ?_)
      · have q1 : r = 0 := by
          have := of_decide_eq_true q
          injection this with h1
          omega
        subst q1
        refine ⟨_, rfl, ?_⟩
        have e : (l : Int) = (Int.gcd x y : Int) := by rw [euc_val he]; rfl
        rw [e]
        exact k _ (Evl.Ex.refl _)
      · have q1 : 0 < r := by
          rcases Nat.eq_zero_or_pos r with e | e
          · subst e; exact absurd (by decide) q
          · exact e
        refine ⟨_, rfl, _, rfl, .inl ⟨_, rfl, _, rfl, .inl ⟨_, rfl, _, _, rfl, rfl, (by show (0 : Int) < (r : Int); omega), _, _, rfl, ?_⟩⟩⟩
        exact ⟨rfl, r, l % r, _, rfl, euc_s he q1⟩
    · rintro σ H' ⟨rfl, l, r, v, rfl, he⟩
      have := euc_end he (by decide)
      subst this
      refine ⟨_, rfl, ?_⟩
      have e : (l : Int) = (Int.gcd x y : Int) := by rw [euc_val he]; rfl
      rw [e]
      exact k _ (Evl.Ex.refl _)
end
end V2


namespace V2
open PySem L2
open PySem.Spec PyProof.Rows
/-- a def that may be called by its name x -/
def Cal (P : Program) (w : World) (K : PySem.W.Frag) (mg : Str → Option Value) (base : Heap) (k : Nat) (x : Str) (ps : List Str) (sp : Sp) : Prop :=
  ∃ (f : Addr) (fd : FuncData), FnOk P w K mg base CX0 k f fd ps sp ∧ mg x = some (.ref f) ∧ PySem.W.keepIn K (.ref f) = true ∧ Binds K fd ps []
theorem pe_c {X : Cx} {k : Nat} {x : Str} {ps : List Str} {sp : Sp} {e : Expr} {es : List Expr} {t : TA} {p pos : Pos} (c : Cal X.prog X.w X.K X.mg X.base k x ps sp) (hr : Room k X.A) (ha : PA X (e :: es) t) (hg : Gl X x := by rfl)
    (he : starEach (e :: es) X.env = (false, eval e X.env) :: starEach es X.env := by rfl)
    (hpl : (backTo pos (starEach es X.env)).any (fun b => b.1) = false := by rfl) (hdb : (x == ("__debug__" : Str)) = false := by decide) :
    PE X (.Call (.Name x p) (e :: es) [] pos) (tCall sp [] E0 t) := by
  obtain ⟨f, fd, F, hm, hk, hb⟩ := c
  exact pe_call F hr hg hm hk hb .nil pass0 ha hdb he hpl
def spAdd : Sp := fun vs H Q _ => ∃ (l r : Addr) (a b c d : Int), vs = [.ref l, .ref r] ∧ SqL2 H l a b ∧ SqL2 H r c d ∧ a.natAbs < 2 ^ 4000 ∧ b.natAbs < 2 ^ 4000 ∧ c.natAbs < 2 ^ 4000 ∧ d.natAbs < 2 ^ 4000 ∧ 0 < b ∧ 0 < d ∧
  RetU [.int (fr (a * d + c * b) (b * d)).1, .int (fr (a * d + c * b) (b * d)).2] H Q
where SqL2 (H : Hp) (l : Addr) (a b : Int) : Prop := H l = some (.tup [.int a, .int b])
def spMul : Sp := fun vs H Q _ => ∃ (l r : Addr) (a b c d : Int), vs = [.ref l, .ref r] ∧ H l = some (.tup [.int a, .int b]) ∧ H r = some (.tup [.int c, .int d]) ∧ a.natAbs < 2 ^ 4000 ∧ b.natAbs < 2 ^ 4000 ∧ c.natAbs < 2 ^ 4000 ∧ d.natAbs < 2 ^ 4000 ∧ 0 < b ∧ 0 < d ∧
  RetU [.int (fr (a * c) (b * d)).1, .int (fr (a * c) (b * d)).2] H Q
/-- a list of ints without the zeros at its end, new -/
def spTrim (K : PySem.W.Frag) : Sp := fun vs H Q _ => ∃ (a : Addr) (ns : List Int), vs = [.ref a] ∧ SqL K H a (iV ns) ∧ ns.length ≤ 1000 ∧ Evl.RetL (iV (trm ns)) H Q
theorem at2_0 {a b : V} : atI [a, b] 0 = some a := by rfl
theorem at2_1 {a b : V} : atI [a, b] 1 = some b := by rfl
theorem pw_mul {i j : Int} {n m k : Nat} (h1 : i.natAbs < 2 ^ n) (h2 : j.natAbs < 2 ^ m) (h : n + m ≤ k) : (i * j).natAbs < 2 ^ k :=
  Nat.lt_of_lt_of_le (wide_lt h1 h2) (Nat.pow_le_pow_right (by decide) h)
theorem pw_add {i j : Int} {n k : Nat} (h1 : i.natAbs < 2 ^ n) (h2 : j.natAbs < 2 ^ n) (h : n + 1 ≤ k) : (i + j).natAbs < 2 ^ k := by
  have h3 : (2 : Nat) ^ (n + 1) ≤ 2 ^ k := Nat.pow_le_pow_right (by decide) h
  rw [Nat.pow_succ] at h3
  omega
section
variable {base : Heap} {mg : Str → Option Value} {K : PySem.W.Frag} {w : World} {P : Program}
theorem ok_ratio {f : Addr} {fd : FuncData} (F : Fun K "_law_pv_ratio" "_law_pv_ratio" s_l_ratio f fd) (T : T0 mg) (cS : Cal P w K mg base 1 "_law_pv_shared" p_l_shared spShared) : FnOk P w K mg base CX0 2 f fd p_l_ratio spRatio := by
  refine F.ok sc_l_ratio (fun vs H Q E h => ?_) (fun cdv A outer s H vs Q E hr h => ?_)
  · obtain ⟨x, y, rfl, _⟩ := h
    rfl
  · obtain ⟨x, y, rfl, hx, hy, y0, k⟩ := h
    have nd := sc_l_ratio.nd
    refine ⟨_, pss_cons (ps_set (i := 2) nd rfl (Or.inl rfl) (pe_op op_mul (pe_c cS hr (pa_cons (pv 0) (pa_cons (pv 1) pa_nil))) (pe_op op_sub pe_int (pe_op op_mul pe_int (pe_callTy call_int1 (by rfl) T.int (by decide +kernel) (pa_cons (pe_cmpR op_lt (pv 1) pe_int (nomark _)) pa_nil))))))
      (pss_one (ps_ret (pe_tup (pa_cons (pe_op op_fdivW (pv 0) (pv 2)) (pa_cons (pe_op op_fdivW (pv 1) (pv 2)) pa_nil))))), ?_⟩
    have e0 : (1 - 2 * (if decide (y < 0) = true then (1 : Int) else 0)) = 1 := by rw [decide_eq_false (by omega)]; rfl
    have g := gcd_pos (u := x) y0
    have gb : (Int.gcd x y : Int).natAbs < 2 ^ 9000 := by
      rw [Int.natAbs_natCast]
      exact Nat.lt_of_le_of_lt (Nat.gcd_le_right _ (by omega)) hy
    have eG : (Int.gcd x y : Int) * (1 - 2 * (if decide (y < 0) = true then (1 : Int) else 0)) = (Int.gcd x y : Int) := by rw [e0, Int.mul_one]
    have cD : CDivW x ((Int.gcd x y : Int) * (1 - 2 * (if decide (y < 0) = true then (1 : Int) else 0))) := by rw [eG]; exact wide_div g gb (by decide) (by decide)
    refine ⟨_, rfl, _, rfl, x, y, rfl, hx, hy, fun H2 e2 => ?_⟩
    refine ⟨_, rfl, _, _, rfl, rfl, .inr ⟨_, rfl, 2, _, rfl, rfl, .inl ⟨by decide, by decide⟩, 1, _, rfl, rfl, _, _, rfl, rfl, .inr ⟨by rw [e0]; decide, by rw [e0]; decide⟩, ?_⟩⟩
    refine ⟨_, rfl, _, rfl, _, _, rfl, rfl, cD, _, rfl, _, rfl, _, _, rfl, rfl, cD, (by show 2 ≤ sizeLine; decide), fun p hp => ?_⟩
    refine k p _ (Evl.fresh_back e2 hp) (e2.trans (Evl.Ex.new hp)) ?_
    rw [upd_same]
    show some (HO.tup [V.int (x / ((Int.gcd x y : Int) * (1 - 2 * (if decide (y < 0) = true then (1 : Int) else 0)))), V.int (y / ((Int.gcd x y : Int) * (1 - 2 * (if decide (y < 0) = true then (1 : Int) else 0))))]) = _
    rw [eG]
    rfl
theorem ok_add {f : Addr} {fd : FuncData} (F : Fun K "_law_pv_add" "_law_pv_add" s_l_add f fd) (cR : Cal P w K mg base 2 "_law_pv_ratio" p_l_ratio spRatio) : FnOk P w K mg base CX0 3 f fd p_l_add spAdd := by
  refine F.ok sc_l_add (fun vs H Q E h => ?_) (fun cdv A outer s H vs Q E hr h => ?_)
  · obtain ⟨l, r, a, b, c, d, rfl, _⟩ := h
    rfl
  · obtain ⟨l, r, a, b, c, d, rfl, hl, hr2, ha, hb, hc, hd, b0, d0, k⟩ := h
    have sl : SqT K H l [.int a, .int b] := SqT.of hl
    have sr : SqT K H r [.int c, .int d] := SqT.of hr2
    refine ⟨_, pss_one (ps_ret (pe_c cR hr (pa_cons (pe_op op_add (pe_op op_mulW (pe_ix ix_tup (pv 0) pe_int (fun _ _ => rfl)) (pe_ix ix_tup (pv 1) pe_int (fun _ _ => rfl))) (pe_op op_mulW (pe_ix ix_tup (pv 1) pe_int (fun _ _ => rfl)) (pe_ix ix_tup (pv 0) pe_int (fun _ _ => rfl))))
      (pa_cons (pe_op op_mulW (pe_ix ix_tup (pv 0) pe_int (fun _ _ => rfl)) (pe_ix ix_tup (pv 1) pe_int (fun _ _ => rfl))) pa_nil)))), ?_⟩
    have m1 := wide_mul ha hd (by decide) (by decide) (by decide)
    have m2 := wide_mul hc hb (by decide) (by decide) (by decide)
    have m3 := wide_mul hb hd (by decide) (by decide) (by decide)
    refine ⟨_, rfl, l, _, _, _, rfl, rfl, sl, at2_0, _, rfl, r, _, _, _, rfl, rfl, sr, at2_1, _, _, rfl, rfl, m1, ?_⟩
    refine ⟨_, rfl, r, _, _, _, rfl, rfl, sr, at2_0, _, rfl, l, _, _, _, rfl, rfl, sl, at2_1, _, _, rfl, rfl, m2, _, _, rfl, rfl, ?_⟩
    refine ⟨_, rfl, l, _, _, _, rfl, rfl, sl, at2_1, _, rfl, r, _, _, _, rfl, rfl, sr, at2_1, _, _, rfl, rfl, m3, ?_⟩
    exact ⟨_, _, rfl, pw_add (n := 8000) (pw_mul ha hd (by decide)) (pw_mul hc hb (by decide)) (by decide), pw_mul hb hd (by decide), Int.mul_pos b0 d0, k⟩
theorem ok_mul {f : Addr} {fd : FuncData} (F : Fun K "_law_pv_mul" "_law_pv_mul" s_l_mul f fd) (cR : Cal P w K mg base 2 "_law_pv_ratio" p_l_ratio spRatio) : FnOk P w K mg base CX0 3 f fd p_l_mul spMul := by
  refine F.ok sc_l_mul (fun vs H Q E h => ?_) (fun cdv A outer s H vs Q E hr h => ?_)
  · obtain ⟨l, r, a, b, c, d, rfl, _⟩ := h
    rfl
  · obtain ⟨l, r, a, b, c, d, rfl, hl, hr2, ha, hb, hc, hd, b0, d0, k⟩ := h
    have sl : SqT K H l [.int a, .int b] := SqT.of hl
    have sr : SqT K H r [.int c, .int d] := SqT.of hr2
    refine ⟨_, pss_one (ps_ret (pe_c cR hr (pa_cons (pe_op op_mulW (pe_ix ix_tup (pv 0) pe_int (fun _ _ => rfl)) (pe_ix ix_tup (pv 1) pe_int (fun _ _ => rfl)))
      (pa_cons (pe_op op_mulW (pe_ix ix_tup (pv 0) pe_int (fun _ _ => rfl)) (pe_ix ix_tup (pv 1) pe_int (fun _ _ => rfl))) pa_nil)))), ?_⟩
    have m1 := wide_mul ha hc (by decide) (by decide) (by decide)
    have m3 := wide_mul hb hd (by decide) (by decide) (by decide)
    refine ⟨_, rfl, l, _, _, _, rfl, rfl, sl, at2_0, _, rfl, r, _, _, _, rfl, rfl, sr, at2_0, _, _, rfl, rfl, m1, ?_⟩
    refine ⟨_, rfl, l, _, _, _, rfl, rfl, sl, at2_1, _, rfl, r, _, _, _, rfl, rfl, sr, at2_1, _, _, rfl, rfl, m3, ?_⟩
    exact ⟨_, _, rfl, pw_mul ha hc (by decide), pw_mul hb hd (by decide), Int.mul_pos b0 d0, k⟩
theorem ok_trim {f : Addr} {fd : FuncData} (F : Fun K "_law_pv_trim" "_law_pv_trim" s_l_trim f fd) {fS fR : Addr} (T : T1 mg fS fR) : FnOk P w K mg base CX0 1 f fd p_l_trim (spTrim K) := by
  refine F.ok sc_l_trim (fun vs H Q E h => ?_) (fun cdv A outer s H vs Q E hr h => ?_)
  · obtain ⟨a, ns, rfl, _⟩ := h
    rfl
  · obtain ⟨a, ns, rfl, hS, hl, k⟩ := h
    have nd := sc_l_trim.nd
    refine ⟨_, pss_cons (ps_set (i := 1) nd rfl (Or.inl rfl) (pe_callB call_len_seq (by rfl) T.len PySem.boot_len (pa_cons (pv 0) pa_nil)))
      (pss_cons (ps_for PassesOwn.never rfl (pi_range1 (by rfl) T.rng (pa_cons (pe_callB call_len_seq (by rfl) T.len PySem.boot_len (pa_cons (pv 0) pa_nil)) pa_nil)) (pg_name (i := 2) nd rfl (Or.inl rfl))
        (pss_one (ps_if (PW.pt (pw_and (pt_cmpR op_gt (pv 1) pe_int (nomark _)) (pw_and1 (pt_cmpR op_eq (pe_ix ix_list (pv 0) (pe_op op_sub (pv 1) pe_int) (fun _ _ => rfl)) pe_int (nomark _)))))
          (pss_one (ps_set (i := 1) nd rfl (Or.inl rfl) (pe_op op_sub (pv 1) pe_int))) pss_nil)))
      (pss_one (ps_ret (pe_callTy call_list_of (by rfl) T.lst (by decide +kernel) (pa_cons (pe_slice sl_list (pv 0) po_none (po_some (pv 1))) pa_nil))))), ?_⟩
    have hz := tz_le ns
    refine ⟨_, rfl, a, _, rfl, .inl hS, _, rfl, a, _, rfl, .inl hS, _, rfl, by rw [iV_len]; omega, by rw [iV_len]; omega, ?_⟩
    rw [Int.toNat_natCast, iV_len]
    refine for_range (n := ns.length) (fun i σ H' => H' = H ∧ ∃ (v : Option V), σ = [some (.ref a), some (.int ((ns.length - min i (tz ns) : Nat) : Int)), v]) ⟨rfl, none, by rw [← iV_len ns]; simp [L2.start]⟩ ?_ ?_
    · rintro i σ H' hi ⟨rfl, v, rfl⟩
      (refine ⟨_, rfl, _, _, rfl, rfl, _, rfl, ?_⟩)
      have sp : 0 < ns.length - min i (tz ns) := by omega
      refine ite2 (fun _ => ?_) (fun q => absurd (decide_eq_true (by omega : (0 : Int) < ((ns.length - min i (tz ns) : Nat) : Int))) q)
      obtain ⟨x, hx, h1, h2⟩ : ∃ x, ns[ns.length - 1 - min i (tz ns)]? = some x ∧ (i < tz ns → x = 0) ∧ (tz ns ≤ i → x ≠ 0) := by
        by_cases c : i < tz ns
        · refine ⟨0, ?_, fun _ => rfl, fun z => absurd c (by omega)⟩
          rw [Nat.min_eq_left (by omega)]
          exact tz_in ns i c
        · rw [Nat.min_eq_right (by omega)]
          obtain ⟨x, h3, h4⟩ := tz_at ns (by omega)
          exact ⟨x, h3, fun z => absurd z c, fun _ => h4⟩
      have ei : (((ns.length - min i (tz ns) : Nat) : Int) - 1) = ((ns.length - 1 - min i (tz ns) : Nat) : Int) := by omega
      refine ⟨_, rfl, _, rfl, _, _, rfl, rfl, a, _, _, .int x, rfl, rfl, hS, ?_, rfl, _, rfl, ?_⟩
      · show atI (iV ns) (((ns.length - min i (tz ns) : Nat) : Int) - 1) = _
        rw [ei]
        exact atI_nat (iV_at hx)
      · refine ite2 (fun q => ?_) (fun q => ?_)
        · have x0 : x = 0 := by
            have := of_decide_eq_true q
            injection this
          have c : i < tz ns := by
            rcases Nat.lt_or_ge i (tz ns) with c | c
            · exact c
            · exact absurd x0 (h2 c)
          refine ⟨_, rfl, _, _, rfl, rfl, rfl, some (.int (0 + (i : Int))), ?_⟩
          show [some (V.ref a), some (V.int (((ns.length - min i (tz ns) : Nat) : Int) - 1)), some (V.int (0 + (i : Int)))] = _
          rw [ei, show ns.length - 1 - min i (tz ns) = ns.length - min (i + 1) (tz ns) by omega]
        · have x0 : x ≠ 0 := fun e => q (decide_eq_true (by rw [e]))
          have c : tz ns ≤ i := by
            rcases Nat.lt_or_ge i (tz ns) with c | c
            · exact absurd (h1 c) x0
            · exact c
          refine ⟨rfl, some (.int (0 + (i : Int))), ?_⟩
          rw [show min (i + 1) (tz ns) = min i (tz ns) by omega]
          rfl
    · rintro σ H' ⟨rfl, v, rfl⟩
      rw [Nat.min_eq_right hz]
      refine ⟨_, rfl, _, rfl, _, rfl, a, _, rfl, hS, fun p hp => ?_⟩
      refine ⟨p, _, rfl, .inl (SqL.of upd_same), fun q hq => ?_⟩
      have qp : upd H' p (.lst (cutV (iV ns) none (some ((ns.length - tz ns : Nat) : Int)))) q = none := hq
      refine k q _ (Evl.fresh_back (Evl.Ex.new hp) hq) ((Evl.Ex.new hp).trans (Evl.Ex.new hq)) ?_
      rw [upd_same, cut_to _ (by rw [iV_len]; omega)]
      unfold trm iV
      rw [List.map_take]
end
end V2


namespace V2
/-! ## lists by their places; sums and products of polynomials -/
def vec (N : Nat) (f : Nat → Int) : List Int := (List.range N).map f
theorem vec_len (N : Nat) (f : Nat → Int) : (vec N f).length = N := by unfold vec; simp
theorem vec_get {N : Nat} {f : Nat → Int} {i : Nat} (h : i < N) : (vec N f)[i]? = some (f i) := by
  unfold vec; simp [h]
theorem vec_ext {N : Nat} {f : Nat → Int} {l : List Int} (hl : l.length = N) (h : ∀ i, i < N → l[i]? = some (f i)) : l = vec N f := by
  apply List.ext_getElem?
  intro i
  by_cases hi : i < N
  · rw [h i hi, vec_get hi]
  · rw [List.getElem?_eq_none (by omega), List.getElem?_eq_none (by rw [vec_len]; omega)]
theorem vec_congr {N : Nat} {f g : Nat → Int} (h : ∀ i, i < N → f i = g i) : vec N f = vec N g :=
  vec_ext (vec_len N f) fun i hi => by rw [vec_get hi, h i hi]
theorem vec_set {N : Nat} {f g : Nat → Int} {p : Nat} {v : Int} (hv : g p = v) (h : ∀ i, i ≠ p → g i = f i) : (vec N f).set p v = vec N g := by
  refine vec_ext (by rw [List.length_set, vec_len]) fun i hi => ?_
  by_cases e : i = p
  · subst e
    rw [List.getElem?_set_self (by rw [vec_len]; exact hi), hv]
  · rw [List.getElem?_set_ne (fun z => e z.symm), vec_get hi, h i e]
theorem vec_zero (N : Nat) : vec N (fun _ => 0) = List.replicate N 0 := by
  symm
  refine vec_ext (by simp) fun i hi => by simp [hi]
theorem getD_at {l : List Int} {k : Nat} {x : Int} (h : l[k]? = some x) : l.getD k 0 = x := by
  rw [List.getD_eq_getElem?_getD, h]; rfl
theorem getD_out {l : List Int} {k : Nat} (h : l.length ≤ k) : l.getD k 0 = 0 := by
  rw [List.getD_eq_getElem?_getD, List.getElem?_eq_none h]; rfl
/-- the sum, zeros at the end and all -/
def padd (xs ys : List Int) : List Int := vec (max xs.length ys.length) fun k => xs.getD k 0 + ys.getD k 0
/-- the first k rows of a product, at place i -/
def cf (xs ys : List Int) : Nat → Nat → Int
  | 0, _ => 0
  | k + 1, i => cf xs ys k i + (if k ≤ i then xs.getD k 0 * ys.getD (i - k) 0 else 0)
/-- k rows, and j places of the next -/
def rw_ (xs ys : List Int) (k j i : Nat) : Int := cf xs ys k i + (if k ≤ i ∧ i < k + j then xs.getD k 0 * ys.getD (i - k) 0 else 0)
theorem rw_0 (xs ys : List Int) (k i : Nat) : rw_ xs ys k 0 i = cf xs ys k i := by
  unfold rw_; rw [if_neg (by omega), Int.add_zero]
theorem rw_end (xs ys : List Int) (k i : Nat) : rw_ xs ys k ys.length i = rw_ xs ys (k + 1) 0 i := by
  rw [rw_0]
  unfold rw_
  show _ = cf xs ys k i + (if k ≤ i then xs.getD k 0 * ys.getD (i - k) 0 else 0)
  by_cases h1 : k ≤ i
  · by_cases h2 : i < k + ys.length
    · rw [if_pos ⟨h1, h2⟩, if_pos h1]
    · rw [if_neg (by omega), if_pos h1, getD_out (l := ys) (k := i - k) (by omega), Int.mul_zero]
  · rw [if_neg (by omega), if_neg h1]
theorem rw_step {xs ys : List Int} {k j : Nat} : rw_ xs ys k (j + 1) (k + j) = rw_ xs ys k j (k + j) + xs.getD k 0 * ys.getD j 0 := by
  unfold rw_
  rw [if_pos (by omega), if_neg (by omega), Int.add_zero, show k + j - k = j by omega]
theorem rw_other {xs ys : List Int} {k j i : Nat} (h : i ≠ k + j) : rw_ xs ys k (j + 1) i = rw_ xs ys k j i := by
  unfold rw_
  by_cases h1 : k ≤ i ∧ i < k + j
  · rw [if_pos h1, if_pos (by omega)]
  · rw [if_neg h1, if_neg (by omega)]
/-- the product, at N places -/
def pmul (xs ys : List Int) : List Int := vec (xs.length + ys.length - 1) (cf xs ys xs.length)
theorem cf_nil_right (xs : List Int) : ∀ k i, cf xs [] k i = 0
  | 0, _ => rfl
  | k + 1, i => by
    show cf xs [] k i + _ = 0
    rw [cf_nil_right xs k i]
    simp
theorem tz_vec0 (N : Nat) : trm (vec N fun _ => 0) = [] := by
  have h : ∀ l : List Int, (∀ x ∈ l, x = 0) → zer l = l.length := by
    intro l
    induction l with
    | nil => intro _; rfl
    | cons x r ih =>
      intro h
      unfold zer
      rw [if_pos (h x List.mem_cons_self), ih fun y hy => h y (List.mem_cons_of_mem _ hy)]
      rfl
  unfold trm tz
  rw [h _ (fun x hx => by
    rw [List.mem_reverse, vec_zero] at hx
    exact List.eq_of_mem_replicate hx), List.length_reverse, Nat.sub_self, List.take_zero]
theorem pmul_nil (xs : List Int) : trm (pmul xs []) = [] := by
  unfold pmul
  rw [vec_congr (g := fun _ => 0) fun i _ => cf_nil_right xs _ i]
  exact tz_vec0 _
theorem nil_pmul (ys : List Int) : trm (pmul [] ys) = [] := tz_vec0 _
/-- beyond the last row nothing -/
theorem cf_high {xs ys : List Int} : ∀ (k i : Nat), k + ys.length ≤ i + 1 → k < xs.length → cf xs ys k i = 0
  | 0, _, _, _ => rfl
  | k + 1, i, h, hk => by
    show cf xs ys k i + _ = 0
    rw [cf_high k i (by omega) (by omega)]
    by_cases h1 : k ≤ i
    · rw [if_pos h1, getD_out (l := ys) (k := i - k) (by omega)]
      simp
    · rw [if_neg h1]; rfl
theorem pol_pmul {xs ys : List Int} (hx : Pol xs) (hy : Pol ys) (nx : xs ≠ []) (ny : ys ≠ []) : Pol (pmul xs ys) := by
  intro z h
  have lx : 0 < xs.length := List.length_pos_iff.mpr nx
  have ly : 0 < ys.length := List.length_pos_iff.mpr ny
  unfold pmul at h
  rw [vec_len, vec_get (by omega)] at h
  have h := Option.some.inj h
  obtain ⟨n, en⟩ : ∃ n, xs.length = n + 1 := ⟨xs.length - 1, by omega⟩
  rw [en] at h
  have h2 : cf xs ys n (n + 1 + ys.length - 1 - 1) + (if n ≤ n + 1 + ys.length - 1 - 1 then xs.getD n 0 * ys.getD (n + 1 + ys.length - 1 - 1 - n) 0 else 0) = z := h
  rw [cf_high n _ (by omega) (by omega), if_pos (by omega), show n + 1 + ys.length - 1 - 1 - n = ys.length - 1 by omega, Int.zero_add] at h2
  have ex : xs[n]? = some xs[n] := List.getElem?_eq_getElem (by omega)
  have ey : ys[ys.length - 1]? = some ys[ys.length - 1] := List.getElem?_eq_getElem (by omega)
  rw [getD_at ex, getD_at ey] at h2
  rw [← h2]
  exact Int.mul_ne_zero (hx _ (by simpa [show xs.length - 1 = n by omega] using ex)) (hy _ ey)
end V2


namespace V2
open PySem L2
open PySem.Spec PyProof.Rows
section
variable {base : Heap} {mg : Str → Option Value} {K : PySem.W.Frag} {w : World} {P : Program}
theorem if_t {c : Bool} {A B : Prop} (hc : c = true) (h : A) : if c = true then A else B := by
  rw [if_pos hc]; exact h
theorem if_f {c : Bool} {A B : Prop} (hc : c = false) (h : B) : if c = true then A else B := by
  rw [hc, if_neg Bool.false_ne_true]; exact h
theorem ok_fraction {f : Addr} {fd : FuncData} (F : Fun K "fraction" "fraction" s_fraction f fd) (mG : mg "gcd" = some (.builtin "math.gcd")) : FnOk P w K mg base CX0 1 f fd p_fraction spRatio := by
  refine F.ok sc_fraction (fun vs H Q E h => ?_) (fun cdv A outer s H vs Q E hr h => ?_)
  · obtain ⟨x, y, rfl, _⟩ := h
    rfl
  · obtain ⟨x, y, rfl, hx, hy, y0, k⟩ := h
    have nd := sc_fraction.nd
    refine ⟨_, pss_cons (ps_set (i := 2) nd rfl (Or.inl rfl) (pe_callBfun cr_gcd (by rfl) mG (pa_cons (pv 0) (pa_cons (pv 1) pa_nil))))
      (pss_one (ps_ret (pe_tup (pa_cons (pe_op op_fdivW (pv 0) (pv 2)) (pa_cons (pe_op op_fdivW (pv 1) (pv 2)) pa_nil))))), ?_⟩
    have g := gcd_pos (u := x) y0
    have gb : (Int.gcd x y : Int).natAbs < 2 ^ 9000 := by
      rw [Int.natAbs_natCast]
      exact Nat.lt_of_le_of_lt (Nat.gcd_le_right _ (by omega)) hy
    have cD : CDivW x (Int.gcd x y : Int) := wide_div g gb (by decide) (by decide)
    refine ⟨_, rfl, _, rfl, x, y, rfl, ?_⟩
    refine ⟨_, rfl, _, rfl, _, _, rfl, rfl, cD, _, rfl, _, rfl, _, _, rfl, rfl, cD, (by show 2 ≤ sizeLine; decide), fun p hp => ?_⟩
    exact k p _ hp (Evl.Ex.new hp) upd_same
theorem ok_cut {f : Addr} {fd : FuncData} (F : Fun K "cut" "cut" s_cut f fd) (mL : mg "len" = none) : FnOk P w K mg base CX0 1 f fd p_cut (spTrim K) := by
  refine F.ok sc_cut (fun vs H Q E h => ?_) (fun cdv A outer s H vs Q E hr h => ?_)
  · obtain ⟨a, ns, rfl, _⟩ := h
    rfl
  · obtain ⟨a, ns, rfl, hS, hl, k⟩ := h
    have nd := sc_cut.nd
    refine ⟨_, pss_cons (ps_set (i := 1) nd rfl (Or.inl rfl) (pe_callB call_len_seq (by rfl) mL PySem.boot_len (pa_cons (pv 0) pa_nil)))
      (pss_cons (ps_while PassesOwn.never (PW.pt (pw_and (pt_cmpR op_gt (pv 1) pe_int (nomark _)) (pw_and1 (pt_cmpR op_eq (pe_ix ix_list (pv 0) (pe_op op_sub (pv 1) pe_int) (fun _ _ => rfl)) pe_int (nomark _)))))
          (pss_one (ps_aug (i := 1) nd rfl (.inl rfl) pe_int ip_sub)))
      (pss_one (ps_ret (pe_slice sl_list (pv 0) po_none (po_some (pv 1)))))), ?_⟩
    have hz := tz_le ns
    refine ⟨_, rfl, a, _, rfl, .inl hS, ?_⟩
    refine ⟨fun m σ H' => H' = H ∧ ns.length - tz ns ≤ m ∧ m ≤ ns.length ∧ σ = [some (.ref a), some (.int (m : Int))], ⟨ns.length, rfl, by omega, Nat.le_refl _, by rw [← iV_len ns]; simp [L2.start]⟩, ?_⟩
    rintro m σ H' ⟨rfl, h1, h2, rfl⟩
    have fin : ns.length - tz ns = m → Q = Q := fun _ => rfl
    (refine ⟨_, rfl, _, _, rfl, rfl, _, rfl, ?_⟩)
    by_cases hm : 0 < m
    · refine if_t (decide_eq_true (by omega)) ?_
      obtain ⟨x, hx, q1, q2⟩ : ∃ x, ns[m - 1]? = some x ∧ (ns.length - tz ns < m → x = 0) ∧ (m = ns.length - tz ns → x ≠ 0) := by
        by_cases c : ns.length - tz ns < m
        · have := tz_in ns (ns.length - m) (by omega)
          rw [show ns.length - 1 - (ns.length - m) = m - 1 by omega] at this
          exact ⟨0, this, fun _ => rfl, fun z => by omega⟩
        · obtain ⟨x, h3, h4⟩ := tz_at ns (by omega)
          rw [show ns.length - 1 - tz ns = m - 1 by omega] at h3
          exact ⟨x, h3, fun z => absurd z c, fun _ => h4⟩
      have ei : ((m : Int) - 1) = ((m - 1 : Nat) : Int) := by omega
      refine ⟨_, rfl, _, rfl, _, _, rfl, rfl, a, _, _, .int x, rfl, rfl, hS, ?_, rfl, _, rfl, ?_⟩
      · show atI (iV ns) ((m : Int) - 1) = _
        rw [ei]
        exact atI_nat (iV_at hx)
      · by_cases e : x = 0
        · subst e
          refine if_t (decide_eq_true rfl) ?_
          have c : ns.length - tz ns < m := by
            rcases Nat.lt_or_ge (ns.length - tz ns) m with c | c
            · exact c
            · exact absurd rfl (q2 (by omega))
          refine ⟨fun σ H2 => H2 = H' ∧ σ = [some (.ref a), some (.int ((m - 1 : Nat) : Int))], fun σ H2 z => ⟨m - 1, by omega, z.1, by omega, by omega, z.2⟩, ?_⟩
          refine ⟨_, rfl, _, _, rfl, rfl, rfl, ?_⟩
          show [some (V.ref a), some (V.int ((m : Int) - 1))] = _
          rw [ei]
        · refine if_f (decide_eq_false fun z => e (by injection z)) ?_
          have c : m = ns.length - tz ns := by
            rcases Nat.lt_or_ge (ns.length - tz ns) m with c | c
            · exact absurd (q1 c) e
            · omega
          refine ⟨_, rfl, _, rfl, _, rfl, a, _, rfl, hS, fun p hp => k p _ hp (Evl.Ex.new hp) ?_⟩
          rw [upd_same, cut_to _ (by rw [iV_len]; omega), c]
          unfold trm iV
          rw [List.map_take]
    · refine if_f (decide_eq_false (by omega)) ?_
      have c : m = ns.length - tz ns := by omega
      refine ⟨_, rfl, _, rfl, _, rfl, a, _, rfl, hS, fun p hp => k p _ hp (Evl.Ex.new hp) ?_⟩
      rw [upd_same, cut_to _ (by rw [iV_len]; omega), c]
      unfold trm iV
      rw [List.map_take]
end
end V2


namespace V2
open PySem L2
open PySem.Spec PyProof.Rows
/-- a list of ints at a -/
def Li (H : Hp) (a : Addr) (ns : List Int) : Prop := H a = some (.lst (iV ns))
theorem Li.sq {K : PySem.W.Frag} {H : Hp} {a : Addr} {ns : List Int} (h : Li H a ns) : SqL K H a (iV ns) := SqL.of h
theorem iV_set (ns : List Int) (j : Nat) (v : Int) : (iV ns).set j (.int v) = iV (ns.set j v) := by
  unfold iV; rw [List.map_set]
theorem iV_get {ns : List Int} {i : Nat} {x : V} (h : (iV ns)[i]? = some x) : ∃ n, ns[i]? = some n ∧ x = .int n := by
  unfold iV at h
  rw [List.getElem?_map] at h
  cases e : ns[i]? with
  | none =>
    rw [e] at h
    cases h
  | some n => rw [e] at h; exact ⟨n, rfl, (Option.some.inj h).symm⟩
theorem rep_flat (k : Nat) (x : V) : (List.replicate k [x]).flatten = List.replicate k x := by simp
theorem iV_rep (k : Nat) : iV (List.replicate k 0) = List.replicate k (.int 0) := by unfold iV; simp
/-- the mutual rows of a product, as the loops of both texts run them -/
def tRowsIn (K : PySem.W.Frag) : TS := tAsg (tOp (rI0 fun i j => .int (i + j)) (tOp (rIxL K) (tVar 2) (tOp (rI0 fun i j => .int (i + j)) (tVar 3) (tVar 5))) (tOp (rI CMul fun i j => .int (i * j)) (tVar 4) (tVar 6))) (gSub (tVar 2) (tOp (rI0 fun i j => .int (i + j)) (tVar 3) (tVar 5)) rSetL)
def tRows (K : PySem.W.Frag) : TS := tFor (iEnum K (tCons (tVar 0) tNil)) (gTup K 2 (gCons (gName 3) (gCons (gName 4) gNil))) (tFor (iEnum K (tCons (tVar 1) tNil)) (gTup K 2 (gCons (gName 5) (gCons (gName 6) gNil))) (tRowsIn K))
theorem rows_read {K : PySem.W.Frag} {D : Ends} {H : Hp} {a b l : Addr} {xs ys : List Int} {N : Nat} {u3 u4 u5 u6 : Option V} (ha : Li H a xs) (hb : Li H b ys) (hl : Li H l (vec N fun _ => 0)) (na : a ≠ l) (nb : b ≠ l) (hN : xs.length + ys.length ≤ N + 1)
    (hx : ∀ x ∈ xs, -(2 ^ 64) < x ∧ x < 2 ^ 64) (k : ∀ (H' : Hp) v3 v4 v5 v6, But l H H' → Li H' l (vec N (cf xs ys xs.length)) → D.nx [some (.ref a), some (.ref b), some (.ref l), v3, v4, v5, v6] H') :
    tRows K D [some (.ref a), some (.ref b), some (.ref l), u3, u4, u5, u6] H := by
  refine ⟨_, rfl, a, _, rfl, ha.sq, for_it walk_enum (fun i σ H' => ∃ v3 v4 v5 v6, σ = [some (.ref a), some (.ref b), some (.ref l), v3, v4, v5, v6] ∧ But l H H' ∧ Li H' l (vec N (rw_ xs ys i 0)))
    ⟨_, _, _, _, rfl, But.refl _ _, ?_⟩ (fun i σ H' _ ⟨_, _, _, _, _, q, _⟩ => SqL.of (q _ _ na ha)) ?_ ?_⟩
  · rw [vec_congr (g := fun _ => 0) fun i _ => by rw [rw_0]; rfl]
    exact hl
  · rintro i x σ H' H2 hi ⟨v3, v4, v5, v6, rfl, q, hL⟩ ⟨T, z, y, rfl, hT, rfl, hz, hy⟩
    obtain rfl := (Option.some.inj hz).symm
    obtain ⟨n, hn, rfl⟩ := iV_get hy
    rw [iV_len] at hi
    have nTl : T ≠ l := (ne_of_none hL hT).symm
    have q2 : But l H (upd H' T (.tup [.int (i : Nat), .int n])) := fun c o nc e => by
      rw [upd_ne (ne_of_none (q c o nc e) hT)]; exact q c o nc e
    refine ⟨T, _, rfl, SqT.of upd_same, rfl, _, _, rfl, _, _, rfl, rfl, ?_⟩
    have hL2 : Li (upd H' T (.tup [.int (i : Nat), .int n])) l (vec N (rw_ xs ys i 0)) := Eq.trans (upd_ne nTl.symm) hL
    refine ⟨_, rfl, b, _, rfl, SqL.of (q2 _ _ nb hb), for_it walk_enum (fun j σ H3 => ∃ v5 v6, σ = [some (.ref a), some (.ref b), some (.ref l), some (.int (i : Nat)), some (.int n), v5, v6] ∧ But l H H3 ∧ Li H3 l (vec N (rw_ xs ys i j)))
      ⟨_, _, rfl, q2, hL2⟩ (fun i σ H' _ ⟨_, _, _, q, _⟩ => SqL.of (q _ _ nb hb)) ?_ ?_⟩
    · rintro j x σ H3 H4 hj ⟨v5, v6, rfl, q3, hL3⟩ ⟨T2, z, y, rfl, hT2, rfl, hz, hy⟩
      obtain rfl := (Option.some.inj hz).symm
      obtain ⟨m, hm, rfl⟩ := iV_get hy
      rw [iV_len] at hj
      have nTl2 : T2 ≠ l := (ne_of_none hL3 hT2).symm
      refine ⟨T2, _, rfl, SqT.of upd_same, rfl, _, _, rfl, _, _, rfl, rfl, ?_⟩
      have hL4 : Li (upd H3 T2 (.tup [.int (j : Nat), .int m])) l (vec N (rw_ xs ys i j)) := Eq.trans (upd_ne nTl2.symm) hL3
      have hp : i + j < N := by omega
      have ep : ((i : Nat) : Int) + ((j : Nat) : Int) = ((i + j : Nat) : Int) := by omega
      refine ⟨_, rfl, _, rfl, _, rfl, _, _, rfl, rfl, l, _, _, .int (rw_ xs ys i j (i + j)), rfl, rfl, SqL.of hL4, ?_, _, rfl, _, rfl, n, m, rfl, rfl, .inl (hx n (List.mem_of_getElem? hn)), _, _, rfl, rfl, ?_⟩
      · show atI _ (((i : Nat) : Int) + ((j : Nat) : Int)) = _
        rw [ep]
        exact atI_nat (iV_at (vec_get hp))
      refine ⟨_, rfl, _, rfl, _, rfl, _, _, rfl, rfl, l, _, _, i + j, rfl, rfl, hL4, ?_, ?_⟩
      · show ixN _ (((i : Nat) : Int) + ((j : Nat) : Int)) = _
        rw [ep]
        exact Evl.ixN_nat (by rw [iV_len, vec_len]; exact hp)
      refine ⟨_, _, rfl, fun c o nc e => ?_, ?_⟩
      · rw [upd_ne nc, upd_ne (ne_of_none (q3 c o nc e) hT2)]
        exact q3 c o nc e
      · unfold Li
        rw [upd_same]
        show some (HO.lst ((iV (vec N (rw_ xs ys i j))).set (i + j) (.int (rw_ xs ys i j (i + j) + n * m)))) = _
        rw [iV_set, vec_set (g := rw_ xs ys i (j + 1)) (by rw [rw_step, getD_at hn, getD_at hm]) fun p hp => rw_other hp]
    · rintro σ H3 ⟨v5, v6, rfl, q3, hL3⟩
      refine ⟨_, _, _, _, rfl, q3, ?_⟩
      rw [iV_len, vec_congr (g := rw_ xs ys (i + 1) 0) fun p _ => rw_end xs ys i p] at hL3
      exact hL3
  · rintro σ H' ⟨v3, v4, v5, v6, rfl, q, hL⟩
    rw [iV_len, vec_congr (g := cf xs ys xs.length) fun i _ => rw_0 _ _ _ _] at hL
    exact k H' v3 v4 v5 v6 q hL
/-- a polynomial that may be handed over: at most 16 numbers below 2 ^ 64 -/
def Pn (ns : List Int) : Prop := Pol ns ∧ ns.length ≤ 16 ∧ ∀ x ∈ ns, -(2 ^ 64) < x ∧ x < 2 ^ 64
def spTwo (m : List Int → List Int → List Int) : Sp := fun vs H Q _ => ∃ (a b : Addr) (xs ys : List Int), vs = [.ref a, .ref b] ∧ Li H a xs ∧ Li H b ys ∧ Pn xs ∧ Pn ys ∧ Evl.RetL (iV (m xs ys)) H Q
structure T2 (mg : Str → Option Value) : Prop where
  len : mg "len" = none
  max : mg "max" = none
  rng : mg "range" = none
  enu : mg "enumerate" = none
section
variable {base : Heap} {mg : Str → Option Value} {K : PySem.W.Frag} {w : World} {P : Program}
theorem tru_list {H : Hp} {a : Addr} {ns : List Int} (h : Li H a ns) : TruV K (.ref a) H (!(iV ns).isEmpty) := .inl ⟨_, SqL.of h, rfl⟩
theorem ok_multiplied {f : Addr} {fd : FuncData} (F : Fun K "multiplied" "multiplied" s_multiplied f fd) (T : T2 mg) : FnOk P w K mg base CX0 1 f fd p_multiplied (spTwo fun xs ys => trm (pmul xs ys)) := by
  refine F.ok sc_multiplied (fun vs H Q E h => ?_) (fun cdv A outer s H vs Q E hr h => ?_)
  · obtain ⟨a, b, xs, ys, rfl, _⟩ := h
    rfl
  · obtain ⟨a, b, xs, ys, rfl, ha, hb, hx, hy, k⟩ := h
    have k : Evl.RetL (iV (trm (pmul xs ys))) H Q := k
    have nd := sc_multiplied.nd
    refine ⟨_, pss_cons (ps_if (PW.pt (pw_or (pt_not (pt_truth (pv 0) (by intro _; rfl))) (pw_or1 (pt_not (pt_truth (pv 1) (by intro _; rfl)))))) (pss_one (ps_ret (pe_lst pa_nil))) pss_nil)
      (pss_cons (ps_set (i := 2) nd rfl (Or.inl rfl) (pe_op op_rep (pe_lst (pa_cons pe_int pa_nil)) (pe_op op_sub (pe_op op_add (pe_callB call_len_seq (by rfl) T.len PySem.boot_len (pa_cons (pv 0) pa_nil)) (pe_callB call_len_seq (by rfl) T.len PySem.boot_len (pa_cons (pv 1) pa_nil))) pe_int)))
      (pss_cons (ps_for PassesOwn.never rfl (pi_enum (by rfl) T.enu (pa_cons (pv 0) pa_nil)) (pg_tup rfl (pgs_cons (pg_name (i := 3) nd rfl (Or.inl rfl)) (pgs_cons (pg_name (i := 4) nd rfl (Or.inl rfl)) pgs_nil)))
        (pss_one (ps_for PassesOwn.never rfl (pi_enum (by rfl) T.enu (pa_cons (pv 1) pa_nil)) (pg_tup rfl (pgs_cons (pg_name (i := 5) nd rfl (Or.inl rfl)) (pgs_cons (pg_name (i := 6) nd rfl (Or.inl rfl)) pgs_nil)))
          (pss_one (ps_asg (pe_op op_add (pe_ix ix_list (pv 2) (pe_op op_add (pv 3) (pv 5)) (fun _ _ => rfl)) (pe_op op_mul (pv 4) (pv 6))) (pg_sub (pv 2) (pe_op op_add (pv 3) (pv 5)) set_list))))))
      (pss_one (ps_ret (pv 2))))), ?_⟩
    have none_ : xs = [] ∨ ys = [] → trm (pmul xs ys) = [] := by
      rintro (e | e)
      · rw [e]; exact nil_pmul ys
      · rw [e]; exact pmul_nil xs
    refine ⟨_, rfl, _, tru_list ha, ?_⟩
    by_cases ex : xs = []
    · refine if_t (by rw [ex]; rfl) ?_
      refine ite2 (fun _ => ?_) (fun z => absurd rfl z)
      refine ⟨Nat.zero_le _, fun p hp => k p _ hp (Evl.Ex.new hp) ?_⟩
      rw [upd_same, none_ (.inl ex)]; rfl
    refine if_f (by cases xs with | nil => exact absurd rfl ex | cons _ _ => rfl) ⟨_, rfl, _, tru_list hb, ?_⟩
    by_cases ey : ys = []
    · refine if_t (by rw [ey]; rfl) ?_
      refine ⟨Nat.zero_le _, fun p hp => k p _ hp (Evl.Ex.new hp) ?_⟩
      rw [upd_same, none_ (.inr ey)]; rfl
    refine if_f (by cases ys with | nil => exact absurd rfl ey | cons _ _ => rfl) ?_
    have lx : 0 < xs.length := List.length_pos_iff.mpr ex
    have ly : 0 < ys.length := List.length_pos_iff.mpr ey
    obtain ⟨px, hx2, hx3⟩ := hx
    obtain ⟨py, hy2, hy3⟩ := hy
    refine ⟨(by show 1 ≤ sizeLine; decide), fun p hp => ?_⟩
    have ha1 : Li (upd H p (.lst [.int 0])) a xs := Eq.trans (upd_ne (ne_of_none ha hp)) ha
    have hb1 : Li (upd H p (.lst [.int 0])) b ys := Eq.trans (upd_ne (ne_of_none hb hp)) hb
    refine ⟨_, rfl, a, _, rfl, .inl ha1.sq, _, rfl, b, _, rfl, .inl hb1.sq, _, _, rfl, rfl, _, _, rfl, rfl, p, _, _, rfl, rfl, upd_same, by rw [iV_len, iV_len]; omega, by rw [iV_len, iV_len]; omega, ?_, fun l hl => ?_⟩
    · rw [iV_len, iV_len]
      show 1 * _ ≤ sizeLine
      refine Nat.le_trans ?_ (show 100 ≤ sizeLine by decide)
      omega
    have eN : (((iV xs).length : Int) + ((iV ys).length : Int) - 1).toNat = xs.length + ys.length - 1 := by rw [iV_len, iV_len]; omega
    refine rows_read (K := K) (N := xs.length + ys.length - 1) (Eq.trans (upd_ne (ne_of_none ha1 hl)) ha1) (Eq.trans (upd_ne (ne_of_none hb1 hl)) hb1) ?_ (ne_of_none ha1 hl) (ne_of_none hb1 hl) (by omega) hx3 fun H' v3 v4 v5 v6 q hL => ?_
    · unfold Li
      rw [upd_same]
      show some (HO.lst (List.replicate (((iV xs).length : Int) + ((iV ys).length : Int) - 1).toNat [V.int 0]).flatten) = _
      rw [eN, rep_flat, vec_zero, iV_rep]
    · refine ⟨_, rfl, k l H' (Evl.fresh_back (Evl.Ex.new hp) hl) (fun c o e => ?_) ?_⟩
      · have e1 : upd H p (.lst [.int 0]) c = some o := Eq.trans (upd_ne (ne_of_none e hp)) e
        exact q c o (ne_of_none e1 hl) (Eq.trans (upd_ne (ne_of_none e1 hl)) e1)
      · rw [trm_pol (pol_pmul px py ex ey)]
        exact hL
end
end V2


namespace V2
open PySem L2
open PySem.Spec PyProof.Rows
theorem max_len (n m : Nat) : (if (m : Int) > (n : Int) then (m : Int) else (n : Int)) = ((max n m : Nat) : Int) := by
  split <;> omega
theorem gt_len (n m k : Nat) (h : k = max n m) : (if (m : Int) > (n : Int) then (m : Int) else (n : Int)) = (k : Int) := by
  rw [h]; exact max_len n m
/-- a list made longer by zeros -/
def pad (ns : List Int) (N : Nat) : List Int := ns ++ List.replicate (N - ns.length) 0
theorem pad_at {ns : List Int} {N i : Nat} (h : i < N) (hl : ns.length ≤ N) : (pad ns N)[i]? = some (ns.getD i 0) := by
  unfold pad
  by_cases h1 : i < ns.length
  · rw [List.getElem?_append_left h1, List.getD_eq_getElem?_getD, List.getElem?_eq_getElem h1]; rfl
  · rw [List.getElem?_append_right (by omega), getD_out (by omega), List.getElem?_replicate, if_pos (by omega)]
theorem iV_app (xs ys : List Int) : iV xs ++ iV ys = iV (xs ++ ys) := by unfold iV; rw [List.map_append]
theorem given_vec (n : Nat) (g : Nat → Int) : Evl.given n (fun _ => true) (fun i => .int (g i)) = iV (vec n g) := by
  unfold Evl.given iV vec
  rw [List.filter_eq_self.mpr (by simp), List.map_map]
  rfl
/-- xs + [0] * (n - len(xs)) -/
theorem el_pad {K : PySem.W.Frag} {σ : L2.St} {H : Hp} {i j : Nat} {a : Addr} {xs : List Int} {n : Nat} (hi : σ[i]? = some (some (.ref a))) (hj : σ[j]? = some (some (.int (n : Int)))) (ha : Li H a xs) (hl : xs.length ≤ n) (hn : n ≤ 100) :
    Evl.EvL (tOp rCat (tVar i) (tOp rRep (tLst (tCons (tC (.int 0)) tNil)) (tOp (rI0 fun i j => .int (i - j)) (tVar j) (tCB (Evl.rLenS K) (tCons (tVar i) tNil))))) σ H (iV (pad xs n)) := by
  intro H1 e1 Q k
  have ha1 : Li H1 a xs := e1 _ _ ha
  refine ⟨_, hi, (by show 1 ≤ sizeLine; decide), fun p hp => ?_⟩
  have e2 : Evl.Ex H1 (upd H1 p (.lst [.int 0])) := Evl.Ex.new hp
  refine ⟨_, hj, _, hi, a, _, rfl, .inl (SqL.of (e2 _ _ ha1)), _, _, rfl, rfl, p, _, _, rfl, rfl, upd_same, by rw [iV_len]; omega, by rw [iV_len]; omega, ?_, fun q hq => ?_⟩
  · rw [iV_len]
    show 1 * _ ≤ sizeLine
    exact Nat.le_trans (by omega) (show 100 ≤ sizeLine by decide)
  have e3 := e2.trans (Evl.Ex.new (o := .lst (List.replicate ((n : Int) - ((iV xs).length : Int)).toNat [V.int 0]).flatten) hq)
  refine ⟨a, q, _, _, rfl, rfl, e3 _ _ ha1, upd_same, ?_, fun r hr2 => ?_⟩
  · simp only [iV_len, rep_flat, List.length_replicate]
    exact Nat.le_trans (by omega) (show 100 ≤ sizeLine by decide)
  refine k r _ (Evl.fresh_back e3 hr2) (e3.trans (Evl.Ex.new hr2)) ?_
  rw [upd_same, rep_flat, iV_len, ← iV_rep, iV_app, show ((n : Int) - (xs.length : Int)).toNat = n - xs.length by omega]
  rfl
/-- [mine[k] + yours[k] for k in range(n)] -/
theorem el_sums {K : PySem.W.Frag} {σ : L2.St} {H : Hp} {im iy jn jk : Nat} {a b : Addr} {xs ys : List Int} {n : Nat} (hn : σ[jn]? = some (some (.int (n : Int)))) (ha : Li H a (pad xs n)) (hb : Li H b (pad ys n)) (hx : xs.length ≤ n) (hy : ys.length ≤ n) (h100 : n ≤ 100)
    (hw : ∀ x, wipe ((wipe σ [jk]).set jk (some x)) [jk] = wipe σ [jk]) (hm : ∀ x, ((wipe σ [jk]).set jk (some x))[im]? = some (some (.ref a))) (hyy : ∀ x, ((wipe σ [jk]).set jk (some x))[iy]? = some (some (.ref b))) (hk : ∀ x, ((wipe σ [jk]).set jk (some x))[jk]? = some (some x)) :
    Evl.EvL (tLc (iRng1 (tCons (tVar jn) tNil)) (gName jk) tYes (tOp (rI0 fun i j => .int (i + j)) (tOp (rIxL K) (tVar im) (tVar jk)) (tOp (rIxL K) (tVar iy) (tVar jk))) [jk]) σ H (iV (vec n fun k => xs.getD k 0 + ys.getD k 0)) := by
  have h := Evl.el_lcR1 (σ := σ) (H := H) (ta := tCons (tVar jn) tNil) (j := jk) (vs := [jk]) (t := tYes) (te := tOp (rI0 fun i j => .int (i + j)) (tOp (rIxL K) (tVar im) (tVar jk)) (tOp (rIxL K) (tVar iy) (tVar jk))) (n := (n : Int)) (fun _ => true) (fun k => .int (xs.getD k 0 + ys.getD k 0))
    (Evl.ea_cons (Evl.ev_var hn) Evl.ea_nil) ⟨by omega, by omega⟩ hw (fun i H1 _ _ => fun H2 e2 Q q => q H2 (Evl.Ex.refl _)) (fun i H1 e1 hi _ => ?_)
  · rw [Int.toNat_natCast, given_vec] at h
    exact h
  · have hi : i < n := by omega
    exact Evl.ev_op (Evl.ev_op (Evl.ev_var (hm _)) (Evl.ev_var (hk _)) (Evl.rv_ixL (SqL.of (e1 _ _ ha)) (atI_nat (iV_at (pad_at hi hx)))))
      (Evl.ev_op (Evl.ev_var (hyy _)) (Evl.ev_var (hk _)) (Evl.rv_ixL (SqL.of (e1 _ _ hb)) (atI_nat (iV_at (pad_at hi hy))))) Evl.rv_I0
section
variable {base : Heap} {mg : Str → Option Value} {K : PySem.W.Frag} {w : World} {P : Program}
theorem ok_product {f : Addr} {fd : FuncData} (F : Fun K "_law_pv_product" "_law_pv_product" s_l_product f fd) (T : T2 mg) (cT : Cal P w K mg base 1 "_law_pv_trim" p_l_trim (spTrim K)) : FnOk P w K mg base CX0 2 f fd p_l_product (spTwo fun xs ys => trm (pmul xs ys)) := by
  refine F.ok sc_l_product (fun vs H Q E h => ?_) (fun cdv A outer s H vs Q E hr h => ?_)
  · obtain ⟨a, b, xs, ys, rfl, _⟩ := h
    rfl
  · obtain ⟨a, b, xs, ys, rfl, ha, hb, hx, hy, k⟩ := h
    have k : Evl.RetL (iV (trm (pmul xs ys))) H Q := k
    have nd := sc_l_product.nd
    refine ⟨_, pss_cons (ps_set (i := 2) nd rfl (Or.inl rfl) (pe_op op_rep (pe_lst (pa_cons pe_int pa_nil)) (pe_callB (call_max2 rfl) (by rfl) T.max (by decide +kernel) (pa_cons pe_int (pa_cons (pe_op op_sub (pe_op op_add (pe_callB call_len_seq (by rfl) T.len PySem.boot_len (pa_cons (pv 0) pa_nil)) (pe_callB call_len_seq (by rfl) T.len PySem.boot_len (pa_cons (pv 1) pa_nil))) pe_int) pa_nil)))))
      (pss_cons (ps_for PassesOwn.never rfl (pi_enum (by rfl) T.enu (pa_cons (pv 0) pa_nil)) (pg_tup rfl (pgs_cons (pg_name (i := 3) nd rfl (Or.inl rfl)) (pgs_cons (pg_name (i := 4) nd rfl (Or.inl rfl)) pgs_nil)))
        (pss_one (ps_for PassesOwn.never rfl (pi_enum (by rfl) T.enu (pa_cons (pv 1) pa_nil)) (pg_tup rfl (pgs_cons (pg_name (i := 5) nd rfl (Or.inl rfl)) (pgs_cons (pg_name (i := 6) nd rfl (Or.inl rfl)) pgs_nil)))
          (pss_one (ps_asg (pe_op op_add (pe_ix ix_list (pv 2) (pe_op op_add (pv 3) (pv 5)) (fun _ _ => rfl)) (pe_op op_mul (pv 4) (pv 6))) (pg_sub (pv 2) (pe_op op_add (pv 3) (pv 5)) set_list))))))
      (pss_one (ps_ret (pe_c cT hr (pa_cons (pv 2) pa_nil))))), ?_⟩
    obtain ⟨px, hx2, hx3⟩ := hx
    obtain ⟨py, hy2, hy3⟩ := hy
    refine ⟨(by show 1 ≤ sizeLine; decide), fun p hp => ?_⟩
    have ha1 : Li (upd H p (.lst [.int 0])) a xs := Eq.trans (upd_ne (ne_of_none ha hp)) ha
    have hb1 : Li (upd H p (.lst [.int 0])) b ys := Eq.trans (upd_ne (ne_of_none hb hp)) hb
    have eN : (if ((iV xs).length : Int) + ((iV ys).length : Int) - 1 > 0 then ((iV xs).length : Int) + ((iV ys).length : Int) - 1 else (0 : Int)) = ((xs.length + ys.length - 1 : Nat) : Int) := by
      rw [iV_len, iV_len]; split <;> omega
    refine ⟨_, rfl, a, _, rfl, .inl ha1.sq, _, rfl, b, _, rfl, .inl hb1.sq, _, _, rfl, rfl, _, _, rfl, rfl, _, _, rfl, p, _, _, rfl, rfl, upd_same, by rw [eN]; omega, by rw [eN]; omega, ?_, fun l hl => ?_⟩
    · rw [eN]
      show 1 * _ ≤ sizeLine
      refine Nat.le_trans ?_ (show 100 ≤ sizeLine by decide)
      omega
    refine rows_read (K := K) (N := xs.length + ys.length - 1) (Eq.trans (upd_ne (ne_of_none ha1 hl)) ha1) (Eq.trans (upd_ne (ne_of_none hb1 hl)) hb1) ?_ (ne_of_none ha1 hl) (ne_of_none hb1 hl) (by omega) hx3 fun H' v3 v4 v5 v6 q hL => ?_
    · unfold Li
      rw [upd_same, eN, Int.toNat_natCast, rep_flat, vec_zero, iV_rep]
    · refine ⟨_, rfl, l, _, rfl, hL.sq, by rw [vec_len]; omega, fun r H2 hr e2 h2 => ?_⟩
      have e0 : Evl.Ex H H' := fun c o e => by
        have e1 : upd H p (.lst [.int 0]) c = some o := Eq.trans (upd_ne (ne_of_none e hp)) e
        exact q c o (ne_of_none e1 hl) (Eq.trans (upd_ne (ne_of_none e1 hl)) e1)
      exact k r H2 (Evl.fresh_back e0 hr) (e0.trans e2) h2
theorem ok_added {f : Addr} {fd : FuncData} (F : Fun K "added" "added" s_added f fd) (T : T2 mg) (cT : Cal P w K mg base 1 "cut" p_cut (spTrim K)) : FnOk P w K mg base CX0 2 f fd p_added (spTwo fun xs ys => trm (padd xs ys)) := by
  refine F.ok sc_added (fun vs H Q E h => ?_) (fun cdv A outer s H vs Q E hr h => ?_)
  · obtain ⟨a, b, xs, ys, rfl, _⟩ := h
    rfl
  · obtain ⟨a, b, xs, ys, rfl, ha, hb, hx, hy, k⟩ := h
    have k : Evl.RetL (iV (trm (padd xs ys))) H Q := k
    have nd := sc_added.nd
    refine ⟨_, pss_cons (ps_set (i := 2) nd rfl (Or.inl rfl) (pe_callB (call_max2 rfl) (by rfl) T.max (by decide +kernel) (pa_cons (pe_callB call_len_seq (by rfl) T.len PySem.boot_len (pa_cons (pv 0) pa_nil)) (pa_cons (pe_callB call_len_seq (by rfl) T.len PySem.boot_len (pa_cons (pv 1) pa_nil)) pa_nil))))
      (pss_cons (ps_asg (pe_tup (pa_cons (pe_op op_cat (pv 0) (pe_op op_rep (pe_lst (pa_cons pe_int pa_nil)) (pe_op op_sub (pv 2) (pe_callB call_len_seq (by rfl) T.len PySem.boot_len (pa_cons (pv 0) pa_nil)))))
          (pa_cons (pe_op op_cat (pv 1) (pe_op op_rep (pe_lst (pa_cons pe_int pa_nil)) (pe_op op_sub (pv 2) (pe_callB call_len_seq (by rfl) T.len PySem.boot_len (pa_cons (pv 1) pa_nil))))) pa_nil))) (pg_tup rfl (pgs_cons (pg_name (i := 3) nd rfl (Or.inr rfl)) (pgs_cons (pg_name (i := 4) nd rfl (Or.inr rfl)) pgs_nil))))
      (pss_one (ps_ret (pe_c cT hr (pa_cons (pe_lc (own := [("k", 5)]) (g := gName 5) (tt := tYes) (te := tOp (rI0 fun i j => .int (i + j)) (tOp (rIxL K) (tVar 3) (tVar 5)) (tOp (rIxL K) (tVar 4) (tVar 5))) rfl nd (pi_range1 (by rfl) T.rng (pa_cons (pv 2) pa_nil)) (blkOk_by (N := n_added) (sc := defScope s_added) (by decide +kernel)) (fun _ _ _ _ _ => pg_name (i := 5) nd rfl (Or.inl rfl)) (fun _ _ _ _ _ => pts_nil)
        (fun _ _ _ _ _ => pe_op op_add (pe_ix ix_list (pv 3) (pv 5) (fun _ _ => rfl)) (pe_ix ix_list (pv 4) (pv 5) (fun _ _ => rfl)))) pa_nil))))), ?_⟩
    obtain ⟨px, hx2, hx3⟩ := hx
    obtain ⟨py, hy2, hy3⟩ := hy
    generalize hn : max xs.length ys.length = n
    have em : (if ((iV ys).length : Int) > ((iV xs).length : Int) then ((iV ys).length : Int) else ((iV xs).length : Int)) = (n : Int) := by
      rw [iV_len, iV_len]; exact gt_len _ _ _ hn.symm
    refine ⟨_, rfl, a, _, rfl, .inl ha.sq, _, rfl, b, _, rfl, .inl hb.sq, _, _, rfl, ?_⟩
    rw [em]
    refine el_pad (K := K) (n := n) (xs := xs) (a := a) rfl rfl ha (by omega) (by omega) H (Evl.Ex.refl _) _ fun p H1 hp e1 h1 => ?_
    refine el_pad (K := K) (n := n) (xs := ys) (a := b) rfl rfl (e1 _ _ hb) (by omega) (by omega) H1 (Evl.Ex.refl _) _ fun q H2 hq e2 h2 => ?_
    refine ⟨(by show 2 ≤ sizeLine; decide), fun t ht => ?_⟩
    have e3 : Evl.Ex H2 (upd H2 t (.tup [.ref p, .ref q])) := Evl.Ex.new ht
    refine ⟨t, _, rfl, SqT.of upd_same, rfl, _, _, rfl, _, _, rfl, rfl, ?_⟩
    have hG := el_sums (K := K) (σ := [some (.ref a), some (.ref b), some (.int (n : Int)), some (.ref p), some (.ref q), none]) (jn := 2) (jk := 5) (im := 3) (iy := 4) (n := n) (xs := xs) (ys := ys) (a := p) (b := q) rfl (e3 _ _ (e2 _ _ h1)) (e3 _ _ h2) (by omega) (by omega) (by omega) (by intro _; rfl) (by intro _; rfl) (by intro _; rfl) (by intro _; rfl) _ (Evl.Ex.refl _) (fun x H1 => spTrim K [x] H1 Q E0) (fun r H4 hr4 e4 h4 => by
      refine ⟨r, _, rfl, SqL.of h4, by rw [vec_len]; omega, fun z H5 hz e5 h5 => ?_⟩
      have e05 := ((e1.trans e2).trans e3).trans e4
      refine k z H5 (Evl.fresh_back e05 hz) (e05.trans e5) ?_
      rw [h5, ← hn]
      rfl)
    exact hG
theorem ok_sum {f : Addr} {fd : FuncData} (F : Fun K "_law_pv_sum" "_law_pv_sum" s_l_sum f fd) (T : T2 mg) (cT : Cal P w K mg base 1 "_law_pv_trim" p_l_trim (spTrim K)) : FnOk P w K mg base CX0 2 f fd p_l_sum (spTwo fun xs ys => trm (padd xs ys)) := by
  refine F.ok sc_l_sum (fun vs H Q E h => ?_) (fun cdv A outer s H vs Q E hr h => ?_)
  · obtain ⟨a, b, xs, ys, rfl, _⟩ := h
    rfl
  · obtain ⟨a, b, xs, ys, rfl, ha, hb, hx, hy, k⟩ := h
    have k : Evl.RetL (iV (trm (padd xs ys))) H Q := k
    have nd := sc_l_sum.nd
    refine ⟨_, pss_cons (ps_set (i := 2) nd rfl (Or.inl rfl) (pe_callB (call_max2 rfl) (by rfl) T.max (by decide +kernel) (pa_cons (pe_callB call_len_seq (by rfl) T.len PySem.boot_len (pa_cons (pv 0) pa_nil)) (pa_cons (pe_callB call_len_seq (by rfl) T.len PySem.boot_len (pa_cons (pv 1) pa_nil)) pa_nil))))
      (pss_cons (ps_set (i := 0) nd rfl (Or.inr rfl) (pe_op op_cat (pv 0) (pe_op op_rep (pe_lst (pa_cons pe_int pa_nil)) (pe_op op_sub (pv 2) (pe_callB call_len_seq (by rfl) T.len PySem.boot_len (pa_cons (pv 0) pa_nil))))))
      (pss_cons (ps_set (i := 1) nd rfl (Or.inr rfl) (pe_op op_cat (pv 1) (pe_op op_rep (pe_lst (pa_cons pe_int pa_nil)) (pe_op op_sub (pv 2) (pe_callB call_len_seq (by rfl) T.len PySem.boot_len (pa_cons (pv 1) pa_nil))))))
      (pss_one (ps_ret (pe_c cT hr (pa_cons (pe_lc (own := [("k", 3)]) (g := gName 3) (tt := tYes) (te := tOp (rI0 fun i j => .int (i + j)) (tOp (rIxL K) (tVar 0) (tVar 3)) (tOp (rIxL K) (tVar 1) (tVar 3))) rfl nd (pi_range1 (by rfl) T.rng (pa_cons (pv 2) pa_nil)) (blkOk_by (N := n_l_sum) (sc := defScope s_l_sum) (by decide +kernel)) (fun _ _ _ _ _ => pg_name (i := 3) nd rfl (Or.inl rfl)) (fun _ _ _ _ _ => pts_nil)
        (fun _ _ _ _ _ => pe_op op_add (pe_ix ix_list (pv 0) (pv 3) (fun _ _ => rfl)) (pe_ix ix_list (pv 1) (pv 3) (fun _ _ => rfl)))) pa_nil)))))), ?_⟩
    obtain ⟨px, hx2, hx3⟩ := hx
    obtain ⟨py, hy2, hy3⟩ := hy
    generalize hn : max xs.length ys.length = n
    have em : (if ((iV ys).length : Int) > ((iV xs).length : Int) then ((iV ys).length : Int) else ((iV xs).length : Int)) = (n : Int) := by
      rw [iV_len, iV_len]; exact gt_len _ _ _ hn.symm
    refine ⟨_, rfl, a, _, rfl, .inl ha.sq, _, rfl, b, _, rfl, .inl hb.sq, _, _, rfl, ?_⟩
    rw [em]
    refine el_pad (K := K) (n := n) (xs := xs) (a := a) rfl rfl ha (by omega) (by omega) H (Evl.Ex.refl _) _ fun p H1 hp e1 h1 => ?_
    refine el_pad (K := K) (n := n) (xs := ys) (a := b) rfl rfl (e1 _ _ hb) (by omega) (by omega) H1 (Evl.Ex.refl _) _ fun q H2 hq e2 h2 => ?_
    have hG := el_sums (K := K) (σ := [some (.ref p), some (.ref q), some (.int (n : Int)), none]) (jn := 2) (jk := 3) (im := 0) (iy := 1) (n := n) (xs := xs) (ys := ys) (a := p) (b := q) rfl (e2 _ _ h1) h2 (by omega) (by omega) (by omega) (by intro _; rfl) (by intro _; rfl) (by intro _; rfl) (by intro _; rfl) _ (Evl.Ex.refl _) (fun x H1 => spTrim K [x] H1 Q E0) (fun r H4 hr4 e4 h4 => by
      refine ⟨r, _, rfl, SqL.of h4, by rw [vec_len]; omega, fun z H5 hz e5 h5 => ?_⟩
      have e05 := (e1.trans e2).trans e4
      refine k z H5 (Evl.fresh_back e05 hz) (e05.trans e5) ?_
      rw [h5, ← hn]
      rfl)
    exact hG
end
end V2


namespace V2
/-! ## what a polynomial is at a fraction p by q -/
def hT (p q : Int) : List Int → Int
  | [] => 0
  | a :: r => hT p q r * p + a * q ^ r.length
def hA (p q : Int) : List Int → Int
  | [] => 0
  | a :: r => a * q ^ (r.length + 1) + p * hA p q r
theorem hT_hA (p q : Int) : ∀ l : List Int, hT p q l * q = hA p q l
  | [] => by show (0 : Int) * q = 0; exact Int.zero_mul q
  | a :: r => by
    show (hT p q r * p + a * q ^ r.length) * q = a * q ^ (r.length + 1) + p * hA p q r
    rw [← hT_hA p q r, Int.pow_succ, Int.add_mul, Int.add_comm]
    congr 1
    · rw [Int.mul_assoc]
    · rw [Int.mul_comm (hT p q r) p, Int.mul_assoc]
theorem hA_snoc (p q : Int) (a : Int) : ∀ l : List Int, hA p q (l ++ [a]) = hA p q l * q + a * p ^ l.length * q
  | [] => by
    show a * q ^ (0 + 1) + p * 0 = 0 * q + a * p ^ 0 * q
    simp [Int.pow_succ]
  | b :: r => by
    show b * q ^ ((r ++ [a]).length + 1) + p * hA p q (r ++ [a]) = (b * q ^ (r.length + 1) + p * hA p q r) * q + a * p ^ (r.length + 1) * q
    rw [hA_snoc p q a r, List.length_append, List.length_singleton, Int.pow_succ q (r.length + 1), Int.pow_succ p, Int.add_mul, Int.mul_add]
    have e1 : b * (q ^ (r.length + 1) * q) = b * q ^ (r.length + 1) * q := by rw [Int.mul_assoc]
    have e2 : p * (hA p q r * q) = p * hA p q r * q := by rw [Int.mul_assoc]
    have e3 : p * (a * p ^ r.length * q) = a * (p ^ r.length * p) * q := by simp only [Int.mul_assoc, Int.mul_comm, Int.mul_left_comm]
    rw [e1, e2, e3, Int.add_assoc]
theorem hT_drop (p q : Int) (l : List Int) (k : Nat) (x : Int) (hk : k < l.length) (h : l[l.length - 1 - k]? = some x) : hT p q (l.drop (l.length - (k + 1))) = hT p q (l.drop (l.length - k)) * p + x * q ^ k := by
  have e1 : l.drop (l.length - (k + 1)) = x :: l.drop (l.length - k) := by
    have h2 : l.length - (k + 1) < l.length := by omega
    rw [List.drop_eq_getElem_cons h2]
    have h3 : l[l.length - (k + 1)] = x := by
      have : l[l.length - (k + 1)]? = some x := by rw [show l.length - (k + 1) = l.length - 1 - k by omega]; exact h
      rw [List.getElem?_eq_getElem h2] at this
      exact Option.some.inj this
    rw [h3, show l.length - (k + 1) + 1 = l.length - k by omega]
  rw [e1]
  show hT p q (l.drop (l.length - k)) * p + x * q ^ (l.drop (l.length - k)).length = _
  rw [List.length_drop, show l.length - (l.length - k) = k by omega]
theorem npow_lt {q : Int} {n : Nat} (h : q.natAbs < 2 ^ n) : ∀ k, (q ^ k).natAbs < 2 ^ (n * k + 1)
  | 0 => by
    rw [Nat.mul_zero, Nat.zero_add, Int.pow_zero]
    decide
  | k + 1 => by
    rw [Int.pow_succ, Int.natAbs_mul, Nat.mul_succ, show n * k + n + 1 = n * k + 1 + n by omega, Nat.pow_add]
    exact Nat.mul_lt_mul'' (npow_lt h k) h
theorem hT_lt {p q : Int} (hp : p.natAbs < 2 ^ 50) (hq : q.natAbs < 2 ^ 50) : ∀ (l : List Int), (∀ x ∈ l, x.natAbs < 2 ^ 64) → (hT p q l).natAbs < 2 ^ (65 + 51 * l.length)
  | [], _ => by show (0 : Int).natAbs < _; exact Nat.pow_pos (by decide)
  | a :: r, h => by
    have h1 := hT_lt hp hq r fun x hx => h x (List.mem_cons_of_mem _ hx)
    have h2 := npow_lt hq r.length
    have ha := h a List.mem_cons_self
    have m1 : (hT p q r * p).natAbs < 2 ^ (65 + 51 * r.length + 50) := by
      (rw [Int.natAbs_mul, Nat.pow_add])
      exact Nat.mul_lt_mul'' h1 hp
    have m2 : (a * q ^ r.length).natAbs < 2 ^ (64 + (50 * r.length + 1)) := by
      (rw [Int.natAbs_mul, Nat.pow_add])
      exact Nat.mul_lt_mul'' ha h2
    have m3 : (2 : Nat) ^ (64 + (50 * r.length + 1)) ≤ 2 ^ (65 + 51 * r.length + 50) := Nat.pow_le_pow_right (by decide) (by omega)
    have m4 : (2 : Nat) ^ (65 + 51 * (r.length + 1)) = 2 ^ (65 + 51 * r.length + 50) * 2 := by
      rw [← Nat.pow_succ]; congr 1
    show (hT p q r * p + a * q ^ r.length).natAbs < 2 ^ (65 + 51 * (r.length + 1))
    rw [m4]
    omega
theorem hA_lt {p q : Int} (hp : p.natAbs < 2 ^ 50) (hq : q.natAbs < 2 ^ 50) {l : List Int} (h : ∀ x ∈ l, x.natAbs < 2 ^ 64) : (hA p q l).natAbs < 2 ^ (115 + 51 * l.length) := by
  rw [← hT_hA, Int.natAbs_mul, show 115 + 51 * l.length = 65 + 51 * l.length + 50 by omega, Nat.pow_add]
  exact Nat.mul_lt_mul'' (hT_lt hp hq l h) hq
theorem qpos {q : Int} (h : 0 < q) (k : Nat) : 0 < q ^ k := Int.pow_pos h
/-- one step of the law's sum -/
theorem at_step {p q : Int} (hq : 0 < q) (pre : List Int) (a : Int) :
    let F := fr (hA p q pre) (q ^ pre.length)
    let W := fr (p ^ pre.length) (q ^ pre.length)
    let M := fr (a * W.1) (1 * W.2)
    fr (F.1 * M.2 + M.1 * F.2) (F.2 * M.2) = fr (hA p q (pre ++ [a])) (q ^ (pre.length + 1)) := by
  intro F W M
  have qk := qpos hq pre.length
  have f2 : 0 < F.2 := fr_pos qk
  have w2 : 0 < W.2 := fr_pos qk
  have w2' : 0 < 1 * W.2 := by omega
  have m2 : 0 < M.2 := fr_pos w2'
  have e1 : F.1 * q ^ pre.length = hA p q pre * F.2 := fr_val qk
  have e2 : W.1 * q ^ pre.length = p ^ pre.length * W.2 := fr_val qk
  have e3 : M.1 * (1 * W.2) = a * W.1 * M.2 := fr_val w2'
  refine fr_eq (Int.mul_pos f2 m2) (qpos hq _) ?_
  generalize F.1 = x1 at *
  generalize F.2 = x2 at *
  generalize M.1 = y1 at *
  generalize M.2 = y2 at *
  generalize W.1 = z1 at *
  generalize W.2 = z2 at *
  rw [hA_snoc, Int.pow_succ]
  generalize hA p q pre = A at *
  generalize p ^ pre.length = pk at *
  generalize q ^ pre.length = Qk at *
  rw [Int.one_mul] at e3
  have e4 : y1 * Qk = a * pk * y2 := by
    refine Int.eq_of_mul_eq_mul_right (Int.ne_of_gt w2) ?_
    calc y1 * Qk * z2 = (y1 * z2) * Qk := by simp only [Int.mul_assoc, Int.mul_comm, Int.mul_left_comm]
      _ = a * z1 * y2 * Qk := by rw [e3]
      _ = a * y2 * (z1 * Qk) := by simp only [Int.mul_assoc, Int.mul_comm, Int.mul_left_comm]
      _ = a * y2 * (pk * z2) := by rw [e2]
      _ = a * pk * y2 * z2 := by simp only [Int.mul_assoc, Int.mul_comm, Int.mul_left_comm]
  calc (x1 * y2 + y1 * x2) * (Qk * q) = (x1 * Qk) * (y2 * q) + (y1 * Qk) * (x2 * q) := by rw [Int.add_mul]; congr 1 <;> simp only [Int.mul_assoc, Int.mul_comm, Int.mul_left_comm]
    _ = (A * x2) * (y2 * q) + (a * pk * y2) * (x2 * q) := by rw [e1, e4]
    _ = (A * q + a * pk * q) * (x2 * y2) := by rw [Int.add_mul]; congr 1 <;> simp only [Int.mul_assoc, Int.mul_comm, Int.mul_left_comm]
theorem pw_step {p q : Int} (hq : 0 < q) (hc : Int.gcd p q = 1) (k : Nat) : fr ((fr (p ^ k) (q ^ k)).1 * p) ((fr (p ^ k) (q ^ k)).2 * q) = fr (p ^ (k + 1)) (q ^ (k + 1)) := by
  have qk := qpos hq k
  have e := fr_val (a := p ^ k) qk
  have f2 := fr_pos (u := p ^ k) qk
  refine fr_eq (Int.mul_pos f2 hq) (qpos hq _) ?_
  rw [Int.pow_succ, Int.pow_succ]
  generalize (fr (p ^ k) (q ^ k)).1 = x at *
  generalize (fr (p ^ k) (q ^ k)).2 = y at *
  generalize p ^ k = pk at *
  generalize q ^ k = Qk at *
  calc x * p * (Qk * q) = (x * Qk) * (p * q) := by simp only [Int.mul_assoc, Int.mul_comm, Int.mul_left_comm]
    _ = (pk * y) * (p * q) := by rw [e]
    _ = pk * p * (y * q) := by simp only [Int.mul_assoc, Int.mul_comm, Int.mul_left_comm]
/-- both tell one number -/
theorem val_same {p q : Int} (hq : 0 < q) (l : List Int) (h : l ≠ []) : fr (hT p q l) (q ^ (l.length - 1)) = fr (hA p q l) (q ^ l.length) := by
  refine fr_eq (qpos hq _) (qpos hq _) ?_
  obtain ⟨n, e⟩ : ∃ n, l.length = n + 1 := ⟨l.length - 1, by have := List.length_pos_iff.mpr h; omega⟩
  rw [e, Nat.add_sub_cancel, Int.pow_succ, ← hT_hA]
  simp only [Int.mul_assoc, Int.mul_comm, Int.mul_left_comm]
end V2


namespace V2
open PySem L2
open PySem.Spec PyProof.Rows
/-- a fraction's tuple at a -/
def Fr (H : Hp) (a : Addr) (p q : Int) : Prop := H a = some (.tup [.int p, .int q])
def Qn (p q : Int) : Prop := 0 < q ∧ Int.gcd p q = 1 ∧ p.natAbs < 2 ^ 50 ∧ q.natAbs < 2 ^ 50
/-- the value of a polynomial at a fraction, a new fraction -/
def spVal : Sp := fun vs H Q _ => ∃ (a b : Addr) (xs : List Int) (p q : Int), vs = [.ref a, .ref b] ∧ Li H a xs ∧ Fr H b p q ∧ Pn xs ∧ Qn p q ∧ RetU [.int (fr (hA p q xs) (q ^ xs.length)).1, .int (fr (hA p q xs) (q ^ xs.length)).2] H Q
/-- its numerator and denominator, not in lowest terms -/
def spScaled : Sp := fun vs H Q _ => ∃ (a b : Addr) (xs : List Int) (p q : Int), vs = [.ref a, .ref b] ∧ Li H a xs ∧ Fr H b p q ∧ Pn xs ∧ Qn p q ∧ RetU [.int (hT p q xs), .int (q ^ (xs.length - 1))] H Q
theorem n64 {x : Int} (h : -(2 ^ 64) < x ∧ x < 2 ^ 64) : x.natAbs < 2 ^ 64 := by
  have e : (2 : Int) ^ 64 = 18446744073709551616 := by decide
  have e2 : (2 : Nat) ^ 64 = 18446744073709551616 := by decide
  rw [e] at h
  rw [e2]
  omega
section
variable {base : Heap} {mg : Str → Option Value} {K : PySem.W.Frag} {w : World} {P : Program}
theorem ok_scaled {f : Addr} {fd : FuncData} (F : Fun K "scaled_value" "scaled_value" s_scaled_value f fd) (T : T2 mg) : FnOk P w K mg base CX0 1 f fd p_scaled_value spScaled := by
  refine F.ok sc_scaled_value (fun vs H Q E h => ?_) (fun cdv A outer s H vs Q E hr h => ?_)
  · obtain ⟨a, b, xs, p, q, rfl, _⟩ := h
    rfl
  · obtain ⟨a, b, xs, p, q, rfl, ha, hb, ⟨hx1, hx2, hx3⟩, ⟨q0, qc, pb, qb⟩, k⟩ := h
    have nd := sc_scaled_value.nd
    refine ⟨_, pss_cons (ps_asg (pv 1) (pg_tup rfl (pgs_cons (pg_name (i := 2) nd rfl (Or.inl rfl)) (pgs_cons (pg_name (i := 3) nd rfl (Or.inl rfl)) pgs_nil))))
      (pss_cons (ps_asg (pe_tup (pa_cons pe_int (pa_cons pe_int pa_nil))) (pg_tup rfl (pgs_cons (pg_name (i := 4) nd rfl (Or.inl rfl)) (pgs_cons (pg_name (i := 5) nd rfl (Or.inl rfl)) pgs_nil))))
      (pss_cons (ps_for PassesOwn.never rfl (pi_enum (by rfl) T.enu (pa_cons (pe_revL (pv 0)) pa_nil)) (pg_tup rfl (pgs_cons (pg_name (i := 6) nd rfl (Or.inl rfl)) (pgs_cons (pg_name (i := 7) nd rfl (Or.inl rfl)) pgs_nil)))
        (pss_cons (ps_if (pt_cmpR op_gt (pv 6) pe_int (nomark _)) (pss_one (ps_set (i := 5) nd rfl (Or.inl rfl) (pe_op op_mulW (pv 5) (pv 3)))) pss_nil)
        (pss_one (ps_set (i := 4) nd rfl (Or.inl rfl) (pe_op op_add (pe_op op_mulW (pv 4) (pv 2)) (pe_op op_mulW (pv 7) (pv 5)))))))
      (pss_one (ps_ret (pe_tup (pa_cons (pv 4) (pa_cons (pv 5) pa_nil))))))), ?_⟩
    have h64 : ∀ x ∈ xs, x.natAbs < 2 ^ 64 := fun x hx => n64 (hx3 x hx)
    have hTb : ∀ j, (hT p q (xs.drop j)).natAbs < 2 ^ 881 := fun j => by
      have := hT_lt pb qb (xs.drop j) fun x hx => h64 x (List.mem_of_mem_drop hx)
      refine Nat.lt_of_lt_of_le this (Nat.pow_le_pow_right (by decide) ?_)
      rw [List.length_drop]; omega
    have qk : ∀ j, j ≤ 16 → (q ^ j).natAbs < 2 ^ 801 := fun j hj => Nat.lt_of_lt_of_le (npow_lt qb j) (Nat.pow_le_pow_right (by decide) (by omega))
    refine ⟨_, rfl, b, _, rfl, SqT.of hb, rfl, _, _, rfl, _, _, rfl, rfl, ?_⟩
    refine ⟨(by show 2 ≤ sizeLine; decide), fun c hc => ?_⟩
    have e0 : Evl.Ex H (upd H c (.tup [.int 0, .int 1])) := Evl.Ex.new hc
    refine ⟨c, _, rfl, SqT.of upd_same, rfl, _, _, rfl, _, _, rfl, rfl, ?_⟩
    refine ⟨_, rfl, a, _, rfl, SqL.of (e0 _ _ ha), fun l hl => ⟨l, _, rfl, SqL.of upd_same, ?_⟩⟩
    have e1 : Evl.Ex H (upd (upd H c (.tup [.int 0, .int 1])) l (.lst (iV xs).reverse)) := e0.trans (Evl.Ex.new hl)
    have erev : (iV xs).reverse = iV xs.reverse := by unfold iV; rw [List.map_reverse]
    rw [erev] at e1 ⊢
    refine for_it walk_enum (fun i σ H' => ∃ v6 v7, σ = [some (.ref a), some (.ref b), some (.int p), some (.int q), some (.int (hT p q (xs.drop (xs.length - i)))), some (.int (q ^ (i - 1))), v6, v7] ∧ Evl.Ex (upd (upd H c (.tup [.int 0, .int 1])) l (.lst (iV xs.reverse))) H')
      ⟨none, none, ?_, Evl.Ex.refl _⟩ (fun i σ H' _ ⟨_, _, _, q⟩ => SqL.of (q _ _ upd_same)) ?_ ?_
    · rw [Nat.sub_zero, List.drop_length, show (0 - 1 : Nat) = 0 from rfl, Int.pow_zero]; rfl
    · rintro i x σ H' H2 hi ⟨v6, v7, rfl, e2⟩ ⟨T, z, y, rfl, hT2, rfl, hz, hy⟩
      obtain rfl := (Option.some.inj hz).symm
      obtain ⟨n, hn, rfl⟩ := iV_get hy
      rw [iV_len, List.length_reverse] at hi
      rw [List.getElem?_reverse hi] at hn
      have e3 := e2.trans (Evl.Ex.new (o := .tup [.int (i : Nat), .int n]) hT2)
      have st := hT_drop p q xs i n hi hn
      have b1 := hTb (xs.length - i)
      have nb := h64 n (List.mem_of_getElem? hn)
      refine ⟨T, _, rfl, SqT.of upd_same, rfl, _, _, rfl, _, _, rfl, rfl, ?_⟩
      (refine ⟨_, rfl, _, _, rfl, rfl, _, rfl, ?_⟩)
      (refine ite2 (fun c => ?_) (fun c => ?_))
      · have c1 : 0 < i := by have := of_decide_eq_true c; omega
        have eq1 : q ^ (i - 1) * q = q ^ i := by rw [← Int.pow_succ]; congr 1; omega
        refine ⟨_, rfl, _, rfl, _, _, rfl, rfl, wide_mul (qk (i - 1) (by omega)) qb (by decide) (by decide) (by decide), ?_⟩
        refine ⟨_, rfl, _, rfl, _, _, rfl, rfl, wide_mul b1 pb (by decide) (by decide) (by decide), _, rfl, _, rfl, n, _, rfl, rfl, ?_, _, _, rfl, rfl, ?_⟩
        · show CMulW n (q ^ (i - 1) * q)
          rw [eq1]
          exact wide_mul nb (qk i (by omega)) (by decide) (by decide) (by decide)
        · refine ⟨some (.int (i : Nat)), some (.int n), ?_, e3⟩
          rw [st, Nat.add_sub_cancel, ← eq1]
          rfl
      · have c1 : i = 0 := by
          rcases Nat.eq_zero_or_pos i with e | e
          · exact e
          · exact absurd (decide_eq_true (by omega)) c
        subst c1
        refine ⟨_, rfl, _, rfl, _, _, rfl, rfl, wide_mul b1 pb (by decide) (by decide) (by decide), _, rfl, _, rfl, n, _, rfl, rfl, ?_, _, _, rfl, rfl, ?_⟩
        · exact wide_mul nb (qk 0 (by omega)) (by decide) (by decide) (by decide)
        · refine ⟨some (.int (0 : Nat)), some (.int n), ?_, e3⟩
          rw [st]
          rfl
    · rintro σ H' ⟨v6, v7, rfl, e2⟩
      rw [iV_len, List.length_reverse, Nat.sub_self, List.drop_zero]
      refine ⟨_, rfl, _, rfl, (by show 2 ≤ sizeLine; decide), fun t ht => ?_⟩
      have e4 := e1.trans e2
      exact k t _ (Evl.fresh_back e4 ht) (e4.trans (Evl.Ex.new ht)) upd_same
end
end V2


namespace V2
open PySem L2
open PySem.Spec PyProof.Rows
theorem big {x : Int} {n m : Nat} (h : x.natAbs < 2 ^ n) (l : n ≤ m) : x.natAbs < 2 ^ m := Nat.lt_of_lt_of_le h (Nat.pow_le_pow_right (by decide) l)
theorem take_len {xs : List Int} {i : Nat} (h : i ≤ xs.length) : (xs.take i).length = i := by rw [List.length_take]; omega
theorem take_snoc {xs : List Int} {i : Nat} {x : Int} (h : xs[i]? = some x) : xs.take (i + 1) = xs.take i ++ [x] := by
  rw [List.take_add_one, h]; rfl
section
variable {base : Heap} {mg : Str → Option Value} {K : PySem.W.Frag} {w : World} {P : Program}
theorem ok_value_at {f : Addr} {fd : FuncData} (F : Fun K "value_at" "value_at" s_value_at f fd) (cS : Cal P w K mg base 1 "scaled_value" p_scaled_value spScaled) (cF : Cal P w K mg base 1 "fraction" p_fraction spRatio) : FnOk P w K mg base CX0 2 f fd p_value_at spVal := by
  refine F.ok sc_value_at (fun vs H Q E h => ?_) (fun cdv A outer s H vs Q E hr h => ?_)
  · obtain ⟨a, b, xs, p, q, rfl, _⟩ := h
    rfl
  · obtain ⟨a, b, xs, p, q, rfl, ha, hb, hx, hq, k⟩ := h
    have nd := sc_value_at.nd
    refine ⟨_, pss_cons (ps_asg (pe_c cS hr (pa_cons (pv 0) (pa_cons (pv 1) pa_nil))) (pg_tup rfl (pgs_cons (pg_name (i := 2) nd rfl (Or.inl rfl)) (pgs_cons (pg_name (i := 3) nd rfl (Or.inl rfl)) pgs_nil))))
      (pss_one (ps_ret (pe_c cF hr (pa_cons (pv 2) (pa_cons (pv 3) pa_nil))))), ?_⟩
    refine ⟨_, rfl, _, rfl, a, b, xs, p, q, rfl, ha, hb, hx, hq, fun t H2 ht e2 h2 => ?_⟩
    obtain ⟨hx1, hx2, hx3⟩ := hx
    obtain ⟨q0, qc, pb, qb⟩ := hq
    have h64 : ∀ x ∈ xs, x.natAbs < 2 ^ 64 := fun x hx => n64 (hx3 x hx)
    have b1 : (hT p q xs).natAbs < 2 ^ 9000 := big (hT_lt pb qb xs h64) (by omega)
    have b2 : (q ^ (xs.length - 1)).natAbs < 2 ^ 9000 := big (npow_lt qb _) (by omega)
    have e : fr (hT p q xs) (q ^ (xs.length - 1)) = fr (hA p q xs) (q ^ xs.length) := by
      by_cases hn : xs = []
      · subst hn; rfl
      · exact val_same q0 xs hn
    refine ⟨t, _, rfl, SqT.of h2, rfl, _, _, rfl, _, _, rfl, rfl, ?_⟩
    refine ⟨_, rfl, _, rfl, _, _, rfl, b1, b2, qpos q0 _, fun r H3 hr3 e3 h3 => ?_⟩
    rw [e] at h3
    exact k r H3 (Evl.fresh_back e2 hr3) (e2.trans e3) h3
theorem ok_at {f : Addr} {fd : FuncData} (F : Fun K "_law_pv_at" "_law_pv_at" s_l_at f fd) (cA : Cal P w K mg base 3 "_law_pv_add" p_l_add spAdd) (cM : Cal P w K mg base 3 "_law_pv_mul" p_l_mul spMul) : FnOk P w K mg base CX0 4 f fd p_l_at spVal := by
  refine F.ok sc_l_at (fun vs H Q E h => ?_) (fun cdv A outer s H vs Q E hr h => ?_)
  · obtain ⟨a, b, xs, p, q, rfl, _⟩ := h
    rfl
  · obtain ⟨a, b, xs, p, q, rfl, ha, hb, ⟨hx1, hx2, hx3⟩, ⟨q0, qc, pb, qb⟩, k⟩ := h
    have nd := sc_l_at.nd
    refine ⟨_, pss_cons (ps_asg (pe_tup (pa_cons (pe_tup (pa_cons pe_int (pa_cons pe_int pa_nil))) (pa_cons (pe_tup (pa_cons pe_int (pa_cons pe_int pa_nil))) pa_nil))) (pg_tup rfl (pgs_cons (pg_name (i := 2) nd rfl (Or.inl rfl)) (pgs_cons (pg_name (i := 3) nd rfl (Or.inl rfl)) pgs_nil))))
      (pss_cons (ps_for PassesOwn.never rfl (pi_list (pv 0)) (pg_name (i := 4) nd rfl (Or.inl rfl))
        (pss_cons (ps_set (i := 2) nd rfl (Or.inl rfl) (pe_c cA hr (pa_cons (pv 2) (pa_cons (pe_c cM hr (pa_cons (pe_tup (pa_cons (pv 4) (pa_cons pe_int pa_nil))) (pa_cons (pv 3) pa_nil))) pa_nil))))
        (pss_one (ps_set (i := 3) nd rfl (Or.inl rfl) (pe_c cM hr (pa_cons (pv 3) (pa_cons (pv 1) pa_nil)))))))
      (pss_one (ps_ret (pv 2)))), ?_⟩
    have h64 : ∀ x ∈ xs, x.natAbs < 2 ^ 64 := fun x hx => n64 (hx3 x hx)
    have two : 2 ≤ sizeLine := by show 2 ≤ sizeLine; decide
    refine ⟨two, fun t1 ht1 => ⟨two, fun t2 ht2 => ⟨two, fun t3 ht3 => ?_⟩⟩⟩
    have e1 : Evl.Ex H (upd H t1 (.tup [.int 0, .int 1])) := Evl.Ex.new ht1
    have e2 := Evl.Ex.new (o := .tup [.int 1, .int 1]) ht2
    have e3 := Evl.Ex.new (o := .tup [.ref t1, .ref t2]) ht3
    have e0 := (e1.trans e2).trans e3
    refine ⟨t3, _, rfl, SqT.of upd_same, rfl, _, _, rfl, _, _, rfl, rfl, ?_⟩
    have qk : ∀ i, i ≤ 16 → (q ^ i).natAbs < 2 ^ 801 := fun j hj => big (npow_lt qb j) (by omega)
    have pk : ∀ i, i ≤ 16 → (p ^ i).natAbs < 2 ^ 801 := fun j hj => big (npow_lt pb j) (by omega)
    refine ⟨_, rfl, a, rfl, ⟨_, SqL.of (e0 _ _ ha)⟩, for_list (xs := iV xs) (fun i σ H' => ∃ (f w : Addr) (v : Option V), σ = [some (.ref a), some (.ref b), some (.ref f), some (.ref w), v] ∧ Evl.Ex H H' ∧ H f = none ∧
        Fr H' f (fr (hA p q (xs.take i)) (q ^ i)).1 (fr (hA p q (xs.take i)) (q ^ i)).2 ∧ Fr H' w (fr (p ^ i) (q ^ i)).1 (fr (p ^ i) (q ^ i)).2)
      ⟨t1, t2, none, rfl, e0, ht1, ?_, ?_⟩ (fun i σ H' _ ⟨_, _, _, _, e, _⟩ => SqL.of (e _ _ ha)) ?_ ?_⟩
    · rw [List.take_zero, Int.pow_zero, show fr (hA p q []) 1 = (0, 1) from (fr_same (by decide) (by decide) : fr 0 1 = (0, 1))]
      exact e3 _ _ (e2 _ _ upd_same)
    · rw [Int.pow_zero, Int.pow_zero, show fr 1 1 = (1, 1) from fr_same (by decide) (by decide)]
      exact e3 _ _ upd_same
    · rintro i x σ H' hi ⟨f, w', v, rfl, ee, hf, hF, hW⟩
      obtain ⟨n, hn, rfl⟩ := iV_get hi
      have hl : i < xs.length := (List.getElem?_eq_some_iff.mp hn).1
      have tl := take_len (xs := xs) (i := i) (by omega)
      have hAb : (hA p q (xs.take i)).natAbs < 2 ^ 1000 := big (hA_lt pb qb fun x hx => h64 x (List.mem_of_mem_take hx)) (by omega)
      have nb := h64 n (List.mem_of_getElem? hn)
      have qi := qpos q0 i
      have st := at_step (p := p) q0 (xs.take i) n
      rw [tl, ← take_snoc hn] at st
      dsimp only at st
      have ps := pw_step (p := p) q0 qc i
      have F1 : (fr (hA p q (xs.take i)) (q ^ i)).1.natAbs < 2 ^ 1000 := Nat.lt_of_le_of_lt (fr_abs1 qi) hAb
      have F2 : (fr (hA p q (xs.take i)) (q ^ i)).2.natAbs < 2 ^ 1000 := Nat.lt_of_le_of_lt (fr_abs2 qi) (big (qk i (by omega)) (by decide))
      have W1 : (fr (p ^ i) (q ^ i)).1.natAbs < 2 ^ 801 := Nat.lt_of_le_of_lt (fr_abs1 qi) (pk i (by omega))
      have W2 : (fr (p ^ i) (q ^ i)).2.natAbs < 2 ^ 801 := Nat.lt_of_le_of_lt (fr_abs2 qi) (qk i (by omega))
      have Fp := fr_pos (u := hA p q (xs.take i)) qi
      have Wp := fr_pos (u := p ^ i) qi
      generalize (fr (hA p q (xs.take i)) (q ^ i)).1 = x1 at *
      generalize (fr (hA p q (xs.take i)) (q ^ i)).2 = x2 at *
      generalize (fr (p ^ i) (q ^ i)).1 = z1 at *
      generalize (fr (p ^ i) (q ^ i)).2 = z2 at *
      have Wp' : 0 < 1 * z2 := by omega
      have M1 : (fr (n * z1) (1 * z2)).1.natAbs < 2 ^ 1000 := Nat.lt_of_le_of_lt (fr_abs1 Wp') (pw_mul nb W1 (by decide))
      have M2 : (fr (n * z1) (1 * z2)).2.natAbs < 2 ^ 1000 := Nat.lt_of_le_of_lt (fr_abs2 Wp') (by rw [Int.one_mul]; exact big W2 (by decide))
      have Mp := fr_pos (u := n * z1) Wp'
      refine ⟨_, rfl, _, rfl, two, fun t4 ht4 => ⟨_, rfl, t4, w', n, 1, z1, z2, rfl, upd_same, Evl.Ex.new ht4 _ _ hW, big nb (by decide), by decide, big W1 (by decide), big W2 (by decide), by decide, Wp, fun m H3 hm e5 h3 => ?_⟩⟩
      have e4 := Evl.Ex.new (o := .tup [.int n, .int 1]) ht4
      have e45 := e4.trans e5
      refine ⟨f, m, x1, x2, _, _, rfl, e45 _ _ hF, h3, big F1 (by decide), big F2 (by decide), big M1 (by decide), big M2 (by decide), Fp, Mp, fun g H4 hg e6 h4 => ?_⟩
      rw [st] at h4
      have e456 := e45.trans e6
      refine ⟨_, rfl, _, rfl, w', b, z1, z2, p, q, rfl, e456 _ _ hW, (ee.trans e456) _ _ hb, big W1 (by decide), big W2 (by decide), big pb (by decide), big qb (by decide), Wp, q0, fun u H5 hu e7 h5 => ?_⟩
      rw [ps] at h5
      exact ⟨g, u, _, rfl, (ee.trans e456).trans e7, Evl.fresh_back (ee.trans e45) hg, e7 _ _ h4, h5⟩
    · rintro σ H' ⟨f, w', v, rfl, ee, hf, hF, hW⟩
      rw [iV_len, List.take_length] at hF
      exact ⟨_, rfl, k f H' hf ee hF⟩
end
end V2


namespace V2
open PySem L2
open PySem.Spec PyProof.Rows
structure T3 (mg : Str → Option Value) : Prop where
  isi : mg "isinstance" = none
  int : mg "int" = none
  bool : mg "bool" = none
  lst : mg "list" = none
  tup : mg "tuple" = none
  len : mg "len" = none
  all : mg "all" = none
  gcd : mg "gcd" = some (.builtin "math.gcd")
def spInt : Sp := fun vs H Q _ => ∃ n : Int, vs = [.int n] ∧ Evl.RetV (.bl true) H Q
def spPol : Sp := fun vs H Q _ => ∃ (a : Addr) (ns : List Int), vs = [.ref a] ∧ Li H a ns ∧ Pn ns ∧ Evl.RetV (.bl true) H Q
def spIsFr : Sp := fun vs H Q _ => ∃ (a : Addr) (p q : Int), vs = [.ref a] ∧ Fr H a p q ∧ Qn p q ∧ Evl.RetV (.bl true) H Q
def spChk : Sp := fun vs H Q _ => ∃ (l : Addr) (as : List Addr), vs = [.ref l] ∧ H l = some (.lst (as.map V.ref)) ∧ as.length ≤ 10 ∧ (∀ a ∈ as, ∃ ns, Li H a ns ∧ Pn ns) ∧ Evl.RetV .non H Q
def spChkFr : Sp := fun vs H Q _ => ∃ (a : Addr) (p q : Int), vs = [.ref a] ∧ Fr H a p q ∧ Qn p q ∧ Evl.RetV .non H Q
theorem atI_end {ns : List Int} (h0 : ns ≠ []) : ∃ x, ns[ns.length - 1]? = some x ∧ atI (iV ns) (-1) = some (.int x) := by
  have e := List.dropLast_concat_getLast h0
  refine ⟨ns.getLast h0, ?_, ?_⟩
  · rw [← List.getLast?_eq_getElem?, List.getLast?_eq_some_getLast h0]
  · have e2 : iV ns = iV ns.dropLast ++ [.int (ns.getLast h0)] := by
      conv => lhs; rw [← e]
      unfold iV
      rw [List.map_append]
      rfl
    rw [e2]
    exact atI_last _ _
theorem rep_snoc (n : Nat) (x : V) : List.replicate n x ++ [x] = List.replicate (n + 1) x := by
  rw [List.replicate_succ']
section
variable {base : Heap} {mg : Str → Option Value} {K : PySem.W.Frag} {w : World} {P : Program}
theorem ok_is_integer {f : Addr} {fd : FuncData} (F : Fun K "is_integer" "is_integer" s_is_integer f fd) (T : T3 mg) : FnOk P w K mg base CX0 1 f fd p_is_integer spInt := by
  refine F.ok sc_is_integer (fun vs H Q E h => ?_) (fun cdv A outer s H vs Q E hr h => ?_)
  · obtain ⟨n, rfl, _⟩ := h
    rfl
  · obtain ⟨n, rfl, k⟩ := h
    refine ⟨_, pss_one (ps_ret (pe_and (pe_callB call_isi (by rfl) T.isi (by decide +kernel) (pa_cons (pv 0) (pa_cons (pe_bltn (v := .ty "int") (by rfl) T.int (by decide +kernel) rfl) pa_nil)))
      (pe_one (pe_not (pe_callB call_isi (by rfl) T.isi (by decide +kernel) (pa_cons (pv 0) (pa_cons (pe_bltn (v := .ty "bool") (by rfl) T.bool (by decide +kernel) rfl) pa_nil))))))), ?_⟩
    refine ⟨_, rfl, _, _, _, _, true, rfl, .ty "int", .base (.int n), kit_ty (by decide +kernel), true, rfl, if_t rfl ?_⟩
    refine ⟨_, rfl, _, _, _, _, false, rfl, .ty "bool", .base (.int n), kit_ty (by decide +kernel), false, rfl, ?_⟩
    exact k _ (Evl.Ex.refl _)
theorem ok_is_polynomial {f : Addr} {fd : FuncData} (F : Fun K "is_polynomial" "is_polynomial" s_is_polynomial f fd) (T : T3 mg) (cI : Cal P w K mg base 1 "is_integer" p_is_integer spInt) : FnOk P w K mg base CX0 2 f fd p_is_polynomial spPol := by
  refine F.ok sc_is_polynomial (fun vs H Q E h => ?_) (fun cdv A outer s H vs Q E hr h => ?_)
  · obtain ⟨a, ns, rfl, _⟩ := h
    rfl
  · obtain ⟨a, ns, rfl, ha, hp, k⟩ := h
    have nd := sc_is_polynomial.nd
    refine ⟨_, pss_cons (ps_if (PW.pt (pw_or (pt_not (pt_val (pe_callB call_isi (by rfl) T.isi (by decide +kernel) (pa_cons (pv 0) (pa_cons (pe_bltn (v := .ty "list") (by rfl) T.lst (by decide +kernel) rfl) pa_nil)))))
        (pw_or1 (pt_not (pt_val (pe_callB (cr_all rfl) (by rfl) T.all (by decide +kernel) (pa_cons (pe_lc (own := [("number", 1)]) (g := gName 1) (tt := tYes) (te := tCall spInt [] E0 (tCons (tVar 1) tNil)) rfl nd (pi_list (pv 0)) (blkOk_by (N := n_is_polynomial) (sc := defScope s_is_polynomial) (by decide +kernel)) (fun _ _ _ _ _ => pg_name (i := 1) nd rfl (Or.inl rfl)) (fun _ _ _ _ _ => pts_nil)
          (fun _ _ _ _ _ => pe_c cI hr (pa_cons (pv 1) pa_nil))) pa_nil))))))) (pss_one (ps_ret pe_bl)) pss_nil)
      (pss_one (ps_ret (pe_or (pe_notT (pv 0)) (pe_one (pe_cmpR op_ne (pe_ix ix_list (pv 0) (pe_un un_neg pe_int) (fun _ _ => rfl)) pe_int (nomark _)))))), ?_⟩
    obtain ⟨p1, p2, p3⟩ := hp
    refine ⟨_, rfl, _, _, _, _, true, rfl, .ty "list", .base (.lst ha), kit_ty (by decide +kernel), true, rfl, if_f rfl ?_⟩
    refine ⟨_, rfl, a, rfl, ⟨_, ha.sq⟩, fun D hD => lc_list (xs := iV ns) (fun i H' => Evl.Ex H H' ∧ H' D = some (.lst (List.replicate i (.bl true)))) ⟨Evl.Ex.new hD, upd_same⟩ (fun i H' _ q => SqL.of (q.1 _ _ ha)) ?_ ?_⟩
    · rintro i x H' hi ⟨e1, h1⟩
      obtain ⟨n, hn, rfl⟩ := iV_get hi
      have hl : i < ns.length := (List.getElem?_eq_some_iff.mp hn).1
      refine ⟨rfl, ?_⟩
      show tCall spInt [] E0 (tCons (tVar 1) tNil) _ _ _
      refine ⟨_, rfl, n, rfl, fun H2 e2 => ⟨_, e2 _ _ h1, ?_, ?_, ?_⟩⟩
      · rw [List.length_replicate]; exact Nat.lt_of_lt_of_le (show i < 100 by omega) (by decide)
      · exact Evl.Ex.mut (e1.trans e2) hD
      · rw [upd_same, rep_snoc]
    · rintro H' ⟨e1, h1⟩
      rw [iV_len] at h1
      refine ⟨D, List.replicate ns.length true, rfl, SqL.of (by rw [h1, List.map_replicate]), true, by simp, ?_⟩
      refine if_f rfl ?_
      by_cases h0 : ns = []
      · refine ⟨_, rfl, false, .inl ⟨_, SqL.of (e1 _ _ ha), by rw [h0]; rfl⟩, _, rfl, if_t rfl ?_⟩
        exact k _ e1
      · obtain ⟨x, hx, hx2⟩ := atI_end h0
        refine ⟨_, rfl, true, .inl ⟨_, SqL.of (e1 _ _ ha), by cases ns with | nil => exact absurd rfl h0 | cons _ _ => rfl⟩, _, rfl, if_f rfl ?_⟩
        refine ⟨_, rfl, _, rfl, a, _, _, _, rfl, rfl, SqL.of (e1 _ _ ha), hx2, rfl, ?_⟩
        have e : (!decide (V.int x = V.int 0)) = true := by
          rw [decide_eq_false fun z => p1 x hx (by injection z)]; rfl
        show Q (.bl (!decide (V.int x = V.int 0))) H'
        rw [e]
        exact k _ e1
theorem ok_is_fraction {f : Addr} {fd : FuncData} (F : Fun K "is_fraction" "is_fraction" s_is_fraction f fd) (T : T3 mg) (cI : Cal P w K mg base 1 "is_integer" p_is_integer spInt) : FnOk P w K mg base CX0 2 f fd p_is_fraction spIsFr := by
  refine F.ok sc_is_fraction (fun vs H Q E h => ?_) (fun cdv A outer s H vs Q E hr h => ?_)
  · obtain ⟨a, p, q, rfl, _⟩ := h
    rfl
  · obtain ⟨a, p, q, rfl, ha, ⟨q0, qc, pb, qb⟩, k⟩ := h
    have nd := sc_is_fraction.nd
    refine ⟨_, pss_cons (ps_if (PW.pt (pw_or (pt_not (pt_val (pe_callB call_isi (by rfl) T.isi (by decide +kernel) (pa_cons (pv 0) (pa_cons (pe_bltn (v := .ty "tuple") (by rfl) T.tup (by decide +kernel) rfl) pa_nil)))))
        (pw_or1 (pt_cmpR op_ne (pe_callB call_len_seq (by rfl) T.len PySem.boot_len (pa_cons (pv 0) pa_nil)) pe_int (nomark _))))) (pss_one (ps_ret pe_bl)) pss_nil)
      (pss_cons (ps_asg (pv 0) (pg_tup rfl (pgs_cons (pg_name (i := 1) nd rfl (Or.inl rfl)) (pgs_cons (pg_name (i := 2) nd rfl (Or.inl rfl)) pgs_nil))))
      (pss_one (ps_ret (pe_and (pe_c cI hr (pa_cons (pv 1) pa_nil)) (pe_and (pe_c cI hr (pa_cons (pv 2) pa_nil)) (pe_and (pe_cmpR op_ge (pv 2) pe_int (nomark _)) (pe_one (pe_cmpR op_eq (pe_callBfun cr_gcd (by rfl) T.gcd (pa_cons (pv 1) (pa_cons (pv 2) pa_nil))) pe_int (nomark _))))))))), ?_⟩
    refine ⟨_, rfl, _, _, _, _, true, rfl, .ty "tuple", .base (.tup ha), kit_ty (by decide +kernel), true, rfl, if_f rfl ?_⟩
    refine ⟨_, rfl, a, _, rfl, .inr (SqT.of ha), rfl, false, rfl, if_f rfl ?_⟩
    refine ⟨_, rfl, a, _, rfl, SqT.of ha, rfl, _, _, rfl, _, _, rfl, rfl, ?_⟩
    refine ⟨_, rfl, p, rfl, fun H1 e1 => ⟨_, rfl, if_t rfl ⟨_, rfl, q, rfl, fun H2 e2 => ⟨_, rfl, if_t rfl ⟨_, rfl, _, _, rfl, rfl, _, rfl, if_t (decide_eq_true (by omega)) ?_⟩⟩⟩⟩⟩
    refine ⟨_, rfl, _, rfl, p, q, rfl, rfl, ?_⟩
    have e : decide (V.int ((Nat.gcd p.natAbs q.natAbs : Nat) : Int) = V.int 1) = true := decide_eq_true (by
      have : Nat.gcd p.natAbs q.natAbs = 1 := qc
      rw [this]; rfl)
    show Q (.bl (decide (V.int ((Nat.gcd p.natAbs q.natAbs : Nat) : Int) = V.int 1))) H2
    rw [e]
    exact k _ (e1.trans e2)
theorem ok_check_polynomials {f : Addr} {fd : FuncData} (F : Fun K "check_polynomials" "check_polynomials" s_check_polynomials f fd) (cP : Cal P w K mg base 2 "is_polynomial" p_is_polynomial spPol) : FnOk P w K mg base CX0 3 f fd p_check_polynomials spChk := by
  refine F.ok sc_check_polynomials (fun vs H Q E h => ?_) (fun cdv A outer s H vs Q E hr h => ?_)
  · obtain ⟨l, as, rfl, _⟩ := h
    rfl
  · obtain ⟨l, as, rfl, hl, h10, ha, k⟩ := h
    have nd := sc_check_polynomials.nd
    refine ⟨_, pss_one (ps_for PassesOwn.never rfl (pi_list (pv 0)) (pg_name (i := 1) nd rfl (Or.inl rfl))
      (pss_one (ps_if (pt_not (pt_val (pe_c cP hr (pa_cons (pv 1) pa_nil)))) (pss_one ps_never) pss_nil))), ?_⟩
    refine ⟨_, rfl, l, rfl, ⟨_, SqL.of hl⟩, for_list (xs := as.map V.ref) (fun i σ H' => Evl.Ex H H' ∧ ∃ v, σ = [some (.ref l), v]) ⟨Evl.Ex.refl _, none, rfl⟩ (fun i σ H' _ q => SqL.of (q.1 _ _ hl)) ?_ ?_⟩
    · rintro i x σ H' hi ⟨e1, v, rfl⟩
      rw [List.getElem?_map] at hi
      obtain ⟨a, h1, rfl⟩ : ∃ a, as[i]? = some a ∧ x = .ref a := by
        cases e : as[i]? with
        | none => rw [e] at hi; cases hi
        | some a => rw [e] at hi; exact ⟨a, rfl, (Option.some.inj hi).symm⟩
      obtain ⟨ns, hL, hP⟩ := ha a (List.mem_of_getElem? h1)
      refine ⟨_, rfl, a, ns, rfl, e1 _ _ hL, hP, fun H2 e2 => ⟨true, rfl, if_f rfl ⟨e1.trans e2, _, rfl⟩⟩⟩
    · rintro σ H' ⟨e1, v, rfl⟩
      exact k _ e1
theorem ok_check_fraction {f : Addr} {fd : FuncData} (F : Fun K "check_fraction" "check_fraction" s_check_fraction f fd) (cF : Cal P w K mg base 2 "is_fraction" p_is_fraction spIsFr) : FnOk P w K mg base CX0 3 f fd p_check_fraction spChkFr := by
  refine F.ok sc_check_fraction (fun vs H Q E h => ?_) (fun cdv A outer s H vs Q E hr h => ?_)
  · obtain ⟨a, p, q, rfl, _⟩ := h
    rfl
  · obtain ⟨a, p, q, rfl, ha, hq, k⟩ := h
    refine ⟨_, pss_one (ps_if (pt_not (pt_val (pe_c cF hr (pa_cons (pv 0) pa_nil)))) (pss_one ps_never) pss_nil), ?_⟩
    exact ⟨_, rfl, a, p, q, rfl, ha, hq, fun H2 e2 => ⟨true, rfl, if_f rfl (k _ e2)⟩⟩
end
end V2


namespace V2
open PySem L2
open PySem.Spec PyProof.Rows
/-- keywords alone -/
def CalK (P : Program) (w : World) (K : PySem.W.Frag) (mg : Str → Option Value) (base : Heap) (k : Nat) (x : Str) (ps ks : List Str) (gV : List V → List V) (sp : Sp) : Prop :=
  ∃ (f : Addr) (fd : FuncData) (g : List Value → List Value → List Value), FnOk P w K mg base CX0 k f fd ps sp ∧ mg x = some (.ref f) ∧ PySem.W.keepIn K (.ref f) = true ∧ KBn K fd ps 0 ks g (fun _ zs => gV zs)
theorem pe_ck {X : Cx} {k : Nat} {x : Str} {ps ks : List Str} {gV : List V → List V} {sp : Sp} {kws : List Keyword} {t : TA} {p pos : Pos} (c : CalK X.prog X.w X.K X.mg X.base k x ps ks gV sp) (hr : Room k X.A) (hkw : PK X kws t) (hg : Gl X x := by rfl)
    (hall : (backToKw pos (keywordEach kws X.env)).all (fun b => b.1.isSome) = true := by rfl)
    (hks : (backToKw pos (keywordEach kws X.env)).filterMap (fun b => b.1) = ks := by rfl) (hdb : (x == ("__debug__" : Str)) = false := by decide)
    (hpl : ((backTo pos (starEach [] X.env)).any (fun b => b.1) || (backToKw pos (keywordEach kws X.env)).any (fun b => b.1.isNone)) = false := by rfl) :
    PE X (.Call (.Name x p) [] kws pos) (fun σ H Q => t σ H fun zs H1 => zs.length = ks.length ∧ sp (gV zs) H1 Q E0) := by
  obtain ⟨f, fd, g, F, hm, hk, hb⟩ := c
  constructor
  intro pins s σ H Q I h
  apply wpAny_Call_Name_kw
  apply ld_glob I hg hm _ hdb
  apply PySem.W.callWith_KW0 (h₀ := X.base) I.ok.mod.kin hk hall _ hpl
  apply thn (hkw.run pos pins s σ H _ I h)
  rintro ws s2 ⟨zs, H2, I2, rz, l2, q2⟩
  rw [hks]
  exact ⟨I2.kIn, run_fnN (us := []) (vs := []) F hr hb pass0 I2 .nil rz rfl l2 q2⟩
section
variable {base : Heap} {mg : Str → Option Value} {K : PySem.W.Frag} {w : World} {P : Program}
theorem ok_trimmed {f : Addr} {fd : FuncData} (F : Fun K "trimmed" "trimmed" s_trimmed f fd) (cT : Cal P w K mg base 1 "cut" p_cut (spTrim K)) : FnOk P w K mg base CX0 2 f fd p_trimmed (spTrim K) := by
  refine F.ok sc_trimmed (fun vs H Q E h => ?_) (fun cdv A outer s H vs Q E hr h => ?_)
  · obtain ⟨a, ns, rfl, _⟩ := h
    rfl
  · obtain ⟨a, ns, rfl, hS, hl, k⟩ := h
    refine ⟨_, pss_one (ps_ret (pe_c cT hr (pa_cons (pv 0) pa_nil))), ?_⟩
    exact ⟨_, rfl, a, ns, rfl, hS, hl, k⟩
theorem two_chk {H : Hp} {a b l : Addr} {xs ys : List Int} (ha : Li H a xs) (hb : Li H b ys) (hx : Pn xs) (hy : Pn ys) (e : Evl.Ex H (upd H l (.lst [.ref a, .ref b]))) : ∀ c ∈ [a, b], ∃ ns, Li (upd H l (.lst [.ref a, .ref b])) c ns ∧ Pn ns := by
  intro c hc
  rcases (List.mem_cons.mp hc) with rfl | hc
  · exact ⟨xs, e _ _ ha, hx⟩
  · rcases (List.mem_cons.mp hc) with rfl | hc
    · exact ⟨ys, e _ _ hb, hy⟩
    · cases hc
theorem ok_plus {f : Addr} {fd : FuncData} (F : Fun K "plus" "plus" s_plus f fd) (cC : Cal P w K mg base 3 "check_polynomials" p_check_polynomials spChk) (cA : Cal P w K mg base 2 "added" p_added (spTwo fun xs ys => trm (padd xs ys))) : FnOk P w K mg base CX0 4 f fd p_plus (spTwo fun xs ys => trm (padd xs ys)) := by
  refine F.ok sc_plus (fun vs H Q E h => ?_) (fun cdv A outer s H vs Q E hr h => ?_)
  · obtain ⟨a, b, xs, ys, rfl, _⟩ := h
    rfl
  · obtain ⟨a, b, xs, ys, rfl, ha, hb, hx, hy, k⟩ := h
    refine ⟨_, pss_cons (ps_expr (pe_c cC hr (pa_cons (pe_lst (pa_cons (pv 0) (pa_cons (pv 1) pa_nil))) pa_nil))) (pss_one (ps_ret (pe_c cA (hr.mono (by decide)) (pa_cons (pv 0) (pa_cons (pv 1) pa_nil))))), ?_⟩
    refine ⟨_, rfl, _, rfl, (by show 2 ≤ sizeLine; decide), fun l hl => ?_⟩
    have e1 := Evl.Ex.new (o := .lst [.ref a, .ref b]) hl
    refine ⟨l, [a, b], rfl, upd_same, by simp, two_chk ha hb hx hy e1, fun H2 e2 => ?_⟩
    have e12 := e1.trans e2
    exact ⟨_, rfl, _, rfl, a, b, xs, ys, rfl, e12 _ _ ha, e12 _ _ hb, hx, hy, fun p H3 hp e3 h3 => k p H3 (Evl.fresh_back e12 hp) (e12.trans e3) h3⟩
theorem ok_times {f : Addr} {fd : FuncData} (F : Fun K "times" "times" s_times f fd) (cC : Cal P w K mg base 3 "check_polynomials" p_check_polynomials spChk) (cA : Cal P w K mg base 1 "multiplied" p_multiplied (spTwo fun xs ys => trm (pmul xs ys))) : FnOk P w K mg base CX0 4 f fd p_times (spTwo fun xs ys => trm (pmul xs ys)) := by
  refine F.ok sc_times (fun vs H Q E h => ?_) (fun cdv A outer s H vs Q E hr h => ?_)
  · obtain ⟨a, b, xs, ys, rfl, _⟩ := h
    rfl
  · obtain ⟨a, b, xs, ys, rfl, ha, hb, hx, hy, k⟩ := h
    refine ⟨_, pss_cons (ps_expr (pe_c cC hr (pa_cons (pe_lst (pa_cons (pv 0) (pa_cons (pv 1) pa_nil))) pa_nil))) (pss_one (ps_ret (pe_c cA (hr.mono (by decide)) (pa_cons (pv 0) (pa_cons (pv 1) pa_nil))))), ?_⟩
    refine ⟨_, rfl, _, rfl, (by show 2 ≤ sizeLine; decide), fun l hl => ?_⟩
    have e1 := Evl.Ex.new (o := .lst [.ref a, .ref b]) hl
    refine ⟨l, [a, b], rfl, upd_same, by simp, two_chk ha hb hx hy e1, fun H2 e2 => ?_⟩
    have e12 := e1.trans e2
    exact ⟨_, rfl, _, rfl, a, b, xs, ys, rfl, e12 _ _ ha, e12 _ _ hb, hx, hy, fun p H3 hp e3 h3 => k p H3 (Evl.fresh_back e12 hp) (e12.trans e3) h3⟩
theorem ok_value {f : Addr} {fd : FuncData} (F : Fun K "value" "value" s_value f fd) (cC : Cal P w K mg base 3 "check_polynomials" p_check_polynomials spChk) (cF : Cal P w K mg base 3 "check_fraction" p_check_fraction spChkFr) (cA : Cal P w K mg base 2 "value_at" p_value_at spVal) : FnOk P w K mg base CX0 4 f fd p_value spVal := by
  refine F.ok sc_value (fun vs H Q E h => ?_) (fun cdv A outer s H vs Q E hr h => ?_)
  · obtain ⟨a, b, xs, p, q, rfl, _⟩ := h
    rfl
  · obtain ⟨a, b, xs, p, q, rfl, ha, hb, hx, hq, k⟩ := h
    refine ⟨_, pss_cons (ps_expr (pe_c cC hr (pa_cons (pe_lst (pa_cons (pv 0) pa_nil)) pa_nil))) (pss_cons (ps_expr (pe_c cF hr (pa_cons (pv 1) pa_nil))) (pss_one (ps_ret (pe_c cA (hr.mono (by decide)) (pa_cons (pv 0) (pa_cons (pv 1) pa_nil)))))), ?_⟩
    refine ⟨_, rfl, (by show 1 ≤ sizeLine; decide), fun l hl => ?_⟩
    have e1 := Evl.Ex.new (o := .lst [.ref a]) hl
    refine ⟨l, [a], rfl, upd_same, by simp, fun c hc => ?_, fun H2 e2 => ?_⟩
    · obtain rfl := List.mem_singleton.mp hc
      exact ⟨xs, e1 _ _ ha, hx⟩
    have e12 := e1.trans e2
    refine ⟨_, rfl, b, p, q, rfl, e12 _ _ hb, hq, fun H3 e3 => ?_⟩
    have e13 := e12.trans e3
    exact ⟨_, rfl, _, rfl, a, b, xs, p, q, rfl, e13 _ _ ha, e13 _ _ hb, hx, hq, fun r H4 hp e4 h4 => k r H4 (Evl.fresh_back e13 hp) (e13.trans e4) h4⟩
end
end V2


namespace V2
open PySem L2
open PySem.Spec PyProof.Rows
/-! ## defs that show things: they are called where no repr is under way -/
structure FnG (P : Program) (w : World) (K : PySem.W.Frag) (mg : Str → Option Value) (base : Heap) (k : Nat) (f : Addr) (fd : FuncData) (ps : List Str) (sp : Sp) : Prop where
  len : ∀ vs H Qv Ee, sp vs H Qv Ee → vs.length = ps.length
  run : ∀ (A : Around) (outer : List Env) (s : Shared) (H : Hp) (args : Args) (us : List Value) (vs : List V) (Q : VK) (E : XK), A.guards = some [] → Room k A → Env0 P w K mg base A outer s H → BindsTo s fd args (ps.zip us) → Vals vs us → sp vs H Q E →
    codeAny (model P w) A (.call (.ref f) args) (CR CX0 outer P w H s Q E) s
theorem guards_deeper (A : Around) (env : Env) : (A.deeper env).guards = A.guards := rfl
/-- a def by its body, the way in told -/
theorem Fun.okG {P : Program} {w : World} {K : PySem.W.Frag} {mg : Str → Option Value} {base : Heap} {x qual : Str} {st : Stmt} {f : Addr} {fd : FuncData} {N ps : List Str} {k : Nat} {sp : Sp} (F : Fun K x qual st f fd) (S : FnScope N ps (defScope st))
    (len : ∀ vs H Qv Ee, sp vs H Qv Ee → vs.length = ps.length)
    (hbody : ∀ (cdv : Value) (A : Around) (outer : List Env) (s : Shared) (H : Hp) (vs : List V) (Q : VK) (E : XK), A.guards = some [] → Room k (A.deeper (envOfC qual (defScope st) s.heap.objs.size f cdv)) → sp vs H Q E →
      ∃ t, PSs (cxOf CX0 P w K mg base N qual (defScope st) f cdv A outer s H E).nox (defBody st) t ∧ t { nx := fun _ H' => Q .non H', rt := Q } (start N vs) H) :
    FnG P w K mg base (k + 1) f fd ps sp := by
  obtain ⟨ow, oe, kw, dc, pn, am, cdv, cu, sl, rfl, lk, hcd⟩ := F.ex
  constructor
  · exact len
  intro A outer s H args us vs Q E hg hr e0 hb r hsp
  have hl := len vs H Q E hsp
  have st1 : ∀ b o, base.get? b = some o → s.heap.get? b = some o := fun b o e => (e0.bs b o e).1
  have KX : K.In s.heap := e0.mod.kin.keeps st1
  have lim := e0.mod.nolimit.keeps st1
  have kinds : ∀ y ∈ ps.zip us, (defScope st).names.lookup y.1 = some .local ∨ ((defScope st).names.lookup y.1 = some .cell ∧ ((cellsFrom (s.heap.objs.size + 1) (defScope st).names []).lookup y.1).isSome = true) := by
    rintro ⟨n, v⟩ hy
    cases S.par n (List.of_mem_zip hy).1 with
    | inl q => exact .inl q
    | inr q => exact .inr ⟨q, PySem.W.cellsFrom_some _ _ _ (.inl q)⟩
  apply codeAny_call_function hr.depth (KX _ _ lk) rfl S.co S.gen rfl (PySem.W.codeRec_of KX hcd)
  apply hb
  apply wpAny_newFunctionEnv_cells S.kind kinds
  rintro env rfl s1 ic
  constructor
  · exact lim.keeps ic.toInCall.keep
  apply codeAny_func
  obtain ⟨t, ht, hq⟩ := hbody cdv A outer s H vs Q E hg (hr.deeper _) hsp
  have I := inv_start (CX := CX0) (E := E) (qual := qual) (f := f) (cd := cdv) S hr.hd e0 hl r ic
  apply wpAny_mono (ht.nox.run [] s1 (start N vs) H _ I hq)
  · intro fl s' hs
    cases fl with
    | ret u =>
      obtain ⟨v, σ', Hb, J, rr, q⟩ := hs
      exact ⟨v, Hb, J.os, J.bare, J.base, J.hok, rr, q⟩
    | next =>
      obtain ⟨σ', H', J, q⟩ := hs
      exact ⟨V.non, H', J.os, J.bare, J.base, J.hok, rfl, q⟩
    | brk => exact hs.elim fun _ z => z.elim fun _ z => z.2.elim
    | cont => exact hs.elim fun _ z => z.elim fun _ z => z.2.elim
  · exact fun e s' hs => hs
theorem FnOk.toG {P : Program} {w : World} {K : PySem.W.Frag} {mg : Str → Option Value} {base : Heap} {k : Nat} {f : Addr} {fd : FuncData} {ps : List Str} {sp : Sp} (F : FnOk P w K mg base CX0 k f fd ps sp) : FnG P w K mg base k f fd ps sp :=
  ⟨F.len, fun A outer s H args us vs Q E _ => F.run A outer s H args us vs Q E⟩
def CalG (P : Program) (w : World) (K : PySem.W.Frag) (mg : Str → Option Value) (base : Heap) (k : Nat) (x : Str) (ps : List Str) (sp : Sp) : Prop :=
  ∃ (f : Addr) (fd : FuncData), FnG P w K mg base k f fd ps sp ∧ mg x = some (.ref f) ∧ PySem.W.keepIn K (.ref f) = true ∧ Binds K fd ps []
theorem pe_cg {X : Cx} {k : Nat} {x : Str} {ps : List Str} {sp : Sp} {e : Expr} {es : List Expr} {t : TA} {p pos : Pos} (c : CalG X.prog X.w X.K X.mg X.base k x ps sp) (hgd : X.A.guards = some []) (hr : Room k X.A) (ha : PA X (e :: es) t) (hg : Gl X x := by rfl)
    (he : starEach (e :: es) X.env = (false, eval e X.env) :: starEach es X.env := by rfl)
    (hpl : (backTo pos (starEach es X.env)).any (fun b => b.1) = false := by rfl) (hdb : (x == ("__debug__" : Str)) = false := by decide) :
    PE X (.Call (.Name x p) (e :: es) [] pos) (tCall sp [] E0 t) := by
  obtain ⟨f, fd, F, hm, hk, hb⟩ := c
  constructor
  intro pins s σ H Q I h
  apply wpAny_Call_Name_kw
  apply ld_glob I hg hm _ hdb
  refine PySem.W.callWith_K (h₀ := X.base) I.ok.mod.kin hk ?_ he hpl
  apply thn (ha.run pos pins s σ H _ I h)
  rintro us s1 ⟨vs, H1, I1, r, q⟩
  refine ⟨I1.kIn, ?_⟩
  (show wpAny _ _ (call (.ref f) us) _ _ _)
  have q : sp (vs ++ []) H1 Q E0 := q
  rw [List.append_nil] at q
  have hl : us.length = ps.length := by rw [← Paired.length r]; exact F.len _ _ _ _ q
  have bb := hb s1 us I1.kIn (by rw [List.append_nil]; exact hl)
  rw [List.append_nil] at bb
  apply wpAny_call
  apply codeAny_mono (F.run X.A X.stack s1 H1 ⟨us, []⟩ us vs Q E0 hgd hr I1.env0 bb r q)
  intro r' s' hq
  cases r' with
  | error e => exact hq.elim
  | ok fl =>
    cases fl with
    | ret u => exact I1.after hq
    | next => exact hq.elim
    | brk => exact hq.elim
    | cont => exact hq.elim
/-- repr of what is data -/
def rShow (K : PySem.W.Frag) : List V → Hp → VK → Prop := fun xs H Q => ∃ (a : Addr) (d : PyData), xs = [.ref a] ∧ Dp K H (.ref a) d ∧ d.showable = true ∧ d.hasDict = false ∧ d.depth ≤ 60 ∧ d.shown.length ≤ sizeLine ∧ Q (.str d.shown) H
theorem call_show {X : Cx} (hgd : X.A.guards = some []) (hu : X.A.units + 64 < cLine) : CallR X (.builtin "repr") (rShow X.K) := by
  intro pins
  intro s σ H xs us Q I r h
  obtain ⟨a, d, rfl, hd, hs, hn, hp, hz, q⟩ := h
  obtain ⟨u, rfl, ru⟩ : ∃ u, us = [u] ∧ RelV (.ref a) u := by
    cases r with
    | cons ra rb =>
      cases rb
      exact ⟨_, rfl, ra⟩
  have eu : u = Value.ref a := ru
  subst eu
  obtain ⟨as, rd⟩ := Dp.reads I d (.ref a) (.ref a) hd rfl
  apply repr_of_reads' rd hs (fun z => by rw [hn] at z; cases z) hgd (by omega) (fun _ _ e => e) _ hz
  intro h' u tk k
  exact ⟨.str d.shown, H, I.kept (t' := tk) k, ⟨u, rfl⟩, q⟩
end V2


namespace V2
open PySem L2
open PySem.Spec PyProof.Rows
/-! ## the law's own call -/
/-- it says True and leaves what it found -/
def Fine (s₁ : Shared) : Result → Shared → Prop := fun r s2 =>
  r = .ok (.ret (.bool true)) ∧ OldK s₁.heap s2.heap ∧ s2.os = s₁.os ∧ AllBare s2.gens
section
variable {P : Program} {w : World} {K : PySem.W.Frag} {mg mb : Str → Option Value} {k : Nat} {fa a : Addr} {fd : FuncData} {x : Str} {sp : Sp} {s₁ : Shared} {vs : List Value} {ns : List Int}
/-- from an abstract heap that tracks the script at most -/
theorem core_G (KX : K.In s₁.heap) (hns : s₁.heap.Ns mainGlobals mg) (hb : s₁.heap.Ns builtinsNs mb) (hbb : ∀ x : Str, x ≠ "__name__" → mb x = bootBuiltins x) (hlim : s₁.heap.NoLimit) (hg : s₁.gens = #[])
    (ha : s₁.heap.get? a = some { cls := .type "list", data := .seq vs.toArray }) (hr : Room k callerA)
    (F : ∀ base : Heap, K.In base → base.Ns mainGlobals mg → FnG P w K mg base k fa fd [x] sp) (hbind : ∀ (s : Shared) (u : Value), BindsTo s fd ⟨[u], []⟩ [(x, u)])
    (H : Hp) (hO : Only H) (hq : sp [.ref a] H (fun v _ => v = .bl true) fun _ _ _ => False) (hok : HOk P w H s₁.heap) (hA : ∀ b u, H b = some u → b = a) (hK : ∀ u, H a = some u → K.lookup a = none) :
    codeAny (model P w) callerA (.call (.ref fa) ⟨[.ref a], []⟩) (Fine s₁) s₁ := by
  have dictNo : ∀ {b : Addr} {o : Obj} {es : Array DictEntry} {ep : Nat}, s₁.heap.get? b = some o → o.data = .dict es ep → H b = none := by
    intro b o es ep e d
    cases q : H b with
    | none => rfl
    | some u =>
      obtain rfl := hA b u q
      rw [ha] at e
      cases e
      cases d
  have hideNs : ∀ {b : Addr} {m : Str → Option Value}, s₁.heap.Ns b m → (hidT s₁.heap H).Ns b m := by
    rintro b m ⟨o, es, ep, e, d, r⟩
    exact ⟨o, es, ep, hidT_get e (dictNo e d), d, r⟩
  have hKb : K.In (hidT s₁.heap H) := by
    intro b o e
    apply hidT_get (KX b o e)
    cases q : H b with
    | none => rfl
    | some u =>
      obtain rfl := hA b u q
      rw [hK u q] at e
      cases e
  have hM : Mod K mg (hidT s₁.heap H) := by
    obtain ⟨mc, h1, h2⟩ := hlim
    exact ⟨hKb, hideNs hns, ⟨mb, hideNs hb, hbb⟩, ⟨mc, hideNs h1, h2⟩⟩
  have none_ : ∀ b ∈ frs [], H b = none := by
    intro b hb
    cases (show b ∈ ([] : List Addr) from hb)
  have e0 : Env0 P w K mg (hidT s₁.heap H) callerA [] s₁ H := ⟨rfl, hM, fun b o e => of_hidT e, Nat.le_of_eq (hidT_size _ _), trivial, none_, hok, .of_eq hg⟩
  apply codeAny_mono ((F _ hKb (hideNs hns)).run callerA [] s₁ H ⟨[.ref a], []⟩ [.ref a] [.ref a] _ _ rfl hr e0 (hbind s₁ (.ref a)) (.cons rfl .nil) hq)
  intro r s' h
  cases r with
  | error e => exact h.elim
  | ok fl =>
    cases fl with
    | next => exact h.elim
    | brk => exact h.elim
    | cont => exact h.elim
    | ret u =>
      obtain ⟨v, H', os, bare, un, hok', r', rfl⟩ := h
      have eu : u = Value.bool true := r'
      subst eu
      refine ⟨rfl, OldK.of_keep ?_, os, bare⟩
      intro b o e
      cases q : H b with
      | none => exact un.keep b o e q (by intro z; cases (show b ∈ ([] : List Addr) from z)) (by intro z; cases z)
      | some u =>
        (rcases hO b with z | ⟨ob, xs, z⟩)
        · rw [q] at z; cases z
        · have e1 := (hok b _ z).1
          have e2 := (hok' b _ (un.frzs b ob _ z)).1
          rw [e] at e1
          cases e1
          exact e2
theorem law_G (KX : K.In s₁.heap) (hns : s₁.heap.Ns mainGlobals mg) (hb : s₁.heap.Ns builtinsNs mb) (hbb : ∀ x : Str, x ≠ "__name__" → mb x = bootBuiltins x) (hlim : s₁.heap.NoLimit) (hg : s₁.gens = #[])
    (ha : s₁.heap.get? a = some { cls := .type "list", data := .seq vs.toArray })
    (hi : IntsAre vs ns) (hl : ns.length ≤ sizeLine) (hr : Room k callerA)
    (F : ∀ base : Heap, K.In base → base.Ns mainGlobals mg → FnG P w K mg base k fa fd [x] sp) (hbind : ∀ (s : Shared) (u : Value), BindsTo s fd ⟨[u], []⟩ [(x, u)])
    (hsp : ∀ H : Hp, Only H → SqL K H a (ns.map V.int) → sp [.ref a] H (fun v _ => v = .bl true) fun _ _ _ => False) :
    codeAny (model P w) callerA (.call (.ref fa) ⟨[.ref a], []⟩) (Fine s₁) s₁ := by
  have rv := vals_ints hi
  have lenV := hi.length
  cases hk : K.lookup a with
  | some o =>
    have e := KX a o hk
    rw [ha] at e
    cases e
    have hS : SqL K (fun _ => none) a (ns.map V.int) := .inr ⟨_, vs.toArray, _, hk, rfl, rfl, rfl, by rw [List.size_toArray, lenV]; exact hl, by simpa using rv⟩
    have hO : Only (fun _ => none) := fun _ => .inl rfl
    exact core_G KX hns hb hbb hlim hg ha hr F hbind _ hO (hsp _ hO hS) (fun b u z => by cases (show (none : Option HO) = some u from z)) (fun b u z => by cases (show (none : Option HO) = some u from z)) fun u z => by cases (show (none : Option HO) = some u from z)
  | none =>
    let H : Hp := fun b => if b = a then some (.frz { cls := .type "list", data := .seq vs.toArray } (.lst (ns.map V.int))) else none
    have at_a : H a = some (.frz { cls := .type "list", data := .seq vs.toArray } (.lst (ns.map V.int))) := if_pos rfl
    have off : ∀ b u, H b = some u → b = a := by
      intro b u z
      by_cases e : b = a
      · exact e
      · rw [show H b = none from if_neg e] at z; cases z
    have hO : Only H := by
      intro b
      by_cases e : b = a
      · exact .inr ⟨_, _, by rw [e]; exact at_a⟩
      · exact .inl (if_neg e)
    have hok : HOk P w H s₁.heap := by
      intro b u z
      obtain rfl := off b u z
      rw [at_a] at z
      cases z
      (exact ⟨ha, by rw [List.length_map]; exact hl, vs, _, rv, ha⟩)
    exact core_G KX hns hb hbb hlim hg ha hr F hbind H hO (hsp H hO (.inl (.inr ⟨_, at_a⟩))) hok off fun _ _ => hk
end
theorem walk_G {l : PySem.W.OpenLaw} {n k : Nat} {q : Program} {loose : List Str} {XP : (Str → Option Value) → Heap → Prop} {YP : World → Heap → Prop} {d : DefRec} {K : Params → PySem.W.Frag} {sp : PySem.W.Frag → Sp} {x : Str}
    (hn : l.most = some n) (hn2 : n ≤ sizeLine)
    (hdf : d.params.defaults = []) (hr : Room k callerA)
    (hY : ∀ (w : World) (hp : Heap), YP w hp → (K w.params).In hp)
    (F : ∀ (w : World) (mg : Str → Option Value) (fa : Addr) (hp : Heap), (K w.params).In hp → hp.Ns mainGlobals mg → mg d.name = some (.ref fa) →
      ∃ fd : FuncData, (∀ (s : Shared) (u : Value), BindsTo s fd ⟨[u], []⟩ [(x, u)]) ∧ ∀ base : Heap, (K w.params).In base → base.Ns mainGlobals mg → FnG l.prog w (K w.params) mg base k fa fd [x] (sp (K w.params)))
    (hsp : ∀ (K : PySem.W.Frag) (H : Hp) (a : Addr) (ns : List Int), ns.length ≤ n → Only H → SqL K H a (ns.map V.int) → sp K [.ref a] H (fun v _ => v = .bl true) fun _ _ _ => False) :
    PySem.W.WalkO q loose XP YP l.row.toRowW d []
      (fun f us => PySem.call f us) := by
  apply Att.attach_call hn hdf
  intro w s₀ s₁ mg mb fa o pm cd doc a vs ns G Y ho hd hcd hmg hobj hints hlen hg
  obtain ⟨fd, hb, hF⟩ := F w mg fa _ (hY w _ Y) G.T.g hmg
  exact law_G (hY w _ Y) G.T.g G.T.b G.T.builtins G.T.nolimit hg hobj hints (Nat.le_trans hlen hn2) hr hF hb fun H hO hS => hsp _ H a ns hlen hO hS
end V2


namespace V2
open PySem L2
open PySem.Spec PyProof.Rows
/-! ## flat lists and tuples of ints, and lists of such -/
abbrev Itm := Bool × Addr × List Int
def ItAt (H : Hp) (i : Itm) : Prop := H i.2.1 = some (if i.1 = true then .lst (iV i.2.2) else .tup (iV i.2.2))
def itD (i : Itm) : PyData := if i.1 = true then .list (i.2.2.map .int) else .tuple (i.2.2.map .int)
def refs (its : List Itm) : List V := its.map fun i => .ref i.2.1
def TreeAt (H : Hp) (a : Addr) (its : List Itm) : Prop := H a = some (.lst (refs its)) ∧ ∀ i ∈ its, ItAt H i
def treeD (its : List Itm) : PyData := .list (its.map itD)
def lsts (its : List Itm) : List (Addr × List Int) := its.filterMap fun i => if i.1 = true then some (i.2.1, i.2.2) else none
def goM : Nat → List Itm → List PyData
  | _, [] => []
  | k, (true, _, ns) :: r => .list ((ns ++ [(k : Int)]).map .int) :: goM (k + 1) r
  | k, (false, _, ns) :: r => .tuple (ns.map .int) :: goM k r
def markD (its : List Itm) : PyData := .list (goM 1 its ++ [.int 0])
/-- all that is marked: the list itself, then its lists -/
def CL (a : Addr) (its : List Itm) : List (Addr × List V) := (a, refs its) :: (lsts its).map fun p => (p.1, iV p.2)
def Dst (a : Addr) (its : List Itm) : Prop := ((CL a its).map (·.1)).Nodup
def Off (S : List Addr) (H H' : Hp) : Prop := ∀ b o, b ∉ S → H b = some o → H' b = some o
theorem ItAt.ex {H H' : Hp} {i : Itm} (h : ItAt H i) (e : Evl.Ex H H') : ItAt H' i := e _ _ h
theorem TreeAt.ex {H H' : Hp} {a : Addr} {its : List Itm} (h : TreeAt H a its) (e : Evl.Ex H H') : TreeAt H' a its := ⟨e _ _ h.1, fun i hi => (h.2 i hi).ex e⟩
theorem lsts_mem {its : List Itm} {b : Addr} {ns : List Int} (h : (b, ns) ∈ lsts its) : (true, b, ns) ∈ its := by
  obtain ⟨i, hi, e⟩ := List.mem_filterMap.mp h
  obtain ⟨k, c, ms⟩ := i
  cases k with
  | true => simp at e; obtain ⟨rfl, rfl⟩ := e; exact hi
  | false => simp at e
theorem dpI {K : PySem.W.Frag} {H : Hp} : ∀ ns : List Int, DpAll K H (iV ns) (ns.map .int)
  | [] => .nil
  | n :: r => .cons (.int n) (dpI r)
theorem dp_it {K : PySem.W.Frag} {H : Hp} {i : Itm} (h : ItAt H i) : Dp K H (.ref i.2.1) (itD i) := by
  obtain ⟨b, a, ns⟩ := i
  cases b with
  | true => exact .lst (SqL.of h) (dpI ns)
  | false => exact .tup (SqT.of h) (dpI ns)
theorem dp_tree {K : PySem.W.Frag} {H : Hp} {a : Addr} {its : List Itm} (h : TreeAt H a its) : Dp K H (.ref a) (treeD its) := by
  refine .lst (SqL.of h.1) ?_
  have key : ∀ l : List Itm, (∀ i ∈ l, ItAt H i) → DpAll K H (refs l) (l.map itD) := by
    intro l
    induction l with
    | nil => intro _; exact .nil
    | cons i r ih => intro q; exact .cons (dp_it (q i List.mem_cons_self)) (ih fun j hj => q j (List.mem_cons_of_mem _ hj))
  exact key its h.2
/-- behind the marking -/
theorem dp_go {K : PySem.W.Frag} {H : Hp} : ∀ (its : List Itm) (k : Nat), (∀ j b ns, (lsts its)[j]? = some (b, ns) → H b = some (.lst (iV (ns ++ [((k + j : Nat) : Int)])))) → (∀ i ∈ its, i.1 = false → H i.2.1 = some (.tup (iV i.2.2))) → DpAll K H (refs its) (goM k its)
  | [], _, _, _ => .nil
  | (true, b, ns) :: r, k, h1, h2 => by
    have e : lsts ((true, b, ns) :: r) = (b, ns) :: lsts r := by unfold lsts; rw [List.filterMap_cons_some (by rfl)]
    have h0 := h1 0 b ns (by rw [e]; rfl)
    refine .cons (.lst (SqL.of h0) (dpI _)) (dp_go r (k + 1) (fun j c ms hj => ?_) fun i hi => h2 i (List.mem_cons_of_mem _ hi))
    have := h1 (j + 1) c ms (by rw [e]; exact hj)
    rw [show k + (j + 1) = k + 1 + j by omega] at this
    exact this
  | (false, b, ns) :: r, k, h1, h2 => by
    have e : lsts ((false, b, ns) :: r) = lsts r := by unfold lsts; rw [List.filterMap_cons_none (by rfl)]
    exact .cons (.tup (SqT.of (h2 (false, b, ns) List.mem_cons_self rfl)) (dpI _)) (dp_go r k (fun j c ms hj => h1 j c ms (by rw [e]; exact hj)) fun i hi => h2 i (List.mem_cons_of_mem _ hi))
theorem go_shape : ∀ (k : Nat) (l m : List Itm), l.map (fun i => (i.1, i.2.2)) = m.map (fun i => (i.1, i.2.2)) → goM k l = goM k m
  | _, [], [], _ => rfl
  | _, [], _ :: _, h => by simp at h
  | _, _ :: _, [], h => by simp at h
  | k, (b, x, ns) :: l, (c, y, ms) :: m, h => by
    simp only [List.map_cons, List.cons.injEq, Prod.mk.injEq] at h
    obtain ⟨⟨rfl, rfl⟩, h2⟩ := h
    cases b with
    | true => show _ :: goM (k + 1) l = _ :: goM (k + 1) m; rw [go_shape (k + 1) l m h2]
    | false => show _ :: goM k l = _ :: goM k m; rw [go_shape k l m h2]
theorem tree_shape {l m : List Itm} (h : l.map (fun i => (i.1, i.2.2)) = m.map (fun i => (i.1, i.2.2))) : treeD l = treeD m := by
  have e : ∀ k : List Itm, k.map itD = (k.map fun i => (i.1, i.2.2)).map fun p => if p.1 = true then PyData.list (p.2.map .int) else .tuple (p.2.map .int) := fun k => by rw [List.map_map]; rfl
  unfold treeD
  rw [e, e, h]
theorem mark_shape {l m : List Itm} (h : l.map (fun i => (i.1, i.2.2)) = m.map (fun i => (i.1, i.2.2))) : markD l = markD m := by
  unfold markD; rw [go_shape 1 l m h]
theorem kA_int {K : PySem.W.Frag} : PySem.W.kitAny K (.type "int") [.type "list", .type "tuple"] = some false := kitAny_cons (b := false) (kit_ty (by decide +kernel)) (fun _ => kitAny_cons (b := false) (kit_ty (by decide +kernel)) (fun _ => kitAny_nil) (fun h => by cases h)) (fun h => by cases h)
theorem kA_lst {K : PySem.W.Frag} : PySem.W.kitAny K (.type "list") [.type "list", .type "tuple"] = some true := kitAny_cons (b := true) (kit_ty (by decide +kernel)) (fun h => by cases h) (fun _ => rfl)
theorem kA_tup {K : PySem.W.Frag} : PySem.W.kitAny K (.type "tuple") [.type "list", .type "tuple"] = some true := kitAny_cons (b := false) (kit_ty (by decide +kernel)) (fun _ => kitAny_cons (b := true) (kit_ty (by decide +kernel)) (fun h => by cases h) (fun _ => rfl)) (fun h => by cases h)
structure T4 (mg : Str → Option Value) : Prop where
  isi : mg "isinstance" = none
  lst : mg "list" = none
  tup : mg "tuple" = none
  len : mg "len" = none
  rng : mg "range" = none
  rep : mg "repr" = none
def spL0 : Sp := fun vs H Q _ => ∃ n : Int, vs = [.int n] ∧ Evl.RetL [] H Q
def spL1 : Sp := fun vs H Q _ => ∃ i : Itm, vs = [.ref i.2.1] ∧ ItAt H i ∧ i.2.2.length ≤ 100 ∧ Evl.RetL (if i.1 = true then [.ref i.2.1] else []) H Q
def spL2 : Sp := fun vs H Q _ => ∃ (a : Addr) (its : List Itm), vs = [.ref a] ∧ TreeAt H a its ∧ its.length ≤ 100 ∧ (∀ i ∈ its, i.2.2.length ≤ 100) ∧ Evl.RetL ((CL a its).map fun p => .ref p.1) H Q
def spC0 : Sp := fun vs H Q _ => ∃ n : Int, vs = [.int n] ∧ Evl.RetV (.int n) H Q
def spC1 : Sp := fun vs H Q _ => ∃ i : Itm, vs = [.ref i.2.1] ∧ ItAt H i ∧ i.2.2.length ≤ 100 ∧ ∀ p H2, H p = none → Evl.Ex H H2 → ItAt H2 (i.1, p, i.2.2) → Q (.ref p) H2
def spC2 : Sp := fun vs H Q _ => ∃ (a : Addr) (its : List Itm), vs = [.ref a] ∧ TreeAt H a its ∧ its.length ≤ 100 ∧ (∀ i ∈ its, i.2.2.length ≤ 100) ∧
  ∀ p jts H2, H p = none → Evl.Ex H H2 → TreeAt H2 p jts → Dst p jts → (∀ x ∈ CL p jts, H x.1 = none) → jts.map (fun i => (i.1, i.2.2)) = its.map (fun i => (i.1, i.2.2)) → Q (.ref p) H2
def lrefs (its : List Itm) : List V := (lsts its).map fun p => .ref p.1
theorem lrefs_snoc {its : List Itm} {i : Nat} {x : Itm} (h : its[i]? = some x) : lrefs (its.take (i + 1)) = lrefs (its.take i) ++ (if x.1 = true then [.ref x.2.1] else []) := by
  rw [List.take_add_one, h]
  unfold lrefs lsts
  rw [List.filterMap_append, List.map_append]
  congr 1
  obtain ⟨b, a, ns⟩ := x
  cases b <;> rfl
theorem lrefs_len (its : List Itm) : (lrefs its).length ≤ its.length := by
  unfold lrefs lsts
  rw [List.length_map]
  exact List.length_filterMap_le _ _
theorem refs_get {its : List Itm} {i : Nat} {x : V} (h : (refs its)[i]? = some x) : ∃ j, its[i]? = some j ∧ x = .ref j.2.1 := by
  unfold refs at h
  rw [List.getElem?_map] at h
  cases e : its[i]? with
  | none =>
    rw [e] at h
    cases h
  | some j => rw [e] at h; exact ⟨j, rfl, (Option.some.inj h).symm⟩
theorem refs_len (its : List Itm) : (refs its).length = its.length := List.length_map ..
theorem cl_refs (a : Addr) (its : List Itm) : ((CL a its).map fun p => V.ref p.1) = .ref a :: lrefs its := by
  unfold CL lrefs
  rw [List.map_cons, List.map_map]
  rfl
section
variable {base : Heap} {mg : Str → Option Value} {K : PySem.W.Frag} {w : World} {P : Program}
theorem ok_lists0 {f : Addr} {fd : FuncData} (F : Fun K "_law_pv_lists" "_law_pv_lists" s_l_lists f fd) (T : T4 mg) : FnOk P w K mg base CX0 1 f fd p_l_lists spL0 := by
  refine F.ok sc_l_lists (fun vs H Q E h => ?_) (fun cdv A outer s H vs Q E hr h => ?_)
  · obtain ⟨n, rfl, _⟩ := h
    rfl
  · obtain ⟨n, rfl, k⟩ := h
    have nd := sc_l_lists.nd
    refine ⟨_, pss_cons (ps_set (i := 1) nd rfl (Or.inl rfl) (pe_lst pa_nil))
      (pss_cons (ps_if (pt_val (pe_callB call_isi (by rfl) T.isi (by decide +kernel) (pa_cons (pv 0) (pa_cons (pe_bltn (v := .ty "list") (by rfl) T.lst (by decide +kernel) rfl) pa_nil)))) (pss_one ps_never) pss_nil)
      (pss_cons (ps_if (pt_val (pe_callB call_isiT (by rfl) T.isi (by decide +kernel) (pa_cons (pv 0) (pa_cons (pe_tup (pa_cons (pe_bltn (v := .ty "list") (by rfl) T.lst (by decide +kernel) rfl) (pa_cons (pe_bltn (v := .ty "tuple") (by rfl) T.tup (by decide +kernel) rfl) pa_nil))) pa_nil)))) (pss_one ps_never) pss_nil)
      (pss_one (ps_ret (pv 1))))), ?_⟩
    refine ⟨Nat.zero_le _, fun l hl => ⟨_, rfl, _, _, _, _, false, rfl, .ty "list", .base (.int n), kit_ty (by decide +kernel), false, rfl, if_f rfl ?_⟩⟩
    refine ⟨_, rfl, (by show 2 ≤ sizeLine; decide), fun t ht => ⟨_, t, _, _, _, false, rfl, upd_same, .cons (.ty "list") (.cons (.ty "tuple") .nil), .base (.int n), ?_, false, rfl, if_f rfl ?_⟩⟩
    · exact kA_int
    · refine ⟨_, rfl, k l _ hl ((Evl.Ex.new hl).trans (Evl.Ex.new ht)) ?_⟩
      exact Evl.Ex.new ht _ _ upd_same
theorem ok_lists1 {f : Addr} {fd : FuncData} (F : Fun K "_law_pv_lists" "_law_pv_lists" s_l_lists f fd) (T : T4 mg) (c0 : Cal P w K mg base 1 "_law_pv_lists" p_l_lists spL0) : FnOk P w K mg base CX0 2 f fd p_l_lists spL1 := by
  refine F.ok sc_l_lists (fun vs H Q E h => ?_) (fun cdv A outer s H vs Q E hr h => ?_)
  · obtain ⟨i, rfl, _⟩ := h
    rfl
  · obtain ⟨⟨b, a, ns⟩, rfl, hI, hz, k⟩ := h
    have nd := sc_l_lists.nd
    have two : 2 ≤ sizeLine := by show 2 ≤ sizeLine; decide
    cases b with
    | true =>
      have hI : H a = some (.lst (iV ns)) := hI
      have k : Evl.RetL [.ref a] H Q := k
      refine ⟨_, pss_cons (ps_set (i := 1) nd rfl (Or.inl rfl) (pe_lst pa_nil))
        (pss_cons (ps_if (pt_val (pe_callB call_isi (by rfl) T.isi (by decide +kernel) (pa_cons (pv 0) (pa_cons (pe_bltn (v := .ty "list") (by rfl) T.lst (by decide +kernel) rfl) pa_nil))))
          (pss_one (ps_expr (pe_bm PySem.F.plainAttrs_list PySem.F.slot_list_append PySem.F.type_list_append mt_append (pv 1) (pa_cons (pv 0) pa_nil)))) pss_nil)
        (pss_cons (ps_if (pt_val (pe_callB call_isiT (by rfl) T.isi (by decide +kernel) (pa_cons (pv 0) (pa_cons (pe_tup (pa_cons (pe_bltn (v := .ty "list") (by rfl) T.lst (by decide +kernel) rfl) (pa_cons (pe_bltn (v := .ty "tuple") (by rfl) T.tup (by decide +kernel) rfl) pa_nil))) pa_nil))))
          (pss_one (ps_for PassesOwn.never rfl (pi_list (pv 0)) (pg_name (i := 2) nd rfl (Or.inl rfl)) (pss_one (ps_set (i := 1) nd rfl (Or.inl rfl) (pe_op op_cat (pv 1) (pe_c c0 hr (pa_cons (pv 2) pa_nil))))))) pss_nil)
        (pss_one (ps_ret (pv 1))))), ?_⟩
      (refine ⟨Nat.zero_le _, fun l hl => ?_⟩)
      have e1 : Evl.Ex H (upd H l (.lst [])) := Evl.Ex.new hl
      refine ⟨_, rfl, _, _, _, _, true, rfl, .ty "list", .base (.lst (e1 _ _ hI)), kit_ty (by decide +kernel), true, rfl, if_t rfl ?_⟩
      refine ⟨_, rfl, .inl ⟨rfl, _, SqL.of upd_same⟩, _, rfl, l, _, _, rfl, rfl, upd_same, by show 0 < sizeLine; decide, ?_⟩
      rw [upd_upd]
      have e2 : Evl.Ex H (upd H l (.lst [.ref a])) := Evl.Ex.new hl
      refine ⟨_, rfl, two, fun t ht => ⟨_, t, _, _, _, true, rfl, upd_same, .cons (.ty "list") (.cons (.ty "tuple") .nil), .base (.lst (Evl.Ex.new ht _ _ (e2 _ _ hI))), kA_lst, true, rfl, if_t rfl ?_⟩⟩
      have e3 := e2.trans (Evl.Ex.new (o := .tup [.ty "list", .ty "tuple"]) ht)
      refine ⟨_, rfl, a, rfl, ⟨_, SqL.of (e3 _ _ hI)⟩, for_list (xs := iV ns) (fun i σ H' => Evl.Ex H H' ∧ ∃ q v, σ = [some (.ref a), some (.ref q), v] ∧ H q = none ∧ H' q = some (.lst [.ref a]))
        ⟨e3, l, none, rfl, hl, Evl.Ex.new ht _ _ upd_same⟩ (fun i σ H' _ q => SqL.of (q.1 _ _ hI)) ?_ ?_⟩
      · rintro i x σ H' hi ⟨e4, q, v, rfl, hq, hq2⟩
        obtain ⟨n, hn, rfl⟩ := iV_get hi
        refine ⟨_, rfl, _, rfl, n, rfl, fun z H2 hz2 e5 h5 => ⟨q, z, _, _, rfl, rfl, e5 _ _ hq2, h5, by show 1 ≤ sizeLine; decide, fun y hy => ?_⟩⟩
        refine ⟨(e4.trans e5).trans (Evl.Ex.new hy), y, _, rfl, Evl.fresh_back (e4.trans e5) hy, ?_⟩
        rw [upd_same]; rfl
      · rintro σ H' ⟨e4, q, v, rfl, hq, hq2⟩
        exact ⟨_, rfl, k q H' hq e4 hq2⟩
    | false =>
      have hI : H a = some (.tup (iV ns)) := hI
      have k : Evl.RetL [] H Q := k
      refine ⟨_, pss_cons (ps_set (i := 1) nd rfl (Or.inl rfl) (pe_lst pa_nil))
        (pss_cons (ps_if (pt_val (pe_callB call_isi (by rfl) T.isi (by decide +kernel) (pa_cons (pv 0) (pa_cons (pe_bltn (v := .ty "list") (by rfl) T.lst (by decide +kernel) rfl) pa_nil)))) (pss_one ps_never) pss_nil)
        (pss_cons (ps_if (pt_val (pe_callB call_isiT (by rfl) T.isi (by decide +kernel) (pa_cons (pv 0) (pa_cons (pe_tup (pa_cons (pe_bltn (v := .ty "list") (by rfl) T.lst (by decide +kernel) rfl) (pa_cons (pe_bltn (v := .ty "tuple") (by rfl) T.tup (by decide +kernel) rfl) pa_nil))) pa_nil))))
          (pss_one (ps_for PassesOwn.never rfl (pi_tup (pv 0)) (pg_name (i := 2) nd rfl (Or.inl rfl)) (pss_one (ps_set (i := 1) nd rfl (Or.inl rfl) (pe_op op_cat (pv 1) (pe_c c0 hr (pa_cons (pv 2) pa_nil))))))) pss_nil)
        (pss_one (ps_ret (pv 1))))), ?_⟩
      (refine ⟨Nat.zero_le _, fun l hl => ?_⟩)
      have e1 : Evl.Ex H (upd H l (.lst [])) := Evl.Ex.new hl
      refine ⟨_, rfl, _, _, _, _, false, rfl, .ty "list", .base (.tup (e1 _ _ hI)), kit_ty (by decide +kernel), false, rfl, if_f rfl ?_⟩
      refine ⟨_, rfl, two, fun t ht => ⟨_, t, _, _, _, true, rfl, upd_same, .cons (.ty "list") (.cons (.ty "tuple") .nil), .base (.tup (Evl.Ex.new ht _ _ (e1 _ _ hI))), kA_tup, true, rfl, if_t rfl ?_⟩⟩
      have e3 := e1.trans (Evl.Ex.new (o := .tup [.ty "list", .ty "tuple"]) ht)
      refine ⟨_, rfl, a, rfl, ⟨_, SqT.of (e3 _ _ hI)⟩, for_tup (xs := iV ns) (fun i σ H' => Evl.Ex H H' ∧ ∃ q v, σ = [some (.ref a), some (.ref q), v] ∧ H q = none ∧ H' q = some (.lst []))
        ⟨e3, l, none, rfl, hl, Evl.Ex.new ht _ _ upd_same⟩ (fun i σ H' _ q => SqT.of (q.1 _ _ hI)) ?_ ?_⟩
      · rintro i x σ H' hi ⟨e4, q, v, rfl, hq, hq2⟩
        obtain ⟨n, hn, rfl⟩ := iV_get hi
        refine ⟨_, rfl, _, rfl, n, rfl, fun z H2 hz2 e5 h5 => ⟨q, z, _, _, rfl, rfl, e5 _ _ hq2, h5, by show 0 ≤ sizeLine; decide, fun y hy => ?_⟩⟩
        refine ⟨(e4.trans e5).trans (Evl.Ex.new hy), y, _, rfl, Evl.fresh_back (e4.trans e5) hy, ?_⟩
        rw [upd_same]; rfl
      · rintro σ H' ⟨e4, q, v, rfl, hq, hq2⟩
        exact ⟨_, rfl, k q H' hq e4 hq2⟩
theorem ok_lists2 {f : Addr} {fd : FuncData} (F : Fun K "_law_pv_lists" "_law_pv_lists" s_l_lists f fd) (T : T4 mg) (c1 : Cal P w K mg base 2 "_law_pv_lists" p_l_lists spL1) : FnOk P w K mg base CX0 3 f fd p_l_lists spL2 := by
  refine F.ok sc_l_lists (fun vs H Q E h => ?_) (fun cdv A outer s H vs Q E hr h => ?_)
  · obtain ⟨a, its, rfl, _⟩ := h
    rfl
  · obtain ⟨a, its, rfl, ⟨hI, hIt⟩, hl100, hz, k⟩ := h
    rw [cl_refs] at k
    have nd := sc_l_lists.nd
    have two : 2 ≤ sizeLine := by show 2 ≤ sizeLine; decide
    refine ⟨_, pss_cons (ps_set (i := 1) nd rfl (Or.inl rfl) (pe_lst pa_nil))
      (pss_cons (ps_if (pt_val (pe_callB call_isi (by rfl) T.isi (by decide +kernel) (pa_cons (pv 0) (pa_cons (pe_bltn (v := .ty "list") (by rfl) T.lst (by decide +kernel) rfl) pa_nil))))
        (pss_one (ps_expr (pe_bm PySem.F.plainAttrs_list PySem.F.slot_list_append PySem.F.type_list_append mt_append (pv 1) (pa_cons (pv 0) pa_nil)))) pss_nil)
      (pss_cons (ps_if (pt_val (pe_callB call_isiT (by rfl) T.isi (by decide +kernel) (pa_cons (pv 0) (pa_cons (pe_tup (pa_cons (pe_bltn (v := .ty "list") (by rfl) T.lst (by decide +kernel) rfl) (pa_cons (pe_bltn (v := .ty "tuple") (by rfl) T.tup (by decide +kernel) rfl) pa_nil))) pa_nil))))
        (pss_one (ps_for PassesOwn.never rfl (pi_list (pv 0)) (pg_name (i := 2) nd rfl (Or.inl rfl)) (pss_one (ps_set (i := 1) nd rfl (Or.inl rfl) (pe_op op_cat (pv 1) (pe_c c1 hr (pa_cons (pv 2) pa_nil))))))) pss_nil)
      (pss_one (ps_ret (pv 1))))), ?_⟩
    (refine ⟨Nat.zero_le _, fun l hl => ?_⟩)
    have e1 : Evl.Ex H (upd H l (.lst [])) := Evl.Ex.new hl
    refine ⟨_, rfl, _, _, _, _, true, rfl, .ty "list", .base (.lst (e1 _ _ hI)), kit_ty (by decide +kernel), true, rfl, if_t rfl ?_⟩
    refine ⟨_, rfl, .inl ⟨rfl, _, SqL.of upd_same⟩, _, rfl, l, _, _, rfl, rfl, upd_same, by show 0 < sizeLine; decide, ?_⟩
    rw [upd_upd]
    have e2 : Evl.Ex H (upd H l (.lst [.ref a])) := Evl.Ex.new hl
    refine ⟨_, rfl, two, fun t ht => ⟨_, t, _, _, _, true, rfl, upd_same, .cons (.ty "list") (.cons (.ty "tuple") .nil), .base (.lst (Evl.Ex.new ht _ _ (e2 _ _ hI))), kA_lst, true, rfl, if_t rfl ?_⟩⟩
    have e3 := e2.trans (Evl.Ex.new (o := .tup [.ty "list", .ty "tuple"]) ht)
    refine ⟨_, rfl, a, rfl, ⟨_, SqL.of (e3 _ _ hI)⟩, for_list (xs := refs its) (fun i σ H' => Evl.Ex H H' ∧ ∃ q v, σ = [some (.ref a), some (.ref q), v] ∧ H q = none ∧ H' q = some (.lst (.ref a :: lrefs (its.take i))))
      ⟨e3, l, none, rfl, hl, Evl.Ex.new ht _ _ upd_same⟩ (fun i σ H' _ q => SqL.of (q.1 _ _ hI)) ?_ ?_⟩
    · rintro i x σ H' hi ⟨e4, q, v, rfl, hq, hq2⟩
      obtain ⟨j, hj, rfl⟩ := refs_get hi
      have hm := List.mem_of_getElem? hj
      have li := lrefs_len (its.take i)
      have lt : (its.take i).length ≤ 100 := by rw [List.length_take]; omega
      refine ⟨_, rfl, _, rfl, j, rfl, (hIt j hm).ex e4, hz j hm, fun z H2 hz2 e5 h5 => ⟨q, z, _, _, rfl, rfl, e5 _ _ hq2, h5, ?_, fun y hy => ?_⟩⟩
      · refine Nat.le_trans ?_ (show 200 ≤ sizeLine by decide)
        rw [List.length_cons]
        split <;> simp only [List.length_cons, List.length_nil] <;> omega
      · refine ⟨(e4.trans e5).trans (Evl.Ex.new hy), y, _, rfl, Evl.fresh_back (e4.trans e5) hy, ?_⟩
        rw [upd_same, lrefs_snoc hj]; rfl
    · rintro σ H' ⟨e4, q, v, rfl, hq, hq2⟩
      rw [refs_len, List.take_length] at hq2
      exact ⟨_, rfl, k q H' hq e4 hq2⟩
/-! copies -/
theorem ok_copied0 {f : Addr} {fd : FuncData} (F : Fun K "_law_pv_copied" "_law_pv_copied" s_l_copied f fd) (T : T4 mg) : FnOk P w K mg base CX0 1 f fd p_l_copied spC0 := by
  refine F.ok sc_l_copied (fun vs H Q E h => ?_) (fun cdv A outer s H vs Q E hr h => ?_)
  · obtain ⟨n, rfl, _⟩ := h
    rfl
  · obtain ⟨n, rfl, k⟩ := h
    refine ⟨_, pss_cons (ps_if (pt_val (pe_callB call_isi (by rfl) T.isi (by decide +kernel) (pa_cons (pv 0) (pa_cons (pe_bltn (v := .ty "list") (by rfl) T.lst (by decide +kernel) rfl) pa_nil)))) (pss_one ps_never) pss_nil)
      (pss_cons (ps_if (pt_val (pe_callB call_isi (by rfl) T.isi (by decide +kernel) (pa_cons (pv 0) (pa_cons (pe_bltn (v := .ty "tuple") (by rfl) T.tup (by decide +kernel) rfl) pa_nil)))) (pss_one ps_never) pss_nil)
      (pss_one (ps_ret (pv 0)))), ?_⟩
    refine ⟨_, rfl, _, _, _, _, false, rfl, .ty "list", .base (.int n), kit_ty (by decide +kernel), false, rfl, if_f rfl ?_⟩
    refine ⟨_, rfl, _, _, _, _, false, rfl, .ty "tuple", .base (.int n), kit_ty (by decide +kernel), false, rfl, if_f rfl ?_⟩
    exact ⟨_, rfl, k _ (Evl.Ex.refl _)⟩
theorem ok_copied1 {f : Addr} {fd : FuncData} (F : Fun K "_law_pv_copied" "_law_pv_copied" s_l_copied f fd) (T : T4 mg) (c0 : Cal P w K mg base 1 "_law_pv_copied" p_l_copied spC0) : FnOk P w K mg base CX0 2 f fd p_l_copied spC1 := by
  refine F.ok sc_l_copied (fun vs H Q E h => ?_) (fun cdv A outer s H vs Q E hr h => ?_)
  · obtain ⟨i, rfl, _⟩ := h
    rfl
  · obtain ⟨⟨b, a, ns⟩, rfl, hI, hz, k⟩ := h
    have hz : ns.length ≤ 100 := hz
    have nd := sc_l_copied.nd
    cases b with
    | true =>
      have hI : H a = some (.lst (iV ns)) := hI
      refine ⟨_, pss_cons (ps_if (pt_val (pe_callB call_isi (by rfl) T.isi (by decide +kernel) (pa_cons (pv 0) (pa_cons (pe_bltn (v := .ty "list") (by rfl) T.lst (by decide +kernel) rfl) pa_nil))))
          (pss_one (ps_ret (pe_lc (own := [("part", 1)]) (g := gName 1) (tt := tYes) (te := tCall spC0 [] E0 (tCons (tVar 1) tNil)) rfl nd (pi_list (pv 0)) (blkOk_by (N := n_l_copied) (sc := defScope s_l_copied) (by decide +kernel)) (fun _ _ _ _ _ => pg_name (i := 1) nd rfl (Or.inl rfl)) (fun _ _ _ _ _ => pts_nil)
            (fun _ _ _ _ _ => pe_c c0 hr (pa_cons (pv 1) pa_nil))))) pss_nil)
        (pss_cons ps_never (pss_one ps_never)), ?_⟩
      refine ⟨_, rfl, _, _, _, _, true, rfl, .ty "list", .base (.lst hI), kit_ty (by decide +kernel), true, rfl, if_t rfl ?_⟩
      refine ⟨_, rfl, a, rfl, ⟨_, SqL.of hI⟩, fun D hD => lc_list (xs := iV ns) (fun i H' => Evl.Ex H H' ∧ H' D = some (.lst (iV (ns.take i)))) ⟨Evl.Ex.new hD, upd_same⟩ (fun i H' _ q => SqL.of (q.1 _ _ hI)) ?_ ?_⟩
      · rintro i x H' hi ⟨e1, h1⟩
        obtain ⟨n, hn, rfl⟩ := iV_get hi
        have hl : i < ns.length := (List.getElem?_eq_some_iff.mp hn).1
        refine ⟨rfl, ?_⟩
        show tCall spC0 [] E0 (tCons (tVar 1) tNil) _ _ _
        refine ⟨_, rfl, n, rfl, fun H2 e2 => ⟨_, e2 _ _ h1, ?_, ?_, ?_⟩⟩
        · rw [iV_len, List.length_take]; exact Nat.lt_of_lt_of_le (show min i ns.length < 200 by omega) (by decide)
        · exact Evl.Ex.mut (e1.trans e2) hD
        · rw [upd_same, take_snoc hn]
          unfold iV
          rw [List.map_append]
          rfl
      · rintro H' ⟨e1, h1⟩
        rw [iV_len, List.take_length] at h1
        exact k D H' hD e1 h1
    | false =>
      have hI : H a = some (.tup (iV ns)) := hI
      refine ⟨_, pss_cons (ps_if (pt_val (pe_callB call_isi (by rfl) T.isi (by decide +kernel) (pa_cons (pv 0) (pa_cons (pe_bltn (v := .ty "list") (by rfl) T.lst (by decide +kernel) rfl) pa_nil)))) (pss_one ps_never) pss_nil)
        (pss_cons (ps_if (pt_val (pe_callB call_isi (by rfl) T.isi (by decide +kernel) (pa_cons (pv 0) (pa_cons (pe_bltn (v := .ty "tuple") (by rfl) T.tup (by decide +kernel) rfl) pa_nil))))
          (pss_one (ps_ret (pe_callTy call_tuple_of (by rfl) T.tup (by decide +kernel) (pa_cons (pe_lc (own := [("part", 1)]) (g := gName 1) (tt := tYes) (te := tCall spC0 [] E0 (tCons (tVar 1) tNil)) rfl nd (pi_tup (pv 0)) (blkOk_by (N := n_l_copied) (sc := defScope s_l_copied) (by decide +kernel)) (fun _ _ _ _ _ => pg_name (i := 1) nd rfl (Or.inl rfl)) (fun _ _ _ _ _ => pts_nil)
            (fun _ _ _ _ _ => pe_c c0 hr (pa_cons (pv 1) pa_nil))) pa_nil)))) pss_nil)
        (pss_one ps_never)), ?_⟩
      refine ⟨_, rfl, _, _, _, _, false, rfl, .ty "list", .base (.tup hI), kit_ty (by decide +kernel), false, rfl, if_f rfl ?_⟩
      refine ⟨_, rfl, _, _, _, _, true, rfl, .ty "tuple", .base (.tup hI), kit_ty (by decide +kernel), true, rfl, if_t rfl ?_⟩
      refine ⟨_, rfl, a, rfl, ⟨_, SqT.of hI⟩, fun D hD => lc_tup (xs := iV ns) (fun i H' => Evl.Ex H H' ∧ H' D = some (.lst (iV (ns.take i)))) ⟨Evl.Ex.new hD, upd_same⟩ (fun i H' _ q => SqT.of (q.1 _ _ hI)) ?_ ?_⟩
      · rintro i x H' hi ⟨e1, h1⟩
        obtain ⟨n, hn, rfl⟩ := iV_get hi
        have hl : i < ns.length := (List.getElem?_eq_some_iff.mp hn).1
        refine ⟨rfl, ?_⟩
        show tCall spC0 [] E0 (tCons (tVar 1) tNil) _ _ _
        refine ⟨_, rfl, n, rfl, fun H2 e2 => ⟨_, e2 _ _ h1, ?_, ?_, ?_⟩⟩
        · rw [iV_len, List.length_take]; exact Nat.lt_of_lt_of_le (show min i ns.length < 200 by omega) (by decide)
        · exact Evl.Ex.mut (e1.trans e2) hD
        · rw [upd_same, take_snoc hn]
          unfold iV
          rw [List.map_append]
          rfl
      · rintro H' ⟨e1, h1⟩
        rw [iV_len, List.take_length] at h1
        refine ⟨D, _, rfl, .inl ⟨SqL.of h1, fun l hl => ?_⟩⟩
        exact k l _ (Evl.fresh_back e1 hl) (e1.trans (Evl.Ex.new hl)) upd_same
end
end V2


namespace V2
open PySem L2
open PySem.Spec PyProof.Rows
def sh (i : Itm) : Bool × List Int := (i.1, i.2.2)
theorem lsts_fst (its : List Itm) : (lsts its).map (·.1) = (its.filter (·.1)).map (·.2.1) := by
  unfold lsts
  induction its with
  | nil => rfl
  | cons i r ih =>
    obtain ⟨b, a, ns⟩ := i
    cases b with
    | true => rw [List.filterMap_cons_some (by rfl), List.filter_cons_of_pos (by rfl), List.map_cons, List.map_cons, ih]
    | false => rw [List.filterMap_cons_none (by rfl), List.filter_cons_of_neg (by simp), ih]
theorem cl_fst (a : Addr) (its : List Itm) : (CL a its).map (·.1) = a :: (its.filter (·.1)).map (·.2.1) := by
  unfold CL
  rw [List.map_cons, List.map_map, ← lsts_fst]
  rfl
theorem cl_mem {a : Addr} {its : List Itm} {x : Addr × List V} (h : x ∈ CL a its) : x.1 = a ∨ ∃ i ∈ its, i.1 = true ∧ i.2.1 = x.1 := by
  have h2 : x.1 ∈ (CL a its).map (·.1) := List.mem_map_of_mem h
  rw [cl_fst] at h2
  rcases List.mem_cons.mp h2 with e | h2
  · exact .inl e
  · obtain ⟨i, hi, e⟩ := List.mem_map.mp h2
    have := List.mem_filter.mp hi
    exact .inr ⟨i, this.1, this.2, e⟩
theorem dst_of {a : Addr} {its : List Itm} (h : (its.map (·.2.1)).Nodup) (ha : ∀ i ∈ its, i.2.1 ≠ a) : Dst a its := by
  unfold Dst
  rw [cl_fst, List.nodup_cons]
  refine ⟨fun hm => ?_, ?_⟩
  · obtain ⟨i, hi, e⟩ := List.mem_map.mp hm
    exact ha i (List.mem_filter.mp hi).1 e
  · exact List.Nodup.sublist (List.Sublist.map _ List.filter_sublist) h
theorem dp_snoc {K : PySem.W.Frag} {H : Hp} : ∀ (vs : List V) (ds : List PyData), DpAll K H vs ds → DpAll K H (vs ++ [.int 0]) (ds ++ [.int 0])
  | [], _, h => by
    cases h
    exact .cons (.int 0) .nil
  | _ :: vs, _, h => by
    cases h with
    | cons h1 h2 => exact .cons h1 (dp_snoc vs _ h2)
/-- what may be shown -/
def Shw (d : PyData) : Prop := d.showable = true ∧ d.hasDict = false ∧ d.depth ≤ 60 ∧ d.shown.length ≤ sizeLine
def spM : Sp := fun vs H Q _ => ∃ (a : Addr) (its : List Itm), vs = [.ref a] ∧ TreeAt H a its ∧ Dst a its ∧ its.length ≤ 100 ∧ (∀ i ∈ its, i.2.2.length ≤ 100) ∧ Shw (markD its) ∧
  ∀ H', Off ((CL a its).map (·.1)) H H' → Q (.str (markD its).shown) H'
def spR : Sp := fun vs H Q _ => ∃ (a d : Addr) (its jts : List Itm), vs = [.ref a, .ref d] ∧ TreeAt H a its ∧ Dst a its ∧ TreeAt H d jts ∧ its.map sh = jts.map sh ∧ d ∉ (CL a its).map (·.1) ∧ (∀ j ∈ jts, j.2.1 ∉ (CL a its).map (·.1)) ∧
  its.length ≤ 100 ∧ (∀ i ∈ its, i.2.2.length ≤ 100) ∧ Shw (treeD its) ∧ Shw (markD its) ∧ ∀ H', Off ((CL a its).map (·.1)) H H' → Q (.bl true) H'
section
variable {base : Heap} {mg : Str → Option Value} {K : PySem.W.Frag} {w : World} {P : Program}
theorem ok_copied2 {f : Addr} {fd : FuncData} (F : Fun K "_law_pv_copied" "_law_pv_copied" s_l_copied f fd) (T : T4 mg) (c1 : Cal P w K mg base 2 "_law_pv_copied" p_l_copied spC1) : FnOk P w K mg base CX0 3 f fd p_l_copied spC2 := by
  refine F.ok sc_l_copied (fun vs H Q E h => ?_) (fun cdv A outer s H vs Q E hr h => ?_)
  · obtain ⟨a, its, rfl, _⟩ := h
    rfl
  · obtain ⟨a, its, rfl, ⟨hI, hIt⟩, hl100, hz, k⟩ := h
    have nd := sc_l_copied.nd
    refine ⟨_, pss_cons (ps_if (pt_val (pe_callB call_isi (by rfl) T.isi (by decide +kernel) (pa_cons (pv 0) (pa_cons (pe_bltn (v := .ty "list") (by rfl) T.lst (by decide +kernel) rfl) pa_nil))))
        (pss_one (ps_ret (pe_lc (own := [("part", 1)]) (g := gName 1) (tt := tYes) (te := tCall spC1 [] E0 (tCons (tVar 1) tNil)) rfl nd (pi_list (pv 0)) (blkOk_by (N := n_l_copied) (sc := defScope s_l_copied) (by decide +kernel)) (fun _ _ _ _ _ => pg_name (i := 1) nd rfl (Or.inl rfl)) (fun _ _ _ _ _ => pts_nil)
          (fun _ _ _ _ _ => pe_c c1 hr (pa_cons (pv 1) pa_nil))))) pss_nil)
      (pss_cons ps_never (pss_one ps_never)), ?_⟩
    refine ⟨_, rfl, _, _, _, _, true, rfl, .ty "list", .base (.lst hI), kit_ty (by decide +kernel), true, rfl, if_t rfl ?_⟩
    refine ⟨_, rfl, a, rfl, ⟨_, SqL.of hI⟩, fun D hD => lc_list (xs := refs its) (fun i H' => Evl.Ex H H' ∧ ∃ jts : List Itm, H' D = some (.lst (refs jts)) ∧ jts.map sh = (its.take i).map sh ∧ (∀ j ∈ jts, ItAt H' j ∧ H j.2.1 = none ∧ j.2.1 ≠ D) ∧ (jts.map (·.2.1)).Nodup)
      ⟨Evl.Ex.new hD, [], upd_same, by simp, (by intro j hj; cases hj), List.nodup_nil⟩ (fun i H' _ q => SqL.of (q.1 _ _ hI)) ?_ ?_⟩
    · rintro i x H' hi ⟨e1, jts, h1, h2, h3, h4⟩
      obtain ⟨j, hj, rfl⟩ := refs_get hi
      have hm := List.mem_of_getElem? hj
      have hl : i < its.length := (List.getElem?_eq_some_iff.mp hj).1
      refine ⟨rfl, ?_⟩
      show tCall spC1 [] E0 (tCons (tVar 1) tNil) _ _ _
      refine ⟨_, rfl, j, rfl, (hIt j hm).ex e1, hz j hm, fun p H2 hp e2 hp2 => ⟨_, e2 _ _ h1, ?_, Evl.Ex.mut (e1.trans e2) hD, jts ++ [(j.1, p, j.2.2)], ?_, ?_, ?_, ?_⟩⟩
      · have ej : jts.length = min i its.length := by
          have := congrArg List.length h2
          rw [List.length_map, List.length_map, List.length_take] at this
          exact this
        rw [refs_len, ej]
        exact Nat.lt_of_lt_of_le (show min i its.length < 200 by omega) (by decide)
      · rw [upd_same]; unfold refs; rw [List.map_append]; rfl
      · rw [List.map_append, h2, List.take_add_one, hj]; simp [sh]
      · intro y hy
        rcases (List.mem_append.mp hy) with hy | hy
        · obtain ⟨q1, q2, q3⟩ := h3 y hy
          refine ⟨?_, q2, q3⟩
          unfold ItAt
          rw [upd_ne q3]
          exact e2 _ _ q1
        · obtain rfl := List.mem_singleton.mp hy
          have np : p ≠ D := (ne_of_none h1 hp).symm
          refine ⟨?_, Evl.fresh_back e1 hp, np⟩
          unfold ItAt
          rw [upd_ne np]
          exact hp2
      · (rw [List.map_append, List.nodup_append])
        refine ⟨h4, by simp, ?_⟩
        intro x hx y hy e
        obtain ⟨z, hz1, rfl⟩ := List.mem_map.mp hx
        obtain rfl : y = p := by simpa using hy
        exact ne_of_none (h3 z hz1).1 hp e
    · rintro H' ⟨e1, jts, h1, h2, h3, h4⟩
      rw [refs_len, List.take_length] at h2
      refine k D jts H' hD e1 ⟨h1, fun i hi => (h3 i hi).1⟩ (dst_of h4 fun i hi => (h3 i hi).2.2) (fun x hx => ?_) h2
      rcases cl_mem hx with e | ⟨i, hi, _, e⟩
      · rw [e]; exact hD
      · rw [← e]; exact (h3 i hi).2.1
theorem ok_marked {f : Addr} {fd : FuncData} (F : Fun K "_law_pv_marked" "_law_pv_marked" s_l_marked f fd) (T : T4 mg) (cL : Cal P w K mg base 3 "_law_pv_lists" p_l_lists spL2) : FnG P w K mg base 4 f fd p_l_marked spM := by
  refine Fun.okG F sc_l_marked (fun vs H Q E h => ?_) (fun cdv A outer s H vs Q E hg hr h => ?_)
  · obtain ⟨a, its, rfl, _⟩ := h
    rfl
  · obtain ⟨a, its, rfl, hT, hD, hl100, hz, ⟨w1, w2, w3, w4⟩, k⟩ := h
    have nd := sc_l_marked.nd
    refine ⟨_, pss_cons (ps_set (i := 1) nd rfl (Or.inl rfl) (pe_c cL hr (pa_cons (pv 0) pa_nil)))
      (pss_cons (ps_for PassesOwn.never rfl (pi_range1 (by rfl) T.rng (pa_cons (pe_callB call_len_seq (by rfl) T.len PySem.boot_len (pa_cons (pv 1) pa_nil)) pa_nil)) (pg_name (i := 2) nd rfl (Or.inl rfl))
        (pss_one (ps_expr (pe_bm PySem.F.plainAttrs_list PySem.F.slot_list_append PySem.F.type_list_append mt_append (pe_ix ix_list (pv 1) (pv 2) (fun _ _ => rfl)) (pa_cons (pv 2) pa_nil)))))
      (pss_one (ps_ret (pe_callB (call_show hg hr.units) (by rfl) T.rep (by decide +kernel) (pa_cons (pv 0) pa_nil))))), ?_⟩
    refine ⟨_, rfl, a, its, rfl, hT, hl100, hz, fun q H1 hq e1 h1 => ?_⟩
    have hT1 := hT.ex e1
    have cln : (CL a its).length ≤ 101 := by
      unfold CL
      rw [List.length_cons, List.length_map]
      have := lrefs_len its
      unfold lrefs at this
      rw [List.length_map] at this
      omega
    have qn : ∀ x ∈ CL a its, x.1 ≠ q := by
      intro x hx e
      rcases cl_mem hx with e2 | ⟨i, hi, _, e2⟩
      · rw [← e, e2, hT.1] at hq; cases hq
      · rw [← e, ← e2, hT.2 i hi] at hq; cases hq
    have c0 : ∀ x ∈ CL a its, H1 x.1 = some (.lst x.2) := by
      intro x hx
      rcases (List.mem_cons.mp hx) with rfl | hx
      · exact hT1.1
      · obtain ⟨p, hp, rfl⟩ := List.mem_map.mp hx
        exact hT1.2 _ (lsts_mem hp)
    refine ⟨_, rfl, q, _, rfl, .inl (SqL.of h1), _, rfl, by omega, ?_, ?_⟩
    · rw [List.length_map]; omega
    rw [Int.toNat_natCast, List.length_map]
    refine for_range (n := (CL a its).length) (fun k σ H' => (∃ v, σ = [some (.ref a), some (.ref q), v]) ∧ Off ((CL a its).map (·.1)) H1 H' ∧ H' q = some (.lst ((CL a its).map fun p => .ref p.1)) ∧
      ∀ j x, (CL a its)[j]? = some x → H' x.1 = some (.lst (x.2 ++ if j < k then [.int (j : Int)] else []))) ⟨⟨_, rfl⟩, fun _ _ _ h => h, h1, fun j x hj => ?_⟩ ?_ ?_
    · rw [if_neg (Nat.not_lt_zero _), List.append_nil]
      exact c0 x (List.mem_of_getElem? hj)
    · rintro i σ H' hi ⟨⟨v, rfl⟩, g1, g2, g3⟩
      have hx := List.getElem?_eq_getElem hi
      have hx3 := g3 i _ hx
      rw [if_neg (Nat.lt_irrefl _), List.append_nil] at hx3
      have nq := qn _ (List.getElem_mem hi)
      have e0 : (0 : Int) + (i : Int) = (i : Int) := (Int.zero_add _)
      refine ⟨_, rfl, _, rfl, q, _, _, .ref (CL a its)[i].1, rfl, rfl, SqL.of g2, ?_, .inl ⟨rfl, _, SqL.of hx3⟩, _, rfl, _, _, _, rfl, rfl, hx3, ?_, ?_⟩
      · show atI _ ((0 : Int) + (i : Int)) = _
        rw [e0]
        refine atI_nat ?_
        rw [List.getElem?_map, hx]; rfl
      · have : (CL a its)[i].2.length ≤ 100 := by
          have hm := List.getElem_mem hi
          rcases (List.mem_cons.mp hm) with e | hm
          · rw [e]; show (refs its).length ≤ 100; rw [refs_len]; exact hl100
          · obtain ⟨p, hp, e⟩ := List.mem_map.mp hm
            rw [← e]
            show (iV p.2).length ≤ 100
            rw [iV_len]
            exact hz _ (lsts_mem hp)
        exact Nat.lt_of_le_of_lt this (by decide)
      · refine ⟨⟨_, rfl⟩, fun b o hb h => ?_, ?_, fun j x hj => ?_⟩
        · rw [upd_ne (fun e => hb (by rw [e]; exact List.mem_map_of_mem (List.getElem_mem hi)))]
          exact g1 b o hb h
        · rw [upd_ne nq.symm]; exact g2
        · by_cases e : j = i
          · subst e
            rw [hx] at hj
            cases hj
            rw [upd_same, if_pos (Nat.lt_succ_self _)]
            show some (HO.lst ((CL a its)[j].2 ++ [.int ((0 : Int) + (j : Int))])) = _
            rw [e0]
          · have nx : x.1 ≠ (CL a its)[i].1 := by
              intro e2
              have hj2 : j < (CL a its).length := (List.getElem?_eq_some_iff.mp hj).1
              have ej : (CL a its)[j] = x := (List.getElem?_eq_some_iff.mp hj).2
              have hD2 : ((CL a its).map (·.1)).Nodup := hD
              have := (List.pairwise_iff_getElem.mp hD2)
              rcases Nat.lt_or_gt_of_ne e with c | c
              · exact this j i (by rw [List.length_map]; exact hj2) (by rw [List.length_map]; exact hi) c (by rw [List.getElem_map, List.getElem_map, ej, e2])
              · exact this i j (by rw [List.length_map]; exact hi) (by rw [List.length_map]; exact hj2) c (by rw [List.getElem_map, List.getElem_map, ej, e2])
            rw [upd_ne nx, g3 j x hj]
            by_cases c : j < i
            · rw [if_pos c, if_pos (by omega)]
            · rw [if_neg c, if_neg (by omega)]
    · rintro σ H' ⟨⟨v, rfl⟩, g1, g2, g3⟩
      refine ⟨_, rfl, a, markD its, rfl, ?_, w1, w2, w3, w4, k H' fun b o hb h => g1 b o hb (e1 b o h)⟩
      have ha := g3 0 (a, refs its) rfl
      rw [if_pos (by unfold CL; exact Nat.succ_pos _)] at ha
      refine .lst (SqL.of ha) ?_
      refine dp_snoc _ _ (dp_go its 1 (fun j b ns hj => ?_) fun i hi hf => ?_)
      · have hj2 : (CL a its)[j + 1]? = some (b, iV ns) := by
          unfold CL
          rw [List.getElem?_cons_succ, List.getElem?_map, hj]; rfl
        have := g3 (j + 1) _ hj2
        rw [if_pos (List.getElem?_eq_some_iff.mp hj2).1] at this
        rw [this]
        unfold iV
        rw [List.map_append, show ((1 + j : Nat) : Int) = ((j + 1 : Nat) : Int) by omega]
        rfl
      · have h2 := hT1.2 i hi
        unfold ItAt at h2
        rw [if_neg (by rw [hf]; decide)] at h2
        refine g1 _ _ (fun hm => ?_) h2
        obtain ⟨x, hx, e⟩ := List.mem_map.mp hm
        have := c0 x hx
        rw [e, h2] at this
        cases this
theorem ok_right {f : Addr} {fd : FuncData} (F : Fun K "_law_pv_right" "_law_pv_right" s_l_right f fd) (T : T4 mg) (cC : Cal P w K mg base 3 "_law_pv_copied" p_l_copied spC2) (cM : CalG P w K mg base 4 "_law_pv_marked" p_l_marked spM) : FnG P w K mg base 5 f fd p_l_right spR := by
  refine Fun.okG F sc_l_right (fun vs H Q E h => ?_) (fun cdv A outer s H vs Q E hg hr h => ?_)
  · obtain ⟨a, d, its, jts, rfl, _⟩ := h
    rfl
  · obtain ⟨a, d, its, jts, rfl, hT, hD, hU, hsh, hd, hds, hl100, hz, wT, wM, k⟩ := h
    have hm3 : Room 3 _ := hr.mono (by decide)
    refine ⟨_, pss_cons (ps_if (pt_cmpR op_ne (pe_callB (call_show hg hr.units) (by rfl) T.rep (by decide +kernel) (pa_cons (pv 0) pa_nil)) (pe_callB (call_show hg hr.units) (by rfl) T.rep (by decide +kernel) (pa_cons (pv 1) pa_nil)) (nomark _)) (pss_one (ps_ret pe_bl)) pss_nil)
      (pss_one (ps_ret (pe_cmpR op_eq (pe_cg cM hg hr (pa_cons (pv 0) pa_nil)) (pe_cg cM hg hr (pa_cons (pe_c cC hm3 (pa_cons (pv 1) pa_nil)) pa_nil)) (nomark _)))), ?_⟩
    have eT := tree_shape hsh
    have eM := mark_shape hsh
    obtain ⟨t1, t2, t3, t4⟩ := wT
    refine ⟨_, rfl, a, treeD its, rfl, dp_tree hT, t1, t2, t3, t4, _, rfl, d, treeD jts, rfl, dp_tree hU, by rw [← eT]; exact t1, by rw [← eT]; exact t2, by rw [← eT]; exact t3, by rw [← eT]; exact t4, rfl, _, rfl, ?_⟩
    rw [← eT]
    refine if_f (by simp) ?_
    refine ⟨_, rfl, a, its, rfl, hT, hD, hl100, hz, wM, fun H1 o1 => ?_⟩
    have hU1 : TreeAt H1 d jts := ⟨o1 _ _ hd hU.1, fun j hj => o1 _ _ (hds j hj) (hU.2 j hj)⟩
    have lj : jts.length = its.length := by
      have := congrArg List.length hsh
      rw [List.length_map, List.length_map] at this
      exact this.symm
    have zj : ∀ j ∈ jts, j.2.2.length ≤ 100 := by
      intro j hj
      have : sh j ∈ its.map sh := by rw [hsh]; exact List.mem_map_of_mem hj
      obtain ⟨i, hi, e⟩ := List.mem_map.mp this
      have e2 : i.2.2 = j.2.2 := congrArg (·.2) e
      rw [← e2]
      exact hz i hi
    refine ⟨_, rfl, d, jts, rfl, hU1, by omega, zj, fun p kts H2 hp e2 hT2 hD2 hn2 hs2 => ?_⟩
    have es : kts.map sh = its.map sh := Eq.trans hs2 hsh.symm
    have eK := mark_shape es
    have lk : kts.length = its.length := by
      have := congrArg List.length es
      rw [List.length_map, List.length_map] at this
      exact this
    have zk : ∀ j ∈ kts, j.2.2.length ≤ 100 := by
      intro j hj
      have : sh j ∈ its.map sh := by rw [← es]; exact List.mem_map_of_mem hj
      obtain ⟨i, hi, e⟩ := List.mem_map.mp this
      have e2 : i.2.2 = j.2.2 := congrArg (·.2) e
      rw [← e2]
      exact hz i hi
    refine ⟨p, kts, rfl, hT2, hD2, by omega, zk, by rw [eK]; exact wM, fun H3 o3 => ⟨rfl, ?_⟩⟩
    rw [eK]
    show Q (.bl (decide (V.str (markD its).shown = V.str (markD its).shown))) H3
    rw [decide_eq_true rfl]
    refine k H3 fun b o hb h => o3 b o (fun hm => ?_) (e2 b o (o1 b o hb h))
    obtain ⟨x, hx, e⟩ := List.mem_map.mp hm
    have h5 := o1 b o hb h
    rw [← e, hn2 x hx] at h5
    cases h5
end
end V2


namespace V2
open PySem L2
open PySem.Spec PyProof.Rows
theorem ex_but {p : Addr} {H H1 H2 : Hp} (e : Evl.Ex H H1) (b : But p H1 H2) : But p H H2 := (But.of_ex e).trans b
theorem but_back {p q : Addr} {H H' : Hp} (b : But p H H') (h : H' q = none) (hp : ∃ o, H' p = some o) : H q = none := by
  cases e : H q with
  | none => rfl
  | some o =>
    have n : q ≠ p := by
      intro z
      obtain ⟨o', h2⟩ := hp
      rw [← z, h] at h2
      cases h2
    rw [b q o n e] at h
    cases h
theorem sk_some {H : Hp} {p : Addr} {m : Nat} (h : Sk H p m) : ∃ o, H p = some o := by
  obtain ⟨a, b, c, h1, _⟩ := h
  exact ⟨_, h1⟩
theorem sk_ne {H : Hp} {p q : Addr} {m : Nat} (h : Sk H p m) (hq : H q = none) : q ≠ p := by
  intro z
  obtain ⟨o, h2⟩ := sk_some h
  rw [← z, hq] at h2
  cases h2
/-- small polynomials as the law draws them -/
def Sp6 (ns : List Int) : Prop := Pol ns ∧ ns.length ≤ 8 ∧ ∀ x ∈ ns, -1000000 ≤ x ∧ x ≤ 1000000
theorem Sp6.pn {ns : List Int} (h : Sp6 ns) : Pn ns := by
  refine ⟨h.1, by have := h.2.1; omega, fun x hx => ?_⟩
  have e : (2 : Int) ^ 64 = 18446744073709551616 := by decide
  have := h.2.2 x hx
  rw [e]
  omega
def spPoly : Sp := fun vs H Q _ => ∃ (p : Addr) (m : Nat), vs = [.ref p, .int 8] ∧ Sk H p m ∧ m ≤ 90000 ∧
  ∀ (q : Addr) (ns : List Int) (H' : Hp), But p H H' → Sk H' p (m + 20) → H q = none → Li H' q ns → Sp6 ns → Q (.ref q) H'
def spAny : Sp := fun vs H Q _ => ∃ (p : Addr) (m : Nat), vs = [.ref p] ∧ Sk H p m ∧ m ≤ 90000 ∧
  ∀ (q : Addr) (u d : Int) (H' : Hp), But p H H' → Sk H' p (m + 4) → H q = none → Fr H' q u d → Qn u d → Q (.ref q) H'
theorem at4 {a b c d r : Int} (h0 : 0 ≤ r) (h1 : r < 4) : ∃ v, atI [V.int a, .int b, .int c, .int d] r = some (.int v) ∧ (v = a ∨ v = b ∨ v = c ∨ v = d) := by
  have : r = 0 ∨ r = 1 ∨ r = 2 ∨ r = 3 := by omega
  rcases this with rfl | rfl | rfl | rfl
  · exact ⟨a, rfl, .inl rfl⟩
  · exact ⟨b, rfl, .inr (.inl rfl)⟩
  · exact ⟨c, rfl, .inr (.inr (.inl rfl))⟩
  · exact ⟨d, rfl, .inr (.inr (.inr rfl))⟩
theorem at3_ {a b c r : Int} (h0 : 0 ≤ r) (h1 : r < 3) : ∃ v, atI [V.int a, .int b, .int c] r = some (.int v) ∧ (v = a ∨ v = b ∨ v = c) := by
  have : r = 0 ∨ r = 1 ∨ r = 2 := by omega
  rcases this with rfl | rfl | rfl
  · exact ⟨a, rfl, .inl rfl⟩
  · exact ⟨b, rfl, .inr (.inl rfl)⟩
  · exact ⟨c, rfl, .inr (.inr rfl)⟩
theorem shaped_ints (ns : List Int) : SeqAt.shaped (.list (ns.map .int)) = true := by
  have h1 : ∀ l : List Int, PyData.canLayAll0 (l.map .int) = true := by
    intro l
    induction l with
    | nil => rfl
    | cons n r ih => simp [PyData.canLayAll0, PyData.canLay0, ih]
  have h2 : ∀ l : List Int, PyData.depthAll (l.map .int) ≤ 1 := by
    intro l
    induction l with
    | nil => simp [PyData.depthAll]
    | cons n r ih => simp [PyData.depthAll, PyData.depth]; omega
  unfold SeqAt.shaped
  have h3 := h2 ns
  simp [PyData.canLay0, PyData.depth, h1 ns]
  omega
section
variable {base : Heap} {mg : Str → Option Value} {K : PySem.W.Frag} {w : World} {P : Program}
theorem ok_poly {f : Addr} {fd : FuncData} (F : Fun K "_law_pv_poly" "_law_pv_poly" s_l_poly f fd) (mR : mg "range" = none) (cC : Cal P w K mg base 1 "_law_pv_coin" p_l_coin spCoin) : FnOk P w K mg base CX0 2 f fd p_l_poly spPoly := by
  refine F.ok sc_l_poly (fun vs H Q E h => ?_) (fun cdv A outer s H vs Q E hr h => ?_)
  · obtain ⟨p, m, rfl, _⟩ := h
    rfl
  · obtain ⟨p, m, rfl, hS, hm, k⟩ := h
    have nd := sc_l_poly.nd
    have w6 : CPowX 10 6 := pow_ok (k := 4) (n := 6) (by decide) (by decide)
    refine ⟨_, pss_cons (ps_set (i := 2) nd rfl (Or.inr rfl) (pe_ix ix_list (pe_lst (pa_cons pe_int (pa_cons pe_int (pa_cons pe_int (pa_cons (pe_op op_powX pe_int pe_int) pa_nil))))) (pe_c cC hr (pa_cons (pv 0) (pa_cons pe_int pa_nil))) (fun _ _ => rfl)))
      (pss_cons (ps_setLc (i := 3) (own := [("turn", 4)]) (g := gName 4) (tt := tYes) (te := tOp (rI0 fun i j => .int (i - j)) (tCall spCoin [] E0 (tCons (tVar 0) (tCons (tOp (rI0 fun i j => .int (i + j)) (tOp (rI CMul fun i j => .int (i * j)) (tC (.int 2)) (tVar 2)) (tC (.int 1))) tNil))) (tVar 2)) rfl nd rfl rfl (sw_true rfl rfl rfl (by decide +kernel))
          (pi_range1 (by rfl) mR (pa_cons (pe_c cC hr (pa_cons (pv 0) (pa_cons (pe_op op_add (pv 1) pe_int) pa_nil))) pa_nil)) (blkOk_by (N := n_l_poly) (sc := defScope s_l_poly) (by decide +kernel)) (fun _ _ _ _ _ => pg_name (i := 4) nd rfl (Or.inl rfl)) (fun _ _ _ _ _ => pts_nil)
          (fun _ _ _ _ _ => pe_op op_sub (pe_c cC hr (pa_cons (pv 0) (pa_cons (pe_op op_add (pe_op op_mul pe_int (pv 2)) pe_int) pa_nil))) (pv 2)))
      (pss_cons (ps_if (PW.pt (pw_and (pt_cmpR (op_neD hr.units) (pv 3) (pe_lst pa_nil) (nomark _)) (pw_and1 (pt_cmpR op_eq (pe_ix ix_list (pv 3) (pe_un un_neg pe_int) (fun _ _ => rfl)) pe_int (nomark _)))))
        (pss_one (ps_asg (pe_op op_sub pe_int (pe_op op_mul pe_int (pe_c cC hr (pa_cons (pv 0) (pa_cons pe_int pa_nil))))) (pg_sub (pv 3) (pe_un un_neg pe_int) set_list))) pss_nil)
      (pss_one (ps_ret (pv 3))))), ?_⟩
    -- top
    refine ⟨10, 6, rfl, rfl, w6, by show 4 ≤ sizeLine; decide, fun l hl => ?_⟩
    have e1 : Evl.Ex H (upd H l (.lst [.int 1, .int 3, .int 12, .int (10 ^ (6 : Int).toNat)])) := Evl.Ex.new hl
    refine ⟨_, rfl, p, 4, m, rfl, hS.ex e1, by omega, by decide, by decide, fun r H1 r0 r1 b1 s1 z1 => ?_⟩
    have nlp := sk_ne hS hl
    obtain ⟨top, ht, ht2⟩ := at4 (a := 1) (b := 3) (c := 12) (d := 10 ^ (6 : Int).toNat) r0 r1
    have e6 : (10 : Int) ^ (6 : Int).toNat = 1000000 := by decide
    have t1 : 1 ≤ top ∧ top ≤ 1000000 := by rcases ht2 with e | e | e | e <;> rw [e] <;> first | omega | (rw [e6]; omega)
    refine ⟨l, _, _, _, rfl, rfl, SqL.of (b1 l _ nlp upd_same), ht, ?_⟩
    have b01 := ex_but e1 b1
    -- the list
    refine ⟨_, rfl, _, rfl, 8, 1, rfl, rfl, p, 9, m + 1, rfl, s1, by omega, by decide, by decide, fun c H2 c0 c1 b2 s2 z2 => ?_⟩
    have b02 := b01.trans b2
    refine ⟨c, rfl, by omega, by omega, fun D hD => lc_range (n := c.toNat) (fun i H' => But p H H' ∧ Sk H' p (m + 2 + i) ∧ ∃ ns : List Int, H' D = some (.lst (iV ns)) ∧ ns.length = i ∧ ∀ x ∈ ns, -top ≤ x ∧ x ≤ top)
      ⟨b02.trans (But.of_ex (Evl.Ex.new hD)), s2.ex (Evl.Ex.new hD), [], upd_same, rfl, (by intro x hx; cases hx)⟩ ?_ ?_⟩
    · rintro i H' hi ⟨b3, s3, ns, h3, h4, h5⟩
      have nDp := sk_ne s2 hD
      refine ⟨rfl, ?_⟩
      show tOp (rI0 fun i j => .int (i - j)) (tCall spCoin [] E0 (tCons (tVar 0) (tCons (tOp (rI0 fun i j => .int (i + j)) (tOp (rI CMul fun i j => .int (i * j)) (tC (.int 2)) (tVar 2)) (tC (.int 1))) tNil))) (tVar 2) _ _ _
      refine ⟨_, rfl, _, rfl, 2, top, rfl, rfl, .inl ⟨by decide, by decide⟩, _, 1, rfl, rfl, p, 2 * top + 1, m + 2 + i, rfl, s3, by omega, by omega, ?_, fun y H3 y0 y1 b4 s4 z4 => ?_⟩
      · have : (2 * top + 1).natAbs < 2 ^ 30 := by
          have e : (2 : Nat) ^ 30 = 1073741824 := by decide
          rw [e]; omega
        exact big this (by decide)
      refine ⟨_, rfl, _, _, rfl, rfl, _, b4 D _ nDp h3, ?_, ?_, ?_, ns ++ [y - top], ?_, ?_, ?_⟩
      · rw [iV_len, h4]; exact Nat.lt_of_lt_of_le (show i < 100 by omega) (by decide)
      · have hDn : H D = none := by
          have h1D := but_back b2 hD (sk_some s2)
          exact Evl.fresh_back e1 (but_back b1 h1D (sk_some s1))
        intro b o hb h
        rw [upd_ne (ne_of_none h hDn)]
        exact (b3.trans b4) b o hb h
      · obtain ⟨a', b', c', q1, q2⟩ := s4
        exact ⟨a', b', c', by rw [upd_ne nDp.symm]; exact q1, q2.1, q2.2.1, q2.2.2.1, q2.2.2.2.1, by have := q2.2.2.2.2; omega⟩
      · rw [upd_same]; unfold iV; rw [List.map_append]; rfl
      · rw [List.length_append, h4]; rfl
      · intro x hx
        rcases (List.mem_append.mp hx) with hx | hx
        · exact h5 x hx
        · obtain rfl := List.mem_singleton.mp hx
          omega
    · rintro H' ⟨b3, s3, ns, h3, h4, h5⟩
      have cl : c.toNat ≤ 8 := by omega
      have hDn : H D = none := by
        have h1D := but_back b2 hD (sk_some s2)
        exact Evl.fresh_back e1 (but_back b1 h1D (sk_some s1))
      have nDp := sk_ne s2 hD
      have bnd : ∀ x ∈ ns, -1000000 ≤ x ∧ x ≤ 1000000 := fun x hx => by have := h5 x hx; omega
      -- if found != [] and found[-1] == 0
      refine ⟨_, rfl, Nat.zero_le _, fun g hg => ?_⟩
      have e5 : Evl.Ex H' (upd H' g (.lst [])) := Evl.Ex.new hg
      refine ⟨.list (ns.map .int), .list [], .lst (SqL.of (e5 _ _ h3)) (dpI ns), .lst (SqL.of upd_same) .nil, shaped_ints ns, rfl, _, rfl, ?_⟩
      have b5 := b3.trans (But.of_ex e5)
      have s5 := s3.ex e5
      have h35 := e5 _ _ h3
      by_cases hn : ns = []
      · subst hn
        refine if_f (by simp [PyData.eqv, PyData.eqvAll]) ?_
        exact ⟨_, rfl, k D [] _ b5 (s5.le (by omega)) hDn h35 ⟨(fun x hx => by cases hx), by simp, (by intro x hx; cases hx)⟩⟩
      · refine if_t (by cases ns with | nil => exact absurd rfl hn | cons n r => simp [PyData.eqv, PyData.eqvAll]) ?_
        obtain ⟨x, hx, hx2⟩ := atI_end hn
        refine ⟨_, rfl, _, rfl, D, _, _, _, rfl, rfl, SqL.of h35, hx2, rfl, _, rfl, ?_⟩
        have ln : 0 < ns.length := List.length_pos_iff.mpr hn
        by_cases x0 : x = 0
        · refine if_t (decide_eq_true (by rw [x0])) ?_
          refine ⟨_, rfl, p, 2, m + 2 + c.toNat, rfl, s5, by omega, by decide, by decide, fun y H6 y0 y1 b6 s6 z6 => ?_⟩
          refine ⟨2, y, rfl, rfl, .inl ⟨by decide, by decide⟩, 1, _, rfl, rfl, _, rfl, _, rfl, D, iV ns, -1, ns.length - 1, rfl, rfl, b6 D _ nDp h35, ?_, ?_⟩
          · rw [iV_len]
            unfold ixN
            rw [if_neg (by decide), if_pos (by omega)]
            congr 1
            omega
          · refine ⟨_, rfl, k D (ns.set (ns.length - 1) (1 - 2 * y)) _ ?_ ?_ hDn ?_ ⟨?_, ?_, ?_⟩⟩
            · intro b o hb h
              rw [upd_ne (ne_of_none h hDn)]
              exact (b5.trans b6) b o hb h
            · obtain ⟨a', b', c', q1, q2⟩ := s6
              exact ⟨a', b', c', by rw [upd_ne nDp.symm]; exact q1, q2.1, q2.2.1, q2.2.2.1, q2.2.2.2.1, by have := q2.2.2.2.2; omega⟩
            · unfold Li
              rw [upd_same, ← iV_set]
            · intro z hz
              rw [List.length_set, List.getElem?_set_self (by omega)] at hz
              cases hz
              omega
            · rw [List.length_set]; omega
            · intro z hz
              rcases List.mem_or_eq_of_mem_set hz with hz | rfl
              · exact bnd z hz
              · omega
        · refine if_f (decide_eq_false (fun z => x0 (by injection z))) ?_
          exact ⟨_, rfl, k D ns _ b5 (s5.le (by omega)) hDn h35 ⟨fun z hz => by rw [hx] at hz; cases hz; exact x0, by omega, bnd⟩⟩
theorem ok_any {f : Addr} {fd : FuncData} (F : Fun K "_law_pv_any_ratio" "_law_pv_any_ratio" s_l_any_ratio f fd) (cC : Cal P w K mg base 1 "_law_pv_coin" p_l_coin spCoin) (cR : Cal P w K mg base 2 "_law_pv_ratio" p_l_ratio spRatio) : FnOk P w K mg base CX0 3 f fd p_l_any_ratio spAny := by
  refine F.ok sc_l_any_ratio (fun vs H Q E h => ?_) (fun cdv A outer s H vs Q E hr h => ?_)
  · obtain ⟨p, m, rfl, _⟩ := h
    rfl
  · obtain ⟨p, m, rfl, hS, hm, k⟩ := h
    have nd := sc_l_any_ratio.nd
    have hr1 : Room 1 _ := (hr.mono (by decide))
    have w15 : CPowX 10 15 := pow_ok (k := 4) (n := 15) (by decide) (by decide)
    have e15 : (10 : Int) ^ (15 : Int).toNat = 1000000000000000 := by decide
    have n51 : (2 : Nat) ^ 51 = 2251799813685248 := by decide
    have n50 : (2 : Nat) ^ 50 = 1125899906842624 := by decide
    refine ⟨_, pss_cons (ps_set (i := 1) nd rfl (Or.inl rfl) (pe_ix ix_list (pe_lst (pa_cons pe_int (pa_cons pe_int (pa_cons (pe_op op_powX pe_int pe_int) pa_nil)))) (pe_c cC hr1 (pa_cons (pv 0) (pa_cons pe_int pa_nil))) (fun _ _ => rfl)))
      (pss_cons (ps_set (i := 2) nd rfl (Or.inl rfl) (pe_ix ix_list (pe_lst (pa_cons pe_int (pa_cons pe_int (pa_cons (pe_op op_powX pe_int pe_int) pa_nil)))) (pe_c cC hr1 (pa_cons (pv 0) (pa_cons pe_int pa_nil))) (fun _ _ => rfl)))
      (pss_one (ps_ret (pe_c cR hr (pa_cons (pe_op op_sub (pe_c cC hr1 (pa_cons (pv 0) (pa_cons (pe_op op_add (pe_op op_mul pe_int (pv 1)) pe_int) pa_nil))) (pv 1)) (pa_cons (pe_op op_add pe_int (pe_c cC hr1 (pa_cons (pv 0) (pa_cons (pv 2) pa_nil)))) pa_nil)))))), ?_⟩
    refine ⟨10, 15, rfl, rfl, w15, by show 3 ≤ sizeLine; decide, fun l hl => ?_⟩
    have e1 : Evl.Ex H (upd H l (.lst [.int 3, .int 30, .int (10 ^ (15 : Int).toNat)])) := Evl.Ex.new hl
    refine ⟨_, rfl, p, 3, m, rfl, hS.ex e1, by omega, by decide, by decide, fun r H1 r0 r1 b1 s1 z1 => ?_⟩
    obtain ⟨top, ht, ht2⟩ := at3_ (a := 3) (b := 30) (c := 10 ^ (15 : Int).toNat) r0 r1
    have t1 : 3 ≤ top ∧ top ≤ 1000000000000000 := by rcases ht2 with e | e | e <;> rw [e] <;> first | omega | (rw [e15]; omega)
    refine ⟨l, _, _, _, rfl, rfl, SqL.of (b1 l _ (sk_ne hS hl) upd_same), ht, ?_⟩
    have b01 := ex_but e1 b1
    refine ⟨10, 15, rfl, rfl, w15, by show 3 ≤ sizeLine; decide, fun l2 hl2 => ?_⟩
    have e2 : Evl.Ex H1 (upd H1 l2 (.lst [.int 1, .int 6, .int (10 ^ (15 : Int).toNat)])) := Evl.Ex.new hl2
    refine ⟨_, rfl, p, 3, m + 1, rfl, s1.ex e2, by omega, by decide, by decide, fun r2 H2 r20 r21 b2 s2 z2 => ?_⟩
    obtain ⟨bas, hb, hb2⟩ := at3_ (a := 1) (b := 6) (c := 10 ^ (15 : Int).toNat) r20 r21
    have t2 : 1 ≤ bas ∧ bas ≤ 1000000000000000 := by rcases hb2 with e | e | e <;> rw [e] <;> first | omega | (rw [e15]; omega)
    refine ⟨l2, _, _, _, rfl, rfl, SqL.of (b2 l2 _ (sk_ne s1 hl2) upd_same), hb, ?_⟩
    have b02 := b01.trans (ex_but e2 b2)
    refine ⟨_, rfl, _, rfl, 2, top, rfl, rfl, .inl ⟨by decide, by decide⟩, _, 1, rfl, rfl, p, 2 * top + 1, m + 1 + 1, rfl, s2, by omega, by omega, big (n := 51) (by rw [n51]; omega) (by decide), fun y H3 y0 y1 b3 s3 z3 => ?_⟩
    refine ⟨_, rfl, _, _, rfl, rfl, _, rfl, _, rfl, p, bas, _, rfl, s3, by omega, by omega, big (n := 50) (by rw [n50]; omega) (by decide), fun z H4 z0 z1' b4 s4 z4 => ?_⟩
    have b04 := (b02.trans b3).trans b4
    refine ⟨1, z, rfl, rfl, _, _, rfl, ?_, ?_, by omega, fun q H5 hq e5 h5 => ?_⟩
    · exact big (n := 50) (by rw [n50]; omega) (by decide)
    · exact big (n := 50) (by rw [n50]; omega) (by decide)
    have zp : 0 < 1 + z := by omega
    have hqn : H q = none := Evl.fresh_back e1 (but_back b1 (Evl.fresh_back e2 (but_back b2 (but_back b3 (but_back b4 hq (sk_some s4)) (sk_some s3)) (sk_some s2))) (sk_some s1))
    refine k q _ _ H5 (b04.trans (But.of_ex e5)) ((s4.ex e5).le (by omega)) hqn h5 ⟨fr_pos zp, fr_cop zp, ?_, ?_⟩
    · exact Nat.lt_of_le_of_lt (fr_abs1 zp) (by rw [n50]; omega)
    · exact Nat.lt_of_le_of_lt (fr_abs2 zp) (by rw [n50]; omega)
end
end V2


namespace V2
open PySem L2
open PySem.Spec PyProof.Rows
/-! ## what may be shown -/
theorem log2_le {n B : Nat} (h : n < 2 ^ B) (hB : 0 < B) : n.log2 < B := PySem.Flt.log2_lt_of hB h
theorem w_ints {B : Nat} (hB : 0 < B) : ∀ ns : List Int, (∀ n ∈ ns, n.natAbs < 2 ^ B) → PyData.weightAll (ns.map .int) ≤ ns.length * (B + 1)
  | [], _ => by simp [PyData.weightAll]
  | n :: r, h => by
    have ih := w_ints hB r fun x hx => h x (List.mem_cons_of_mem _ hx)
    have h1 := log2_le (h n List.mem_cons_self) hB
    have h2 : PyData.weight (.int n) ≤ B := by
      simp only [PyData.weight]
      split <;> omega
    simp only [List.map_cons, PyData.weightAll, List.length_cons, Nat.succ_mul]
    omega
theorem d_ints : ∀ ns : List Int, PyData.depthAll (ns.map .int) ≤ 1
  | [] => by (simp [PyData.depthAll])
  | n :: r => by
    have := d_ints r
    simp [PyData.depthAll, PyData.depth]
    omega
theorem s_ints : ∀ ns : List Int, (∀ n ∈ ns, n.natAbs < 2 ^ 1000) → PyData.showableAll (ns.map .int) = true ∧ PyData.hasDictAll (ns.map .int) = false ∧ PyData.leavesShortAll 1001 (ns.map .int) = true
  | [], _ => ⟨rfl, rfl, rfl⟩
  | n :: r, h => by
    obtain ⟨h1, h2, h3⟩ := s_ints r fun x hx => h x (List.mem_cons_of_mem _ hx)
    have h4 := log2_le (h n List.mem_cons_self) (by decide)
    have h5 : (PyData.shown (.int n)).length ≤ 1001 := by
      show (Str.ofString (toString n)).length ≤ 1001
      rw [PySem.ofString_length]
      exact int_text_length_le (by decide) h4
    refine ⟨?_, ?_, ?_⟩
    · simp only [List.map_cons, PyData.showableAll, PyData.showable, h1, Bool.and_true, decide_eq_true_eq]; omega
    · simp only [List.map_cons, PyData.hasDictAll, PyData.hasDict, h2, Bool.or_false]
    · simp only [List.map_cons, PyData.leavesShortAll, PyData.leavesShort, h3, Bool.and_true, decide_eq_true_eq]; exact h5
/-- a flat part -/
def FlatOk (d : PyData) : Prop := PyData.showable d = true ∧ PyData.hasDict d = false ∧ PyData.leavesShort 1001 d = true ∧ PyData.depth d ≤ 3 ∧ PyData.weight d ≤ 2002
theorem flat_list {ns : List Int} (h : ∀ n ∈ ns, n.natAbs < 2 ^ 1000) (hw : PyData.weightAll (ns.map .int) ≤ 2002) : FlatOk (.list (ns.map .int)) ∧ FlatOk (.tuple (ns.map .int)) := by
  obtain ⟨h1, h2, h3⟩ := s_ints ns h
  have h4 := d_ints ns
  constructor
  · exact ⟨by simpa [PyData.showable] using h1, by simpa [PyData.hasDict] using h2, by simpa [PyData.leavesShort] using h3, by simp [PyData.depth]; omega, by simpa [PyData.weight] using hw⟩
  · exact ⟨by simpa [PyData.showable] using h1, by simpa [PyData.hasDict] using h2, by simpa [PyData.leavesShort] using h3, by simp [PyData.depth]; omega, by simpa [PyData.weight] using hw⟩
theorem flat_all : ∀ ds : List PyData, (∀ d ∈ ds, FlatOk d) → PyData.showableAll ds = true ∧ PyData.hasDictAll ds = false ∧ PyData.leavesShortAll 1001 ds = true ∧ PyData.depthAll ds ≤ 4 ∧ PyData.weightAll ds ≤ ds.length * 2003
  | [], _ => ⟨rfl, rfl, rfl, by simp [PyData.depthAll], by simp [PyData.weightAll]⟩
  | d :: r, h => by
    obtain ⟨a1, a2, a3, a4, a5⟩ := flat_all r fun x hx => h x (List.mem_cons_of_mem _ hx)
    obtain ⟨b1, b2, b3, b4, b5⟩ := h d List.mem_cons_self
    refine ⟨by simp [PyData.showableAll, a1, b1], by simp [PyData.hasDictAll, a2, b2], by simp [PyData.leavesShortAll, a3, b3], by simp [PyData.depthAll]; omega, ?_⟩
    simp only [PyData.weightAll, List.length_cons, Nat.succ_mul]
    omega
theorem shw_of {ds : List PyData} (h : ∀ d ∈ ds, FlatOk d) (hl : ds.length ≤ 6) : Shw (.list ds) := by
  obtain ⟨a1, a2, a3, a4, a5⟩ := flat_all ds h
  refine ⟨by simpa [PyData.showable] using a1, by simpa [PyData.hasDict] using a2, by simp [PyData.depth]; omega, ?_⟩
  have h1 := PyData.shown_le 1001 (by decide) (.list ds) (by simpa [PyData.leavesShort] using a3)
  have h2 : PyData.weight (.list ds) ≤ 6 * 2003 := by
    simp only [PyData.weight]
    exact Nat.le_trans a5 (Nat.mul_le_mul_right _ hl)
  have h3 : (1001 + 2) * PyData.weight (.list ds) ≤ 1003 * (6 * 2003) := Nat.mul_le_mul_left _ h2
  have h4 : 1003 * (6 * 2003) + 1001 ≤ sizeLine := by decide
  omega
def Lok (ns : List Int) : Prop := ns.length ≤ 16 ∧ ∀ x ∈ ns, x.natAbs < 2 ^ 64
def ItOk (i : Itm) : Prop := (i.1 = true ∧ Lok i.2.2) ∨ (i.1 = false ∧ i.2.2.length ≤ 2 ∧ ∀ x ∈ i.2.2, x.natAbs < 2 ^ 1000)
theorem lok_flat {ns : List Int} (h : ∀ x ∈ ns, x.natAbs < 2 ^ 64) (hl : ns.length ≤ 17) : FlatOk (.list (ns.map .int)) := by
  have h1 := w_ints (B := 64) (by decide) ns h
  exact (flat_list (fun n hn => big (h n hn) (by decide)) (by omega)).1
theorem tup_flat {ns : List Int} (h : ∀ x ∈ ns, x.natAbs < 2 ^ 1000) (hl : ns.length ≤ 2) : FlatOk (.tuple (ns.map .int)) := by
  have h1 := w_ints (B := 1000) (by decide) ns h
  exact (flat_list h (by omega)).2
theorem itok_flat {i : Itm} (h : ItOk i) : FlatOk (itD i) := by
  obtain ⟨b, a, ns⟩ := i
  rcases h with ⟨e, h1, h2⟩ | ⟨e, h1, h2⟩
  · cases e
    exact lok_flat h2 (Nat.le_succ_of_le h1)
  · cases e
    exact tup_flat h2 h1
theorem shw_tree {its : List Itm} (h : ∀ i ∈ its, ItOk i) (hl : its.length ≤ 6) : Shw (treeD its) := by
  refine shw_of (fun d hd => ?_) (by rw [List.length_map]; exact hl)
  obtain ⟨i, hi, rfl⟩ := List.mem_map.mp hd
  exact itok_flat (h i hi)
theorem go_flat : ∀ (its : List Itm) (k : Nat), k + its.length ≤ 100000 → (∀ i ∈ its, ItOk i) → ∀ d ∈ goM k its, FlatOk d := by
  intro its
  induction its with
  | nil => intro k _ _ d hd; cases hd
  | cons i r ih =>
    intro k hk h d hd
    obtain ⟨b, a, ns⟩ := i
    have h0 := h (b, a, ns) List.mem_cons_self
    have hr := fun i hi => h i (List.mem_cons_of_mem _ hi)
    rw [List.length_cons] at hk
    cases b with
    | true =>
      rcases (List.mem_cons.mp hd) with rfl | hd
      · rcases h0 with ⟨_, h1, h2⟩ | ⟨e, _⟩
        · have h1 : ns.length ≤ 16 := h1
          refine lok_flat (fun x hx => ?_) (by rw [List.length_append]; show ns.length + 1 ≤ 17; omega)
          rcases (List.mem_append.mp hx) with hx | hx
          · exact h2 x hx
          · obtain rfl := List.mem_singleton.mp hx
            rw [Int.natAbs_natCast]
            have e : (2 : Nat) ^ 64 = 18446744073709551616 := (by decide)
            rw [e]; omega
        · cases e
      · exact ih (k + 1) (by omega) hr d hd
    | false =>
      rcases (List.mem_cons.mp hd) with rfl | hd
      · rcases h0 with ⟨e, _⟩ | ⟨_, h1, h2⟩
        · cases e
        · exact tup_flat h2 h1
      · exact ih k (by omega) hr d hd
theorem go_len : ∀ (its : List Itm) (k : Nat), (goM k its).length = its.length
  | [], _ => rfl
  | (true, _, _) :: r, k => by show (goM (k + 1) r).length + 1 = r.length + 1; rw [go_len r]
  | (false, _, _) :: r, k => by show (goM k r).length + 1 = r.length + 1; rw [go_len r]
theorem flat_int0 : FlatOk (.int 0) := by
  refine ⟨by decide, rfl, ?_, by decide, by decide⟩
  simp only [PyData.leavesShort, decide_eq_true_eq]
  show (Str.ofString (toString (0 : Int))).length ≤ 1001
  rw [PySem.ofString_length]
  exact int_text_length_le (k := 1000) (by decide) (by decide)
theorem shw_mark {its : List Itm} (h : ∀ i ∈ its, ItOk i) (hl : its.length ≤ 5) : Shw (markD its) := by
  refine shw_of (fun d hd => ?_) (by rw [List.length_append, go_len]; show its.length + 1 ≤ 6; omega)
  rcases List.mem_append.mp hd with hd | hd
  · exact go_flat its 1 (by omega) h d hd
  · obtain rfl := List.mem_singleton.mp hd
    exact flat_int0
/-! ## small facts of polynomials -/
theorem vec_mem {N : Nat} {f : Nat → Int} {x : Int} (h : x ∈ vec N f) : ∃ i, i < N ∧ x = f i := by
  unfold vec at h
  obtain ⟨i, hi, e⟩ := List.mem_map.mp h
  exact ⟨i, List.mem_range.mp hi, e.symm⟩
theorem getD_bd {ns : List Int} {B : Int} (hB : 0 ≤ B) (h : ∀ x ∈ ns, -B ≤ x ∧ x ≤ B) (k : Nat) : -B ≤ ns.getD k 0 ∧ ns.getD k 0 ≤ B := by
  (rw [List.getD_eq_getElem?_getD])
  cases e : ns[k]? with
  | none => show -B ≤ (0 : Int) ∧ (0 : Int) ≤ B; omega
  | some x => exact h x (List.mem_of_getElem? e)
theorem padd_lok {xs ys : List Int} (hx : Sp6 xs) (hy : Sp6 ys) : Lok (trm (padd xs ys)) := by
  refine ⟨?_, fun x h => ?_⟩
  · have := trm_len (padd xs ys)
    have e : (padd xs ys).length = max xs.length ys.length := vec_len _ _
    have := hx.2.1
    have := hy.2.1
    omega
  · obtain ⟨i, _, rfl⟩ := vec_mem (trm_mem h)
    have h1 := getD_bd (B := 1000000) (by decide) hx.2.2 i
    have h2 := getD_bd (B := 1000000) (by decide) hy.2.2 i
    have e : (2 : Nat) ^ 64 = 18446744073709551616 := (by decide)
    rw [e]; omega
theorem cf_bd {xs ys : List Int} (hx : ∀ x ∈ xs, -1000000 ≤ x ∧ x ≤ 1000000) (hy : ∀ x ∈ ys, -1000000 ≤ x ∧ x ≤ 1000000) : ∀ k i, (cf xs ys k i).natAbs ≤ k * 1000000000000
  | 0, _ => by show (0 : Int).natAbs ≤ _; simp
  | k + 1, i => by
    have ih := cf_bd hx hy k i
    have h1 := getD_bd (B := 1000000) (by decide) hx k
    have h2 := getD_bd (B := 1000000) (by decide) hy (i - k)
    have h3 : (xs.getD k 0 * ys.getD (i - k) 0).natAbs ≤ 1000000 * 1000000 := by
      rw [Int.natAbs_mul]
      exact Nat.mul_le_mul (by omega) (by omega)
    show (cf xs ys k i + (if k ≤ i then xs.getD k 0 * ys.getD (i - k) 0 else 0)).natAbs ≤ _
    rw [Nat.succ_mul]
    split <;> omega
theorem pmul_lok {xs ys : List Int} (hx : Sp6 xs) (hy : Sp6 ys) : Lok (trm (pmul xs ys)) := by
  refine ⟨?_, fun x h => ?_⟩
  · have := trm_len (pmul xs ys)
    have e : (pmul xs ys).length = xs.length + ys.length - 1 := vec_len _ _
    have := hx.2.1
    have := hy.2.1
    omega
  · obtain ⟨i, _, rfl⟩ := vec_mem (trm_mem h)
    have h1 := cf_bd hx.2.2 hy.2.2 xs.length i
    have := hx.2.1
    have e : (2 : Nat) ^ 64 = 18446744073709551616 := (by decide)
    rw [e]; omega
theorem sp6_lok {ns : List Int} (h : ns.length ≤ 16) (hb : ∀ x ∈ ns, -1000000 ≤ x ∧ x ≤ 1000000) : Lok ns := by
  refine ⟨h, fun x hx => ?_⟩
  have := hb x hx
  have e : (2 : Nat) ^ 64 = 18446744073709551616 := (by decide)
  rw [e]; omega
theorem trm_lok {ns : List Int} (h : Lok ns) : Lok (trm ns) := ⟨Nat.le_trans (trm_len ns) h.1, fun x hx => h.2 x (trm_mem hx)⟩
theorem padd_comm (xs ys : List Int) : padd xs ys = padd ys xs := by
  unfold padd
  rw [Nat.max_comm]
  exact vec_congr fun i _ => Int.add_comm _ _
theorem padd_nil (xs : List Int) : padd xs [] = xs := by
  symm
  refine vec_ext (by simp) fun i hi => ?_
  have hi : i < xs.length := by simpa using hi
  have e : xs[i]? = some xs[i] := List.getElem?_eq_getElem hi
  rw [e, getD_at e]
  simp
theorem nil_padd (xs : List Int) : padd [] xs = xs := by rw [padd_comm, padd_nil]
theorem cf_one {xs : List Int} : ∀ k i, cf xs [1] k i = if i < k then xs.getD i 0 else 0
  | 0, i => by show (0 : Int) = _; rw [if_neg (by omega)]
  | k + 1, i => by
    show cf xs [1] k i + (if k ≤ i then xs.getD k 0 * [1].getD (i - k) 0 else 0) = _
    rw [cf_one k i]
    by_cases h1 : i < k
    · rw [if_pos h1, if_neg (by omega), if_pos (by omega), Int.add_zero]
    · rw [if_neg h1, if_pos (by omega), Int.zero_add]
      by_cases h2 : i = k
      · subst h2
        rw [Nat.sub_self, if_pos (by omega)]
        show xs.getD i 0 * 1 = _
        rw [Int.mul_one]
      · rw [if_neg (by omega), getD_out (l := [1]) (k := i - k) (by show 1 ≤ i - k; omega), Int.mul_zero]
theorem pmul_one (xs : List Int) : pmul xs [1] = xs := by
  symm
  refine vec_ext (by simp) fun i hi => ?_
  have hi : i < xs.length := by simpa using hi
  have e : xs[i]? = some xs[i] := List.getElem?_eq_getElem hi
  rw [cf_one, if_pos hi, getD_at e, e]
end V2


namespace V2
open PySem L2
open PySem.Spec PyProof.Rows
/-! ## lists of new things -/
def Built (Hs H : Hp) (its : List Itm) : Prop := Evl.Ex Hs H ∧ (∀ i ∈ its, ItAt H i ∧ Hs i.2.1 = none) ∧ (its.map (·.2.1)).Nodup
theorem Built.none_ {Hs H : Hp} (e : Evl.Ex Hs H) : Built Hs H [] := ⟨e, (by intro i hi; cases hi), List.nodup_nil⟩
theorem Built.ext {Hs H H' : Hp} {its : List Itm} (h : Built Hs H its) (e : Evl.Ex H H') : Built Hs H' its := ⟨h.1.trans e, fun i hi => ⟨(h.2.1 i hi).1.ex e, (h.2.1 i hi).2⟩, h.2.2⟩
theorem Built.ne {Hs H : Hp} {its : List Itm} (h : Built Hs H its) {q : Addr} (hq : H q = none) : ∀ i ∈ its, i.2.1 ≠ q := fun i hi => ne_of_none (h.2.1 i hi).1 hq
theorem Built.snoc {Hs H H2 : Hp} {its : List Itm} {i : Itm} (h : Built Hs H its) (hp : H i.2.1 = none) (e : Evl.Ex H H2) (h2 : ItAt H2 i) : Built Hs H2 (its ++ [i]) := by
  refine ⟨h.1.trans e, fun j hj => ?_, ?_⟩
  · rcases List.mem_append.mp hj with hj | hj
    · exact ⟨(h.2.1 j hj).1.ex e, (h.2.1 j hj).2⟩
    · obtain rfl := List.mem_singleton.mp hj
      exact ⟨h2, Evl.fresh_back h.1 hp⟩
  · (rw [List.map_append, List.nodup_append])
    refine ⟨h.2.2, by simp, ?_⟩
    intro x hx y hy e2
    obtain ⟨j, hj, rfl⟩ := List.mem_map.mp hx
    obtain rfl : y = i.2.1 := by simpa using hy
    exact h.ne hp j hj e2
structure Tr (Hs H : Hp) (q : Addr) (its : List Itm) : Prop where
  b : Built Hs H its
  at_ : H q = some (.lst (refs its))
  nq : Hs q = none
  ne : ∀ i ∈ its, i.2.1 ≠ q
theorem Tr.ext {Hs H H' : Hp} {q : Addr} {its : List Itm} (h : Tr Hs H q its) (e : Evl.Ex H H') : Tr Hs H' q its := ⟨h.b.ext e, e _ _ h.at_, h.nq, h.ne⟩
theorem Tr.tree {Hs H : Hp} {q : Addr} {its : List Itm} (h : Tr Hs H q its) : TreeAt H q its := ⟨h.at_, fun i hi => (h.b.2.1 i hi).1⟩
theorem Tr.dst {Hs H : Hp} {q : Addr} {its : List Itm} (h : Tr Hs H q its) : Dst q its := dst_of h.b.2.2 h.ne
theorem Tr.fresh {Hs H : Hp} {q : Addr} {its : List Itm} (h : Tr Hs H q its) : ∀ b ∈ (CL q its).map (·.1), Hs b = none := by
  intro b hb
  obtain ⟨x, hx, rfl⟩ := List.mem_map.mp hb
  rcases cl_mem hx with e | ⟨i, hi, _, e⟩
  · rw [e]; exact h.nq
  · rw [← e]; exact (h.b.2.1 i hi).2
theorem Tr.some_ {Hs H : Hp} {q : Addr} {its : List Itm} (h : Tr Hs H q its) : ∀ b ∈ (CL q its).map (·.1), ∃ o, H b = some o := by
  intro b hb
  obtain ⟨x, hx, rfl⟩ := List.mem_map.mp hb
  rcases cl_mem hx with e | ⟨i, hi, _, e⟩
  · rw [e]; exact ⟨_, h.at_⟩
  · rw [← e]; exact ⟨_, (h.b.2.1 i hi).1⟩
theorem Tr.back {Hs H Hd H' : Hp} {q : Addr} {its : List Itm} (h : Tr Hs H q its) (e : Evl.Ex H Hd) (o : Off ((CL q its).map (·.1)) Hd H') : Evl.Ex Hs H' := by
  intro b u hb
  refine o b u (fun hm => ?_) (e b u (h.b.1 b u hb))
  rw [h.fresh b hm] at hb
  cases hb
/-- what is due, in one place or not -/
theorem right_go {Hs Hf Hd : Hp} {q d : Addr} {its jts : List Itm} {Q : VK} {E : XK} (h : Tr Hs Hf q its) (e : Evl.Ex Hf Hd) (U : TreeAt Hd d jts) (hd : Hf d = none) (hj : ∀ j ∈ jts, Hf j.2.1 = none ∨ ∃ o, Hs j.2.1 = some o)
    (hsh : its.map sh = jts.map sh) (hl : its.length ≤ 5) (ok : ∀ i ∈ its, ItOk i) (k : ∀ H', Evl.Ex Hs H' → Q (.bl true) H') : spR [.ref q, .ref d] Hd Q E := by
  refine ⟨q, d, its, jts, rfl, h.tree.ex e, h.dst, U, hsh, fun hm => ?_, fun j hjm hm => ?_, by omega, fun i hi => ?_, shw_tree ok (by omega), shw_mark ok hl, fun H' o => k H' (h.back e o)⟩
  · obtain ⟨o, ho⟩ := h.some_ d hm
    rw [hd] at ho; cases ho
  · rcases hj j hjm with z | ⟨o, z⟩
    · obtain ⟨o, ho⟩ := h.some_ _ hm
      rw [z] at ho; cases ho
    · rw [h.fresh _ hm] at z; cases z
  · rcases ok i hi with ⟨_, a, _⟩ | ⟨_, a, _⟩
    · omega
    · omega
def tA : List TE → TA
  | [] => tNil
  | t :: r => tCons t (tA r)
def EvI (te : TE) (σ : L2.St) (H : Hp) (b : Bool × List Int) : Prop := ∀ H1, Evl.Ex H H1 → ∀ Q : VK, (∀ p H2, H1 p = none → Evl.Ex H1 H2 → ItAt H2 (b.1, p, b.2) → Q (.ref p) H2) → te σ H1 Q
theorem args_read {σ : L2.St} {H0 : Hp} : ∀ (L : List (TE × Bool × List Int)) (H : Hp) (dn : List Itm) (Q : List V → Hp → Prop), (∀ x ∈ L, EvI x.1 σ H0 x.2) → Built H0 H dn →
    (∀ its H', Built H0 H' (dn ++ its) → Evl.Ex H H' → its.map sh = L.map (·.2) → Q (refs its) H') → tA (L.map (·.1)) σ H Q
  | [], H, dn, Q, _, hb, k => k [] H (by rw [List.append_nil]; exact hb) (Evl.Ex.refl _) rfl
  | (te, b) :: L, H, dn, Q, h, hb, k => by
    refine h (te, b) List.mem_cons_self H hb.1 _ fun p H2 hp e2 h2 => ?_
    refine args_read L H2 (dn ++ [(b.1, p, b.2)]) _ (fun x hx => h x (List.mem_cons_of_mem _ hx)) (hb.snoc (i := (b.1, p, b.2)) hp e2 h2) fun its H' hb' e' hs => ?_
    refine k ((b.1, p, b.2) :: its) H' (by rw [List.append_assoc] at hb'; exact hb') (e2.trans e') ?_
    rw [List.map_cons, List.map_cons, hs]
    rfl
theorem lst_read {σ : L2.St} {Hs H : Hp} {Q : VK} (L : List (TE × Bool × List Int)) (hL : L.length ≤ 10) (e : Evl.Ex Hs H) (h : ∀ x ∈ L, EvI x.1 σ Hs x.2) (k : ∀ q its H', H q = none → Tr Hs H' q its → Evl.Ex H H' → its.map sh = L.map (·.2) → Q (.ref q) H') : tLst (tA (L.map (·.1))) σ H Q := by
  refine args_read L H [] _ h (Built.none_ e) fun its H' hb e' hs => ⟨?_, fun q hq => ?_⟩
  · have : its.length = L.length := by
      have := congrArg List.length hs
      rwa [List.length_map, List.length_map] at this
    rw [refs_len, this]
    exact Nat.le_trans hL (by decide)
  · have e2 : Evl.Ex H' (upd H' q (.lst (refs its))) := Evl.Ex.new hq
    have hb : Built Hs H' its := hb
    exact k q its _ (Evl.fresh_back e' hq) ⟨hb.ext e2, upd_same, Evl.fresh_back hb.1 hq, hb.ne hq⟩ (e'.trans e2) hs
theorem cat_read {σ : L2.St} {Hs H : Hp} {Q : VK} {j : Nat} {q : Addr} {its : List Itm} (L : List (TE × Bool × List Int)) (hL : L.length ≤ 10) (hi : its.length ≤ 10) (hj : σ[j]? = some (some (.ref q))) (T : Tr Hs H q its) (h : ∀ x ∈ L, EvI x.1 σ Hs x.2)
    (k : ∀ r jts H', H r = none → Tr Hs H' r (its ++ jts) → Evl.Ex H H' → jts.map sh = L.map (·.2) → Q (.ref r) H') : tOp rCat (tVar j) (tLst (tA (L.map (·.1)))) σ H Q := by
  refine ⟨_, hj, ?_⟩
  refine args_read L H its _ h T.b fun jts H' hb e' hs => ⟨?_, fun z hz => ?_⟩
  · have : jts.length = L.length := by
      have := congrArg List.length hs
      rwa [List.length_map, List.length_map] at this
    rw [refs_len, this]
    exact Nat.le_trans hL (by decide)
  · have e2 : Evl.Ex H' (upd H' z (.lst (refs jts))) := Evl.Ex.new hz
    refine ⟨q, z, _, _, rfl, rfl, e2 _ _ (e' _ _ T.at_), upd_same, ?_, fun r hr => ?_⟩
    · have : jts.length = L.length := by
        have := congrArg List.length hs
        rwa [List.length_map, List.length_map] at this
      rw [refs_len, refs_len, this]
      exact Nat.le_trans (show its.length + L.length ≤ 20 by omega) (by decide)
    · have e3 : Evl.Ex H' (upd (upd H' z (.lst (refs jts))) r (.lst (refs its ++ refs jts))) := e2.trans (Evl.Ex.new hr)
      have hr0 : H' r = none := Evl.fresh_back e2 hr
      refine k r jts _ (Evl.fresh_back e' hr0) ⟨hb.ext e3, ?_, Evl.fresh_back hb.1 hr0, hb.ne hr0⟩ (e'.trans e3) hs
      rw [upd_same]
      unfold refs
      rw [List.map_append]
/-! ## the calls -/
def tCallK (n : Nat) (gV : List V → List V) (sp : Sp) (t : TA) : TE := fun σ H Q => t σ H fun zs H1 => zs.length = n ∧ sp (gV zs) H1 Q E0
def swp : List V → List V
  | [a, b] => [b, a]
  | z => z
section
variable {K : PySem.W.Frag} {σ : L2.St} {H : Hp} {i j : Nat} {a b : Addr} {xs ys : List Int} {p q : Int} {m : List Int → List Int → List Int}
theorem ei_trim (hi : σ[i]? = some (some (.ref a))) (ha : Li H a xs) (hl : xs.length ≤ 1000) : EvI (tCall (spTrim K) [] E0 (tCons (tVar i) tNil)) σ H (true, trm xs) := fun H1 e Q k =>
  ⟨_, hi, a, xs, rfl, SqL.of (e _ _ ha), hl, fun p H2 hp e2 h2 => k p H2 hp e2 h2⟩
theorem ei_trimK (hi : σ[i]? = some (some (.ref a))) (ha : Li H a xs) (hl : xs.length ≤ 1000) : EvI (tCallK 1 id (spTrim K) (tCons (tVar i) tNil)) σ H (true, trm xs) := fun H1 e Q k =>
  ⟨_, hi, rfl, a, xs, rfl, SqL.of (e _ _ ha), hl, fun p H2 hp e2 h2 => k p H2 hp e2 h2⟩
theorem ei_two (hi : σ[i]? = some (some (.ref a))) (hj : σ[j]? = some (some (.ref b))) (ha : Li H a xs) (hb : Li H b ys) (hx : Pn xs) (hy : Pn ys) : EvI (tCall (spTwo m) [] E0 (tCons (tVar i) (tCons (tVar j) tNil))) σ H (true, m xs ys) := fun H1 e Q k =>
  ⟨_, hi, _, hj, a, b, xs, ys, rfl, e _ _ ha, e _ _ hb, hx, hy, fun p H2 hp e2 h2 => k p H2 hp e2 h2⟩
theorem ei_twoK (hi : σ[i]? = some (some (.ref a))) (hj : σ[j]? = some (some (.ref b))) (ha : Li H a xs) (hb : Li H b ys) (hx : Pn xs) (hy : Pn ys) : EvI (tCallK 2 id (spTwo m) (tCons (tVar i) (tCons (tVar j) tNil))) σ H (true, m xs ys) := fun H1 e Q k =>
  ⟨_, hi, _, hj, rfl, a, b, xs, ys, rfl, e _ _ ha, e _ _ hb, hx, hy, fun p H2 hp e2 h2 => k p H2 hp e2 h2⟩
theorem ei_twoS (hi : σ[i]? = some (some (.ref a))) (hj : σ[j]? = some (some (.ref b))) (ha : Li H a xs) (hb : Li H b ys) (hx : Pn xs) (hy : Pn ys) : EvI (tCallK 2 swp (spTwo m) (tCons (tVar i) (tCons (tVar j) tNil))) σ H (true, m ys xs) := fun H1 e Q k =>
  ⟨_, hi, _, hj, rfl, b, a, ys, xs, rfl, e _ _ hb, e _ _ ha, hy, hx, fun p H2 hp e2 h2 => k p H2 hp e2 h2⟩
def vl (p q : Int) (xs : List Int) : List Int := [(fr (hA p q xs) (q ^ xs.length)).1, (fr (hA p q xs) (q ^ xs.length)).2]
theorem ei_val (hi : σ[i]? = some (some (.ref a))) (hj : σ[j]? = some (some (.ref b))) (ha : Li H a xs) (hb : Fr H b p q) (hx : Pn xs) (hq : Qn p q) : EvI (tCall spVal [] E0 (tCons (tVar i) (tCons (tVar j) tNil))) σ H (false, vl p q xs) := fun H1 e Q k =>
  ⟨_, hi, _, hj, a, b, xs, p, q, rfl, e _ _ ha, e _ _ hb, hx, hq, fun p H2 hp e2 h2 => k p H2 hp e2 h2⟩
theorem ei_valK (hi : σ[i]? = some (some (.ref a))) (hj : σ[j]? = some (some (.ref b))) (ha : Li H a xs) (hb : Fr H b p q) (hx : Pn xs) (hq : Qn p q) : EvI (tCallK 2 id spVal (tCons (tVar i) (tCons (tVar j) tNil))) σ H (false, vl p q xs) := fun H1 e Q k =>
  ⟨_, hi, _, hj, rfl, a, b, xs, p, q, rfl, e _ _ ha, e _ _ hb, hx, hq, fun p H2 hp e2 h2 => k p H2 hp e2 h2⟩
theorem pol_nil : Pol [] := fun x h => by cases h
theorem pn_nil : Pn [] := ⟨pol_nil, by decide, fun x h => by cases h⟩
theorem ei_twoN (hi : σ[i]? = some (some (.ref a))) (ha : Li H a xs) (hx : Pn xs) : EvI (tCall (spTwo m) [] E0 (tCons (tVar i) (tCons (tLst tNil) tNil))) σ H (true, m xs []) := fun H1 e Q k =>
  ⟨_, hi, Nat.zero_le _, fun z hz => ⟨a, z, xs, [], rfl, Evl.Ex.new hz _ _ (e _ _ ha), upd_same, hx, pn_nil, fun p H2 hp e2 h2 => k p H2 (Evl.fresh_back (Evl.Ex.new hz) hp) ((Evl.Ex.new hz).trans e2) h2⟩⟩
theorem ei_Ntwo (hi : σ[i]? = some (some (.ref a))) (ha : Li H a xs) (hx : Pn xs) : EvI (tCall (spTwo m) [] E0 (tCons (tLst tNil) (tCons (tVar i) tNil))) σ H (true, m [] xs) := fun H1 e Q k =>
  ⟨Nat.zero_le _, fun z hz => ⟨_, hi, z, a, [], xs, rfl, upd_same, Evl.Ex.new hz _ _ (e _ _ ha), pn_nil, hx, fun p H2 hp e2 h2 => k p H2 (Evl.fresh_back (Evl.Ex.new hz) hp) ((Evl.Ex.new hz).trans e2) h2⟩⟩
theorem ei_valN (hj : σ[j]? = some (some (.ref b))) (hb : Fr H b p q) (hq : Qn p q) : EvI (tCall spVal [] E0 (tCons (tLst tNil) (tCons (tVar j) tNil))) σ H (false, vl p q []) := fun H1 e Q k =>
  ⟨Nat.zero_le _, fun z hz => ⟨_, hj, z, b, [], p, q, rfl, upd_same, Evl.Ex.new hz _ _ (e _ _ hb), pn_nil, hq, fun p H2 hp e2 h2 => k p H2 (Evl.fresh_back (Evl.Ex.new hz) hp) ((Evl.Ex.new hz).trans e2) h2⟩⟩
theorem pn_one : Pn [1] := ⟨fun x h => by cases h; decide, by decide, fun x h => by obtain rfl := List.mem_singleton.mp h; decide⟩
theorem ei_two1 (hi : σ[i]? = some (some (.ref a))) (ha : Li H a xs) (hx : Pn xs) : EvI (tCall (spTwo m) [] E0 (tCons (tVar i) (tCons (tLst (tCons (tC (.int 1)) tNil)) tNil))) σ H (true, m xs [1]) := fun H1 e Q k =>
  ⟨_, hi, (by show 1 ≤ sizeLine; decide), fun z hz => ⟨a, z, xs, [1], rfl, Evl.Ex.new hz _ _ (e _ _ ha), upd_same, hx, pn_one, fun p H2 hp e2 h2 => k p H2 (Evl.fresh_back (Evl.Ex.new hz) hp) ((Evl.Ex.new hz).trans e2) h2⟩⟩
theorem vl_nil : vl p q [] = [0, 1] := by
  unfold vl
  rw [List.length_nil, Int.pow_zero, show fr (hA p q []) 1 = (0, 1) from (fr_same (by decide) (by decide) : fr 0 1 = (0, 1))]
theorem vl_ok (hx : Pn xs) (hq : Qn p q) : (vl p q xs).length ≤ 2 ∧ ∀ x ∈ vl p q xs, x.natAbs < 2 ^ 1000 := by
  obtain ⟨px, hx2, hx3⟩ := hx
  obtain ⟨q0, qc, pb, qb⟩ := hq
  refine ⟨Nat.le_refl _, fun x h => ?_⟩
  have qi := qpos q0 xs.length
  rcases (List.mem_cons.mp h) with rfl | h
  · exact Nat.lt_of_le_of_lt (fr_abs1 qi) (big (hA_lt pb qb fun x hx => n64 (hx3 x hx)) (by omega))
  · rcases (List.mem_cons.mp h) with rfl | h
    · exact Nat.lt_of_le_of_lt (fr_abs2 qi) (big (npow_lt qb xs.length) (by omega))
    · cases h
end
end V2


namespace V2
open PySem L2
open PySem.Spec PyProof.Rows
theorem cut_pre (xs : List V) (k : Nat) : cutV xs none (some (k : Int)) = xs.take k := by
  unfold cutV
  rw [HT.sIx_nat, HT.sIx_none, List.drop_zero, Nat.sub_zero]
  rcases Nat.le_total k xs.length with h | h
  · rw [Nat.min_eq_left h]
  · rw [Nat.min_eq_right h, List.take_of_length_le h, List.take_length]
theorem cut_suf (xs : List V) (k : Nat) : cutV xs (some (k : Int)) none = xs.drop k := by
  unfold cutV
  rw [HT.sIx_nat, HT.sIx_none]
  rcases Nat.le_total k xs.length with h | h
  · rw [Nat.min_eq_left h]
    (exact List.take_of_length_le (by rw [List.length_drop]; omega))
  · rw [Nat.min_eq_right h, List.drop_length, List.drop_of_length_le h]
    exact List.take_nil
def neg (ns : List Int) : List Int := ns.map fun x => 0 - x
theorem sp6_neg {ns : List Int} (h : Sp6 ns) : Sp6 (neg ns) := by
  refine ⟨fun x hx => ?_, by unfold neg; rw [List.length_map]; exact h.2.1, fun x hx => ?_⟩
  · unfold neg at hx
    rw [List.length_map, List.getElem?_map] at hx
    cases e : ns[ns.length - 1]? with
    | none => rw [e] at hx; cases hx
    | some y =>
      rw [e] at hx
      have := h.1 y e
      have hx : 0 - y = x := Option.some.inj hx
      omega
  · obtain ⟨y, hy, rfl⟩ := List.mem_map.mp hx
    have := h.2.2 y hy
    omega
theorem sp6_mix {ns : List Int} (h : Sp6 ns) (k : Nat) (hk : k ≤ 2) : Sp6 (trm (ns.take k ++ neg (ns.drop 2))) := by
  refine ⟨pol_trm _, Nat.le_trans (trm_len _) ?_, fun x hx => ?_⟩
  · have := h.2.1
    unfold neg
    rw [List.length_append, List.length_map, List.length_take, List.length_drop]
    omega
  · rcases List.mem_append.mp (trm_mem hx) with hx | hx
    · exact h.2.2 x (List.mem_of_mem_take hx)
    · obtain ⟨y, hy, rfl⟩ := List.mem_map.mp hx
      have := h.2.2 y (List.mem_of_mem_drop hy)
      omega
theorem neg_snoc {ns : List Int} {i : Nat} {n : Int} (h : ns[i]? = some n) : iV (neg (ns.take (i + 1))) = iV (neg (ns.take i)) ++ [.int (0 - n)] := by
  rw [List.take_add_one, h]
  unfold neg iV
  simp
theorem iV_pre (ns : List Int) (k : Nat) : cutV (iV ns) none (some (k : Int)) = iV (ns.take k) := by
  rw [cut_pre]; unfold iV; rw [List.map_take]
theorem iV_suf (ns : List Int) (k : Nat) : cutV (iV ns) (some (k : Int)) none = iV (ns.drop k) := by
  rw [cut_suf]; unfold iV; rw [List.map_drop]
theorem all2 {α : Type} {P : α → Prop} {a b : α} (h1 : P a) (h2 : P b) : ∀ x ∈ [a, b], P x := by
  intro x hx
  rcases (List.mem_cons.mp hx) with rfl | hx
  · exact h1
  · obtain rfl := List.mem_singleton.mp hx
    exact h2
theorem all3 {α : Type} {P : α → Prop} {a b c : α} (h1 : P a) (h2 : P b) (h3 : P c) : ∀ x ∈ [a, b, c], P x := by
  intro x hx
  rcases (List.mem_cons.mp hx) with rfl | hx
  · exact h1
  · exact all2 h2 h3 x hx
theorem all5 {α : Type} {P : α → Prop} {a b c d e : α} (h1 : P a) (h2 : P b) (h3 : P c) (h4 : P d) (h5 : P e) : ∀ x ∈ [a, b, c, d, e], P x := by
  intro x hx
  rcases (List.mem_cons.mp hx) with rfl | hx
  · exact h1
  rcases (List.mem_cons.mp hx) with rfl | hx
  · exact h2
  · exact all3 h3 h4 h5 x hx
theorem sh_ok {its : List Itm} {S : List (Bool × List Int)} (h : its.map sh = S) (hS : ∀ s ∈ S, (s.1 = true ∧ Lok s.2) ∨ (s.1 = false ∧ s.2.length ≤ 2 ∧ ∀ x ∈ s.2, x.natAbs < 2 ^ 1000)) : ∀ i ∈ its, ItOk i := by
  intro i hi
  have : sh i ∈ S := by rw [← h]; exact List.mem_map_of_mem hi
  exact hS _ this
theorem sh_len {its : List Itm} {S : List (Bool × List Int)} (h : its.map sh = S) : its.length = S.length := by rw [← h, List.length_map]
theorem len6 (ns : List Int) (k : Nat) (hk : k ≤ 6) : (ns.take k).length ≤ 6 := by rw [List.length_take]; omega
theorem sp6_ext {ns : List Int} {y : Int} (h : Sp6 ns) (h0 : 0 ≤ y) (h1 : y < 5) : Sp6 (ns.take 6 ++ [y - 2, 1]) := by
  have h6 := len6 ns 6 (by decide)
  refine ⟨fun x hx => ?_, by rw [List.length_append]; show _ + 2 ≤ 8; omega, fun x hx => ?_⟩
  · rw [List.length_append, List.getElem?_append_right (by show _ ≤ _ + 2 - 1; omega)] at hx
    have e : (ns.take 6).length + [y - 2, 1].length - 1 - (ns.take 6).length = 1 := by show _ + 2 - 1 - _ = 1; omega
    rw [e] at hx
    cases hx
    decide
  · rcases (List.mem_append.mp hx) with hx | hx
    · exact h.2.2 x (List.mem_of_mem_take hx)
    · exact all2 (P := fun x => -1000000 ≤ x ∧ x ≤ 1000000) ⟨by omega, by omega⟩ ⟨by decide, by decide⟩ x hx
theorem lok_some {ns : List Int} (h : Sp6 ns) {y : Nat} (hy : y ≤ 3) : Lok (ns.take 5 ++ List.replicate y 0) := by
  have h6 := len6 ns 5 (by decide)
  refine sp6_lok (by rw [List.length_append, List.length_replicate]; omega) fun x hx => ?_
  rcases (List.mem_append.mp hx) with hx | hx
  · exact h.2.2 x (List.mem_of_mem_take hx)
  · obtain ⟨_, rfl⟩ := List.mem_replicate.mp hx
    exact ⟨by decide, by decide⟩
theorem Sp6.lok {ns : List Int} (h : Sp6 ns) : Lok ns := sp6_lok (Nat.le_trans h.2.1 (by decide)) h.2.2
structure Md (H0 H : Hp) (p l ra : Addr) (ls : List Int) (u d : Int) (m : Nat) : Prop where
  but : But p H0 H
  sk : Sk H p m
  li : Li H l ls
  lp : l ≠ p
  fr : Fr H ra u d
  rp : ra ≠ p
theorem Md.ex {H0 H H' : Hp} {p l ra : Addr} {ls : List Int} {u d : Int} {m : Nat} (h : Md H0 H p l ra ls u d m) (e : Evl.Ex H H') : Md H0 H' p l ra ls u d m := ⟨h.but.trans (But.of_ex e), h.sk.ex e, e _ _ h.li, h.lp, e _ _ h.fr, h.rp⟩
theorem Md.go {H0 H H' : Hp} {p l ra : Addr} {ls : List Int} {u d : Int} {m k : Nat} (h : Md H0 H p l ra ls u d m) (b : But p H H') (s : Sk H' p k) : Md H0 H' p l ra ls u d k := ⟨h.but.trans b, s, b _ _ h.lp h.li, h.lp, b _ _ h.rp h.fr, h.rp⟩
theorem Md.le {H0 H : Hp} {p l ra : Addr} {ls : List Int} {u d : Int} {m k : Nat} (h : Md H0 H p l ra ls u d m) (q : m ≤ k) : Md H0 H p l ra ls u d k := ⟨h.but, h.sk.le q, h.li, h.lp, h.fr, h.rp⟩
structure Rt (H : Hp) (p r : Addr) (rs : List Int) : Prop where
  ne : r ≠ p
  li : Li H r rs
theorem Rt.ex {H H' : Hp} {p r : Addr} {rs : List Int} (h : Rt H p r rs) (e : Evl.Ex H H') : Rt H' p r rs := ⟨h.ne, e _ _ h.li⟩
theorem Rt.go {H H' : Hp} {p r : Addr} {rs : List Int} (h : Rt H p r rs) (b : But p H H') : Rt H' p r rs := ⟨h.ne, b _ _ h.ne h.li⟩
def spChecked : Sp := fun vs H Q _ => ∃ (p : Addr) (m : Nat), vs = [.ref p] ∧ Sk H p m ∧ m ≤ 50000 ∧ ∀ H', But p H H' → Sk H' p (m + 100) → Q (.bl true) H'
structure T5 (mg : Str → Option Value) : Prop where
  rng : mg "range" = none
  rep : mg "repr" = none
/-- one more piece of a comprehension that turns the sign -/
theorem neg_turn {H0 H' : Hp} {D : Addr} {ns : List Int} {i : Nat} {n : Int} (hn : ns[i]? = some n) (h8 : ns.length ≤ 8) (hD : H0 D = none) (e : Evl.Ex H0 H') (h : H' D = some (.lst (iV (neg (ns.take i))))) :
    ∃ acc, H' D = some (.lst acc) ∧ acc.length < sizeLine ∧ (Evl.Ex H0 (upd H' D (.lst (acc ++ [.int (0 - n)]))) ∧ (upd H' D (.lst (acc ++ [.int (0 - n)]))) D = some (.lst (iV (neg (ns.take (i + 1)))))) := by
  refine ⟨_, h, ?_, Evl.Ex.mut e hD, ?_⟩
  · have : (iV (neg (ns.take i))).length ≤ 8 := by
      rw [iV_len]; unfold neg; rw [List.length_map, List.length_take]; omega
    exact Nat.lt_of_le_of_lt this (by decide)
  · rw [upd_same, neg_snoc hn]
section
variable {base : Heap} {mg : Str → Option Value} {K : PySem.W.Frag} {w : World} {P : Program}
theorem show_go {H : Hp} {q l r s : Addr} {ls rs ss : List Int} (hq : H q = none) (hl : Li H l ls) (hr : Li H r rs) (hs : Li H s ss) (ol : Lok ls) (or_ : Lok rs) (os : Lok ss) :
    Dp K (upd H q (.lst [.ref l, .ref r, .ref s])) (.ref q) (treeD [(true, l, ls), (true, r, rs), (true, s, ss)]) ∧ Shw (treeD [(true, l, ls), (true, r, rs), (true, s, ss)]) := by
  have e : Evl.Ex H (upd H q (.lst [.ref l, .ref r, .ref s])) := Evl.Ex.new hq
  have hT : TreeAt (upd H q (.lst [.ref l, .ref r, .ref s])) q [(true, l, ls), (true, r, rs), (true, s, ss)] := ⟨upd_same, all3 (e _ _ hl) (e _ _ hr) (e _ _ hs)⟩
  exact ⟨dp_tree hT, shw_tree (its := [(true, l, ls), (true, r, rs), (true, s, ss)]) (all3 (.inl ⟨rfl, ol⟩) (.inl ⟨rfl, or_⟩) (.inl ⟨rfl, os⟩)) (by simp)⟩
end
end V2


namespace V2
open PySem L2
open PySem.Spec PyProof.Rows
theorem right_pre {Hs Hf Hd : Hp} {q d : Addr} {its jts : List Itm} (h : Tr Hs Hf q its) (e : Evl.Ex Hf Hd) (hd : Hf d = none) (hj : ∀ j ∈ jts, Hf j.2.1 = none ∨ ∃ o, Hs j.2.1 = some o)
    (hl : its.length ≤ 5) (ok : ∀ i ∈ its, ItOk i) : TreeAt Hd q its ∧ Dst q its ∧ d ∉ (CL q its).map (·.1) ∧ (∀ j ∈ jts, j.2.1 ∉ (CL q its).map (·.1)) ∧ its.length ≤ 100 ∧ (∀ i ∈ its, i.2.2.length ≤ 100) ∧ Shw (treeD its) ∧ Shw (markD its) := by
  refine ⟨h.tree.ex e, h.dst, fun hm => ?_, fun j hjm hm => ?_, by omega, fun i hi => ?_, shw_tree ok (by omega), shw_mark ok hl⟩
  · obtain ⟨o, ho⟩ := h.some_ d hm
    rw [hd] at ho; cases ho
  · rcases hj j hjm with z | ⟨o, z⟩
    · obtain ⟨o, ho⟩ := h.some_ _ hm
      rw [z] at ho; cases ho
    · rw [h.fresh _ hm] at z; cases z
  · rcases ok i hi with ⟨_, a, _⟩ | ⟨_, a, _⟩
    · omega
    · omega
section
variable {σ : L2.St} {Hs H : Hp} {i j : Nat} {q : Addr} {its : List Itm} {te1 te2 te3 te4 te5 : TE} {b1 b2 b3 b4 b5 : Bool × List Int} {tz : TS} {D : Ends}
theorem l3 {Q : VK} (e : Evl.Ex Hs H) (h1 : EvI te1 σ Hs b1) (h2 : EvI te2 σ Hs b2) (h3 : EvI te3 σ Hs b3) (k : ∀ q its H', Tr Hs H' q its → Evl.Ex H H' → its.map sh = [b1, b2, b3] → Q (.ref q) H') : tLst (tCons te1 (tCons te2 (tCons te3 tNil))) σ H Q :=
  lst_read [(te1, b1), (te2, b2), (te3, b3)] (by simp) e (all3 h1 h2 h3) fun q its H' _ T e' hs => k q its H' T e' hs
theorem sa3 (e : Evl.Ex Hs H) (h1 : EvI te1 σ Hs b1) (h2 : EvI te2 σ Hs b2) (h3 : EvI te3 σ Hs b3) (k : ∀ q its H', Tr Hs H' q its → Evl.Ex H H' → its.map sh = [b1, b2, b3] → tz D (σ.set i (some (.ref q))) H') : tSeq (tAsg (tLst (tCons te1 (tCons te2 (tCons te3 tNil)))) (gName i)) tz D σ H :=
  lst_read (Q := fun x H1 => tz D (σ.set i (some x)) H1) [(te1, b1), (te2, b2), (te3, b3)] (by simp) e (all3 h1 h2 h3) fun q its H' _ T e' hs => k q its H' T e' hs
theorem sa5 (e : Evl.Ex Hs H) (h1 : EvI te1 σ Hs b1) (h2 : EvI te2 σ Hs b2) (h3 : EvI te3 σ Hs b3) (h4 : EvI te4 σ Hs b4) (h5 : EvI te5 σ Hs b5) (k : ∀ q its H', Tr Hs H' q its → Evl.Ex H H' → its.map sh = [b1, b2, b3, b4, b5] → tz D (σ.set i (some (.ref q))) H') :
    tSeq (tAsg (tLst (tCons te1 (tCons te2 (tCons te3 (tCons te4 (tCons te5 tNil)))))) (gName i)) tz D σ H :=
  lst_read (Q := fun x H1 => tz D (σ.set i (some x)) H1) [(te1, b1), (te2, b2), (te3, b3), (te4, b4), (te5, b5)] (by simp) e (all5 h1 h2 h3 h4 h5) fun q its H' _ T e' hs => k q its H' T e' hs
theorem sc2 (hj : σ[j]? = some (some (.ref q))) (T : Tr Hs H q its) (hi : its.length ≤ 10) (h1 : EvI te1 σ Hs b1) (h2 : EvI te2 σ Hs b2) (k : ∀ r jts H', Tr Hs H' r (its ++ jts) → Evl.Ex H H' → jts.map sh = [b1, b2] → tz D (σ.set i (some (.ref r))) H') :
    tSeq (tAsg (tOp rCat (tVar j) (tLst (tCons te1 (tCons te2 tNil)))) (gName i)) tz D σ H :=
  cat_read [(te1, b1), (te2, b2)] (by simp) hi hj T (all2 h1 h2) fun r jts H' _ T' e' hs => k r jts H' T' e' hs
theorem lc2 (hj : σ[j]? = some (some (.ref q))) (T : Tr Hs H q its) (hi : its.length ≤ 10) (h1 : EvI te1 σ Hs b1) (h2 : EvI te2 σ Hs b2) (k : ∀ r jts H', Tr Hs H' r (its ++ jts) → Evl.Ex H H' → jts.map sh = [b1, b2] → D.nx (σ.set i (some (.ref r))) H') :
    tAsg (tOp rCat (tVar j) (tLst (tCons te1 (tCons te2 tNil)))) (gName i) D σ H :=
  cat_read [(te1, b1), (te2, b2)] (by simp) hi hj T (all2 h1 h2) fun r jts H' _ T' e' hs => k r jts H' T' e' hs
end
end V2


namespace V2
open PySem L2
open PySem.Spec PyProof.Rows
section
variable {base : Heap} {mg : Str → Option Value} {K : PySem.W.Frag} {w : World} {P : Program}
structure Calls (P : Program) (w : World) (K : PySem.W.Frag) (mg : Str → Option Value) (base : Heap) : Prop where
  coin : Cal P w K mg base 1 "_law_pv_coin" p_l_coin spCoin
  poly : Cal P w K mg base 2 "_law_pv_poly" p_l_poly spPoly
  any : Cal P w K mg base 3 "_law_pv_any_ratio" p_l_any_ratio spAny
  trim : Cal P w K mg base 1 "_law_pv_trim" p_l_trim (spTrim K)
  sum : Cal P w K mg base 2 "_law_pv_sum" p_l_sum (spTwo fun xs ys => trm (padd xs ys))
  prod : Cal P w K mg base 2 "_law_pv_product" p_l_product (spTwo fun xs ys => trm (pmul xs ys))
  at_ : Cal P w K mg base 4 "_law_pv_at" p_l_at spVal
  trimmed : Cal P w K mg base 2 "trimmed" p_trimmed (spTrim K)
  plus : Cal P w K mg base 4 "plus" p_plus (spTwo fun xs ys => trm (padd xs ys))
  times : Cal P w K mg base 4 "times" p_times (spTwo fun xs ys => trm (pmul xs ys))
  value : Cal P w K mg base 4 "value" p_value spVal
  trimmedK : CalK P w K mg base 2 "trimmed" p_trimmed ["numbers"] id (spTrim K)
  plusK : CalK P w K mg base 4 "plus" p_plus ["one", "other"] id (spTwo fun xs ys => trm (padd xs ys))
  plusS : CalK P w K mg base 4 "plus" p_plus ["other", "one"] swp (spTwo fun xs ys => trm (padd xs ys))
  timesK : CalK P w K mg base 4 "times" p_times ["one", "other"] id (spTwo fun xs ys => trm (pmul xs ys))
  valueK : CalK P w K mg base 4 "value" p_value ["one", "spot"] id spVal
  right : CalG P w K mg base 5 "_law_pv_right" p_l_right spR
theorem ok_checked {f : Addr} {fd : FuncData} (F : Fun K "_law_pv_checked" "_law_pv_checked" s_l_checked f fd) (T : T5 mg) (c : Calls P w K mg base) : FnG P w K mg base 6 f fd p_l_checked spChecked := by
  refine Fun.okG F sc_l_checked (fun vs H Q E h => ?_) (fun cdv A outer s H vs Q E hg hr h => ?_)
  · obtain ⟨p, m, rfl, _⟩ := h
    rfl
  · obtain ⟨p, m, rfl, hS, hm, k⟩ := h
    have nd := sc_l_checked.nd
    have r1 : Room 1 _ := hr.mono (by decide)
    have r2 : Room 2 _ := hr.mono (by decide)
    have r3 : Room 3 _ := hr.mono (by decide)
    have r4 : Room 4 _ := hr.mono (by decide)
    refine ⟨_, pss_cons (ps_par3 (i := 1) (j := 2) (l := 3) rfl nd rfl rfl rfl (by decide) (by decide) (by decide) rfl rfl rfl
        (pa_cons (pe_c c.poly r2 (pa_cons (pv 0) (pa_cons pe_int pa_nil))) (pa_cons (pe_c c.poly r2 (pa_cons (pv 0) (pa_cons pe_int pa_nil))) (pa_cons (pe_c c.any r3 (pa_cons (pv 0) pa_nil)) pa_nil))) (by rfl))
      (Evl.pss_cut (ps_if (pt_cmpR op_eq (pe_c c.coin r1 (pa_cons (pv 0) (pa_cons pe_int pa_nil))) pe_int (nomark _))
        (pss_one (ps_setLc (i := 2) (own := [("piece", 9)]) (g := gName 9) (tt := tYes) (te := tOp (rI0 fun i j => .int (i - j)) (tC (.int 0)) (tVar 9)) rfl nd rfl rfl (sw_true rfl rfl rfl (by decide +kernel))
          (pi_list (pv 1)) (blkOk_by (N := n_l_checked) (sc := defScope s_l_checked) (by decide +kernel)) (fun _ _ _ _ _ => pg_name (i := 9) nd rfl (Or.inl rfl)) (fun _ _ _ _ _ => pts_nil)
          (fun _ _ _ _ _ => pe_op op_sub pe_int (pv 9)))) pss_nil)
      (Evl.pss_cut (ps_if (pt_cmpR op_eq (pe_c c.coin r1 (pa_cons (pv 0) (pa_cons pe_int pa_nil))) pe_int (nomark _))
        (pss_cons (ps_set (i := 2) nd rfl (Or.inl rfl) (pe_op op_cat (pe_slice sl_list (pv 1) po_none (po_some (pe_c c.coin r1 (pa_cons (pv 0) (pa_cons pe_int pa_nil)))))
            (pe_lc (own := [("piece", 9)]) (g := gName 9) (tt := tYes) (te := tOp (rI0 fun i j => .int (i - j)) (tC (.int 0)) (tVar 9)) rfl nd
          (pi_list (pe_slice sl_list (pv 1) (po_some pe_int) po_none)) (blkOk_by (N := n_l_checked) (sc := defScope s_l_checked) (by decide +kernel)) (fun _ _ _ _ _ => pg_name (i := 9) nd rfl (Or.inl rfl)) (fun _ _ _ _ _ => pts_nil)
          (fun _ _ _ _ _ => pe_op op_sub pe_int (pv 9)))))
        (pss_one (ps_set (i := 2) nd rfl (Or.inl rfl) (pe_c c.trim r1 (pa_cons (pv 2) pa_nil))))) pss_nil)
      (pss_cons (ps_set (i := 4) nd rfl (Or.inl rfl) (pe_op op_cat (pe_slice sl_list (pv 1) po_none (po_some pe_int)) (pe_op op_rep (pe_lst (pa_cons pe_int pa_nil)) (pe_c c.coin r1 (pa_cons (pv 0) (pa_cons pe_int pa_nil))))))
      (pss_cons (ps_set (i := 5) nd rfl (Or.inl rfl) (pe_callB (call_show hg hr.units) (by rfl) T.rep (by decide +kernel) (pa_cons (pe_lst (pa_cons (pv 1) (pa_cons (pv 2) (pa_cons (pv 4) pa_nil)))) pa_nil)))
      (Evl.pss_cut (ps_for PassesOwn.never rfl (pi_range1 (by rfl) T.rng (pa_cons pe_int pa_nil)) (pg_name (i := 6) nd rfl (Or.inl rfl))
        (pss_cons (ps_set (i := 7) nd rfl (Or.inl rfl) (pe_lst (pa_cons (pe_c c.trimmed r2 (pa_cons (pv 4) pa_nil)) (pa_cons (pe_c c.plus r4 (pa_cons (pv 1) (pa_cons (pv 2) pa_nil))) (pa_cons (pe_c c.times r4 (pa_cons (pv 1) (pa_cons (pv 2) pa_nil))) (pa_cons (pe_c c.value r4 (pa_cons (pv 1) (pa_cons (pv 3) pa_nil))) (pa_cons (pe_c c.plus r4 (pa_cons (pv 2) (pa_cons (pv 1) pa_nil))) pa_nil)))))))
        (Evl.pss_cut (ps_if (pt_cmpR op_eq (pv 6) pe_int (nomark _))
          (pss_cons (ps_set (i := 7) nd rfl (Or.inl rfl) (pe_lst (pa_cons (pe_ck c.trimmedK r2 (pk_cons (pv 4) pk_nil)) (pa_cons (pe_ck c.plusK r4 (pk_cons (pv 1) (pk_cons (pv 2) pk_nil))) (pa_cons (pe_ck c.timesK r4 (pk_cons (pv 1) (pk_cons (pv 2) pk_nil))) pa_nil)))))
          (pss_one (ps_set (i := 7) nd rfl (Or.inl rfl) (pe_op op_cat (pv 7) (pe_lst (pa_cons (pe_ck c.valueK r4 (pk_cons (pv 1) (pk_cons (pv 3) pk_nil))) (pa_cons (pe_ck c.plusS r4 (pk_cons (pv 1) (pk_cons (pv 2) pk_nil))) pa_nil))))))) pss_nil)
        (pss_cons (ps_set (i := 8) nd rfl (Or.inl rfl) (pe_lst (pa_cons (pe_c c.trim r1 (pa_cons (pv 4) pa_nil)) (pa_cons (pe_c c.sum r2 (pa_cons (pv 1) (pa_cons (pv 2) pa_nil))) (pa_cons (pe_c c.prod r2 (pa_cons (pv 1) (pa_cons (pv 2) pa_nil))) pa_nil)))))
        (pss_cons (ps_set (i := 8) nd rfl (Or.inl rfl) (pe_op op_cat (pv 8) (pe_lst (pa_cons (pe_c c.at_ r4 (pa_cons (pv 1) (pa_cons (pv 3) pa_nil))) (pa_cons (pe_c c.sum r2 (pa_cons (pv 1) (pa_cons (pv 2) pa_nil))) pa_nil)))))
        (pss_one (ps_if (PW.pt (pw_or (pt_not (pt_val (pe_cg c.right hg hr (pa_cons (pv 7) (pa_cons (pv 8) pa_nil))))) (pw_or1 (pt_cmpR op_ne (pe_callB (call_show hg hr.units) (by rfl) T.rep (by decide +kernel) (pa_cons (pe_lst (pa_cons (pv 1) (pa_cons (pv 2) (pa_cons (pv 4) pa_nil)))) pa_nil)) (pv 5) (nomark _))))) (pss_one (ps_ret pe_bl)) pss_nil)))))))
      (pss_cons (ps_set (i := 1) nd rfl (Or.inl rfl) (pe_op op_cat (pe_slice sl_list (pv 1) po_none (po_some pe_int)) (pe_lst (pa_cons (pe_op op_sub (pe_c c.coin r1 (pa_cons (pv 0) (pa_cons pe_int pa_nil))) pe_int) (pa_cons pe_int pa_nil)))))
      (pss_cons (ps_if (pt_not (pt_val (pe_cg c.right hg hr (pa_cons (pe_lst (pa_cons (pe_c c.trimmed r2 (pa_cons (pv 1) pa_nil)) (pa_cons (pe_c c.plus r4 (pa_cons (pv 1) (pa_cons (pe_lst pa_nil) pa_nil))) (pa_cons (pe_c c.plus r4 (pa_cons (pe_lst pa_nil) (pa_cons (pv 1) pa_nil))) pa_nil))))
          (pa_cons (pe_lst (pa_cons (pv 1) (pa_cons (pv 1) (pa_cons (pv 1) pa_nil)))) pa_nil))))) (pss_one (ps_ret pe_bl)) pss_nil)
      (pss_one (ps_ret (pe_cg c.right hg hr (pa_cons (pe_lst (pa_cons (pe_c c.times r4 (pa_cons (pe_lst pa_nil) (pa_cons (pv 2) pa_nil))) (pa_cons (pe_c c.times r4 (pa_cons (pv 2) (pa_cons (pe_lst (pa_cons pe_int pa_nil)) pa_nil))) (pa_cons (pe_c c.value r4 (pa_cons (pe_lst pa_nil) (pa_cons (pv 3) pa_nil))) pa_nil))))
          (pa_cons (pe_lst (pa_cons (pe_lst pa_nil) (pa_cons (pv 2) (pa_cons (pe_tup (pa_cons pe_int (pa_cons pe_int pa_nil))) pa_nil)))) pa_nil)))))))))))), ?_⟩
    have one : 1 ≤ sizeLine := by show 1 ≤ sizeLine; decide
    have two : 2 ≤ sizeLine := by show 2 ≤ sizeLine; decide
    have three : 3 ≤ sizeLine := by show 3 ≤ sizeLine; decide
    refine ⟨_, rfl, p, m, rfl, hS, by omega, fun l ls H1 b1 s1 nl h1 p1 => ?_⟩
    refine ⟨_, rfl, p, m + 20, rfl, s1, by omega, fun r rs H2 b2 s2 nr h2 p2 => ?_⟩
    refine ⟨_, rfl, p, m + 40, rfl, s2, by omega, fun ra u d H3 b3 s3 nra h3 q3 => ⟨_, _, _, rfl, ?_⟩⟩
    have lp := sk_ne hS nl
    have rp := sk_ne s1 nr
    have rap := sk_ne s2 nra
    have M3 : Md H H3 p l ra ls u d (m + 44) := ⟨(b1.trans b2).trans b3, s3, b3 _ _ lp (b2 _ _ lp h1), lp, h3, rap⟩
    have R3 : Rt H3 p r rs := ⟨rp, b3 _ _ rp h2⟩
    clear b1 b2 b3 s1 s2 s3 h1 h2 h3 nl nr nra
    refine ⟨fun σ H' => ∃ r rs, σ = [some (.ref p), some (.ref l), some (.ref r), some (.ref ra), none, none, none, none, none, none] ∧ Md H H' p l ra ls u d (m + 45) ∧ Rt H' p r rs ∧ Sp6 rs, ?_, ?_⟩
    · refine ⟨_, rfl, p, 4, m + 44, rfl, M3.sk, by omega, by decide, by decide, fun x H4 x0 x1 b4 s4 z4 => ⟨rfl, _, rfl, ite2 (fun q => ?_) (fun q => ?_)⟩⟩
      · have M4 : Md H H4 p l ra ls u d (m + 45) := M3.go b4 s4
        refine ⟨_, rfl, l, rfl, ⟨_, SqL.of M4.li⟩, fun D hD => lc_list (xs := iV ls) (fun i H' => Evl.Ex H4 H' ∧ H' D = some (.lst (iV (neg (ls.take i))))) ⟨Evl.Ex.new hD, upd_same⟩ (fun i H' _ q => SqL.of (q.1 _ _ M4.li)) ?_ ?_⟩
        · rintro i x H' hi ⟨e1, h1⟩
          obtain ⟨n, hn, rfl⟩ := iV_get hi
          refine ⟨rfl, ?_⟩
          show tOp (rI0 fun i j => .int (i - j)) (tC (.int 0)) (tVar 9) _ _ _
          exact ⟨_, rfl, _, _, rfl, rfl, neg_turn hn p1.2.1 hD e1 h1⟩
        · rintro H' ⟨e1, h1⟩
          rw [iV_len, List.take_length] at h1
          exact ⟨D, neg ls, rfl, M4.ex e1, ⟨sk_ne M4.sk hD, h1⟩, sp6_neg p1⟩
      · exact ⟨r, rs, rfl, M3.go b4 s4, R3.go b4, p2⟩
    clear M3 R3 p2 rp
    rintro σ H5 ⟨r, rs, rfl, M5, R5, p2⟩
    refine ⟨fun σ H' => ∃ r rs, σ = [some (.ref p), some (.ref l), some (.ref r), some (.ref ra), none, none, none, none, none, none] ∧ Md H H' p l ra ls u d (m + 47) ∧ Rt H' p r rs ∧ Sp6 rs, ?_, ?_⟩
    · refine ⟨_, rfl, p, 4, m + 45, rfl, M5.sk, by omega, by decide, by decide, fun x H6 x0 x1 b6 s6 z6 => ⟨rfl, _, rfl, ite2 (fun q => ?_) (fun q => ?_)⟩⟩
      · have M6 : Md H H6 p l ra ls u d (m + 46) := M5.go b6 s6
        refine ⟨_, rfl, _, rfl, p, 3, m + 46, rfl, M6.sk, by omega, by decide, by decide, fun y H7 y0 y1 b7 s7 z7 => ?_⟩
        have M7 : Md H H7 p l ra ls u d (m + 47) := M6.go b7 s7
        obtain ⟨y, rfl⟩ : ∃ n : Nat, y = (n : Int) := ⟨y.toNat, by omega⟩
        refine ⟨_, rfl, l, _, rfl, SqL.of M7.li, fun a1 ha1 => ?_⟩
        rw [iV_pre]
        have e8 : Evl.Ex H7 (upd H7 a1 (.lst (iV (ls.take y)))) := Evl.Ex.new ha1
        refine ⟨_, rfl, _, rfl, l, _, rfl, SqL.of (e8 _ _ M7.li), fun a2 ha2 => ?_⟩
        rw [show cutV (iV ls) (some 2) none = iV (ls.drop 2) from iV_suf ls 2]
        have e9 := Evl.Ex.new (o := .lst (iV (ls.drop 2))) ha2
        refine ⟨a2, rfl, ⟨_, SqL.of upd_same⟩, fun D hD => lc_list (xs := iV (ls.drop 2)) (fun i H' => Evl.Ex (upd (upd H7 a1 (.lst (iV (ls.take y)))) a2 (.lst (iV (ls.drop 2)))) H' ∧ H' D = some (.lst (iV (neg ((ls.drop 2).take i))))) ⟨Evl.Ex.new hD, upd_same⟩ (fun i H' _ q => SqL.of (q.1 _ _ upd_same)) ?_ ?_⟩
        · rintro i x H' hi ⟨e1, h1⟩
          obtain ⟨n, hn, rfl⟩ := iV_get hi
          refine ⟨rfl, ?_⟩
          show tOp (rI0 fun i j => .int (i - j)) (tC (.int 0)) (tVar 9) _ _ _
          exact ⟨_, rfl, _, _, rfl, rfl, neg_turn hn (by have := p1.2.1; rw [List.length_drop]; omega) hD e1 h1⟩
        · rintro H' ⟨e1, h1⟩
          rw [iV_len, List.take_length] at h1
          have sm := sp6_mix p1 y (by omega)
          refine ⟨a1, D, _, _, rfl, rfl, e1 _ _ (e9 _ _ upd_same), h1, ?_, fun z hz => ?_⟩
          · rw [iV_len, iV_len]
            have := p1.2.1
            unfold neg
            rw [List.length_map, List.length_take, List.length_drop]
            exact Nat.le_trans (show min y ls.length + (ls.length - 2) ≤ 100 by omega) (by decide)
          have e10 := (e8.trans e9).trans e1
          have e11 := Evl.Ex.new (o := .lst (iV (ls.take y) ++ iV (neg (ls.drop 2)))) hz
          refine ⟨_, rfl, z, _, rfl, SqL.of (by rw [upd_same, iV_app]), ?_, fun t H12 ht e12 h12 => ?_⟩
          · have := p1.2.1
            unfold neg
            rw [List.length_append, List.length_map, List.length_take, List.length_drop]
            omega
          have e := (e10.trans e11).trans e12
          exact ⟨t, _, rfl, M7.ex e, ⟨sk_ne M7.sk (Evl.fresh_back (e10.trans e11) ht), h12⟩, sm⟩
      · exact ⟨r, rs, rfl, (M5.go b6 s6).le (by omega), R5.go b6, p2⟩
    clear M5 R5 p2
    rintro σ H6 ⟨r, rs, rfl, M6, R6, p2⟩
    refine ⟨_, rfl, _, rfl, l, _, rfl, SqL.of M6.li, fun a1 ha1 => ?_⟩
    rw [show cutV (iV ls) none (some 5) = iV (ls.take 5) from iV_pre ls 5]
    have e1 := Evl.Ex.new (o := .lst (iV (ls.take 5))) ha1
    refine ⟨one, fun a2 ha2 => ?_⟩
    have e2 := Evl.Ex.new (o := .lst [.int 0]) ha2
    have M7 := M6.ex (e1.trans e2)
    refine ⟨_, rfl, p, 4, m + 47, rfl, M7.sk, by omega, by decide, by decide, fun y H8 y0 y1 b8 s8 z8 => ?_⟩
    have M8 : Md H H8 p l ra ls u d (m + 48) := M7.go b8 s8
    have R8 := (R6.ex (e1.trans e2)).go b8
    obtain ⟨y, rfl⟩ : ∃ n : Nat, y = (n : Int) := ⟨y.toNat, by omega⟩
    have n1 : a1 ≠ p := sk_ne M6.sk ha1
    have n2 : a2 ≠ p := sk_ne (M6.ex e1).sk ha2
    refine ⟨a2, _, _, rfl, rfl, b8 _ _ n2 upd_same, by omega, by omega, ?_, fun a3 ha3 => ?_⟩
    · rw [Int.toNat_natCast]
      show 1 * y ≤ sizeLine
      exact Nat.le_trans (show 1 * y ≤ 100 by omega) (by decide)
    rw [Int.toNat_natCast, rep_flat, ← iV_rep]
    have e3 := Evl.Ex.new (o := .lst (iV (List.replicate y 0))) ha3
    refine ⟨a1, a3, _, _, rfl, rfl, e3 _ _ (b8 _ _ n1 (e2 _ _ upd_same)), upd_same, ?_, fun s hs => ?_⟩
    · rw [iV_len, iV_len, List.length_replicate]
      have := len6 ls 5 (by decide)
      exact Nat.le_trans (show (ls.take 5).length + y ≤ 100 by omega) (by decide)
    rw [iV_app]
    have so := lok_some p1 (y := y) (by omega)
    generalize hss : ls.take 5 ++ List.replicate y 0 = ss at so
    have e4 := Evl.Ex.new (o := .lst (iV ss)) hs
    have M9 := M8.ex (e3.trans e4)
    have R9 := R8.ex (e3.trans e4)
    have sp : s ≠ p := sk_ne (M8.ex e3).sk hs
    have S9 : Li (upd (upd H8 a3 (.lst (iV (List.replicate y 0)))) s (.lst (iV ss))) s ss := upd_same
    generalize hH9 : upd (upd H8 a3 (.lst (iV (List.replicate y 0)))) s (.lst (iV ss)) = H9 at M9 R9 S9
    clear e4 e3 e2 e1
    refine ⟨_, rfl, _, rfl, _, rfl, three, fun q hq => ?_⟩
    obtain ⟨g1, g2, g3, g4, g5⟩ := show_go (K := K) hq M9.li R9.li S9 p1.lok p2.lok so
    refine ⟨q, _, rfl, g1, g2, g3, g4, g5, ?_⟩
    clear g1 g2 g3 g4 g5
    have e5 := Evl.Ex.new (o := .lst [.ref l, .ref r, .ref s]) hq
    have M := M9.ex e5
    have R := R9.ex e5
    have S : Li _ s ss := e5 _ _ S9
    generalize hHk : upd H9 q (.lst [.ref l, .ref r, .ref s]) = Hk at M R S
    generalize hkp : (treeD [(true, l, ls), (true, r, rs), (true, s, ss)]).shown = kp
    clear e5 M9 R9 S9
    refine ⟨fun σ H' => ∃ v6 v7 v8, σ = [some (.ref p), some (.ref l), some (.ref r), some (.ref ra), some (.ref s), some (.str kp), v6, v7, v8, none] ∧ Evl.Ex Hk H', ?_, ?_⟩
    · refine ⟨2, rfl, by decide, by decide, for_range (n := 2) (fun i σ H' => ∃ v6 v7 v8, σ = [some (.ref p), some (.ref l), some (.ref r), some (.ref ra), some (.ref s), some (.str kp), v6, v7, v8, none] ∧ Evl.Ex Hk H') ⟨none, none, none, rfl, Evl.Ex.refl _⟩ ?_ (fun σ H' h => h)⟩
      rintro i σ H1 hi ⟨v6, v7, v8, rfl, e1⟩
      have ll : Li H1 l ls := e1 _ _ M.li
      have lr : Li H1 r rs := e1 _ _ R.li
      have lf : Fr H1 ra u d := e1 _ _ M.fr
      have lS : Li H1 s ss := e1 _ _ S
      have n1 := p1.pn
      have n2 := p2.pn
      have sl : ss.length ≤ 1000 := Nat.le_trans so.1 (by decide)
      have hok : ∀ x ∈ [(true, trm ss), (true, trm (padd ls rs)), (true, trm (pmul ls rs)), (false, vl u d ls), (true, trm (padd rs ls))], (x.1 = true ∧ Lok x.2) ∨ (x.1 = false ∧ x.2.length ≤ 2 ∧ ∀ y ∈ x.2, y.natAbs < 2 ^ 1000) :=
        all5 (.inl ⟨rfl, trm_lok so⟩) (.inl ⟨rfl, padd_lok p1 p2⟩) (.inl ⟨rfl, pmul_lok p1 p2⟩) (.inr ⟨rfl, vl_ok n1 q3⟩) (.inl ⟨rfl, padd_lok p2 p1⟩)
      show tSeq (tAsg (tLst _) (gName 7)) _ _ _ _
      refine sa5 (Hs := H1) (Evl.Ex.refl _) (ei_trim rfl lS sl) (ei_two rfl rfl ll lr n1 n2) (ei_two rfl rfl ll lr n1 n2) (ei_val rfl rfl ll lf n1 q3) (ei_two rfl rfl lr ll n2 n1) fun q its H2 Tq e2 hs => ?_
      refine ⟨fun σ H' => ∃ q its, σ = [some (.ref p), some (.ref l), some (.ref r), some (.ref ra), some (.ref s), some (.str kp), some (.int (0 + (i : Int))), some (.ref q), v8, none] ∧ Tr H1 H' q its ∧ its.map sh = [(true, trm ss), (true, trm (padd ls rs)), (true, trm (pmul ls rs)), (false, vl u d ls), (true, trm (padd rs ls))], ?_, ?_⟩
      · refine ⟨_, rfl, rfl, _, rfl, ite2 (fun c1 => ?_) (fun c1 => ⟨q, its, rfl, Tq, hs⟩)⟩
        show tSeq (tAsg (tLst _) (gName 7)) _ _ _ _
        refine sa3 (Hs := H1) e2 (ei_trimK rfl lS sl) (ei_twoK rfl rfl ll lr n1 n2) (ei_twoK rfl rfl ll lr n1 n2) fun q2 jts H3 T2 e3 hs2 => ?_
        show tAsg (tOp rCat (tVar 7) (tLst _)) (gName 7) _ _ _
        refine lc2 rfl T2 (by rw [sh_len hs2]; simp) (ei_valK rfl rfl ll lf n1 q3) (ei_twoS rfl rfl ll lr n1 n2) fun q4 kts H4 T4 e4 hs4 => ⟨q4, _, rfl, T4, ?_⟩
        rw [List.map_append, hs2, hs4]
        rfl
      clear Tq hs e2 q its H2
      rintro σ H2 ⟨q, its, rfl, Tq, hs⟩
      have e2 := Tq.b.1
      have ll2 := e2 _ _ ll
      have lr2 := e2 _ _ lr
      have lf2 := e2 _ _ lf
      have lS2 := e2 _ _ lS
      show tSeq (tAsg (tLst _) (gName 8)) _ _ _ _
      refine sa3 (Hs := H2) (Evl.Ex.refl _) (ei_trim rfl lS2 sl) (ei_two rfl rfl ll2 lr2 n1 n2) (ei_two rfl rfl ll2 lr2 n1 n2) fun q2 jts H3 T2 e3 hs2 => ?_
      show tSeq (tAsg (tOp rCat (tVar 8) (tLst _)) (gName 8)) _ _ _ _
      refine sc2 rfl T2 (by rw [sh_len hs2]; simp) (ei_val rfl rfl ll2 lf2 n1 q3) (ei_two rfl rfl ll2 lr2 n1 n2) fun q4 kts H4 T4 e4 hs4 => ?_
      have hsh : its.map sh = (jts ++ kts).map sh := by
        rw [List.map_append, hs2, hs4, hs, padd_comm rs ls]
        rfl
      have hf : H2 q4 = none := T4.nq
      have hit := sh_ok hs hok
      have h5l : its.length ≤ 5 := by rw [sh_len hs]; simp
      refine ⟨_, rfl, _, rfl, ?_⟩
      obtain ⟨k1, k2, k3, k4, k5, k6, k7, k8⟩ := right_pre Tq (e3.trans e4) hf (fun j (hj : j ∈ jts ++ kts) => .inl (T4.b.2.1 j hj).2) h5l hit
      refine ⟨q, q4, its, jts ++ kts, rfl, k1, k2, T4.tree, hsh, k3, k4, k5, k6, k7, k8, fun H5 o5 => ?_⟩
      have e5 := Tq.back (e3.trans e4) o5
      clear k1 k2 k3 k4 k5 k6 k7 k8
      refine ⟨true, rfl, if_f rfl ?_⟩
      refine ⟨_, rfl, _, rfl, _, rfl, three, fun z hz => ?_⟩
      obtain ⟨g1, g2, g3, g4, g5⟩ := show_go (K := K) hz (e5 _ _ ll) (e5 _ _ lr) (e5 _ _ lS) p1.lok p2.lok so
      refine ⟨z, _, rfl, g1, g2, g3, g4, g5, _, rfl, rfl, _, rfl, if_f ?_ ⟨_, _, _, rfl, (e1.trans e5).trans (Evl.Ex.new hz)⟩⟩
      rw [hkp]
      simp
    rintro σ H6 ⟨v6, v7, v8, rfl, e6⟩
    have M10 := M.ex e6
    have R10 := R.ex e6
    clear M R S hkp
    refine ⟨_, rfl, _, rfl, l, _, rfl, SqL.of M10.li, fun a1 ha1 => ?_⟩
    rw [show cutV (iV ls) none (some 6) = iV (ls.take 6) from iV_pre ls 6]
    have e1 := Evl.Ex.new (o := .lst (iV (ls.take 6))) ha1
    have M11 := M10.ex e1
    have R11 := R10.ex e1
    refine ⟨_, rfl, p, 5, m + 48, rfl, M11.sk, by omega, by decide, by decide, fun y H7 y0 y1 b7 s7 z7 => ?_⟩
    have M12 : Md H H7 p l ra ls u d (m + 49) := M11.go b7 s7
    have R12 := R11.go b7
    refine ⟨_, _, rfl, rfl, two, fun a2 ha2 => ?_⟩
    have e2 := Evl.Ex.new (o := .lst [.int (y - 2), .int 1]) ha2
    refine ⟨a1, a2, _, _, rfl, rfl, e2 _ _ (b7 _ _ (sk_ne M10.sk ha1) upd_same), upd_same, ?_, fun a3 ha3 => ?_⟩
    · rw [iV_len]
      have := len6 ls 6 (by decide)
      exact Nat.le_trans (show (ls.take 6).length + 2 ≤ 100 by omega) (by decide)
    rw [show iV (ls.take 6) ++ [V.int (y - 2), V.int 1] = iV (ls.take 6 ++ [y - 2, 1]) from iV_app (ls.take 6) [y - 2, 1]]
    have x1 := sp6_ext p1 y0 y1
    generalize hxs : ls.take 6 ++ [y - 2, 1] = xs at x1
    have e3 := Evl.Ex.new (o := .lst (iV xs)) ha3
    have M13 := M12.ex (e2.trans e3)
    have R13 := R12.ex (e2.trans e3)
    have X13 : Li (upd (upd H7 a2 (.lst [.int (y - 2), .int 1])) a3 (.lst (iV xs))) a3 xs := upd_same
    generalize hH8 : upd (upd H7 a2 (.lst [.int (y - 2), .int 1])) a3 (.lst (iV xs)) = H8 at M13 R13 X13
    clear e1 e2 e3
    have n1 := x1.pn
    have n2 := p2.pn
    have t1 : trm xs = xs := trm_pol x1.1
    have t2 : trm rs = rs := trm_pol p2.1
    have sl : xs.length ≤ 1000 := Nat.le_trans x1.2.1 (by decide)
    have B0 : Built H8 H8 [] := Built.none_ (Evl.Ex.refl _)
    refine ⟨_, rfl, a3, xs, rfl, SqL.of X13, sl, fun g1 H9 ng1 e9 h9 => ?_⟩
    have B1 := B0.snoc (i := (true, g1, trm xs)) ng1 e9 h9
    refine ⟨_, rfl, Nat.zero_le _, fun z hz => ⟨a3, z, xs, [], rfl, (B1.1.trans (Evl.Ex.new hz)) _ _ X13, upd_same, n1, pn_nil, fun g2 H10 ng2 e10 h10 => ?_⟩⟩
    have B2 := (B1.ext (Evl.Ex.new hz)).snoc (i := (true, g2, trm (padd xs []))) ng2 e10 h10
    clear e9 e10 h9 h10 ng1 ng2
    refine ⟨Nat.zero_le _, fun z2 hz2 => ⟨_, rfl, z2, a3, [], xs, rfl, upd_same, (B2.1.trans (Evl.Ex.new hz2)) _ _ X13, pn_nil, n1, fun g3 H11 ng3 e11 h11 => ?_⟩⟩
    have B3 := (B2.ext (Evl.Ex.new hz2)).snoc (i := (true, g3, trm (padd [] xs))) ng3 e11 h11
    clear e11 h11 ng3 hz hz2
    rw [padd_nil, nil_padd, t1] at B3
    refine ⟨three, fun q5 hq5 => ?_⟩
    have Tq : Tr H8 (upd H11 q5 (.lst (refs [(true, g1, xs), (true, g2, xs), (true, g3, xs)]))) q5 [(true, g1, xs), (true, g2, xs), (true, g3, xs)] := ⟨B3.ext (Evl.Ex.new hq5), upd_same, Evl.fresh_back B3.1 hq5, B3.ne hq5⟩
    refine ⟨_, rfl, _, rfl, _, rfl, three, fun d5 hd5 => ?_⟩
    have e12 := Evl.Ex.new (o := .lst [.ref a3, .ref a3, .ref a3]) hd5
    have X14 := (Tq.b.1.trans e12) _ _ X13
    obtain ⟨k1, k2, k3, k4, k5, k6, k7, k8⟩ := right_pre (jts := [(true, a3, xs), (true, a3, xs), (true, a3, xs)]) Tq e12 hd5 (all3 (.inr ⟨_, X13⟩) (.inr ⟨_, X13⟩) (.inr ⟨_, X13⟩)) (by simp) (all3 (.inl ⟨rfl, x1.lok⟩) (.inl ⟨rfl, x1.lok⟩) (.inl ⟨rfl, x1.lok⟩))
    refine ⟨q5, d5, _, [(true, a3, xs), (true, a3, xs), (true, a3, xs)], rfl, k1, k2, ⟨upd_same, all3 X14 X14 X14⟩, rfl, k3, k4, k5, k6, k7, k8, fun H12 o12 => ?_⟩
    have e13 := Tq.back e12 o12
    clear k1 k2 k3 k4 k5 k6 k7 k8 Tq B0 B1 B2 B3 X14 e12 o12
    have M15 := M13.ex e13
    have R15 := R13.ex e13
    clear M13 R13 e13
    refine ⟨true, rfl, if_f rfl ?_⟩
    have B0 : Built H12 H12 [] := Built.none_ (Evl.Ex.refl _)
    refine ⟨Nat.zero_le _, fun z hz => ⟨_, rfl, z, r, [], rs, rfl, upd_same, Evl.Ex.new hz _ _ R15.li, pn_nil, n2, fun g4 H13 ng4 e14 h14 => ?_⟩⟩
    have B1 := (B0.ext (Evl.Ex.new hz)).snoc (i := (true, g4, trm (pmul [] rs))) ng4 e14 h14
    clear e14 h14 ng4
    refine ⟨_, rfl, one, fun z2 hz2 => ⟨r, z2, rs, [1], rfl, (B1.1.trans (Evl.Ex.new hz2)) _ _ R15.li, upd_same, n2, pn_one, fun g5 H14 ng5 e15 h15 => ?_⟩⟩
    have B2 := (B1.ext (Evl.Ex.new hz2)).snoc (i := (true, g5, trm (pmul rs [1]))) ng5 e15 h15
    clear e15 h15 ng5
    refine ⟨Nat.zero_le _, fun z3 hz3 => ⟨_, rfl, z3, ra, [], u, d, rfl, upd_same, (B2.1.trans (Evl.Ex.new hz3)) _ _ M15.fr, pn_nil, q3, fun g6 H15 ng6 e16 h16 => ?_⟩⟩
    have B3 := (B2.ext (Evl.Ex.new hz3)).snoc (i := (false, g6, vl u d [])) ng6 e16 h16
    clear e16 h16 ng6 hz hz2 hz3
    rw [show trm (pmul [] rs) = [] from nil_pmul rs, pmul_one, t2, vl_nil] at B3
    refine ⟨three, fun q6 hq6 => ?_⟩
    have Tq : Tr H12 (upd H15 q6 (.lst (refs [(true, g4, []), (true, g5, rs), (false, g6, [0, 1])]))) q6 [(true, g4, []), (true, g5, rs), (false, g6, [0, 1])] := ⟨B3.ext (Evl.Ex.new hq6), upd_same, Evl.fresh_back B3.1 hq6, B3.ne hq6⟩
    generalize hHf : upd H15 q6 (.lst (refs [(true, g4, []), (true, g5, rs), (false, g6, [0, 1])])) = Hf at Tq
    have hHf2 : upd H15 q6 (.lst [.ref g4, .ref g5, .ref g6]) = Hf := hHf
    rw [hHf2]
    refine ⟨Nat.zero_le _, fun z hz => ⟨_, rfl, two, fun t ht => ⟨three, fun d6 hd6 => ?_⟩⟩⟩
    have ez : Evl.Ex Hf (upd Hf z (.lst [])) := Evl.Ex.new hz
    have et := Evl.Ex.new (o := .tup [.int 0, .int 1]) ht
    have ed := Evl.Ex.new (o := .lst [.ref z, .ref r, .ref t]) hd6
    have htf : Hf t = none := Evl.fresh_back ez ht
    have hdf : Hf d6 = none := Evl.fresh_back (ez.trans et) hd6
    have X16 : Li _ r rs := (((Tq.b.1.trans ez).trans et).trans ed) _ _ R15.li
    obtain ⟨k1, k2, k3, k4, k5, k6, k7, k8⟩ := right_pre (jts := [(true, z, []), (true, r, rs), (false, t, [0, 1])]) Tq ((ez.trans et).trans ed) hdf (all3 (.inl hz) (.inr ⟨_, R15.li⟩) (.inl htf)) (by simp) (all3 (.inl ⟨rfl, Nat.zero_le _, (by intro x hx; cases hx)⟩) (.inl ⟨rfl, p2.lok⟩) (.inr ⟨rfl, Nat.le_refl 2, all2 (P := fun x : Int => x.natAbs < 2 ^ 1000) (by decide) (by decide)⟩))
    refine ⟨q6, d6, _, [(true, z, []), (true, r, rs), (false, t, [0, 1])], rfl, k1, k2, ⟨upd_same, all3 ((et.trans ed) _ _ upd_same) X16 (ed _ _ upd_same)⟩, rfl, k3, k4, k5, k6, k7, k8, fun H16 o16 => ?_⟩
    have e17 := Tq.back ((ez.trans et).trans ed) o16
    have M17 := M15.ex e17
    exact k H16 M17.but (M17.sk.le (by omega))
end
end V2


namespace V2
open PySem L2
open PySem.Spec PyProof.Rows
theorem sq_ex_but {K : PySem.W.Frag} {H H1 H2 : Hp} {a q : Addr} {xs : List V} (h : SqL K H a xs) (hq : H q = none) (e : Evl.Ex H H1) (b : But q H1 H2) : SqL K H2 a xs := by
  rcases h with h | h
  · left
    have go : ∀ o, H a = some o → H2 a = some o := fun o ho => b a o (ne_of_none ho hq) (e a o ho)
    rcases h with h | ⟨o, h⟩
    · exact .inl (go _ h)
    · exact .inr ⟨o, go _ h⟩
  · exact .inr h
def spLaw (K : PySem.W.Frag) : Sp := fun vs H Q _ => ∃ (a : Addr) (ns : List Int), vs = [.ref a] ∧ SqL K H a (iV ns) ∧ ns.length ≤ 63 ∧ ∀ H', Q (.bl true) H'
structure T6 (mg : Str → Option Value) : Prop where
  rng : mg "range" = none
  len : mg "len" = none
  max : mg "max" = none
  min : mg "min" = none
section
variable {base : Heap} {mg : Str → Option Value} {K : PySem.W.Frag} {w : World} {P : Program}
theorem ok_law {f : Addr} {fd : FuncData} (F : Fun K "law" "law" s_law f fd) (T : T6 mg) (cS : Cal P w K mg base 1 "_law_pv_sack" p_l_sack (spSack K)) (cK : CalG P w K mg base 6 "_law_pv_checked" p_l_checked spChecked) : FnG P w K mg base 7 f fd p_law (spLaw K) := by
  refine Fun.okG F sc_law (fun vs H Q E h => ?_) (fun cdv A outer s H vs Q E hg hr h => ?_)
  · obtain ⟨a, ns, rfl, _⟩ := h
    rfl
  · obtain ⟨a, ns, rfl, hS, hl, k⟩ := h
    have nd := sc_law.nd
    have r1 : Room 1 _ := hr.mono (by decide)
    refine ⟨_, pss_cons (ps_for PassesOwn.never rfl (pi_range1 (by rfl) T.rng (pa_cons (pe_callB (call_max2 rfl) (by rfl) T.max (by decide +kernel) (pa_cons pe_int (pa_cons (pe_callB (call_min2 rfl) (by rfl) T.min (by decide +kernel) (pa_cons pe_int (pa_cons (pe_callB call_len_seq (by rfl) T.len PySem.boot_len (pa_cons (pv 0) pa_nil)) pa_nil))) pa_nil))) pa_nil)) (pg_name (i := 1) nd rfl (Or.inl rfl))
        (pss_cons (ps_set (i := 2) nd rfl (Or.inl rfl) (pe_c cS r1 (pa_cons (pv 0) (pa_cons (pv 1) pa_nil))))
        (pss_one (ps_for PassesOwn.never rfl (pi_range1 (by rfl) T.rng (pa_cons pe_int pa_nil)) (pg_name (i := 3) nd rfl (Or.inl rfl))
          (pss_one (ps_if (pt_not (pt_val (pe_cg cK hg hr (pa_cons (pv 2) pa_nil)))) (pss_one (ps_ret pe_bl)) pss_nil))))))
      (pss_one (ps_ret pe_bl)), ?_⟩
    refine ⟨_, rfl, a, _, rfl, .inl hS, _, _, rfl, _, _, rfl, _, rfl, ?_, ?_, ?_⟩
    · split <;> split <;> omega
    · split <;> split <;> omega
    have hb : (if (if ((iV ns).length : Int) < 6 then ((iV ns).length : Int) else 6) > 1 then (if ((iV ns).length : Int) < 6 then ((iV ns).length : Int) else 6) else 1 : Int) ≤ 6 := by split <;> split <;> omega
    generalize (if (if ((iV ns).length : Int) < 6 then ((iV ns).length : Int) else 6) > 1 then (if ((iV ns).length : Int) < 6 then ((iV ns).length : Int) else 6) else 1 : Int) = n at hb
    refine for_range (n := n.toNat) (fun i σ H' => ∃ v1 v2 v3, σ = [some (.ref a), v1, v2, v3] ∧ SqL K H' a (iV ns)) ⟨none, none, none, rfl, hS⟩ ?_ ?_
    · rintro i σ H1 hi ⟨v1, v2, v3, rfl, hS1⟩
      refine ⟨_, rfl, _, rfl, a, ns, i, ?_, hS1, hl, by omega, fun q H2 hq e2 h2 => ?_⟩
      · rw [Int.zero_add]
        rfl
      refine ⟨2, rfl, by decide, by decide, for_range (n := 2) (fun j σ H' => ∃ v3, σ = [some (.ref a), some (.int (0 + (i : Int))), some (.ref q), v3] ∧ But q H2 H' ∧ Sk H' q (j * 100)) ⟨v3, rfl, But.refl _ _, h2⟩ ?_ ?_⟩
      · rintro j σ H3 hj ⟨v3, rfl, b3, s3⟩
        refine ⟨_, rfl, q, j * 100, rfl, s3, by omega, fun H4 b4 s4 => ⟨true, rfl, if_f rfl ⟨_, rfl, b3.trans b4, ?_⟩⟩⟩
        rw [Nat.succ_mul]
        exact s4
      · rintro σ H3 ⟨v3, rfl, b3, s3⟩
        exact ⟨_, _, _, rfl, sq_ex_but hS1 hq e2 b3⟩
    · rintro σ H1 ⟨v1, v2, v3, rfl, hS1⟩
      exact k H1
end
end V2


namespace V2
open PySem L2
open PySem.Spec PyProof.Rows
/-! ## what the top has left -/
def Lay (K : PySem.W.Frag) (mg : Str → Option Value) (x : Str) (st : Stmt) (ps : List Str) : Prop := ∃ (f : Addr) (fd : FuncData), Fun K x x st f fd ∧ mg x = some (.ref f) ∧ PySem.W.keepIn K (.ref f) = true ∧ Binds K fd ps []
theorem lay_mk {K : PySem.W.Frag} {h : Heap} {mg : Str → Option Value} {x : Str} {st : Stmt} {ps : List Str} {f : Addr} {od an : Option Addr} {sl : Array (Option Value)} {oc kV dc pm cd ct : Value} (X : K.In h) (G : h.Ns mainGlobals mg)
    (a : PySem.W.nsIn K mainGlobals x = some (some (.ref f))) (l : K.lookup f = some ⟨oc, od, .func (PySem.W.fnOf x x (defArgs st) (defBody st) (defScope st) .none kV dc pm an cd ct), sl⟩) (c : PySem.W.codeIn K cd x = true) (k : PySem.W.keepIn K (.ref f) = true)
    (hb : ∀ (kV doc pm : Value) (an : Option Addr) (cdv ct : Value) (us : List Value), us.length = ps.length → bindArgs (PySem.W.fnOf x x (defArgs st) (defBody st) (defScope st) .none kV doc pm an cdv ct) ⟨us, []⟩ = pure (ps.zip us)) : Lay K mg x st ps :=
  ⟨f, _, fun_mk l c k, PySem.W.mg_of X G a, k, Fun.binds (fun_mk l c k) hb⟩
def swU : List Value → List Value
  | [a, b] => [b, a]
  | z => z
theorem swp_rel : ∀ {zs : List V} {ws : List Value}, Vals zs ws → Vals (swp zs) (swU ws)
  | _, _, .nil => .nil
  | _, _, .cons a .nil => .cons a .nil
  | _, _, .cons a (.cons b .nil) => .cons b (.cons a .nil)
  | _, _, .cons a (.cons b (.cons c r)) => .cons a (.cons b (.cons c r))
section
variable {base : Heap} {mg : Str → Option Value} {K : PySem.W.Frag} {w : World} {P : Program}
theorem kb_trimmed {f : Addr} {fd : FuncData} (F : Fun K "trimmed" "trimmed" s_trimmed f fd) : KBn K fd p_trimmed 0 ["numbers"] (fun _ ws => ws) (fun _ zs => id zs) := by
  obtain ⟨ow, oe, kw, dc, pn, am, cdv, cu, sl, rfl, lk, hcd⟩ := F.ex
  exact ⟨fun s us ws X l1 l2 => match us, ws, l1, l2 with | [], [_], _, _ => .of_eq rfl, fun _ r => r⟩
theorem kb_plus {f : Addr} {fd : FuncData} (F : Fun K "plus" "plus" s_plus f fd) : KBn K fd p_plus 0 ["one", "other"] (fun _ ws => ws) (fun _ zs => id zs) := by
  obtain ⟨ow, oe, kw, dc, pn, am, cdv, cu, sl, rfl, lk, hcd⟩ := F.ex
  exact ⟨fun s us ws X l1 l2 => match us, ws, l1, l2 with | [], [_, _], _, _ => .of_eq rfl, fun _ r => r⟩
theorem kb_times {f : Addr} {fd : FuncData} (F : Fun K "times" "times" s_times f fd) : KBn K fd p_times 0 ["one", "other"] (fun _ ws => ws) (fun _ zs => id zs) := by
  obtain ⟨ow, oe, kw, dc, pn, am, cdv, cu, sl, rfl, lk, hcd⟩ := F.ex
  exact ⟨fun s us ws X l1 l2 => match us, ws, l1, l2 with | [], [_, _], _, _ => .of_eq rfl, fun _ r => r⟩
theorem kb_value {f : Addr} {fd : FuncData} (F : Fun K "value" "value" s_value f fd) : KBn K fd p_value 0 ["one", "spot"] (fun _ ws => ws) (fun _ zs => id zs) := by
  obtain ⟨ow, oe, kw, dc, pn, am, cdv, cu, sl, rfl, lk, hcd⟩ := F.ex
  exact ⟨fun s us ws X l1 l2 => match us, ws, l1, l2 with | [], [_, _], _, _ => .of_eq rfl, fun _ r => r⟩
theorem kb_plusS {f : Addr} {fd : FuncData} (F : Fun K "plus" "plus" s_plus f fd) : KBn K fd p_plus 0 ["other", "one"] (fun _ ws => swU ws) (fun _ zs => swp zs) := by
  obtain ⟨ow, oe, kw, dc, pn, am, cdv, cu, sl, rfl, lk, hcd⟩ := F.ex
  exact ⟨fun s us ws X l1 l2 => match us, ws, l1, l2 with | [], [_, _], _, _ => .of_eq rfl, fun _ r => swp_rel r⟩
theorem Lay.cal {x : Str} {st : Stmt} {ps : List Str} {k : Nat} {sp : Sp} (L : Lay K mg x st ps) (h : ∀ f fd, Fun K x x st f fd → FnOk P w K mg base CX0 k f fd ps sp) : Cal P w K mg base k x ps sp := by
  obtain ⟨f, fd, F, m, kp, b⟩ := L
  exact ⟨f, fd, h f fd F, m, kp, b⟩
theorem Lay.calG {x : Str} {st : Stmt} {ps : List Str} {k : Nat} {sp : Sp} (L : Lay K mg x st ps) (h : ∀ f fd, Fun K x x st f fd → FnG P w K mg base k f fd ps sp) : CalG P w K mg base k x ps sp := by
  obtain ⟨f, fd, F, m, kp, b⟩ := L
  exact ⟨f, fd, h f fd F, m, kp, b⟩
theorem Lay.calK {x : Str} {st : Stmt} {ps ks : List Str} {k : Nat} {sp : Sp} {g : List Value → List Value → List Value} {gV : List V → List V} (L : Lay K mg x st ps) (h : ∀ f fd, Fun K x x st f fd → FnOk P w K mg base CX0 k f fd ps sp) (hb : ∀ f fd, Fun K x x st f fd → KBn K fd ps 0 ks g (fun _ zs => gV zs)) : CalK P w K mg base k x ps ks gV sp := by
  obtain ⟨f, fd, F, m, kp, b⟩ := L
  exact ⟨f, fd, g, h f fd F, m, kp, hb f fd F⟩
structure Top (K : PySem.W.Frag) (mg : Str → Option Value) : Prop where
  gx_ : Lay K mg "fraction" s_fraction p_fraction
  cu_ : Lay K mg "cut" s_cut p_cut
  ad_ : Lay K mg "added" s_added p_added
  mu_ : Lay K mg "multiplied" s_multiplied p_multiplied
  sv_ : Lay K mg "scaled_value" s_scaled_value p_scaled_value
  va_ : Lay K mg "value_at" s_value_at p_value_at
  ii_ : Lay K mg "is_integer" s_is_integer p_is_integer
  if_ : Lay K mg "is_fraction" s_is_fraction p_is_fraction
  ip_ : Lay K mg "is_polynomial" s_is_polynomial p_is_polynomial
  cp_ : Lay K mg "check_polynomials" s_check_polynomials p_check_polynomials
  cf_ : Lay K mg "check_fraction" s_check_fraction p_check_fraction
  tr_ : Lay K mg "trimmed" s_trimmed p_trimmed
  pl_ : Lay K mg "plus" s_plus p_plus
  ti_ : Lay K mg "times" s_times p_times
  vl_ : Lay K mg "value" s_value p_value
  l_sack_ : Lay K mg "_law_pv_sack" s_l_sack p_l_sack
  l_coin_ : Lay K mg "_law_pv_coin" s_l_coin p_l_coin
  l_shared_ : Lay K mg "_law_pv_shared" s_l_shared p_l_shared
  l_ratio_ : Lay K mg "_law_pv_ratio" s_l_ratio p_l_ratio
  l_add_ : Lay K mg "_law_pv_add" s_l_add p_l_add
  l_mul_ : Lay K mg "_law_pv_mul" s_l_mul p_l_mul
  l_trim_ : Lay K mg "_law_pv_trim" s_l_trim p_l_trim
  l_sum_ : Lay K mg "_law_pv_sum" s_l_sum p_l_sum
  l_product_ : Lay K mg "_law_pv_product" s_l_product p_l_product
  l_at_ : Lay K mg "_law_pv_at" s_l_at p_l_at
  l_poly_ : Lay K mg "_law_pv_poly" s_l_poly p_l_poly
  l_any_ratio_ : Lay K mg "_law_pv_any_ratio" s_l_any_ratio p_l_any_ratio
  l_copied_ : Lay K mg "_law_pv_copied" s_l_copied p_l_copied
  l_lists_ : Lay K mg "_law_pv_lists" s_l_lists p_l_lists
  l_marked_ : Lay K mg "_law_pv_marked" s_l_marked p_l_marked
  l_right_ : Lay K mg "_law_pv_right" s_l_right p_l_right
  l_checked_ : Lay K mg "_law_pv_checked" s_l_checked p_l_checked
  z_len : mg "len" = none
  z_max : mg "max" = none
  z_abs : mg "abs" = none
  z_int : mg "int" = none
  z_range : mg "range" = none
  z_list : mg "list" = none
  z_enumerate : mg "enumerate" = none
  z_isinstance : mg "isinstance" = none
  z_bool : mg "bool" = none
  z_tuple : mg "tuple" = none
  z_all : mg "all" = none
  z_repr : mg "repr" = none
  z_min : mg "min" = none
  z_gcd : mg "gcd" = some (.builtin "math.gcd")
theorem whole (T : Top K mg) {f : Addr} {fd : FuncData} (F : Fun K "law" "law" s_law f fd) : FnG P w K mg base 7 f fd p_law (spLaw K) := by
  have t0 : T0 mg := ⟨T.z_len, T.z_max, T.z_abs, T.z_int⟩
  obtain ⟨fS, _, _, mS, _, _⟩ := id T.l_shared_
  obtain ⟨fR, _, _, mR, _, _⟩ := id T.l_ratio_
  have t1 : T1 mg fS fR := { toT0 := t0, rng := T.z_range, lst := T.z_list, gS := mS, gR := mR }
  have t2 : T2 mg := ⟨T.z_len, T.z_max, T.z_range, T.z_enumerate⟩
  have t3 : T3 mg := ⟨T.z_isinstance, T.z_int, T.z_bool, T.z_list, T.z_tuple, T.z_len, T.z_all, T.z_gcd⟩
  have t4 : T4 mg := ⟨T.z_isinstance, T.z_list, T.z_tuple, T.z_len, T.z_range, T.z_repr⟩
  have coin : Cal P w K mg base 1 "_law_pv_coin" p_l_coin spCoin := T.l_coin_.cal fun f fd F => ok_coin F t0
  have sack : Cal P w K mg base 1 "_law_pv_sack" p_l_sack (spSack K) := T.l_sack_.cal fun f fd F => ok_sack F t0
  have shared : Cal P w K mg base 1 "_law_pv_shared" p_l_shared spShared := T.l_shared_.cal fun f fd F => ok_shared F t1
  have ratio : Cal P w K mg base 2 "_law_pv_ratio" p_l_ratio spRatio := T.l_ratio_.cal fun f fd F => ok_ratio F t0 shared
  have add : Cal P w K mg base 3 "_law_pv_add" p_l_add spAdd := T.l_add_.cal fun f fd F => ok_add F ratio
  have mul : Cal P w K mg base 3 "_law_pv_mul" p_l_mul spMul := T.l_mul_.cal fun f fd F => ok_mul F ratio
  have trim : Cal P w K mg base 1 "_law_pv_trim" p_l_trim (spTrim K) := T.l_trim_.cal fun f fd F => ok_trim F t1
  have sum : Cal P w K mg base 2 "_law_pv_sum" p_l_sum (spTwo fun xs ys => trm (padd xs ys)) := T.l_sum_.cal fun f fd F => ok_sum F t2 trim
  have prod : Cal P w K mg base 2 "_law_pv_product" p_l_product (spTwo fun xs ys => trm (pmul xs ys)) := T.l_product_.cal fun f fd F => ok_product F t2 trim
  have at_ : Cal P w K mg base 4 "_law_pv_at" p_l_at spVal := T.l_at_.cal fun f fd F => ok_at F add mul
  have poly : Cal P w K mg base 2 "_law_pv_poly" p_l_poly spPoly := T.l_poly_.cal fun f fd F => ok_poly F T.z_range coin
  have any : Cal P w K mg base 3 "_law_pv_any_ratio" p_l_any_ratio spAny := T.l_any_ratio_.cal fun f fd F => ok_any F coin ratio
  have fraction : Cal P w K mg base 1 "fraction" p_fraction spRatio := T.gx_.cal fun f fd F => ok_fraction F T.z_gcd
  have cut : Cal P w K mg base 1 "cut" p_cut (spTrim K) := T.cu_.cal fun f fd F => ok_cut F T.z_len
  have added : Cal P w K mg base 2 "added" p_added (spTwo fun xs ys => trm (padd xs ys)) := T.ad_.cal fun f fd F => ok_added F t2 cut
  have multiplied : Cal P w K mg base 1 "multiplied" p_multiplied (spTwo fun xs ys => trm (pmul xs ys)) := T.mu_.cal fun f fd F => ok_multiplied F t2
  have scaled : Cal P w K mg base 1 "scaled_value" p_scaled_value spScaled := T.sv_.cal fun f fd F => ok_scaled F t2
  have value_at : Cal P w K mg base 2 "value_at" p_value_at spVal := T.va_.cal fun f fd F => ok_value_at F scaled fraction
  have isint : Cal P w K mg base 1 "is_integer" p_is_integer spInt := T.ii_.cal fun f fd F => ok_is_integer F t3
  have isfr : Cal P w K mg base 2 "is_fraction" p_is_fraction spIsFr := T.if_.cal fun f fd F => ok_is_fraction F t3 isint
  have ispol : Cal P w K mg base 2 "is_polynomial" p_is_polynomial spPol := T.ip_.cal fun f fd F => ok_is_polynomial F t3 isint
  have chk : Cal P w K mg base 3 "check_polynomials" p_check_polynomials spChk := T.cp_.cal fun f fd F => ok_check_polynomials F ispol
  have chf : Cal P w K mg base 3 "check_fraction" p_check_fraction spChkFr := T.cf_.cal fun f fd F => ok_check_fraction F isfr
  have lists0 : Cal P w K mg base 1 "_law_pv_lists" p_l_lists spL0 := T.l_lists_.cal fun f fd F => ok_lists0 F t4
  have lists1 : Cal P w K mg base 2 "_law_pv_lists" p_l_lists spL1 := T.l_lists_.cal fun f fd F => ok_lists1 F t4 lists0
  have lists2 : Cal P w K mg base 3 "_law_pv_lists" p_l_lists spL2 := T.l_lists_.cal fun f fd F => ok_lists2 F t4 lists1
  have cop0 : Cal P w K mg base 1 "_law_pv_copied" p_l_copied spC0 := T.l_copied_.cal fun f fd F => ok_copied0 F t4
  have cop1 : Cal P w K mg base 2 "_law_pv_copied" p_l_copied spC1 := T.l_copied_.cal fun f fd F => ok_copied1 F t4 cop0
  have cop2 : Cal P w K mg base 3 "_law_pv_copied" p_l_copied spC2 := T.l_copied_.cal fun f fd F => ok_copied2 F t4 cop1
  have marked : CalG P w K mg base 4 "_law_pv_marked" p_l_marked spM := T.l_marked_.calG fun f fd F => ok_marked F t4 lists2
  have right : CalG P w K mg base 5 "_law_pv_right" p_l_right spR := T.l_right_.calG fun f fd F => ok_right F t4 cop2 marked
  have c : Calls P w K mg base := {
    coin := coin, poly := poly, any := any, trim := trim, sum := sum, prod := prod, at_ := at_, right := right
    trimmed := T.tr_.cal fun f fd F => ok_trimmed F cut
    plus := T.pl_.cal fun f fd F => ok_plus F chk added
    times := T.ti_.cal fun f fd F => ok_times F chk multiplied
    value := T.vl_.cal fun f fd F => ok_value F chk chf value_at
    trimmedK := T.tr_.calK (fun f fd F => ok_trimmed F cut) fun f fd F => kb_trimmed F
    plusK := T.pl_.calK (fun f fd F => ok_plus F chk added) fun f fd F => kb_plus F
    plusS := T.pl_.calK (fun f fd F => ok_plus F chk added) fun f fd F => kb_plusS F
    timesK := T.ti_.calK (fun f fd F => ok_times F chk multiplied) fun f fd F => kb_times F
    valueK := T.vl_.calK (fun f fd F => ok_value F chk chf value_at) fun f fd F => kb_value F }
  have checked : CalG P w K mg base 6 "_law_pv_checked" p_l_checked spChecked := T.l_checked_.calG fun f fd F => ok_checked F ⟨T.z_range, T.z_repr⟩ c
  exact ok_law F ⟨T.z_range, T.z_len, T.z_max, T.z_min⟩ sack checked
end
end V2


namespace V2
open PySem L2
open PySem.Spec PyProof.Rows
theorem all_mk {l : PySem.W.OpenLaw} {w : World} {K : PySem.W.Frag} {h : Heap} {mg : Str → Option Value} {fa f_gx f_cu f_ad f_mu f_sv f_va f_ii f_if f_ip f_cp f_cf f_tr f_pl f_ti f_vl f_l_sack f_l_coin f_l_shared f_l_ratio f_l_add f_l_mul f_l_trim f_l_sum f_l_product f_l_at f_l_poly f_l_any_ratio f_l_copied f_l_lists f_l_marked f_l_right f_l_checked f_lw : Addr}
    {od_gx an_gx od_cu an_cu od_ad an_ad od_mu an_mu od_sv an_sv od_va an_va od_ii an_ii od_if an_if od_ip an_ip od_cp an_cp od_cf an_cf od_tr an_tr od_pl an_pl od_ti an_ti od_vl an_vl od_l_sack an_l_sack od_l_coin an_l_coin od_l_shared an_l_shared od_l_ratio an_l_ratio od_l_add an_l_add od_l_mul an_l_mul od_l_trim an_l_trim od_l_sum an_l_sum od_l_product an_l_product od_l_at an_l_at od_l_poly an_l_poly od_l_any_ratio an_l_any_ratio od_l_copied an_l_copied od_l_lists an_l_lists od_l_marked an_l_marked od_l_right an_l_right od_l_checked an_l_checked od_lw an_lw : Option Addr} {sl_gx sl_cu sl_ad sl_mu sl_sv sl_va sl_ii sl_if sl_ip sl_cp sl_cf sl_tr sl_pl sl_ti sl_vl sl_l_sack sl_l_coin sl_l_shared sl_l_ratio sl_l_add sl_l_mul sl_l_trim sl_l_sum sl_l_product sl_l_at sl_l_poly sl_l_any_ratio sl_l_copied sl_l_lists sl_l_marked sl_l_right sl_l_checked sl_lw : Array (Option Value)} {oc_gx kV_gx dc_gx pm_gx cd_gx ct_gx oc_cu kV_cu dc_cu pm_cu cd_cu ct_cu oc_ad kV_ad dc_ad pm_ad cd_ad ct_ad oc_mu kV_mu dc_mu pm_mu cd_mu ct_mu oc_sv kV_sv dc_sv pm_sv cd_sv ct_sv oc_va kV_va dc_va pm_va cd_va ct_va oc_ii kV_ii dc_ii pm_ii cd_ii ct_ii oc_if kV_if dc_if pm_if cd_if ct_if oc_ip kV_ip dc_ip pm_ip cd_ip ct_ip oc_cp kV_cp dc_cp pm_cp cd_cp ct_cp oc_cf kV_cf dc_cf pm_cf cd_cf ct_cf oc_tr kV_tr dc_tr pm_tr cd_tr ct_tr oc_pl kV_pl dc_pl pm_pl cd_pl ct_pl oc_ti kV_ti dc_ti pm_ti cd_ti ct_ti oc_vl kV_vl dc_vl pm_vl cd_vl ct_vl oc_l_sack kV_l_sack dc_l_sack pm_l_sack cd_l_sack ct_l_sack oc_l_coin kV_l_coin dc_l_coin pm_l_coin cd_l_coin ct_l_coin oc_l_shared kV_l_shared dc_l_shared pm_l_shared cd_l_shared ct_l_shared oc_l_ratio kV_l_ratio dc_l_ratio pm_l_ratio cd_l_ratio ct_l_ratio oc_l_add kV_l_add dc_l_add pm_l_add cd_l_add ct_l_add oc_l_mul kV_l_mul dc_l_mul pm_l_mul cd_l_mul ct_l_mul oc_l_trim kV_l_trim dc_l_trim pm_l_trim cd_l_trim ct_l_trim oc_l_sum kV_l_sum dc_l_sum pm_l_sum cd_l_sum ct_l_sum oc_l_product kV_l_product dc_l_product pm_l_product cd_l_product ct_l_product oc_l_at kV_l_at dc_l_at pm_l_at cd_l_at ct_l_at oc_l_poly kV_l_poly dc_l_poly pm_l_poly cd_l_poly ct_l_poly oc_l_any_ratio kV_l_any_ratio dc_l_any_ratio pm_l_any_ratio cd_l_any_ratio ct_l_any_ratio oc_l_copied kV_l_copied dc_l_copied pm_l_copied cd_l_copied ct_l_copied oc_l_lists kV_l_lists dc_l_lists pm_l_lists cd_l_lists ct_l_lists oc_l_marked kV_l_marked dc_l_marked pm_l_marked cd_l_marked ct_l_marked oc_l_right kV_l_right dc_l_right pm_l_right cd_l_right ct_l_right oc_l_checked kV_l_checked dc_l_checked pm_l_checked cd_l_checked ct_l_checked oc_lw kV_lw dc_lw pm_lw cd_lw ct_lw : Value}
    (X : K.In h) (G : h.Ns mainGlobals mg) (hfa : mg "law" = some (.ref fa))
    (a_gx : PySem.W.nsIn K mainGlobals "fraction" = some (some (.ref f_gx))) (l_gx : K.lookup f_gx = some ⟨oc_gx, od_gx, .func (PySem.W.fnOf "fraction" "fraction" (defArgs s_fraction) (defBody s_fraction) (defScope s_fraction) .none kV_gx dc_gx pm_gx an_gx cd_gx ct_gx), sl_gx⟩) (c_gx : PySem.W.codeIn K cd_gx "fraction" = true) (k_gx : PySem.W.keepIn K (.ref f_gx) = true)
    (a_cu : PySem.W.nsIn K mainGlobals "cut" = some (some (.ref f_cu))) (l_cu : K.lookup f_cu = some ⟨oc_cu, od_cu, .func (PySem.W.fnOf "cut" "cut" (defArgs s_cut) (defBody s_cut) (defScope s_cut) .none kV_cu dc_cu pm_cu an_cu cd_cu ct_cu), sl_cu⟩) (c_cu : PySem.W.codeIn K cd_cu "cut" = true) (k_cu : PySem.W.keepIn K (.ref f_cu) = true)
    (a_ad : PySem.W.nsIn K mainGlobals "added" = some (some (.ref f_ad))) (l_ad : K.lookup f_ad = some ⟨oc_ad, od_ad, .func (PySem.W.fnOf "added" "added" (defArgs s_added) (defBody s_added) (defScope s_added) .none kV_ad dc_ad pm_ad an_ad cd_ad ct_ad), sl_ad⟩) (c_ad : PySem.W.codeIn K cd_ad "added" = true) (k_ad : PySem.W.keepIn K (.ref f_ad) = true)
    (a_mu : PySem.W.nsIn K mainGlobals "multiplied" = some (some (.ref f_mu))) (l_mu : K.lookup f_mu = some ⟨oc_mu, od_mu, .func (PySem.W.fnOf "multiplied" "multiplied" (defArgs s_multiplied) (defBody s_multiplied) (defScope s_multiplied) .none kV_mu dc_mu pm_mu an_mu cd_mu ct_mu), sl_mu⟩) (c_mu : PySem.W.codeIn K cd_mu "multiplied" = true) (k_mu : PySem.W.keepIn K (.ref f_mu) = true)
    (a_sv : PySem.W.nsIn K mainGlobals "scaled_value" = some (some (.ref f_sv))) (l_sv : K.lookup f_sv = some ⟨oc_sv, od_sv, .func (PySem.W.fnOf "scaled_value" "scaled_value" (defArgs s_scaled_value) (defBody s_scaled_value) (defScope s_scaled_value) .none kV_sv dc_sv pm_sv an_sv cd_sv ct_sv), sl_sv⟩) (c_sv : PySem.W.codeIn K cd_sv "scaled_value" = true) (k_sv : PySem.W.keepIn K (.ref f_sv) = true)
    (a_va : PySem.W.nsIn K mainGlobals "value_at" = some (some (.ref f_va))) (l_va : K.lookup f_va = some ⟨oc_va, od_va, .func (PySem.W.fnOf "value_at" "value_at" (defArgs s_value_at) (defBody s_value_at) (defScope s_value_at) .none kV_va dc_va pm_va an_va cd_va ct_va), sl_va⟩) (c_va : PySem.W.codeIn K cd_va "value_at" = true) (k_va : PySem.W.keepIn K (.ref f_va) = true)
    (a_ii : PySem.W.nsIn K mainGlobals "is_integer" = some (some (.ref f_ii))) (l_ii : K.lookup f_ii = some ⟨oc_ii, od_ii, .func (PySem.W.fnOf "is_integer" "is_integer" (defArgs s_is_integer) (defBody s_is_integer) (defScope s_is_integer) .none kV_ii dc_ii pm_ii an_ii cd_ii ct_ii), sl_ii⟩) (c_ii : PySem.W.codeIn K cd_ii "is_integer" = true) (k_ii : PySem.W.keepIn K (.ref f_ii) = true)
    (a_if : PySem.W.nsIn K mainGlobals "is_fraction" = some (some (.ref f_if))) (l_if : K.lookup f_if = some ⟨oc_if, od_if, .func (PySem.W.fnOf "is_fraction" "is_fraction" (defArgs s_is_fraction) (defBody s_is_fraction) (defScope s_is_fraction) .none kV_if dc_if pm_if an_if cd_if ct_if), sl_if⟩) (c_if : PySem.W.codeIn K cd_if "is_fraction" = true) (k_if : PySem.W.keepIn K (.ref f_if) = true)
    (a_ip : PySem.W.nsIn K mainGlobals "is_polynomial" = some (some (.ref f_ip))) (l_ip : K.lookup f_ip = some ⟨oc_ip, od_ip, .func (PySem.W.fnOf "is_polynomial" "is_polynomial" (defArgs s_is_polynomial) (defBody s_is_polynomial) (defScope s_is_polynomial) .none kV_ip dc_ip pm_ip an_ip cd_ip ct_ip), sl_ip⟩) (c_ip : PySem.W.codeIn K cd_ip "is_polynomial" = true) (k_ip : PySem.W.keepIn K (.ref f_ip) = true)
    (a_cp : PySem.W.nsIn K mainGlobals "check_polynomials" = some (some (.ref f_cp))) (l_cp : K.lookup f_cp = some ⟨oc_cp, od_cp, .func (PySem.W.fnOf "check_polynomials" "check_polynomials" (defArgs s_check_polynomials) (defBody s_check_polynomials) (defScope s_check_polynomials) .none kV_cp dc_cp pm_cp an_cp cd_cp ct_cp), sl_cp⟩) (c_cp : PySem.W.codeIn K cd_cp "check_polynomials" = true) (k_cp : PySem.W.keepIn K (.ref f_cp) = true)
    (a_cf : PySem.W.nsIn K mainGlobals "check_fraction" = some (some (.ref f_cf))) (l_cf : K.lookup f_cf = some ⟨oc_cf, od_cf, .func (PySem.W.fnOf "check_fraction" "check_fraction" (defArgs s_check_fraction) (defBody s_check_fraction) (defScope s_check_fraction) .none kV_cf dc_cf pm_cf an_cf cd_cf ct_cf), sl_cf⟩) (c_cf : PySem.W.codeIn K cd_cf "check_fraction" = true) (k_cf : PySem.W.keepIn K (.ref f_cf) = true)
    (a_tr : PySem.W.nsIn K mainGlobals "trimmed" = some (some (.ref f_tr))) (l_tr : K.lookup f_tr = some ⟨oc_tr, od_tr, .func (PySem.W.fnOf "trimmed" "trimmed" (defArgs s_trimmed) (defBody s_trimmed) (defScope s_trimmed) .none kV_tr dc_tr pm_tr an_tr cd_tr ct_tr), sl_tr⟩) (c_tr : PySem.W.codeIn K cd_tr "trimmed" = true) (k_tr : PySem.W.keepIn K (.ref f_tr) = true)
    (a_pl : PySem.W.nsIn K mainGlobals "plus" = some (some (.ref f_pl))) (l_pl : K.lookup f_pl = some ⟨oc_pl, od_pl, .func (PySem.W.fnOf "plus" "plus" (defArgs s_plus) (defBody s_plus) (defScope s_plus) .none kV_pl dc_pl pm_pl an_pl cd_pl ct_pl), sl_pl⟩) (c_pl : PySem.W.codeIn K cd_pl "plus" = true) (k_pl : PySem.W.keepIn K (.ref f_pl) = true)
    (a_ti : PySem.W.nsIn K mainGlobals "times" = some (some (.ref f_ti))) (l_ti : K.lookup f_ti = some ⟨oc_ti, od_ti, .func (PySem.W.fnOf "times" "times" (defArgs s_times) (defBody s_times) (defScope s_times) .none kV_ti dc_ti pm_ti an_ti cd_ti ct_ti), sl_ti⟩) (c_ti : PySem.W.codeIn K cd_ti "times" = true) (k_ti : PySem.W.keepIn K (.ref f_ti) = true)
    (a_vl : PySem.W.nsIn K mainGlobals "value" = some (some (.ref f_vl))) (l_vl : K.lookup f_vl = some ⟨oc_vl, od_vl, .func (PySem.W.fnOf "value" "value" (defArgs s_value) (defBody s_value) (defScope s_value) .none kV_vl dc_vl pm_vl an_vl cd_vl ct_vl), sl_vl⟩) (c_vl : PySem.W.codeIn K cd_vl "value" = true) (k_vl : PySem.W.keepIn K (.ref f_vl) = true)
    (a_l_sack : PySem.W.nsIn K mainGlobals "_law_pv_sack" = some (some (.ref f_l_sack))) (l_l_sack : K.lookup f_l_sack = some ⟨oc_l_sack, od_l_sack, .func (PySem.W.fnOf "_law_pv_sack" "_law_pv_sack" (defArgs s_l_sack) (defBody s_l_sack) (defScope s_l_sack) .none kV_l_sack dc_l_sack pm_l_sack an_l_sack cd_l_sack ct_l_sack), sl_l_sack⟩) (c_l_sack : PySem.W.codeIn K cd_l_sack "_law_pv_sack" = true) (k_l_sack : PySem.W.keepIn K (.ref f_l_sack) = true)
    (a_l_coin : PySem.W.nsIn K mainGlobals "_law_pv_coin" = some (some (.ref f_l_coin))) (l_l_coin : K.lookup f_l_coin = some ⟨oc_l_coin, od_l_coin, .func (PySem.W.fnOf "_law_pv_coin" "_law_pv_coin" (defArgs s_l_coin) (defBody s_l_coin) (defScope s_l_coin) .none kV_l_coin dc_l_coin pm_l_coin an_l_coin cd_l_coin ct_l_coin), sl_l_coin⟩) (c_l_coin : PySem.W.codeIn K cd_l_coin "_law_pv_coin" = true) (k_l_coin : PySem.W.keepIn K (.ref f_l_coin) = true)
    (a_l_shared : PySem.W.nsIn K mainGlobals "_law_pv_shared" = some (some (.ref f_l_shared))) (l_l_shared : K.lookup f_l_shared = some ⟨oc_l_shared, od_l_shared, .func (PySem.W.fnOf "_law_pv_shared" "_law_pv_shared" (defArgs s_l_shared) (defBody s_l_shared) (defScope s_l_shared) .none kV_l_shared dc_l_shared pm_l_shared an_l_shared cd_l_shared ct_l_shared), sl_l_shared⟩) (c_l_shared : PySem.W.codeIn K cd_l_shared "_law_pv_shared" = true) (k_l_shared : PySem.W.keepIn K (.ref f_l_shared) = true)
    (a_l_ratio : PySem.W.nsIn K mainGlobals "_law_pv_ratio" = some (some (.ref f_l_ratio))) (l_l_ratio : K.lookup f_l_ratio = some ⟨oc_l_ratio, od_l_ratio, .func (PySem.W.fnOf "_law_pv_ratio" "_law_pv_ratio" (defArgs s_l_ratio) (defBody s_l_ratio) (defScope s_l_ratio) .none kV_l_ratio dc_l_ratio pm_l_ratio an_l_ratio cd_l_ratio ct_l_ratio), sl_l_ratio⟩) (c_l_ratio : PySem.W.codeIn K cd_l_ratio "_law_pv_ratio" = true) (k_l_ratio : PySem.W.keepIn K (.ref f_l_ratio) = true)
    (a_l_add : PySem.W.nsIn K mainGlobals "_law_pv_add" = some (some (.ref f_l_add))) (l_l_add : K.lookup f_l_add = some ⟨oc_l_add, od_l_add, .func (PySem.W.fnOf "_law_pv_add" "_law_pv_add" (defArgs s_l_add) (defBody s_l_add) (defScope s_l_add) .none kV_l_add dc_l_add pm_l_add an_l_add cd_l_add ct_l_add), sl_l_add⟩) (c_l_add : PySem.W.codeIn K cd_l_add "_law_pv_add" = true) (k_l_add : PySem.W.keepIn K (.ref f_l_add) = true)
    (a_l_mul : PySem.W.nsIn K mainGlobals "_law_pv_mul" = some (some (.ref f_l_mul))) (l_l_mul : K.lookup f_l_mul = some ⟨oc_l_mul, od_l_mul, .func (PySem.W.fnOf "_law_pv_mul" "_law_pv_mul" (defArgs s_l_mul) (defBody s_l_mul) (defScope s_l_mul) .none kV_l_mul dc_l_mul pm_l_mul an_l_mul cd_l_mul ct_l_mul), sl_l_mul⟩) (c_l_mul : PySem.W.codeIn K cd_l_mul "_law_pv_mul" = true) (k_l_mul : PySem.W.keepIn K (.ref f_l_mul) = true)
    (a_l_trim : PySem.W.nsIn K mainGlobals "_law_pv_trim" = some (some (.ref f_l_trim))) (l_l_trim : K.lookup f_l_trim = some ⟨oc_l_trim, od_l_trim, .func (PySem.W.fnOf "_law_pv_trim" "_law_pv_trim" (defArgs s_l_trim) (defBody s_l_trim) (defScope s_l_trim) .none kV_l_trim dc_l_trim pm_l_trim an_l_trim cd_l_trim ct_l_trim), sl_l_trim⟩) (c_l_trim : PySem.W.codeIn K cd_l_trim "_law_pv_trim" = true) (k_l_trim : PySem.W.keepIn K (.ref f_l_trim) = true)
    (a_l_sum : PySem.W.nsIn K mainGlobals "_law_pv_sum" = some (some (.ref f_l_sum))) (l_l_sum : K.lookup f_l_sum = some ⟨oc_l_sum, od_l_sum, .func (PySem.W.fnOf "_law_pv_sum" "_law_pv_sum" (defArgs s_l_sum) (defBody s_l_sum) (defScope s_l_sum) .none kV_l_sum dc_l_sum pm_l_sum an_l_sum cd_l_sum ct_l_sum), sl_l_sum⟩) (c_l_sum : PySem.W.codeIn K cd_l_sum "_law_pv_sum" = true) (k_l_sum : PySem.W.keepIn K (.ref f_l_sum) = true)
    (a_l_product : PySem.W.nsIn K mainGlobals "_law_pv_product" = some (some (.ref f_l_product))) (l_l_product : K.lookup f_l_product = some ⟨oc_l_product, od_l_product, .func (PySem.W.fnOf "_law_pv_product" "_law_pv_product" (defArgs s_l_product) (defBody s_l_product) (defScope s_l_product) .none kV_l_product dc_l_product pm_l_product an_l_product cd_l_product ct_l_product), sl_l_product⟩) (c_l_product : PySem.W.codeIn K cd_l_product "_law_pv_product" = true) (k_l_product : PySem.W.keepIn K (.ref f_l_product) = true)
    (a_l_at : PySem.W.nsIn K mainGlobals "_law_pv_at" = some (some (.ref f_l_at))) (l_l_at : K.lookup f_l_at = some ⟨oc_l_at, od_l_at, .func (PySem.W.fnOf "_law_pv_at" "_law_pv_at" (defArgs s_l_at) (defBody s_l_at) (defScope s_l_at) .none kV_l_at dc_l_at pm_l_at an_l_at cd_l_at ct_l_at), sl_l_at⟩) (c_l_at : PySem.W.codeIn K cd_l_at "_law_pv_at" = true) (k_l_at : PySem.W.keepIn K (.ref f_l_at) = true)
    (a_l_poly : PySem.W.nsIn K mainGlobals "_law_pv_poly" = some (some (.ref f_l_poly))) (l_l_poly : K.lookup f_l_poly = some ⟨oc_l_poly, od_l_poly, .func (PySem.W.fnOf "_law_pv_poly" "_law_pv_poly" (defArgs s_l_poly) (defBody s_l_poly) (defScope s_l_poly) .none kV_l_poly dc_l_poly pm_l_poly an_l_poly cd_l_poly ct_l_poly), sl_l_poly⟩) (c_l_poly : PySem.W.codeIn K cd_l_poly "_law_pv_poly" = true) (k_l_poly : PySem.W.keepIn K (.ref f_l_poly) = true)
    (a_l_any_ratio : PySem.W.nsIn K mainGlobals "_law_pv_any_ratio" = some (some (.ref f_l_any_ratio))) (l_l_any_ratio : K.lookup f_l_any_ratio = some ⟨oc_l_any_ratio, od_l_any_ratio, .func (PySem.W.fnOf "_law_pv_any_ratio" "_law_pv_any_ratio" (defArgs s_l_any_ratio) (defBody s_l_any_ratio) (defScope s_l_any_ratio) .none kV_l_any_ratio dc_l_any_ratio pm_l_any_ratio an_l_any_ratio cd_l_any_ratio ct_l_any_ratio), sl_l_any_ratio⟩) (c_l_any_ratio : PySem.W.codeIn K cd_l_any_ratio "_law_pv_any_ratio" = true) (k_l_any_ratio : PySem.W.keepIn K (.ref f_l_any_ratio) = true)
    (a_l_copied : PySem.W.nsIn K mainGlobals "_law_pv_copied" = some (some (.ref f_l_copied))) (l_l_copied : K.lookup f_l_copied = some ⟨oc_l_copied, od_l_copied, .func (PySem.W.fnOf "_law_pv_copied" "_law_pv_copied" (defArgs s_l_copied) (defBody s_l_copied) (defScope s_l_copied) .none kV_l_copied dc_l_copied pm_l_copied an_l_copied cd_l_copied ct_l_copied), sl_l_copied⟩) (c_l_copied : PySem.W.codeIn K cd_l_copied "_law_pv_copied" = true) (k_l_copied : PySem.W.keepIn K (.ref f_l_copied) = true)
    (a_l_lists : PySem.W.nsIn K mainGlobals "_law_pv_lists" = some (some (.ref f_l_lists))) (l_l_lists : K.lookup f_l_lists = some ⟨oc_l_lists, od_l_lists, .func (PySem.W.fnOf "_law_pv_lists" "_law_pv_lists" (defArgs s_l_lists) (defBody s_l_lists) (defScope s_l_lists) .none kV_l_lists dc_l_lists pm_l_lists an_l_lists cd_l_lists ct_l_lists), sl_l_lists⟩) (c_l_lists : PySem.W.codeIn K cd_l_lists "_law_pv_lists" = true) (k_l_lists : PySem.W.keepIn K (.ref f_l_lists) = true)
    (a_l_marked : PySem.W.nsIn K mainGlobals "_law_pv_marked" = some (some (.ref f_l_marked))) (l_l_marked : K.lookup f_l_marked = some ⟨oc_l_marked, od_l_marked, .func (PySem.W.fnOf "_law_pv_marked" "_law_pv_marked" (defArgs s_l_marked) (defBody s_l_marked) (defScope s_l_marked) .none kV_l_marked dc_l_marked pm_l_marked an_l_marked cd_l_marked ct_l_marked), sl_l_marked⟩) (c_l_marked : PySem.W.codeIn K cd_l_marked "_law_pv_marked" = true) (k_l_marked : PySem.W.keepIn K (.ref f_l_marked) = true)
    (a_l_right : PySem.W.nsIn K mainGlobals "_law_pv_right" = some (some (.ref f_l_right))) (l_l_right : K.lookup f_l_right = some ⟨oc_l_right, od_l_right, .func (PySem.W.fnOf "_law_pv_right" "_law_pv_right" (defArgs s_l_right) (defBody s_l_right) (defScope s_l_right) .none kV_l_right dc_l_right pm_l_right an_l_right cd_l_right ct_l_right), sl_l_right⟩) (c_l_right : PySem.W.codeIn K cd_l_right "_law_pv_right" = true) (k_l_right : PySem.W.keepIn K (.ref f_l_right) = true)
    (a_l_checked : PySem.W.nsIn K mainGlobals "_law_pv_checked" = some (some (.ref f_l_checked))) (l_l_checked : K.lookup f_l_checked = some ⟨oc_l_checked, od_l_checked, .func (PySem.W.fnOf "_law_pv_checked" "_law_pv_checked" (defArgs s_l_checked) (defBody s_l_checked) (defScope s_l_checked) .none kV_l_checked dc_l_checked pm_l_checked an_l_checked cd_l_checked ct_l_checked), sl_l_checked⟩) (c_l_checked : PySem.W.codeIn K cd_l_checked "_law_pv_checked" = true) (k_l_checked : PySem.W.keepIn K (.ref f_l_checked) = true)
    (a_lw : PySem.W.nsIn K mainGlobals "law" = some (some (.ref f_lw))) (l_lw : K.lookup f_lw = some ⟨oc_lw, od_lw, .func (PySem.W.fnOf "law" "law" (defArgs s_law) (defBody s_law) (defScope s_law) .none kV_lw dc_lw pm_lw an_lw cd_lw ct_lw), sl_lw⟩) (c_lw : PySem.W.codeIn K cd_lw "law" = true) (k_lw : PySem.W.keepIn K (.ref f_lw) = true)
    (z_len : PySem.W.nsIn K mainGlobals "len" = some none)
    (z_max : PySem.W.nsIn K mainGlobals "max" = some none)
    (z_abs : PySem.W.nsIn K mainGlobals "abs" = some none)
    (z_int : PySem.W.nsIn K mainGlobals "int" = some none)
    (z_range : PySem.W.nsIn K mainGlobals "range" = some none)
    (z_list : PySem.W.nsIn K mainGlobals "list" = some none)
    (z_enumerate : PySem.W.nsIn K mainGlobals "enumerate" = some none)
    (z_isinstance : PySem.W.nsIn K mainGlobals "isinstance" = some none)
    (z_bool : PySem.W.nsIn K mainGlobals "bool" = some none)
    (z_tuple : PySem.W.nsIn K mainGlobals "tuple" = some none)
    (z_all : PySem.W.nsIn K mainGlobals "all" = some none)
    (z_repr : PySem.W.nsIn K mainGlobals "repr" = some none)
    (z_min : PySem.W.nsIn K mainGlobals "min" = some none)
    (z_gcd : PySem.W.nsIn K mainGlobals "gcd" = some (some (.builtin "math.gcd"))) :
    ∃ fd : FuncData, (∀ (s : Shared) (v : Value), BindsTo s fd ⟨[v], []⟩ [("script", v)]) ∧ ∀ base : Heap, K.In base → base.Ns mainGlobals mg → FnG l.prog w K mg base 7 fa fd ["script"] (spLaw K) := by
  have e := hfa.symm.trans (PySem.W.mg_of X G a_lw)
  cases e
  have T : Top K mg := {
    gx_ := lay_mk X G a_gx l_gx c_gx k_gx fun _ _ _ _ _ _ us hl => match us, hl with | [_, _], _ => rfl
    cu_ := lay_mk X G a_cu l_cu c_cu k_cu fun _ _ _ _ _ _ us hl => match us, hl with | [_], _ => rfl
    ad_ := lay_mk X G a_ad l_ad c_ad k_ad fun _ _ _ _ _ _ us hl => match us, hl with | [_, _], _ => rfl
    mu_ := lay_mk X G a_mu l_mu c_mu k_mu fun _ _ _ _ _ _ us hl => match us, hl with | [_, _], _ => rfl
    sv_ := lay_mk X G a_sv l_sv c_sv k_sv fun _ _ _ _ _ _ us hl => match us, hl with | [_, _], _ => rfl
    va_ := lay_mk X G a_va l_va c_va k_va fun _ _ _ _ _ _ us hl => match us, hl with | [_, _], _ => rfl
    ii_ := lay_mk X G a_ii l_ii c_ii k_ii fun _ _ _ _ _ _ us hl => match us, hl with | [_], _ => rfl
    if_ := lay_mk X G a_if l_if c_if k_if fun _ _ _ _ _ _ us hl => match us, hl with | [_], _ => rfl
    ip_ := lay_mk X G a_ip l_ip c_ip k_ip fun _ _ _ _ _ _ us hl => match us, hl with | [_], _ => rfl
    cp_ := lay_mk X G a_cp l_cp c_cp k_cp fun _ _ _ _ _ _ us hl => match us, hl with | [_], _ => rfl
    cf_ := lay_mk X G a_cf l_cf c_cf k_cf fun _ _ _ _ _ _ us hl => match us, hl with | [_], _ => rfl
    tr_ := lay_mk X G a_tr l_tr c_tr k_tr fun _ _ _ _ _ _ us hl => match us, hl with | [_], _ => rfl
    pl_ := lay_mk X G a_pl l_pl c_pl k_pl fun _ _ _ _ _ _ us hl => match us, hl with | [_, _], _ => rfl
    ti_ := lay_mk X G a_ti l_ti c_ti k_ti fun _ _ _ _ _ _ us hl => match us, hl with | [_, _], _ => rfl
    vl_ := lay_mk X G a_vl l_vl c_vl k_vl fun _ _ _ _ _ _ us hl => match us, hl with | [_, _], _ => rfl
    l_sack_ := lay_mk X G a_l_sack l_l_sack c_l_sack k_l_sack fun _ _ _ _ _ _ us hl => match us, hl with | [_, _], _ => rfl
    l_coin_ := lay_mk X G a_l_coin l_l_coin c_l_coin k_l_coin fun _ _ _ _ _ _ us hl => match us, hl with | [_, _], _ => rfl
    l_shared_ := lay_mk X G a_l_shared l_l_shared c_l_shared k_l_shared fun _ _ _ _ _ _ us hl => match us, hl with | [_, _], _ => rfl
    l_ratio_ := lay_mk X G a_l_ratio l_l_ratio c_l_ratio k_l_ratio fun _ _ _ _ _ _ us hl => match us, hl with | [_, _], _ => rfl
    l_add_ := lay_mk X G a_l_add l_l_add c_l_add k_l_add fun _ _ _ _ _ _ us hl => match us, hl with | [_, _], _ => rfl
    l_mul_ := lay_mk X G a_l_mul l_l_mul c_l_mul k_l_mul fun _ _ _ _ _ _ us hl => match us, hl with | [_, _], _ => rfl
    l_trim_ := lay_mk X G a_l_trim l_l_trim c_l_trim k_l_trim fun _ _ _ _ _ _ us hl => match us, hl with | [_], _ => rfl
    l_sum_ := lay_mk X G a_l_sum l_l_sum c_l_sum k_l_sum fun _ _ _ _ _ _ us hl => match us, hl with | [_, _], _ => rfl
    l_product_ := lay_mk X G a_l_product l_l_product c_l_product k_l_product fun _ _ _ _ _ _ us hl => match us, hl with | [_, _], _ => rfl
    l_at_ := lay_mk X G a_l_at l_l_at c_l_at k_l_at fun _ _ _ _ _ _ us hl => match us, hl with | [_, _], _ => rfl
    l_poly_ := lay_mk X G a_l_poly l_l_poly c_l_poly k_l_poly fun _ _ _ _ _ _ us hl => match us, hl with | [_, _], _ => rfl
    l_any_ratio_ := lay_mk X G a_l_any_ratio l_l_any_ratio c_l_any_ratio k_l_any_ratio fun _ _ _ _ _ _ us hl => match us, hl with | [_], _ => rfl
    l_copied_ := lay_mk X G a_l_copied l_l_copied c_l_copied k_l_copied fun _ _ _ _ _ _ us hl => match us, hl with | [_], _ => rfl
    l_lists_ := lay_mk X G a_l_lists l_l_lists c_l_lists k_l_lists fun _ _ _ _ _ _ us hl => match us, hl with | [_], _ => rfl
    l_marked_ := lay_mk X G a_l_marked l_l_marked c_l_marked k_l_marked fun _ _ _ _ _ _ us hl => match us, hl with | [_], _ => rfl
    l_right_ := lay_mk X G a_l_right l_l_right c_l_right k_l_right fun _ _ _ _ _ _ us hl => match us, hl with | [_, _], _ => rfl
    l_checked_ := lay_mk X G a_l_checked l_l_checked c_l_checked k_l_checked fun _ _ _ _ _ _ us hl => match us, hl with | [_], _ => rfl
    z_len := PySem.W.mg_none_of X G z_len
    z_max := PySem.W.mg_none_of X G z_max
    z_abs := PySem.W.mg_none_of X G z_abs
    z_int := PySem.W.mg_none_of X G z_int
    z_range := PySem.W.mg_none_of X G z_range
    z_list := PySem.W.mg_none_of X G z_list
    z_enumerate := PySem.W.mg_none_of X G z_enumerate
    z_isinstance := PySem.W.mg_none_of X G z_isinstance
    z_bool := PySem.W.mg_none_of X G z_bool
    z_tuple := PySem.W.mg_none_of X G z_tuple
    z_all := PySem.W.mg_none_of X G z_all
    z_repr := PySem.W.mg_none_of X G z_repr
    z_min := PySem.W.mg_none_of X G z_min
    z_gcd := PySem.W.mg_of X G z_gcd }
  exact ⟨_, fun s v => .of_eq rfl, fun base _ _ => whole T (fun_mk (st := s_law) l_lw c_lw k_lw)⟩
end V2


open PyProof.Rows PySem.W PySem in
set_option maxRecDepth 99000 in
set_option maxHeartbeats 0 in
theorem PySem.Challenge.cw_valvelevels_k02_sums_products_and_values_holds : PySem.Challenge.rw_valvelevels_k02_sums_products_and_values.Holds := by
  w_on
  o_law
  k_head
  (case hw => w_witness2)
  k_fill
  refine V2.walk_G (l := PySem.Challenge.rw_valvelevels_k02_sums_products_and_values) (n := 63) (k := 7) (x := "script") (sp := V2.spLaw) rfl (by decide) rfl ⟨rfl, by decide, by decide⟩ (fun w h Y => PySem.W.kIn_of Y) ?F (fun K H a ns hl _ hS => ⟨a, ns, rfl, hS, hl, fun _ => rfl⟩)
  case F =>
    intro w mg fa h KX G hmg
    refine' V2.all_mk KX G hmg ?a_gx ?l_gx ?c_gx ?k_gx ?a_cu ?l_cu ?c_cu ?k_cu ?a_ad ?l_ad ?c_ad ?k_ad ?a_mu ?l_mu ?c_mu ?k_mu ?a_sv ?l_sv ?c_sv ?k_sv ?a_va ?l_va ?c_va ?k_va ?a_ii ?l_ii ?c_ii ?k_ii ?a_if ?l_if ?c_if ?k_if ?a_ip ?l_ip ?c_ip ?k_ip ?a_cp ?l_cp ?c_cp ?k_cp ?a_cf ?l_cf ?c_cf ?k_cf ?a_tr ?l_tr ?c_tr ?k_tr ?a_pl ?l_pl ?c_pl ?k_pl ?a_ti ?l_ti ?c_ti ?k_ti ?a_vl ?l_vl ?c_vl ?k_vl ?a_l_sack ?l_l_sack ?c_l_sack ?k_l_sack ?a_l_coin ?l_l_coin ?c_l_coin ?k_l_coin ?a_l_shared ?l_l_shared ?c_l_shared ?k_l_shared ?a_l_ratio ?l_l_ratio ?c_l_ratio ?k_l_ratio ?a_l_add ?l_l_add ?c_l_add ?k_l_add ?a_l_mul ?l_l_mul ?c_l_mul ?k_l_mul ?a_l_trim ?l_l_trim ?c_l_trim ?k_l_trim ?a_l_sum ?l_l_sum ?c_l_sum ?k_l_sum ?a_l_product ?l_l_product ?c_l_product ?k_l_product ?a_l_at ?l_l_at ?c_l_at ?k_l_at ?a_l_poly ?l_l_poly ?c_l_poly ?k_l_poly ?a_l_any_ratio ?l_l_any_ratio ?c_l_any_ratio ?k_l_any_ratio ?a_l_copied ?l_l_copied ?c_l_copied ?k_l_copied ?a_l_lists ?l_l_lists ?c_l_lists ?k_l_lists ?a_l_marked ?l_l_marked ?c_l_marked ?k_l_marked ?a_l_right ?l_l_right ?c_l_right ?k_l_right ?a_l_checked ?l_l_checked ?c_l_checked ?k_l_checked ?a_lw ?l_lw ?c_lw ?k_lw ?z_len ?z_max ?z_abs ?z_int ?z_range ?z_list ?z_enumerate ?z_isinstance ?z_bool ?z_tuple ?z_all ?z_repr ?z_min ?z_gcd
    (case a_gx => k_is)
    (case l_gx => k_is)
    (case c_gx => k_is)
    (case k_gx => k_is)
    (case a_cu => k_is)
    (case l_cu => k_is)
    (case c_cu => k_is)
    (case k_cu => k_is)
    (case a_ad => k_is)
    (case l_ad => k_is)
    (case c_ad => k_is)
    (case k_ad => k_is)
    (case a_mu => k_is)
    (case l_mu => k_is)
    (case c_mu => k_is)
    (case k_mu => k_is)
    (case a_sv => k_is)
    (case l_sv => k_is)
    (case c_sv => k_is)
    (case k_sv => k_is)
    (case a_va => k_is)
    (case l_va => k_is)
    (case c_va => k_is)
    (case k_va => k_is)
    (case a_ii => k_is)
    (case l_ii => k_is)
    (case c_ii => k_is)
    (case k_ii => k_is)
    (case a_if => k_is)
    (case l_if => k_is)
    (case c_if => k_is)
    (case k_if => k_is)
    (case a_ip => k_is)
    (case l_ip => k_is)
    (case c_ip => k_is)
    (case k_ip => k_is)
    (case a_cp => k_is)
    (case l_cp => k_is)
    (case c_cp => k_is)
    (case k_cp => k_is)
    (case a_cf => k_is)
    (case l_cf => k_is)
    (case c_cf => k_is)
    (case k_cf => k_is)
    (case a_tr => k_is)
    (case l_tr => k_is)
    (case c_tr => k_is)
    (case k_tr => k_is)
    (case a_pl => k_is)
    (case l_pl => k_is)
    (case c_pl => k_is)
    (case k_pl => k_is)
    (case a_ti => k_is)
    (case l_ti => k_is)
    (case c_ti => k_is)
    (case k_ti => k_is)
    (case a_vl => k_is)
    (case l_vl => k_is)
    (case c_vl => k_is)
    (case k_vl => k_is)
    (case a_l_sack => k_is)
    (case l_l_sack => k_is)
    (case c_l_sack => k_is)
    (case k_l_sack => k_is)
    (case a_l_coin => k_is)
    (case l_l_coin => k_is)
    (case c_l_coin => k_is)
    (case k_l_coin => k_is)
    (case a_l_shared => k_is)
    (case l_l_shared => k_is)
    (case c_l_shared => k_is)
    (case k_l_shared => k_is)
    (case a_l_ratio => k_is)
    (case l_l_ratio => k_is)
    (case c_l_ratio => k_is)
    (case k_l_ratio => k_is)
    (case a_l_add => k_is)
    (case l_l_add => k_is)
    (case c_l_add => k_is)
    (case k_l_add => k_is)
    (case a_l_mul => k_is)
    (case l_l_mul => k_is)
    (case c_l_mul => k_is)
    (case k_l_mul => k_is)
    (case a_l_trim => k_is)
    (case l_l_trim => k_is)
    (case c_l_trim => k_is)
    (case k_l_trim => k_is)
    (case a_l_sum => k_is)
    (case l_l_sum => k_is)
    (case c_l_sum => k_is)
    (case k_l_sum => k_is)
    (case a_l_product => k_is)
    (case l_l_product => k_is)
    (case c_l_product => k_is)
    (case k_l_product => k_is)
    (case a_l_at => k_is)
    (case l_l_at => k_is)
    (case c_l_at => k_is)
    (case k_l_at => k_is)
    (case a_l_poly => k_is)
    (case l_l_poly => k_is)
    (case c_l_poly => k_is)
    (case k_l_poly => k_is)
    (case a_l_any_ratio => k_is)
    (case l_l_any_ratio => k_is)
    (case c_l_any_ratio => k_is)
    (case k_l_any_ratio => k_is)
    (case a_l_copied => k_is)
    (case l_l_copied => k_is)
    (case c_l_copied => k_is)
    (case k_l_copied => k_is)
    (case a_l_lists => k_is)
    (case l_l_lists => k_is)
    (case c_l_lists => k_is)
    (case k_l_lists => k_is)
    (case a_l_marked => k_is)
    (case l_l_marked => k_is)
    (case c_l_marked => k_is)
    (case k_l_marked => k_is)
    (case a_l_right => k_is)
    (case l_l_right => k_is)
    (case c_l_right => k_is)
    (case k_l_right => k_is)
    (case a_l_checked => k_is)
    (case l_l_checked => k_is)
    (case c_l_checked => k_is)
    (case k_l_checked => k_is)
    (case a_lw => k_is)
    (case l_lw => k_is)
    (case c_lw => k_is)
    (case k_lw => k_is)
    (case z_len => k_is)
    (case z_max => k_is)
    (case z_abs => k_is)
    (case z_int => k_is)
    (case z_range => k_is)
    (case z_list => k_is)
    (case z_enumerate => k_is)
    (case z_isinstance => k_is)
    (case z_bool => k_is)
    (case z_tuple => k_is)
    (case z_all => k_is)
    (case z_repr => k_is)
    (case z_min => k_is)
    (case z_gcd => k_is)


